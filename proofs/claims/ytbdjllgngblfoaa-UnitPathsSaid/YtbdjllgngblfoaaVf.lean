import Derived.Test.YtbdjllgngblfoaaVm2
import Derived.Test.YtbdjllgngblfoaaHv
import Derived.Test.YtbdjllgngblfoaaUq
namespace Go.Proofs.Ytbdjllgngblfoaa
set_option linter.unusedVariables false
set_option linter.unusedSimpArgs false
open Go.RowKit

/-- The number at an index may be there. -/
def okA (L : List Int) (k : Nat) : Prop := 0 ≤ L.getD k 0 ∧ (0 < k → 1 ≤ L.getD k 0) ∧ (0 < k → k + 1 = L.length → 2 ≤ L.getD k 0) ∧ (L.length = 1 → 1 ≤ L.getD k 0)
theorem okA_all {L : List Int} (hl : 1 ≤ L.length) : (∀ k, k < L.length → okA L k) ↔ ((∀ i, i < L.length → 0 ≤ L.getD i 0 ∧ (0 < i → 1 ≤ L.getD i 0)) ∧ (L.length = 1 ∨ 2 ≤ L.getD (L.length - 1) 0)) ∧ L ≠ [0] := by
  constructor
  · intro h
    refine ⟨⟨fun i hi => ⟨(h i hi).1, (h i hi).2.1⟩, ?_⟩, ?_⟩
    · by_cases h1 : L.length = 1
      · exact .inl h1
      · exact .inr ((h (L.length - 1) (by omega)).2.2.1 (by omega) (by omega))
    · intro e
      subst e
      have := (h 0 (by decide)).2.2.2 rfl
      simp at this
  · rintro ⟨⟨h1, h2⟩, h3⟩ k hk
    refine ⟨(h1 k hk).1, (h1 k hk).2, fun h0 hl => ?_, fun hl => ?_⟩
    · rcases h2 with h2 | h2
      · omega
      · have : k = L.length - 1 := by omega
        rw [this]; exact h2
    · have hk0 : k = 0 := by omega
      subst hk0
      match L, hl with
      | [a], _ =>
        have := (h1 0 (by simp)).1
        have h3' : a ≠ 0 := fun e => h3 (by rw [e])
        simp at this ⊢
        omega
theorem folR_bad {L : List Int} (hl : 1 ≤ L.length) (hl2 : L.length ≤ 64) (h : ¬ ∀ k, k < L.length → okA L k) : folR L = ((0, 0), 2) := by
  rw [okA_all hl] at h
  unfold folR
  rw [if_neg (by omega)]
  split
  · rename_i hp
    rw [if_pos]
    apply Decidable.byContradiction
    intro hne
    exact h ⟨hp, hne⟩
  · rfl
theorem folR_good {L : List Int} (hl : 1 ≤ L.length) (hl2 : L.length ≤ 64) (h : ∀ k, k < L.length → okA L k) : folR L = if overP (cont L) then ((0, 0), 4) else (cont L, 0) := by
  obtain ⟨h1, h2⟩ := (okA_all hl).1 h
  unfold folR
  rw [if_neg (by omega), if_pos h1, if_neg h2]

theorem drop_pos {L : List Int} (h : ∀ k, k < L.length → okA L k) (j : Nat) (hj : 1 ≤ j) : ∀ x ∈ L.drop j, 1 ≤ x := by
  intro x hx
  obtain ⟨i, hi, rfl⟩ := List.getElem_of_mem hx
  simp at hi
  have := (h (j + i) (by omega)).2.1 (by omega)
  simpa [List.getD_eq_getElem?_getD, show j + i < L.length by omega] using this

theorem cont_drop {L : List Int} {k : Nat} (hk : k < L.length) : cont (L.drop k) = (L.getD k 0 * (cont (L.drop (k + 1))).1 + (cont (L.drop (k + 1))).2, (cont (L.drop (k + 1))).1) := by
  rw [List.drop_eq_getElem_cons hk]
  simp [cont, List.getD_eq_getElem?_getD, hk]

theorem cont_over {L : List Int} (h : ∀ k, k < L.length → okA L k) (k : Nat) (ho : overP (cont (L.drop k))) : overP (cont L) := by
  refine over_drop k L (fun x hx => ?_) ho
  rw [← List.drop_one] at hx
  exact drop_pos h 1 (by omega) x hx

theorem FollowR_many (v : Value) (L : List Int) (hm : L.length = 0 ∨ 64 < L.length) (hL0 : L.length ≤ 4000000000000000000) (w : World) (hs : Sl w v L) :
    Calls Try.prog 26 #[v] w fun e w' => e = .returned (.tuple #[.agg #[.int .i64 0, .int .i64 0], .int .i64 6]) ∧ Below w.heap.size w w' := by
  obtain ⟨o, cap, rfl, hcap, _⟩ := hs.form
  rcases hm with hm | hm
  · rw [hm]
    go_enter Try.func26, Try.ntmps26
    go_wp2
    exact bodyPost_ret (v := .tuple #[.agg #[.int .i64 0, .int .i64 0], .int .i64 6]) (by simp [results, Try.results26, go_sem]) rfl ⟨rfl, (by repeat (first | exact Below.refl _ _ | (refine Below.alloc ?_ (by first | omega | (simp; done) | (simp; omega)) _) | (refine Below.setCell ?_ (by first | omega | (simp; done) | (simp; omega)) _) | refine Below.drew ?_))⟩
  · have h1 : decide ((L.length : Int) < 1) = false := by simp; omega
    have h2 : decide ((64 : Int) < L.length) = true := by simp; omega
    go_enter Try.func26, Try.ntmps26
    go_wp2
    exact bodyPost_ret (v := .tuple #[.agg #[.int .i64 0, .int .i64 0], .int .i64 6]) (by simp [results, Try.results26, go_sem]) rfl ⟨rfl, (by repeat (first | exact Below.refl _ _ | (refine Below.alloc ?_ (by first | omega | (simp; done) | (simp; omega)) _) | (refine Below.setCell ?_ (by first | omega | (simp; done) | (simp; omega)) _) | refine Below.drew ?_))⟩

set_option maxHeartbeats 8000000 in
theorem FollowR_ok (v : Value) (L : List Int) (hm : 1 ≤ L.length) (hm2 : L.length ≤ 64) (x y k0 : Int) (hres : folR L = ((x, y), k0)) (w : World) (hs : Sl w v L) :
    Calls Try.prog 26 #[v] w fun e w' => e = .returned (.tuple #[.agg #[.int .i64 x, .int .i64 y], .int .i64 k0]) ∧ Below w.heap.size w w' := by
  obtain ⟨o, cap, rfl, hcap, hK⟩ := hs.form
  obtain ⟨g, off, rfl, hcell⟩ := hK (by omega)
  have hg := lt_of_cell' (hcell 0 (by omega))
  have h1 : decide ((L.length : Int) < 1) = false := by simp; omega
  have h2 : decide ((64 : Int) < L.length) = false := by simp; omega
  have HC := Lib.hid hcell
  have HR := Lib.hid hres
  clear hcell hres hs hK
  go_enter Try.func26, Try.ntmps26
  go_wp2
  go_loop [5] (fun u => ∃ k : Nat, k ≤ L.length ∧ u = .int .i64 k ∧ Hid (∀ j, j < k → okA L j)) (fun u => L.length - (intOf u).toNat)
  case atStart => exact ⟨0, by omega, rfl, Lib.hid (fun j hj => by omega)⟩
  case round =>
    obtain ⟨k, hkl, rfl, hall⟩ := hrel
    by_cases hk : k < L.length
    · have c := HC.out k hk
      have g1 := hg
      have n1 : g ≠ w.heap.size := by omega
      obtain ⟨z, hz⟩ : ∃ z, L.getD k 0 = z := ⟨_, rfl⟩
      rw [hz] at c
      have HZ := Lib.hid hz
      clear hz
      have i1 : (0 : Int) ≤ k := by omega
      have i2 : (k : Int) < L.length := by omega
      by_cases z0 : z < 0
      · have q0 : decide (z < 0) = true := decide_eq_true z0
        have hbad := folR_bad hm hm2 (fun hh => by
          have := hh k hk
          unfold okA at this
          rw [HZ.out] at this
          omega)
        rw [HR.out] at hbad
        obtain ⟨⟨rfl, rfl⟩, rfl⟩ : (x = 0 ∧ y = 0) ∧ k0 = 2 := by simpa using hbad
        clear hbad
        (try clear l1)
        (try clear kz)
        (try clear kl)
        go_wp2
        all_goals exact bodyPost_ret (v := .tuple #[.agg #[.int .i64 0, .int .i64 0], .int .i64 2]) (by simp [results, Try.results26, go_sem]) rfl ⟨rfl, (by repeat (first | exact Below.refl _ _ | (refine Below.alloc ?_ (by first | omega | (simp; done) | (simp; omega)) _) | (refine Below.setCell ?_ (by first | omega | (simp; done) | (simp; omega)) _) | refine Below.drew ?_))⟩
      · have q0 : decide (z < 0) = false := decide_eq_false z0
        by_cases kz : k = 0
        · have q1 : decide ((0 : Int) < k) = false := by simp; omega
          have q1' : decide (0 < k) = false := by simp; omega
          by_cases l1 : L.length = 1
          · have q2 : ((L.length : Int) - 1 == 0) = true := by simp; omega
            by_cases z1 : z < 1
            · have q3 : decide (z < 1) = true := decide_eq_true z1
              have hbad := folR_bad hm hm2 (fun hh => by
                have := hh k hk
                unfold okA at this
                rw [HZ.out] at this
                omega)
              rw [HR.out] at hbad
              obtain ⟨⟨rfl, rfl⟩, rfl⟩ : (x = 0 ∧ y = 0) ∧ k0 = 2 := by simpa using hbad
              clear hbad
              (try clear l1)
              (try clear kz)
              (try clear kl)
              go_wp2
              all_goals exact bodyPost_ret (v := .tuple #[.agg #[.int .i64 0, .int .i64 0], .int .i64 2]) (by simp [results, Try.results26, go_sem]) rfl ⟨rfl, (by repeat (first | exact Below.refl _ _ | (refine Below.alloc ?_ (by first | omega | (simp; done) | (simp; omega)) _) | (refine Below.setCell ?_ (by first | omega | (simp; done) | (simp; omega)) _) | refine Below.drew ?_))⟩
            · have q3 : decide (z < 1) = false := decide_eq_false z1
              have hok : Hid (∀ j, j < k + 1 → okA L j) := Lib.hid (fun j hj => by
                by_cases hjk : j = k
                · subst hjk
                  unfold okA
                  rw [HZ.out]
                  omega
                · exact hall.out j (by omega))
              (try clear l1)
              (try clear kz)
              (try clear kl)
              go_wp2
              all_goals
                go_round
                case rel => exact ⟨k + 1, by omega, by go_num, hok⟩
                case measure => simp [intOf]; omega
          · have q2 : ((L.length : Int) - 1 == 0) = false := by simp; omega
            have hok : Hid (∀ j, j < k + 1 → okA L j) := Lib.hid (fun j hj => by
              by_cases hjk : j = k
              · subst hjk
                unfold okA
                rw [HZ.out]
                omega
              · exact hall.out j (by omega))
            (try clear l1)
            (try clear kz)
            (try clear kl)
            go_wp2
            all_goals
              go_round
              case rel => exact ⟨k + 1, by omega, by go_num, hok⟩
              case measure => simp [intOf]; omega
        · have q1 : decide ((0 : Int) < k) = true := by simp; omega
          have q1' : decide (0 < k) = true := by simp; omega
          have q2 : ((L.length : Int) - 1 == 0) = false := by simp; omega
          by_cases z1 : z < 1
          · have q3 : decide (z < 1) = true := decide_eq_true z1
            have hbad := folR_bad hm hm2 (fun hh => by
              have := hh k hk
              unfold okA at this
              rw [HZ.out] at this
              omega)
            rw [HR.out] at hbad
            obtain ⟨⟨rfl, rfl⟩, rfl⟩ : (x = 0 ∧ y = 0) ∧ k0 = 2 := by simpa using hbad
            clear hbad
            (try clear l1)
            (try clear kz)
            (try clear kl)
            go_wp2
            all_goals exact bodyPost_ret (v := .tuple #[.agg #[.int .i64 0, .int .i64 0], .int .i64 2]) (by simp [results, Try.results26, go_sem]) rfl ⟨rfl, (by repeat (first | exact Below.refl _ _ | (refine Below.alloc ?_ (by first | omega | (simp; done) | (simp; omega)) _) | (refine Below.setCell ?_ (by first | omega | (simp; done) | (simp; omega)) _) | refine Below.drew ?_))⟩
          · have q3 : decide (z < 1) = false := decide_eq_false z1
            by_cases kl : k + 1 = L.length
            · have q4 : ((k : Int) == (L.length : Int) - 1) = true := by simp; omega
              by_cases z2 : z < 2
              · have q5 : decide (z < 2) = true := decide_eq_true z2
                have hbad := folR_bad hm hm2 (fun hh => by
                  have := hh k hk
                  unfold okA at this
                  rw [HZ.out] at this
                  omega)
                rw [HR.out] at hbad
                obtain ⟨⟨rfl, rfl⟩, rfl⟩ : (x = 0 ∧ y = 0) ∧ k0 = 2 := by simpa using hbad
                clear hbad
                (try clear l1)
                (try clear kz)
                (try clear kl)
                go_wp2
                all_goals exact bodyPost_ret (v := .tuple #[.agg #[.int .i64 0, .int .i64 0], .int .i64 2]) (by simp [results, Try.results26, go_sem]) rfl ⟨rfl, (by repeat (first | exact Below.refl _ _ | (refine Below.alloc ?_ (by first | omega | (simp; done) | (simp; omega)) _) | (refine Below.setCell ?_ (by first | omega | (simp; done) | (simp; omega)) _) | refine Below.drew ?_))⟩
              · have q5 : decide (z < 2) = false := decide_eq_false z2
                have hok : Hid (∀ j, j < k + 1 → okA L j) := Lib.hid (fun j hj => by
                  by_cases hjk : j = k
                  · subst hjk
                    unfold okA
                    rw [HZ.out]
                    omega
                  · exact hall.out j (by omega))
                (try clear l1)
                (try clear kz)
                (try clear kl)
                go_wp2
                all_goals
                  go_round
                  case rel => exact ⟨k + 1, by omega, by go_num, hok⟩
                  case measure => simp [intOf]; omega
            · have q4 : ((k : Int) == (L.length : Int) - 1) = false := by simp; omega
              have hok : Hid (∀ j, j < k + 1 → okA L j) := Lib.hid (fun j hj => by
                by_cases hjk : j = k
                · subst hjk
                  unfold okA
                  rw [HZ.out]
                  omega
                · exact hall.out j (by omega))
              (try clear l1)
              (try clear kz)
              (try clear kl)
              go_wp2
              all_goals
                go_round
                case rel => exact ⟨k + 1, by omega, by go_num, hok⟩
                case measure => simp [intOf]; omega
    · have hkk : k = L.length := by omega
      subst hkk
      have hgood := folR_good hm hm2 (fun j hj => hall.out j (by omega))
      have HG := Lib.hid hgood
      have HALL : Hid (∀ j, j < L.length → okA L j) := hall
      clear hgood
      obtain ⟨n, hn⟩ : ∃ n, L.length = n + 1 := ⟨L.length - 1, by omega⟩
      have hn64 : n ≤ 63 := by omega
      have en : (L.length : Int) - 1 = (n : Int) := by omega
      have HN := Lib.hid hn
      have c := HC.out n (by omega)
      have g1 := hg
      have n1 : g ≠ w.heap.size := by omega
      obtain ⟨z, hz⟩ : ∃ z, L.getD n 0 = z := ⟨_, rfl⟩
      rw [hz] at c
      have z0 : 1 ≤ z := by
        have := HALL.out n (by omega)
        unfold okA at this
        rw [hz] at this
        omega
      have HZ := Lib.hid hz
      have hlast : cont (L.drop n) = (z, 1) := by
        rw [cont_drop (by omega), hz, List.drop_eq_nil_of_le (by omega)]
        simp [cont]
      have HL := Lib.hid hlast
      have i1 : (0 : Int) ≤ n := by omega
      have i2 : (n : Int) < L.length := by omega
      clear hz hn hlast
      rw [en]
      clear en
      by_cases zb : 1000000000 < z
      · have q0 : decide (1000000000 < z) = true := decide_eq_true zb
        have ho : overP (cont L) := cont_over HALL.out n (by rw [HL.out]; exact .inl zb)
        have hx := HR.out
        rw [HG.out, if_pos ho] at hx
        obtain ⟨⟨rfl, rfl⟩, rfl⟩ : (x = 0 ∧ y = 0) ∧ k0 = 4 := by simpa [eq_comm] using hx
        clear hx ho
        go_wp2
        exact bodyPost_ret (v := .tuple #[.agg #[.int .i64 0, .int .i64 0], .int .i64 4]) (by simp [results, Try.results26, go_sem]) rfl ⟨rfl, (by repeat (first | exact Below.refl _ _ | (refine Below.alloc ?_ (by first | omega | (simp; done) | (simp; omega)) _) | (refine Below.setCell ?_ (by first | omega | (simp; done) | (simp; omega)) _) | refine Below.drew ?_))⟩
      · have q0 : decide (1000000000 < z) = false := decide_eq_false zb
        have zb' : z ≤ 1000000000 := by omega
        clear zb
        go_wp2
        have hR6 : Has ((w.alloc (.cells #[.int .i64 0, .int .i64 0] 23)).alloc (.cells #[.int .i64 z, .int .i64 1] 23)) (w.heap.size + 1) [.int .i64 z, .int .i64 1] := by
          have := Has.new2 (w.alloc (.cells #[.int .i64 0, .int .i64 0] 23)) (.int .i64 z) (.int .i64 1) 23
          rw [World.size_alloc] at this
          exact this
        have hR2 : Has ((w.alloc (.cells #[.int .i64 0, .int .i64 0] 23)).alloc (.cells #[.int .i64 z, .int .i64 1] 23)) w.heap.size [.int .i64 0, .int .i64 0] := (Has.new2 _ _ _ _).alloc _
        have hbl : Below w.heap.size w ((w.alloc (.cells #[.int .i64 0, .int .i64 0] 23)).alloc (.cells #[.int .i64 z, .int .i64 1] 23)) := ((Below.refl _ _).alloc (Nat.le_refl _) _).alloc (by simp) _
        go_loopw [7] (fun u wr => ∃ (k : Nat) (p q : Int), k ≤ n ∧ u = .int .i64 ((k : Int) - 1) ∧ 1 ≤ p ∧ p ≤ 1000000000 ∧ 1 ≤ q ∧ q ≤ 1000000000 ∧ Hid (cont (L.drop k) = (p, q)) ∧ Hid (Has wr (w.heap.size + 1) [.int .i64 p, .int .i64 q]) ∧ Hid (Has wr w.heap.size [.int .i64 0, .int .i64 0]) ∧ Hid (Below w.heap.size w wr)) (fun u _ => (intOf u + 1).toNat)
        case atStart => exact ⟨n, z, 1, by omega, rfl, z0, zb', by omega, by omega, HL, Lib.hid hR6, Lib.hid hR2, Lib.hid hbl⟩
        case round =>
          obtain ⟨k, p, q, hkn, rfl, p1, p2, q1, q2, hct, H6, H2, hB⟩ := hrel
          have c60 := H6.out.c0
          have c61 := H6.out.c1
          have c6f := H6.out.free
          have c20 := H2.out.c0
          have c21 := H2.out.c1
          have c2f := H2.out.free
          have hsz := hB.out.size
          have l6 := H6.out.lt
          have n2 : g ≠ w.heap.size + 1 := by omega
          clear c hR6 hR2 hbl
          by_cases hk0 : k = 0
          · subst hk0
            have e0 : ((0 : Nat) : Int) - 1 = -1 := by omega
            rw [e0]
            have hx := HR.out
            have hct' : cont L = (p, q) := by have := hct.out; simpa using this
            rw [HG.out, if_neg (by rw [hct']; unfold overP; simp only; omega), hct'] at hx
            obtain ⟨⟨rfl, rfl⟩, rfl⟩ : (x = p ∧ y = q) ∧ k0 = 0 := by simpa [eq_comm] using hx
            clear hx hct' e0
            go_wp2
            exact bodyPost_ret (v := .tuple #[.agg #[.int .i64 x, .int .i64 y], .int .i64 0]) (by simp [results, Try.results26, go_sem, c20, c21]) rfl ⟨rfl, (by repeat (first | exact hB.out | refine Below.drew ?_ | refine below_drewN ?_ _ | (refine Below.alloc ?_ (by first | omega | (simp; done) | (simp; omega)) _) | (refine Below.setCell ?_ (by first | omega | (simp; done) | (simp; omega)) _)))⟩
          · obtain ⟨j, rfl⟩ : ∃ j, k = j + 1 := ⟨k - 1, by omega⟩
            have ek : ((j + 1 : Nat) : Int) - 1 = j := by omega
            rw [ek]
            have hj : j < L.length := by omega
            have cj := (hB.out.cell (p := ⟨g, off + j, none⟩) hg).trans (HC.out j hj)
            obtain ⟨t, ht⟩ : ∃ t, L.getD j 0 = t := ⟨_, rfl⟩
            rw [ht] at cj
            have t0 : 0 ≤ t := by
              have := (HALL.out j hj).1
              rw [ht] at this
              exact this
            have hnx : cont (L.drop j) = (t * p + q, p) := by rw [cont_drop hj, ht, hct.out]
            have HNX := Lib.hid hnx
            have j1 : (0 : Int) ≤ j := by omega
            have j2 : (j : Int) < L.length := by omega
            have g3 : g < wr.heap.size := by omega
            clear ek ht hk0 hnx
            by_cases tb : 1000000000 < t
            · have q9 : decide (1000000000 < t) = true := decide_eq_true tb
              have ho : overP (cont L) := cont_over HALL.out j (by
                rw [HNX.out]
                have := Int.mul_le_mul_of_nonneg_left p1 t0
                left
                simp only
                omega)
              have hx := HR.out
              rw [HG.out, if_pos ho] at hx
              obtain ⟨⟨rfl, rfl⟩, rfl⟩ : (x = 0 ∧ y = 0) ∧ k0 = 4 := by simpa [eq_comm] using hx
              clear hx ho
              go_wp2
              exact bodyPost_ret (v := .tuple #[.agg #[.int .i64 0, .int .i64 0], .int .i64 4]) (by simp [results, Try.results26, go_sem, c20, c21]) rfl ⟨rfl, (by repeat (first | exact hB.out | refine Below.drew ?_ | refine below_drewN ?_ _ | (refine Below.alloc ?_ (by first | omega | (simp; done) | (simp; omega)) _) | (refine Below.setCell ?_ (by first | omega | (simp; done) | (simp; omega)) _)))⟩
            · have q9 : decide (1000000000 < t) = false := decide_eq_false tb
              have m0 := Int.mul_nonneg t0 (show 0 ≤ p by omega)
              have m1 := @mul_le t p 1000000000 1000000000 t0 (by omega) (by omega) p2
              have m2 : p ≤ t * p + q ∨ t = 0 := by
                by_cases t1 : 1 ≤ t
                · have := Int.mul_le_mul_of_nonneg_right t1 (show 0 ≤ p by omega)
                  left; omega
                · right; omega
              clear tb
              have s1 : 1 ≤ t * p + q := by omega
              have q8 : decide (1000000000 < p) = false := by simp; omega
              by_cases sb : 1000000000 < t * p + q
              · have q7 : decide (1000000000 < t * p + q) = true := decide_eq_true sb
                have ho : overP (cont L) := cont_over HALL.out j (by rw [HNX.out]; exact .inl sb)
                have hx := HR.out
                rw [HG.out, if_pos ho] at hx
                obtain ⟨⟨rfl, rfl⟩, rfl⟩ : (x = 0 ∧ y = 0) ∧ k0 = 4 := by simpa [eq_comm] using hx
                clear hx ho
                go_wp2
                go_region
                all_goals go_wp2
                all_goals exact bodyPost_ret (v := .tuple #[.agg #[.int .i64 0, .int .i64 0], .int .i64 4]) (by simp [results, Try.results26, go_sem, c20, c21]) rfl ⟨rfl, (by repeat (first | exact hB.out | refine Below.drew ?_ | refine below_drewN ?_ _ | (refine Below.alloc ?_ (by first | omega | (simp; done) | (simp; omega)) _) | (refine Below.setCell ?_ (by first | omega | (simp; done) | (simp; omega)) _)))⟩
              · have q7 : decide (1000000000 < t * p + q) = false := decide_eq_false sb
                have sb' : t * p + q ≤ 1000000000 := by omega
                clear sb
                go_wp2
                go_region
                all_goals go_wp2
                all_goals
                  go_roundw
                  case rel => exact ⟨j, t * p + q, p, by omega, rfl, s1, sb', p1, p2, HNX, Lib.hid (by repeat (first | exact (H6.out).put2 _ _ | exact ((H6.out).alloc _).put2 _ _ | exact H6.out | refine Has.drew ?_ | refine Has.drewN ?_ _ | refine Has.alloc ?_ _ | refine Has.other ?_ (by first | omega | (simp; done) | (simp; omega) | (intro hne; simp at hne; omega)) _)), Lib.hid (by repeat (first | exact H2.out | refine Has.drew ?_ | refine Has.drewN ?_ _ | refine Has.alloc ?_ _ | refine Has.other ?_ (by first | omega | (simp; done) | (simp; omega) | (intro hne; simp at hne; omega)) _)), Lib.hid (by repeat (first | exact hB.out | refine Below.drew ?_ | refine below_drewN ?_ _ | (refine Below.alloc ?_ (by first | omega | (simp; done) | (simp; omega)) _) | (refine Below.setCell ?_ (by first | omega | (simp; done) | (simp; omega)) _)))⟩
                  case measure => (try simp [intOf]) <;> omega
end Go.Proofs.Ytbdjllgngblfoaa
