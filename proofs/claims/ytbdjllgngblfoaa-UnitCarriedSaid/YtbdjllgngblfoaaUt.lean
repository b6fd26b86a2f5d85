import Derived.Test.YtbdjllgngblfoaaUs
import Derived.Test.YtbdjllgngblfoaaUm3
namespace Go.Proofs.Ytbdjllgngblfoaa
set_option linter.unusedVariables false
set_option linter.unusedSimpArgs false
open Go.RowKit

/-- The elements of a slice of spans. -/
def SlS (w : World) (v : Value) (L : List S4) : Prop :=
  ∃ (o : Option Addr) (cap : Nat), v = .slice o L.length cap ∧ L.length ≤ cap ∧ (0 < L.length → ∃ g off, o = some ⟨g, off, none⟩ ∧ ∀ (i : Nat) (t : S4), L[i]? = some t →
    w.cell? ⟨g, off + i * 4, none⟩ = some (.int .i64 t.1) ∧ w.cell? ⟨g, off + i * 4 + 1, none⟩ = some (.int .i64 t.2.1) ∧ w.cell? ⟨g, off + i * 4 + 2, none⟩ = some (.int .i64 t.2.2.1) ∧ w.cell? ⟨g, off + i * 4 + 3, none⟩ = some (.int .i64 t.2.2.2))

theorem SlS.next {w w' : World} {v : Value} {L : List S4} (h : SlS w v L) (hb : Below w.heap.size w w') : SlS w' v L := by
  obtain ⟨o, cap, h1, h2, h3⟩ := h
  refine ⟨o, cap, h1, h2, fun hl => ?_⟩
  obtain ⟨g, off, ho, hc⟩ := h3 hl
  refine ⟨g, off, ho, fun i t ht => ?_⟩
  obtain ⟨c0, c1, c2, c3⟩ := hc i t ht
  have hg := lt_of_cell0 c0
  exact ⟨(hb.cell (by exact hg)).trans c0, (hb.cell (by exact hg)).trans c1, (hb.cell (by exact hg)).trans c2, (hb.cell (by exact hg)).trans c3⟩

set_option maxHeartbeats 1000000 in
theorem checkCarried_any (s : S4) (L : List S4) (v : Value) (k0 : Int) (hk0 : chkC s L = k0) (hmax : L.length ≤ 4000000000000000000) (w : World) (hL : SlS w v L) :
    Calls Try.prog 58 #[.agg #[.int .i64 s.1, .int .i64 s.2.1, .int .i64 s.2.2.1, .int .i64 s.2.2.2], v] w fun e w' => e = .returned (.int .i64 k0) ∧ Below w.heap.size w w' := by
  obtain ⟨a, b, c, d⟩ := s
  obtain ⟨o, cap, rfl, hcap, hK⟩ := hL
  have HK := Lib.hid hK
  clear hK
  by_cases hS : Sp a b c d
  · have H := Lib.hid (show (if Sp a b c d then (0:Int) else 2) = 0 from if_pos hS)
    by_cases h8 : 8 < L.length
    · obtain rfl : 6 = k0 := by rw [← hk0]; unfold chkC; rw [if_pos (show SpS (a, b, c, d) from hS), if_pos h8]
      clear hk0 hS
      go_enter Try.func58, Try.ntmps58
      go_wp2_with fail
      refine (CheckSpan_any _ _ _ _ _ H.out _).mono ?_
      rintro e w1 ⟨rfl, hb1⟩
      go_wp2
      go_ret
      exact ⟨rfl, (by repeat (first | exact Below.refl _ _ | (with_reducible refine Below.trans ?_ (hb1.mono (by first | omega | (simp; done) | (simp; omega)))) | (refine Below.alloc ?_ (by first | omega | (simp; done) | (simp; omega)) _) | (refine Below.setCell ?_ (by first | omega | (simp; done) | (simp; omega)) _) | refine Below.drew ?_))⟩
    · have HS := Lib.hid hS
      have HK0 := Lib.hid hk0
      clear hk0 hS
      go_enter Try.func58, Try.ntmps58
      go_wp2_with fail
      refine (CheckSpan_any _ _ _ _ _ H.out _).mono ?_
      rintro e w1 ⟨rfl, hb1⟩
      go_wp2_with fail
      have hB1 : Below w.heap.size w w1 := ((Below.refl _ _).alloc (Nat.le_refl _) _).trans (hb1.mono (by simp))
      clear hb1
      go_loopw [19] (fun v wr => ∃ k : Nat, v = .int .i64 k ∧ k ≤ L.length ∧ Hid (∀ i t, i < k → L[i]? = some t → SpS t) ∧ Below w.heap.size w wr) (fun v _ => L.length - (intOf v).toNat)
      case atStart => exact ⟨0, rfl, Nat.zero_le _, Lib.hid (fun i t h => absurd h (Nat.not_lt_zero _)), hB1⟩
      case round =>
        obtain ⟨k, rfl, hk, hall, hbl⟩ := hrel
        by_cases hlt : k < L.length
        · obtain ⟨g, off, rfl, hcell⟩ := HK.out (by omega)
          obtain ⟨t, ht⟩ : ∃ t, L[k]? = some t := ⟨_, List.getElem?_eq_getElem hlt⟩
          obtain ⟨e0, e1, e2, e3⟩ := hcell k t ht
          have hg := lt_of_cell0 e0
          have e0 := (hbl.cell (p := ⟨g, off + k * 4, none⟩) hg).trans e0
          have e1 := (hbl.cell (p := ⟨g, off + k * 4 + 1, none⟩) hg).trans e1
          have e2 := (hbl.cell (p := ⟨g, off + k * 4 + 2, none⟩) hg).trans e2
          have e3 := (hbl.cell (p := ⟨g, off + k * 4 + 3, none⟩) hg).trans e3
          have ht' := List.mem_of_getElem? ht
          have HT := Lib.hid ht
          clear hcell ht
          obtain ⟨t0, t1, t2, t3⟩ := t
          simp only at e0 e1 e2 e3
          have i1 : (0 : Int) ≤ k := by omega
          have i2 : (k : Int) < L.length := by omega
          have n1 : g ≠ wr.heap.size := by have := hbl.size; omega
          have n2 : g < wr.heap.size := by have := hbl.size; omega
          by_cases hT : Sp t0 t1 t2 t3
          · have H2 := Lib.hid (show (if Sp t0 t1 t2 t3 then (0:Int) else 2) = 0 from if_pos hT)
            have HT2 := Lib.hid hT
            clear hT
            go_wp2_with fail
            refine (CheckSpan_any _ _ _ _ _ H2.out _).mono ?_
            rintro e w2 ⟨rfl, hb2⟩
            have hB2 : Below w.heap.size w w2 := (hbl.alloc hbl.size _).trans (hb2.mono (by have := hbl.size; simp; omega))
            clear hb2
            go_wp2_with fail
            go_roundw
            case rel => exact ⟨k + 1, by go_num, by omega, Lib.hid (fun i t hi hit => by
              by_cases hik : i = k
              · subst hik; rw [HT.out] at hit; cases hit; exact HT2.out
              · exact hall.out i t (by omega) hit), hB2⟩
            case measure => simp [intOf]; omega
          · have H2 := Lib.hid (show (if Sp t0 t1 t2 t3 then (0:Int) else 2) = 2 from if_neg hT)
            obtain rfl : 2 = k0 := by
              rw [← HK0.out]; unfold chkC
              rw [if_pos (show SpS (a, b, c, d) from HS.out), if_neg h8, if_neg (fun h => hT (h _ ht'))]
            clear hT
            go_wp2_with fail
            refine (CheckSpan_any _ _ _ _ _ H2.out _).mono ?_
            rintro e w2 ⟨rfl, hb2⟩
            have hB2 : Below w.heap.size w w2 := (hbl.alloc hbl.size _).trans (hb2.mono (by have := hbl.size; simp; omega))
            clear hb2
            go_wp2_with fail
            go_ret
            exact ⟨rfl, hB2⟩
        · obtain rfl : 0 = k0 := by
            rw [← HK0.out]; unfold chkC
            rw [if_pos (show SpS (a, b, c, d) from HS.out), if_neg h8, if_pos (fun t ht => by
              obtain ⟨i, hi⟩ := List.getElem?_of_mem ht
              exact hall.out i t (by have := (List.getElem?_eq_some_iff.1 hi).1; omega) hi)]
          go_wp2_with fail
          go_ret
          exact ⟨rfl, hbl⟩
  · have H := Lib.hid (show (if Sp a b c d then (0:Int) else 2) = 2 from if_neg hS)
    obtain rfl : 2 = k0 := by rw [← hk0]; unfold chkC; rw [if_neg (show ¬ SpS (a, b, c, d) from hS)]
    clear hk0 hS
    go_enter Try.func58, Try.ntmps58
    go_wp2_with fail
    refine (CheckSpan_any _ _ _ _ _ H.out _).mono ?_
    rintro e w1 ⟨rfl, hb1⟩
    go_wp2
    go_ret
    exact ⟨rfl, (by repeat (first | exact Below.refl _ _ | (with_reducible refine Below.trans ?_ (hb1.mono (by first | omega | (simp; done) | (simp; omega)))) | (refine Below.alloc ?_ (by first | omega | (simp; done) | (simp; omega)) _) | (refine Below.setCell ?_ (by first | omega | (simp; done) | (simp; omega)) _) | refine Below.drew ?_))⟩

end Go.Proofs.Ytbdjllgngblfoaa
