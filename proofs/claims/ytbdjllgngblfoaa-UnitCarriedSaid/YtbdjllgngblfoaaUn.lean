import Derived.Test.YtbdjllgngblfoaaUj
namespace Go.Proofs.Ytbdjllgngblfoaa
set_option linter.unusedVariables false
set_option linter.unusedSimpArgs false
open Go.RowKit

theorem dvd_cop {k m n : Int} (h : Int.gcd k m = 1) (hd : k ∣ m * n) : k ∣ n := by
  have h1 := Int.natAbs_dvd_natAbs.2 hd
  rw [Int.natAbs_mul] at h1
  exact Int.natAbs_dvd_natAbs.1 (Nat.Coprime.dvd_of_dvd_mul_left (show Nat.gcd k.natAbs m.natAbs = 1 from h) h1)

/-- The sides of the search for a neighbour. -/
def sdN (N D dn x y : Int) : Int := if dn < y then 0 else if N * y < x * D then 1 else -1

/-- The neighbour of N / D by dn. -/
structure NextP (N D dn c d : Int) : Prop where
  fr : Fr c d
  den : d ≤ dn
  gt : N * d < c * D
  min : ∀ x y, 1 ≤ y → y ≤ dn → N * y < x * D → c * y ≤ x * d
  det : D ≤ dn → D * c - N * d = 1

theorem sd_next {N D dn : Int} (h1 : 1 ≤ N) (h2 : N ≤ 999999) (h3 : 1 ≤ D) (h4 : D ≤ 1000000000) (h5 : 1 ≤ dn) (h6 : dn ≤ 1000) : Sd (sdN N D dn) (N * 1001 + 1) (D * 1001) := by
  refine ⟨by omega, by omega, fun x y hx hy hs => ?_, fun x y hx hy hs => ?_⟩
  · unfold sdN at hs
    split at hs
    · omega
    · split at hs
      · omega
      · have e1 : x * (D * 1001) = (x * D) * 1001 := by grind
        have e2 : (N * 1001 + 1) * y = (N * y) * 1001 + y := by grind
        omega
  · unfold sdN at hs
    split at hs
    · omega
    · split at hs
      · have e1 : x * (D * 1001) = (x * D) * 1001 := by grind
        have e2 : (N * 1001 + 1) * y = (N * y) * 1001 + y := by grind
        omega
      · omega

theorem lt_trans_frac {a b c d x y : Int} (hb : 0 ≤ b) (hd : 1 ≤ d) (hy : 1 ≤ y) (h1 : a * d ≤ c * b) (h2 : c * y < x * d) (hb1 : 1 ≤ b) : a * y < x * b := by
  have e1 : (a * d) * y ≤ (c * b) * y := Int.mul_le_mul_of_nonneg_right h1 (by omega)
  have e2 : (c * y) * b < (x * d) * b := Int.mul_lt_mul_of_pos_right h2 (by omega)
  have e3 : (a * y) * d < (x * b) * d := by
    have i1 : (a * y) * d = (a * d) * y := by grind
    have i2 : (x * b) * d = (x * d) * b := by grind
    have i3 : (c * b) * y = (c * y) * b := by grind
    omega
  exact Int.lt_of_mul_lt_mul_right e3 (by omega)

theorem next_of {N D dn a b c d : Int} (hF : Fr N D) (h2 : N ≤ 999999) (h5 : 1 ≤ dn) (h6 : dn ≤ 1000) (hN : Nb (sdN N D dn) (N * 1001 + 1) (D * 1001) a b c d) (n1 : sdN N D dn (a + c) (b + d) ≠ -1) (n2 : sdN N D dn (a + c) (b + d) ≠ 1) : NextP N D dn c d ∧ c ≤ 2000000000 ∧ d ≤ 1000 := by
  obtain ⟨f1, f2, f3, f4, f5⟩ := hF
  have hbd : dn < b + d := by
    unfold sdN at n1 n2
    split at n1
    · assumption
    · split at n1
      · rename_i h; rw [if_neg (by assumption), if_pos h] at n2; exact absurd rfl n2
      · exact absurd rfl n1
  have hb1 := hN.b1
  have ha0 := hN.a0
  have hc1 := hN.c1
  have hd0 := hN.d0
  have lo : a * D ≤ N * b ∧ b ≤ dn := by
    rcases hN.low with ⟨rfl, rfl⟩ | hl
    · omega
    · unfold sdN at hl
      split at hl
      · omega
      · split at hl <;> omega
  have hi : N * d < c * D ∧ d ≤ dn ∧ 1 ≤ d := by
    rcases hN.high with ⟨rfl, rfl⟩ | hl
    · omega
    · unfold sdN at hl
      split at hl
      · omega
      · split at hl <;> omega
  have hmin : ∀ x y, 1 ≤ y → y ≤ dn → N * y < x * D → c * y ≤ x * d := by
    intro x y hy1 hy2 hxy
    rcases Int.lt_or_le (x * d) (c * y) with hlt | hle
    · exfalso
      have hl : a * y < x * b := lt_trans_frac (by omega) f3 hy1 lo.1 hxy hb1
      have := between hN.det ha0 hb1 hc1 hd0 hl hlt
      omega
    · exact hle
  have hc : c ≤ 1000000000 := by
    have h := hmin (N / D + 1) 1 (by omega) h5 (by
      have e1 := Int.mul_ediv_add_emod N D
      have e2 := Int.emod_lt_of_pos N (show 0 < D by omega)
      have e3 : (N / D + 1) * D = D * (N / D) + D := by grind
      omega)
    have q1 : N / D ≤ N := Int.ediv_le_self _ (by omega)
    have q0 : 0 ≤ N / D := Int.ediv_nonneg (by omega) (by omega)
    have := @mul_le (N / D + 1) d 1000000 1000 (by omega) (by omega) (by omega) (by omega)
    omega
  refine ⟨⟨⟨hc1, hc, hi.2.2, by omega, gcd_one (m := b) (l := a) (by have := hN.det; grind)⟩, hi.2.1, hi.1, hmin, fun hD => ?_⟩, by omega, by omega⟩
  -- N / D is the left neighbour itself
  have heq : a * D = N * b := by
    rcases Int.lt_or_eq_of_le lo.1 with hlt | h
    · exfalso
      have := between (p := N) (q := D) hN.det ha0 hb1 hc1 hd0 hlt hi.1
      omega
    · exact h
  -- both in least terms
  have h1 : a = N ∧ b = D := by
    have g1 : Int.gcd a b = 1 := by
      have : b * c - a * d = 1 := hN.det
      have h := @gcd_one b a c d (by grind)
      rw [Int.gcd_comm]; exact h
    have d1 : D ∣ b := by
      have : D ∣ N * b := ⟨a, by rw [← heq, Int.mul_comm]⟩
      exact dvd_cop (by rw [Int.gcd_comm]; exact f5) this
    have d2 : b ∣ D := by
      have : b ∣ a * D := ⟨N, by rw [heq, Int.mul_comm]⟩
      exact dvd_cop (by rw [Int.gcd_comm]; exact g1) this
    have e1 : b = D := by
      have := Int.le_of_dvd (by omega) d1
      have := Int.le_of_dvd (by omega) d2
      omega
    subst e1
    exact ⟨Int.eq_of_mul_eq_mul_right (by omega) heq, rfl⟩
  obtain ⟨rfl, rfl⟩ := h1
  exact hN.det

theorem NextP.uniq {N D dn c d c' d' : Int} (h : NextP N D dn c d) (k : NextP N D dn c' d') : c = c' ∧ d = d' := by
  have h1 := h.min c' d' k.fr.2.2.1 k.den k.gt
  have h2 := k.min c d h.fr.2.2.1 h.den h.gt
  have heq : c * d' = c' * d := by omega
  have d1 : d ∣ d' := by
    have : d ∣ c * d' := ⟨c', by rw [heq, Int.mul_comm]⟩
    exact dvd_cop (by rw [Int.gcd_comm]; exact h.fr.2.2.2.2) this
  have d2 : d' ∣ d := by
    have : d' ∣ c' * d := ⟨c, by rw [← heq, Int.mul_comm]⟩
    exact dvd_cop (by rw [Int.gcd_comm]; exact k.fr.2.2.2.2) this
  have e1 : d = d' := by
    have := h.fr.2.2.1
    have := k.fr.2.2.1
    have := Int.le_of_dvd (by omega) d1
    have := Int.le_of_dvd (by omega) d2
    omega
  subst e1
  exact ⟨Int.eq_of_mul_eq_mul_right (by have := h.fr.2.2.1; omega) heq, rfl⟩

theorem next1_any (N D dn x y k : Int) (B1 B2 : Nat) (hk : sdN N D dn x y = k) (lN : 0 ≤ N) (uN : N ≤ 1000000) (lD : 1 ≤ D) (uD : D ≤ 1000000000) (lx : 0 ≤ x) (ux : x ≤ 4000000000) (ly : 0 ≤ y) (uy : y ≤ 4000000000000) (w : World) (h0 : w.cell? ⟨B1, 0, none⟩ = some (.int .i64 dn)) (h1 : w.cell? ⟨B2, 0, none⟩ = some (.int .i64 N)) (h2 : w.cell? ⟨B2, 1, none⟩ = some (.int .i64 D)) :
    Calls Try.prog 56 #[.agg #[.int .i64 x, .int .i64 y], .pointer (some ⟨B1, 0, none⟩), .pointer (some ⟨B2, 0, none⟩)] w fun e w' => e = .returned (.int .i64 k) ∧ Below w.heap.size w w' := by
  have b1 := @mul_le x D 4000000000 1000000000 (by omega) (by omega) (by omega) (by omega)
  have b2 := @mul_nn x D (by omega) (by omega)
  have b3 := @mul_le N y 1000000 4000000000000 (by omega) (by omega) (by omega) (by omega)
  have b4 := @mul_nn N y (by omega) (by omega)
  have q1 := lt_of_cell h0
  have q2 := lt_of_cell h1
  by_cases c1 : dn < y
  · obtain rfl : 0 = k := by rw [← hk]; unfold sdN; rw [if_pos c1]
    clear hk
    go_enter Try.func56, Try.ntmps56
    go_wp2
    go_ret
    exact ⟨rfl, (by repeat (first | exact Below.refl _ _ | (refine Below.alloc ?_ (by first | omega | (simp; done) | (simp; omega)) _) | (refine Below.setCell ?_ (by first | omega | (simp; done) | (simp; omega)) _) | refine Below.drew ?_))⟩
  · by_cases c2 : N * y < x * D
    · obtain rfl : 1 = k := by rw [← hk]; unfold sdN; rw [if_neg c1, if_pos c2]
      have HQ := Lib.hid (cmp3_gt c2)
      clear hk
      go_enter Try.func56, Try.ntmps56
      go_wp2_with fail
      refine (compare_any _ _ _ _ _ HQ.out (by omega) (by omega) (by omega) (by omega) _).mono ?_
      rintro e w1 ⟨rfl, hb1⟩
      go_wp2
      go_ret
      exact ⟨rfl, (by repeat (first | exact Below.refl _ _ | (with_reducible refine Below.trans ?_ (hb1.mono (by first | omega | (simp; done) | (simp; omega)))) | (refine Below.alloc ?_ (by first | omega | (simp; done) | (simp; omega)) _) | (refine Below.setCell ?_ (by first | omega | (simp; done) | (simp; omega)) _) | refine Below.drew ?_))⟩
    · obtain rfl : -1 = k := by rw [← hk]; unfold sdN; rw [if_neg c1, if_neg c2]
      obtain ⟨q, hq, hq0⟩ : ∃ q, cmp3 (x * D) (N * y) = q ∧ q ≤ 0 := ⟨_, rfl, by unfold cmp3; split <;> (try split) <;> omega⟩
      have HQ := Lib.hid hq
      clear hk hq
      go_enter Try.func56, Try.ntmps56
      go_wp2_with fail
      refine (compare_any _ _ _ _ _ HQ.out (by omega) (by omega) (by omega) (by omega) _).mono ?_
      rintro e w1 ⟨rfl, hb1⟩
      go_wp2
      go_ret
      exact ⟨rfl, (by repeat (first | exact Below.refl _ _ | (with_reducible refine Below.trans ?_ (hb1.mono (by first | omega | (simp; done) | (simp; omega)))) | (refine Below.alloc ?_ (by first | omega | (simp; done) | (simp; omega)) _) | (refine Below.setCell ?_ (by first | omega | (simp; done) | (simp; omega)) _) | refine Below.drew ?_))⟩

theorem side_next (N D dn : Int) (B1 B2 : Nat) (lN : 1 ≤ N) (uN : N ≤ 999999) (lD : 1 ≤ D) (uD : D ≤ 1000000000) (B0 : Nat) (w0 : World) (q1 : B1 < B0) (q2 : B2 < B0) (h0 : w0.cell? ⟨B1, 0, none⟩ = some (.int .i64 dn)) (h1 : w0.cell? ⟨B2, 0, none⟩ = some (.int .i64 N)) (h2 : w0.cell? ⟨B2, 1, none⟩ = some (.int .i64 D)) :
    Side 56 #[] #[.pointer (some ⟨B1, 0, none⟩), .pointer (some ⟨B2, 0, none⟩)] (sdN N D dn) (2 * (N * 1001 + 1)) (2 * (D * 1001)) B0 w0 := by
  refine ⟨fun x W => ?_, fun x y W hx0 hx1 hy0 hy1 hH => ?_⟩
  · go_simp
  · exact next1_any N D dn x y _ B1 B2 rfl (by omega) (by omega) lD uD hx0 (by omega) hy0 (by omega) W ((hH.cell q1).trans h0) ((hH.cell q2).trans h1) ((hH.cell q2).trans h2)

theorem Next_bad (N D dn : Int) (hF : ¬ Fr N D) (w : World) :
    Calls Try.prog 28 #[.agg #[.int .i64 N, .int .i64 D], .int .i64 dn] w fun e w' => e = .returned (.tuple #[.agg #[.int .i64 0, .int .i64 0], .int .i64 2]) ∧ Below w.heap.size w w' := by
  have H := Lib.hid (decide_eq_false hF)
  clear hF
  go_enter Try.func28, Try.ntmps28
  go_wp2_with fail
  refine (isFraction_any _ _ false H.out _).mono ?_
  rintro e w1 ⟨rfl, hb1⟩
  obtain ⟨hc1, hf1⟩ := bcell hb1
  have hz1_0 : w.heap.size < w1.heap.size := by have := hb1.size; (try simp at this); omega
  have hz1_1 : w.heap.size + 1 < w1.heap.size := by have := hb1.size; (try simp at this); omega
  have hz1_2 : w.heap.size + 2 < w1.heap.size := by have := hb1.size; (try simp at this); omega
  go_wp2
  exact bodyPost_ret (v := .tuple #[.agg #[.int .i64 0, .int .i64 0], .int .i64 2]) (by simp [results, Try.results28, go_sem, hc1, hf1, hz1_0, hz1_1, hz1_2]) rfl ⟨rfl, (by repeat (first | exact Below.refl _ _ | (with_reducible refine Below.trans ?_ (hb1.mono (by first | omega | (simp; done) | (simp; omega)))) | (refine Below.alloc ?_ (by first | omega | (simp; done) | (simp; omega)) _) | (refine Below.setCell ?_ (by first | omega | (simp; done) | (simp; omega)) _) | refine Below.drew ?_))⟩

theorem Next_range (N D dn : Int) (hF : Fr N D) (hR : ¬ ((1 ≤ dn ∧ dn ≤ 1000) ∧ N ≤ 999999)) (w : World) :
    Calls Try.prog 28 #[.agg #[.int .i64 N, .int .i64 D], .int .i64 dn] w fun e w' => e = .returned (.tuple #[.agg #[.int .i64 0, .int .i64 0], .int .i64 3]) ∧ Below w.heap.size w w' := by
  have H := Lib.hid (decide_eq_true hF)
  clear hF
  by_cases h1 : 1 ≤ dn ∧ dn ≤ 1000
  · have H1 := Lib.hid (decide_eq_true h1)
    have h2 : ¬ N ≤ 999999 := fun h => hR ⟨h1, h⟩
    have h3 : 999999 < N := by omega
    clear hR h1 h2
    go_enter Try.func28, Try.ntmps28
    go_wp2_with fail
    refine (isFraction_any _ _ true H.out _).mono ?_
    rintro e w1 ⟨rfl, hb1⟩
    obtain ⟨hc1, hf1⟩ := bcell hb1
    have hz1_0 : w.heap.size < w1.heap.size := by have := hb1.size; (try simp at this); omega
    have hz1_1 : w.heap.size + 1 < w1.heap.size := by have := hb1.size; (try simp at this); omega
    have hz1_2 : w.heap.size + 2 < w1.heap.size := by have := hb1.size; (try simp at this); omega
    go_wp2_with fail
    refine (isFrom_any _ _ _ true H1.out _).mono ?_
    rintro e w2 ⟨rfl, rfl⟩
    go_wp2
    exact bodyPost_ret (v := .tuple #[.agg #[.int .i64 0, .int .i64 0], .int .i64 3]) (by simp [results, Try.results28, go_sem, hc1, hf1, hz1_0, hz1_1, hz1_2]) rfl ⟨rfl, (by repeat (first | exact Below.refl _ _ | (with_reducible refine Below.trans ?_ (hb1.mono (by first | omega | (simp; done) | (simp; omega)))) | (refine Below.alloc ?_ (by first | omega | (simp; done) | (simp; omega)) _) | (refine Below.setCell ?_ (by first | omega | (simp; done) | (simp; omega)) _) | refine Below.drew ?_))⟩
  · have H1 := Lib.hid (decide_eq_false h1)
    clear hR h1
    go_enter Try.func28, Try.ntmps28
    go_wp2_with fail
    refine (isFraction_any _ _ true H.out _).mono ?_
    rintro e w1 ⟨rfl, hb1⟩
    obtain ⟨hc1, hf1⟩ := bcell hb1
    have hz1_0 : w.heap.size < w1.heap.size := by have := hb1.size; (try simp at this); omega
    have hz1_1 : w.heap.size + 1 < w1.heap.size := by have := hb1.size; (try simp at this); omega
    have hz1_2 : w.heap.size + 2 < w1.heap.size := by have := hb1.size; (try simp at this); omega
    go_wp2_with fail
    refine (isFrom_any _ _ _ false H1.out _).mono ?_
    rintro e w2 ⟨rfl, rfl⟩
    go_wp2
    exact bodyPost_ret (v := .tuple #[.agg #[.int .i64 0, .int .i64 0], .int .i64 3]) (by simp [results, Try.results28, go_sem, hc1, hf1, hz1_0, hz1_1, hz1_2]) rfl ⟨rfl, (by repeat (first | exact Below.refl _ _ | (with_reducible refine Below.trans ?_ (hb1.mono (by first | omega | (simp; done) | (simp; omega)))) | (refine Below.alloc ?_ (by first | omega | (simp; done) | (simp; omega)) _) | (refine Below.setCell ?_ (by first | omega | (simp; done) | (simp; omega)) _) | refine Below.drew ?_))⟩

set_option maxHeartbeats 1000000 in
theorem Next_ok (N D dn : Int) (hF : Fr N D) (hD : 1 ≤ dn ∧ dn ≤ 1000) (hN : N ≤ 999999) (w : World) :
    Calls Try.prog 28 #[.agg #[.int .i64 N, .int .i64 D], .int .i64 dn] w fun e w' => (∃ c d : Int, e = .returned (.tuple #[.agg #[.int .i64 c, .int .i64 d], .int .i64 0]) ∧ NextP N D dn c d) ∧ Below w.heap.size w w' := by
  have H := Lib.hid (decide_eq_true hF)
  have H1 := Lib.hid (decide_eq_true hD)
  have HF := Lib.hid hF
  obtain ⟨f1, f2, f3, f4, _⟩ := hF
  obtain ⟨d1, d2⟩ := hD
  go_enter Try.func28, Try.ntmps28
  go_wp2_with fail
  refine (isFraction_any _ _ true H.out _).mono ?_
  rintro e w1 ⟨rfl, hb1⟩
  obtain ⟨hc1, hf1⟩ := bcell hb1
  have hz1_0 : w.heap.size < w1.heap.size := by have := hb1.size; (try simp at this); omega
  have hz1_1 : w.heap.size + 1 < w1.heap.size := by have := hb1.size; (try simp at this); omega
  have hz1_2 : w.heap.size + 2 < w1.heap.size := by have := hb1.size; (try simp at this); omega
  go_wp2_with fail
  refine (isFrom_any _ _ _ true H1.out _).mono ?_
  rintro e w2 ⟨rfl, rfl⟩
  have k0 : w1.cell? ⟨w.heap.size + 1, 0, none⟩ = some (.int .i64 dn) := (hc1 (w.heap.size + 1) 0 (by simp)).trans (by simp [go_sem])
  have k1 : w1.cell? ⟨w.heap.size, 0, none⟩ = some (.int .i64 N) := (hc1 w.heap.size 0 (by simp; omega)).trans (by simp [go_sem])
  have k2 : w1.cell? ⟨w.heap.size, 1, none⟩ = some (.int .i64 D) := (hc1 w.heap.size 1 (by simp; omega)).trans (by simp [go_sem])
  have hS := Lib.hid (side_next N D dn (w.heap.size + 1) w.heap.size f1 (by omega) f3 f4 w1.heap.size w1 hz1_1 hz1_0 k0 k1 k2)
  go_wp2_with fail
  refine (descend_any _ _ _ (sdN N D dn) (N * 1001 + 1) (D * 1001) _ _ hS.out (sd_next f1 (by omega) f3 f4 d1 d2) (by omega) (by omega) _ ⟨Nat.le_refl _, Below.refl _ _⟩).mono ?_
  rintro e w2 ⟨⟨a, b, c, d, rfl, hN, n1, n2⟩, hb2⟩
  have HP := Lib.hid (next_of HF.out (by omega) d1 d2 hN n1 n2).1
  clear hN n1 n2 k0 k1 k2
  obtain ⟨hc2, hf2⟩ := bcell hb2
  have hz2_0 : w.heap.size < w2.heap.size := by have := hb2.size; omega
  have hz2_1 : w.heap.size + 1 < w2.heap.size := by have := hb2.size; omega
  have hz2_2 : w.heap.size + 2 < w2.heap.size := by have := hb2.size; omega
  go_wp2_with fail
  refine (right_any _ _ _ _ _).mono ?_
  rintro e w3 ⟨rfl, hb3⟩
  obtain ⟨hc3, hf3⟩ := bcell hb3
  have hz3_0 : w.heap.size < w3.heap.size := by have := hb3.size; (try simp at this); omega
  have hz3_1 : w.heap.size + 1 < w3.heap.size := by have := hb3.size; (try simp at this); omega
  have hz3_2 : w.heap.size + 2 < w3.heap.size := by have := hb3.size; (try simp at this); omega
  go_wp2
  exact bodyPost_ret (v := .tuple #[.agg #[.int .i64 c, .int .i64 d], .int .i64 0]) (by simp [results, Try.results28, go_sem, hc1, hf1, hz1_0, hz1_1, hz1_2, hc2, hf2, hz2_0, hz2_1, hz2_2, hc3, hf3, hz3_0, hz3_1, hz3_2]) rfl ⟨⟨c, d, rfl, HP.out⟩, (by repeat (first | exact Below.refl _ _ | (with_reducible refine Below.trans ?_ (hb3.mono (by first | omega | (simp; done) | (simp; omega)))) | (with_reducible refine Below.trans ?_ (hb2.mono (by first | omega | (simp; done) | (simp; omega)))) | (with_reducible refine Below.trans ?_ (hb1.mono (by first | omega | (simp; done) | (simp; omega)))) | (refine Below.alloc ?_ (by first | omega | (simp; done) | (simp; omega)) _) | (refine Below.setCell ?_ (by first | omega | (simp; done) | (simp; omega)) _) | refine Below.drew ?_))⟩

end Go.Proofs.Ytbdjllgngblfoaa
