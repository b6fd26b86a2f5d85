import Derived.Test.YtbdjllgngblfoaaUd
namespace Go.Proofs.Ytbdjllgngblfoaa
set_option linter.unusedVariables false
set_option linter.unusedSimpArgs false
open Go.RowKit

/-- On which side of a span a ratio lies. -/
def sideV (a b c d x y : Int) : Int := if x * b < a * y then -1 else if c * y < x * d then 1 else 0

theorem Span_any (a b c d : Int) (w : World) :
    Calls Try.prog 38 #[.int .i64 a, .int .i64 b, .int .i64 c, .int .i64 d] w fun e w' => e = .returned (.agg #[.int .i64 a, .int .i64 b, .int .i64 c, .int .i64 d]) ∧ Below w.heap.size w w' := by
  go_enter Try.func38, Try.ntmps38
  go_wp2_with fail
  refine (of_any _ _ _).mono ?_
  rintro e w1 ⟨rfl, hb1⟩
  obtain ⟨hc1, hf1⟩ := bcell hb1
  have hz1_0 : w.heap.size < w1.heap.size := by have := hb1.size; (try simp at this); omega
  go_wp2_with fail
  refine (of_any _ _ _).mono ?_
  rintro e w2 ⟨rfl, hb2⟩
  obtain ⟨hc2, hf2⟩ := bcell hb2
  have hz2_0 : w.heap.size < w2.heap.size := by have := hb2.size; (try simp at this); omega
  go_wp2
  exact bodyPost_ret (v := .agg #[.int .i64 (a), .int .i64 (b), .int .i64 (c), .int .i64 (d)]) (by simp [results, Try.results38, go_sem, hc1, hc2, hf1, hf2, hz1_0, hz2_0]) rfl ⟨rfl, (by repeat (first | exact Below.refl _ _ | (with_reducible refine Below.trans ?_ (hb2.mono (by first | omega | (simp; done) | (simp; omega)))) | (with_reducible refine Below.trans ?_ (hb1.mono (by first | omega | (simp; done) | (simp; omega)))) | (refine Below.alloc ?_ (by first | omega | (simp; done) | (simp; omega)) _) | (refine Below.setCell ?_ (by first | omega | (simp; done) | (simp; omega)) _) | refine Below.drew ?_))⟩

theorem fine_any (a b c d : Int) (r : Bool) (hr : decide (Sp a b c d) = r) (w : World) :
    Calls Try.prog 30 #[.agg #[.int .i64 a, .int .i64 b, .int .i64 c, .int .i64 d]] w fun e w' => e = .returned (.bool r) ∧ Below w.heap.size w w' := by
  by_cases h : Sp a b c d
  · have H := Lib.hid (show (if Sp a b c d then (0:Int) else 2) = 0 from if_pos h)
    obtain rfl : true = r := by rw [← hr]; exact (decide_eq_true h).symm
    clear hr h
    go_enter Try.func30, Try.ntmps30
    go_wp2_with fail
    refine (CheckSpanR_any _ _ _ _ _ H.out _).mono ?_
    rintro e w1 ⟨rfl, hb1⟩
    go_wp2
    go_ret
    exact ⟨rfl, (by repeat (first | exact Below.refl _ _ | (with_reducible refine Below.trans ?_ (hb1.mono (by first | omega | (simp; done) | (simp; omega)))) | (refine Below.alloc ?_ (by first | omega | (simp; done) | (simp; omega)) _) | (refine Below.setCell ?_ (by first | omega | (simp; done) | (simp; omega)) _) | refine Below.drew ?_))⟩
  · have H := Lib.hid (show (if Sp a b c d then (0:Int) else 2) = 2 from if_neg h)
    obtain rfl : false = r := by rw [← hr]; exact (decide_eq_false h).symm
    clear hr h
    go_enter Try.func30, Try.ntmps30
    go_wp2_with fail
    refine (CheckSpanR_any _ _ _ _ _ H.out _).mono ?_
    rintro e w1 ⟨rfl, hb1⟩
    go_wp2
    go_ret
    exact ⟨rfl, (by repeat (first | exact Below.refl _ _ | (with_reducible refine Below.trans ?_ (hb1.mono (by first | omega | (simp; done) | (simp; omega)))) | (refine Below.alloc ?_ (by first | omega | (simp; done) | (simp; omega)) _) | (refine Below.setCell ?_ (by first | omega | (simp; done) | (simp; omega)) _) | refine Below.drew ?_))⟩

theorem run_max_int4 {P : Program} (w : World) (ts : Array TypeId) (t : TypeId) (k k1 k2 k3 : IntKind) (x y z u : Int) : (Builtin.max_ ts t #[.int k x, .int k1 y, .int k2 z, .int k3 u]).run P w = .ok (.int k (max x (max y (max z u)))) w := by
  simp [Builtin.max_, Builtin.max2]
  split <;> split <;> split <;> omega
attribute [local go_sem] run_max_int4
theorem max4 (a b c d : Int) : decide (1000000000 < max a (max b (max c d))) = decide (1000000000 < a ∨ 1000000000 < b ∨ 1000000000 < c ∨ 1000000000 < d) := by
  apply decide_eq_decide.2
  omega

theorem isOver_any (a b c d : Int) (r : Bool) (hr : decide (1000000000 < a ∨ 1000000000 < b ∨ 1000000000 < c ∨ 1000000000 < d) = r) (w : World) :
    Calls Try.prog 54 #[.agg #[.int .i64 a, .int .i64 b, .int .i64 c, .int .i64 d]] w fun e w' => e = .returned (.bool r) ∧ Below w.heap.size w w' := by
  go_enter Try.func54, Try.ntmps54
  go_wp2
  go_ret
  exact ⟨ret_b (by rw [← hr]; exact max4 a b c d), (Below.refl _ _).alloc (Nat.le_refl _) _⟩

theorem Reduced_any (a b x y : Int) (h : Red a b x y) (ha : 1 ≤ a) (ha' : a ≤ 9000000000000000000) (hb : 1 ≤ b) (hb' : b ≤ 9000000000000000000) (w : World) :
    Calls Try.prog 36 #[.int .i64 a, .int .i64 b] w fun e w' => e = .returned (.agg #[.int .i64 x, .int .i64 y]) ∧ Below w.heap.size w w' := by
  have hg := @gcd_pos a b ha
  obtain ⟨g, hG⟩ : ∃ g, ((Int.gcd a b : Nat) : Int) = g := ⟨_, rfl⟩
  rw [hG] at hg
  obtain ⟨hq1, hq2⟩ := div_bd ha hg
  obtain ⟨hq3, hq4⟩ := div_bd hb hg
  have hx : a / g = x := by rw [← hG]; exact h.num
  have hy : b / g = y := by rw [← hG]; exact h.den
  have HG := Lib.hid hG
  have HX := Lib.hid hx
  have HY := Lib.hid hy
  clear hG h hx hy
  go_enter Try.func36, Try.ntmps36
  go_wp2_with fail
  refine (gcd_any a b (by omega) (by omega) _).mono ?_
  rintro e w1 ⟨rfl, hb1⟩
  obtain ⟨hc1, hf1⟩ := bcell hb1
  have hz1_0 : w.heap.size < w1.heap.size := by have := hb1.size; (try simp at this); omega
  rw [HG.out]
  go_wp2
  go_region
  go_wp2
  exact bodyPost_ret (v := .agg #[.int .i64 (a / g), .int .i64 (b / g)]) (by simp [results, Try.results36, go_sem, hc1]) rfl ⟨by rw [HX.out, HY.out], (by repeat (first | exact Below.refl _ _ | (with_reducible refine Below.trans ?_ (hb1.mono (by first | omega | (simp; done) | (simp; omega)))) | (refine Below.alloc ?_ (by first | omega | (simp; done) | (simp; omega)) _) | (refine Below.setCell ?_ (by first | omega | (simp; done) | (simp; omega)) _) | refine Below.drew ?_))⟩

theorem side_any (a b c d x y k : Int) (hk : sideV a b c d x y = k) (la : 0 ≤ a) (ua : a ≤ 1000000000) (lb : 0 ≤ b) (ub : b ≤ 1000000000) (lc : 0 ≤ c) (uc : c ≤ 1000000000) (ld : 0 ≤ d) (ud : d ≤ 1000000000) (hx0 : 0 ≤ x) (hx1 : x ≤ 4000000000) (hy0 : 0 ≤ y) (hy1 : y ≤ 4000000000) (w : World) :
    Calls Try.prog 41 #[.agg #[.int .i64 a, .int .i64 b, .int .i64 c, .int .i64 d], .agg #[.int .i64 x, .int .i64 y]] w fun e w' => e = .returned (.int .i64 k) ∧ Below w.heap.size w w' := by
  have b1 := @mul_le x b 4000000000 1000000000 (by omega) (by omega) (by omega) (by omega)
  have b2 := @mul_nn x b (by omega) (by omega)
  have b3 := @mul_le a y 1000000000 4000000000 (by omega) (by omega) (by omega) (by omega)
  have b4 := @mul_nn a y (by omega) (by omega)
  have b5 := @mul_le x d 4000000000 1000000000 (by omega) (by omega) (by omega) (by omega)
  have b6 := @mul_nn x d (by omega) (by omega)
  have b7 := @mul_le c y 1000000000 4000000000 (by omega) (by omega) (by omega) (by omega)
  have b8 := @mul_nn c y (by omega) (by omega)
  by_cases h1 : x * b < a * y
  · obtain rfl : -1 = k := by rw [← hk]; unfold sideV; rw [if_pos h1]
    have H1 := Lib.hid (cmp3_lt h1)
    clear hk
    go_enter Try.func41, Try.ntmps41
    go_wp2_with fail
    refine (compare_any _ _ _ _ _ H1.out (by omega) (by omega) (by omega) (by omega) _).mono ?_
    rintro e w1 ⟨rfl, hb1⟩
    obtain ⟨hc1, hf1⟩ := bcell hb1
    have hz1_0 : w.heap.size < w1.heap.size := by have := hb1.size; (try simp at this); omega
    go_wp2
    go_ret
    exact ⟨rfl, (by repeat (first | exact Below.refl _ _ | (with_reducible refine Below.trans ?_ (hb1.mono (by first | omega | (simp; done) | (simp; omega)))) | (refine Below.alloc ?_ (by first | omega | (simp; done) | (simp; omega)) _) | (refine Below.setCell ?_ (by first | omega | (simp; done) | (simp; omega)) _) | refine Below.drew ?_))⟩
  · obtain ⟨q1, hq1, hq2⟩ : ∃ q, cmp3 (x * b) (a * y) = q ∧ 0 ≤ q := ⟨_, rfl, by unfold cmp3; split <;> (try split) <;> omega⟩
    have H1 := Lib.hid hq1
    by_cases h2 : c * y < x * d
    · obtain rfl : 1 = k := by rw [← hk]; unfold sideV; rw [if_neg h1, if_pos h2]
      have H2 := Lib.hid (cmp3_gt h2)
      clear hk hq1
      go_enter Try.func41, Try.ntmps41
      go_wp2_with fail
      refine (compare_any _ _ _ _ _ H1.out (by omega) (by omega) (by omega) (by omega) _).mono ?_
      rintro e w1 ⟨rfl, hb1⟩
      obtain ⟨hc1, hf1⟩ := bcell hb1
      have hz1_0 : w.heap.size < w1.heap.size := by have := hb1.size; (try simp at this); omega
      go_wp2_with fail
      refine (compare_any _ _ _ _ _ H2.out (by omega) (by omega) (by omega) (by omega) _).mono ?_
      rintro e w2 ⟨rfl, hb2⟩
      obtain ⟨hc2, hf2⟩ := bcell hb2
      have hz2_0 : w.heap.size < w2.heap.size := by have := hb2.size; (try simp at this); omega
      go_wp2
      go_ret
      exact ⟨rfl, (by repeat (first | exact Below.refl _ _ | (with_reducible refine Below.trans ?_ (hb2.mono (by first | omega | (simp; done) | (simp; omega)))) | (with_reducible refine Below.trans ?_ (hb1.mono (by first | omega | (simp; done) | (simp; omega)))) | (refine Below.alloc ?_ (by first | omega | (simp; done) | (simp; omega)) _) | (refine Below.setCell ?_ (by first | omega | (simp; done) | (simp; omega)) _) | refine Below.drew ?_))⟩
    · obtain rfl : 0 = k := by rw [← hk]; unfold sideV; rw [if_neg h1, if_neg h2]
      obtain ⟨q2, hq3, hq4⟩ : ∃ q, cmp3 (x * d) (c * y) = q ∧ q ≤ 0 := ⟨_, rfl, by unfold cmp3; split <;> (try split) <;> omega⟩
      have H2 := Lib.hid hq3
      clear hk hq1 hq3
      go_enter Try.func41, Try.ntmps41
      go_wp2_with fail
      refine (compare_any _ _ _ _ _ H1.out (by omega) (by omega) (by omega) (by omega) _).mono ?_
      rintro e w1 ⟨rfl, hb1⟩
      obtain ⟨hc1, hf1⟩ := bcell hb1
      have hz1_0 : w.heap.size < w1.heap.size := by have := hb1.size; (try simp at this); omega
      go_wp2_with fail
      refine (compare_any _ _ _ _ _ H2.out (by omega) (by omega) (by omega) (by omega) _).mono ?_
      rintro e w2 ⟨rfl, hb2⟩
      obtain ⟨hc2, hf2⟩ := bcell hb2
      have hz2_0 : w.heap.size < w2.heap.size := by have := hb2.size; (try simp at this); omega
      go_wp2
      go_ret
      exact ⟨rfl, (by repeat (first | exact Below.refl _ _ | (with_reducible refine Below.trans ?_ (hb2.mono (by first | omega | (simp; done) | (simp; omega)))) | (with_reducible refine Below.trans ?_ (hb1.mono (by first | omega | (simp; done) | (simp; omega)))) | (refine Below.alloc ?_ (by first | omega | (simp; done) | (simp; omega)) _) | (refine Below.setCell ?_ (by first | omega | (simp; done) | (simp; omega)) _) | refine Below.drew ?_))⟩

theorem In_any (x y a b c d : Int) (r : Bool) (hr : decide (a * y ≤ x * b ∧ x * d ≤ c * y) = r) (la : 0 ≤ a) (ua : a ≤ 1000000000) (lb : 0 ≤ b) (ub : b ≤ 1000000000) (lc : 0 ≤ c) (uc : c ≤ 1000000000) (ld : 0 ≤ d) (ud : d ≤ 1000000000) (hx0 : 0 ≤ x) (hx1 : x ≤ 4000000000) (hy0 : 0 ≤ y) (hy1 : y ≤ 4000000000) (w : World) :
    Calls Try.prog 19 #[.agg #[.int .i64 x, .int .i64 y], .agg #[.int .i64 a, .int .i64 b, .int .i64 c, .int .i64 d]] w fun e w' => e = .returned (.bool r) ∧ Below w.heap.size w w' := by
  have b1 := @mul_le x b 4000000000 1000000000 (by omega) (by omega) (by omega) (by omega)
  have b2 := @mul_nn x b (by omega) (by omega)
  have b3 := @mul_le a y 1000000000 4000000000 (by omega) (by omega) (by omega) (by omega)
  have b4 := @mul_nn a y (by omega) (by omega)
  have b5 := @mul_le x d 4000000000 1000000000 (by omega) (by omega) (by omega) (by omega)
  have b6 := @mul_nn x d (by omega) (by omega)
  have b7 := @mul_le c y 1000000000 4000000000 (by omega) (by omega) (by omega) (by omega)
  have b8 := @mul_nn c y (by omega) (by omega)
  by_cases h1 : x * b < a * y
  · obtain rfl : false = r := by rw [← hr]; exact (decide_eq_false (fun h => by omega)).symm
    have H1 := Lib.hid (decide_eq_true h1)
    clear hr
    go_enter Try.func19, Try.ntmps19
    go_wp2_with fail
    refine (less_any _ _ _ _ true H1.out (by omega) (by omega) (by omega) (by omega) _).mono ?_
    rintro e w1 ⟨rfl, hb1⟩
    obtain ⟨hc1, hf1⟩ := bcell hb1
    have hz1_0 : w.heap.size < w1.heap.size := by have := hb1.size; (try simp at this); omega
    go_wp2
    go_ret
    exact ⟨rfl, (by repeat (first | exact Below.refl _ _ | (with_reducible refine Below.trans ?_ (hb1.mono (by first | omega | (simp; done) | (simp; omega)))) | (refine Below.alloc ?_ (by first | omega | (simp; done) | (simp; omega)) _) | (refine Below.setCell ?_ (by first | omega | (simp; done) | (simp; omega)) _) | refine Below.drew ?_))⟩
  · have H1 := Lib.hid (decide_eq_false h1)
    by_cases h2 : c * y < x * d
    · obtain rfl : false = r := by rw [← hr]; exact (decide_eq_false (fun h => by omega)).symm
      have H2 := Lib.hid (decide_eq_true h2)
      clear hr
      go_enter Try.func19, Try.ntmps19
      go_wp2_with fail
      refine (less_any _ _ _ _ false H1.out (by omega) (by omega) (by omega) (by omega) _).mono ?_
      rintro e w1 ⟨rfl, hb1⟩
      obtain ⟨hc1, hf1⟩ := bcell hb1
      have hz1_0 : w.heap.size < w1.heap.size := by have := hb1.size; (try simp at this); omega
      go_wp2_with fail
      refine (less_any _ _ _ _ true H2.out (by omega) (by omega) (by omega) (by omega) _).mono ?_
      rintro e w2 ⟨rfl, hb2⟩
      obtain ⟨hc2, hf2⟩ := bcell hb2
      have hz2_0 : w.heap.size < w2.heap.size := by have := hb2.size; (try simp at this); omega
      go_wp2
      go_ret
      exact ⟨rfl, (by repeat (first | exact Below.refl _ _ | (with_reducible refine Below.trans ?_ (hb2.mono (by first | omega | (simp; done) | (simp; omega)))) | (with_reducible refine Below.trans ?_ (hb1.mono (by first | omega | (simp; done) | (simp; omega)))) | (refine Below.alloc ?_ (by first | omega | (simp; done) | (simp; omega)) _) | (refine Below.setCell ?_ (by first | omega | (simp; done) | (simp; omega)) _) | refine Below.drew ?_))⟩
    · obtain rfl : true = r := by rw [← hr]; exact (decide_eq_true (by omega)).symm
      have H2 := Lib.hid (decide_eq_false h2)
      clear hr
      go_enter Try.func19, Try.ntmps19
      go_wp2_with fail
      refine (less_any _ _ _ _ false H1.out (by omega) (by omega) (by omega) (by omega) _).mono ?_
      rintro e w1 ⟨rfl, hb1⟩
      obtain ⟨hc1, hf1⟩ := bcell hb1
      have hz1_0 : w.heap.size < w1.heap.size := by have := hb1.size; (try simp at this); omega
      go_wp2_with fail
      refine (less_any _ _ _ _ false H2.out (by omega) (by omega) (by omega) (by omega) _).mono ?_
      rintro e w2 ⟨rfl, hb2⟩
      obtain ⟨hc2, hf2⟩ := bcell hb2
      have hz2_0 : w.heap.size < w2.heap.size := by have := hb2.size; (try simp at this); omega
      go_wp2
      go_ret
      exact ⟨rfl, (by repeat (first | exact Below.refl _ _ | (with_reducible refine Below.trans ?_ (hb2.mono (by first | omega | (simp; done) | (simp; omega)))) | (with_reducible refine Below.trans ?_ (hb1.mono (by first | omega | (simp; done) | (simp; omega)))) | (refine Below.alloc ?_ (by first | omega | (simp; done) | (simp; omega)) _) | (refine Below.setCell ?_ (by first | omega | (simp; done) | (simp; omega)) _) | refine Below.drew ?_))⟩

end Go.Proofs.Ytbdjllgngblfoaa
