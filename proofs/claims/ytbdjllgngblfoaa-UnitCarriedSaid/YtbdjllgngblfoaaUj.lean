import Derived.Test.YtbdjllgngblfoaaUi
import Derived.Test.YtbdjllgngblfoaaUe2
namespace Go.Proofs.Ytbdjllgngblfoaa
set_option linter.unusedVariables false
set_option linter.unusedSimpArgs false
open Go.RowKit

theorem gcd_one {x y m l : Int} (h : x * m - y * l = 1) : Int.gcd x y = 1 := by
  have h1 := Int.gcd_dvd_left x y
  have h2 := Int.gcd_dvd_right x y
  have h3 : ((Int.gcd x y : Nat) : Int) ∣ 1 := by
    rw [← h]
    exact Int.dvd_sub (Int.dvd_mul_of_dvd_left h1) (Int.dvd_mul_of_dvd_left h2)
  have h4 : Int.gcd x y ∣ 1 := by exact_mod_cast h3
  exact Nat.dvd_one.1 h4

/-- The simplest fraction of a span: in it, in least terms, and with the least numbers of all in it. -/
structure Least (a b c d x y : Int) : Prop where
  fr : Fr x y
  lo : a * y ≤ x * b
  hi : x * d ≤ c * y
  min : ∀ p q, 1 ≤ p → 1 ≤ q → a * q ≤ p * b → p * d ≤ c * q → x ≤ p ∧ y ≤ q

theorem Least.uniq {a b c d x y x' y' : Int} (h : Least a b c d x y) (k : Least a b c d x' y') : x = x' ∧ y = y' := by
  have h1 := h.min x' y' k.fr.1 k.fr.2.2.1 k.lo k.hi
  have h2 := k.min x y h.fr.1 h.fr.2.2.1 h.lo h.hi
  omega

theorem sideV_low {a b c d x y : Int} (h : sideV a b c d x y = -1) : x * b < a * y := by
  unfold sideV at h
  split at h
  · assumption
  · split at h <;> omega
theorem sideV_high {a b c d x y : Int} (h : sideV a b c d x y = 1) : c * y < x * d := by
  unfold sideV at h
  split at h
  · omega
  · split at h
    · assumption
    · omega
theorem sideV_in {a b c d x y : Int} (h1 : sideV a b c d x y ≠ -1) (h2 : sideV a b c d x y ≠ 1) : a * y ≤ x * b ∧ x * d ≤ c * y := by
  unfold sideV at h1 h2
  split at h1
  · omega
  · split at h2
    · omega
    · split at h2
      · omega
      · omega

theorem sd_span {a b c d : Int} (h : Sp a b c d) : Sd (sideV a b c d) a b := by
  obtain ⟨⟨h1, h2, h3, h4, _⟩, ⟨k1, k2, k3, k4, _⟩, hle⟩ := h
  refine ⟨h1, h3, fun x y _ _ hs => sideV_low hs, fun x y hx hy hs => ?_⟩
  have hh := sideV_high hs
  -- a/b <= c/d < x/y
  have e1 : (a * d) * y ≤ (c * b) * y := Int.mul_le_mul_of_nonneg_right hle hy
  have e2 : (c * y) * b < (x * d) * b := Int.mul_lt_mul_of_pos_right hh (by omega)
  have e3 : (a * y) * d < (x * b) * d := by
    have i1 : (a * y) * d = (a * d) * y := by grind
    have i2 : (x * b) * d = (x * d) * b := by grind
    have i3 : (c * b) * y = (c * y) * b := by grind
    omega
  exact Int.lt_of_mul_lt_mul_right e3 (by omega)

theorem side_span (a b c d : Int) (h : Sp a b c d) (B0 : Nat) (w0 : World) : Side 41 #[.agg #[.int .i64 a, .int .i64 b, .int .i64 c, .int .i64 d]] #[] (sideV a b c d) (2 * a) (2 * b) B0 w0 := by
  obtain ⟨⟨h1, h2, h3, h4, _⟩, ⟨k1, k2, k3, k4, _⟩, hle⟩ := h
  refine ⟨fun x W => ?_, fun x y W hx0 hx1 hy0 hy1 _ => ?_⟩
  · go_simp
  · exact side_any a b c d x y _ rfl (by omega) (by omega) (by omega) (by omega) (by omega) (by omega) (by omega) (by omega) hx0 (by omega) hy0 (by omega) W

/-- What the search over a span comes to. -/
structure Fnd (a b c d l m r s : Int) : Prop where
  det : m * r - l * s = 1
  l0 : 0 ≤ l
  m1 : 1 ≤ m
  r1 : 1 ≤ r
  s0 : 0 ≤ s
  left : l * b < a * m
  right : c * s < r * d
  ge : a * (m + s) ≤ (l + r) * b
  le : (l + r) * d ≤ c * (m + s)
  num : l + r ≤ a
  den : m + s ≤ b

theorem fnd_of {a b c d l m r s : Int} (h : Sp a b c d) (hN : Nb (sideV a b c d) a b l m r s) (n1 : sideV a b c d (l + r) (m + s) ≠ -1) (n2 : sideV a b c d (l + r) (m + s) ≠ 1) : Fnd a b c d l m r s := by
  obtain ⟨⟨h1, h2, h3, h4, _⟩, ⟨k1, k2, k3, k4, _⟩, hle⟩ := h
  obtain ⟨g1, g2⟩ := sideV_in n1 n2
  obtain ⟨e1, e2⟩ := hN.le
  refine ⟨hN.det, hN.a0, hN.b1, hN.c1, hN.d0, hN.left, ?_, g1, g2, e1, e2⟩
  rcases hN.high with ⟨rfl, rfl⟩ | hh
  · omega
  · exact sideV_high hh

theorem Fnd.least {a b c d l m r s : Int} (h : Sp a b c d) (f : Fnd a b c d l m r s) : Least a b c d (l + r) (m + s) := by
  obtain ⟨⟨h1, h2, h3, h4, _⟩, ⟨k1, k2, k3, k4, _⟩, hle⟩ := h
  obtain ⟨f1, f2, f3, f4, f5, f6, f7, f8, f9, f10, f11⟩ := f
  refine ⟨⟨by omega, by omega, by omega, by omega, gcd_one (m := m) (l := l) (by grind)⟩, f8, f9, ?_⟩
  intro p q hp hq g1 g2
  refine between f1 f2 f3 f4 f5 ?_ ?_
  · -- l / m < a / b <= p / q
    have e1 : (l * b) * q < (a * m) * q := Int.mul_lt_mul_of_pos_right f6 (by omega)
    have e2 : (a * q) * m ≤ (p * b) * m := Int.mul_le_mul_of_nonneg_right g1 (by omega)
    have e3 : (l * q) * b < (p * m) * b := by
      have i1 : (l * q) * b = (l * b) * q := by grind
      have i2 : (a * m) * q = (a * q) * m := by grind
      have i3 : (p * m) * b = (p * b) * m := by grind
      omega
    exact Int.lt_of_mul_lt_mul_right e3 (by omega)
  · -- p / q <= c / d < r / s
    have e1 : (c * s) * q < (r * d) * q := Int.mul_lt_mul_of_pos_right f7 (by omega)
    have e2 : (p * d) * s ≤ (c * q) * s := Int.mul_le_mul_of_nonneg_right g2 (by omega)
    have e3 : (p * s) * d < (r * q) * d := by
      have i1 : (p * s) * d = (p * d) * s := by grind
      have i2 : (c * q) * s = (c * s) * q := by grind
      have i3 : (r * q) * d = (r * d) * q := by grind
      omega
    exact Int.lt_of_mul_lt_mul_right e3 (by omega)

theorem Simplest_bad (a b c d : Int) (hS : ¬ Sp a b c d) (w : World) :
    Calls Try.prog 14 #[.agg #[.int .i64 a, .int .i64 b, .int .i64 c, .int .i64 d]] w fun e w' => e = .returned (.tuple #[.agg #[.int .i64 0, .int .i64 0], .int .i64 2]) ∧ Below w.heap.size w w' := by
  have H := Lib.hid (show (if Sp a b c d then (0:Int) else 2) = 2 from if_neg hS)
  clear hS
  go_enter Try.func14, Try.ntmps14
  go_wp2_with fail
  refine (CheckSpan_any _ _ _ _ _ H.out _).mono ?_
  rintro e w1 ⟨rfl, hb1⟩
  obtain ⟨hc1, hf1⟩ := bcell hb1
  have hz1_0 : w.heap.size < w1.heap.size := by have := hb1.size; (try simp at this); omega
  have hz1_1 : w.heap.size + 1 < w1.heap.size := by have := hb1.size; (try simp at this); omega
  go_wp2
  exact bodyPost_ret (v := .tuple #[.agg #[.int .i64 0, .int .i64 0], .int .i64 2]) (by simp [results, Try.results14, go_sem, hc1, hf1, hz1_0, hz1_1]) rfl ⟨rfl, (by repeat (first | exact Below.refl _ _ | (with_reducible refine Below.trans ?_ (hb1.mono (by first | omega | (simp; done) | (simp; omega)))) | (refine Below.alloc ?_ (by first | omega | (simp; done) | (simp; omega)) _) | (refine Below.setCell ?_ (by first | omega | (simp; done) | (simp; omega)) _) | refine Below.drew ?_))⟩

theorem Simplest_ok (a b c d : Int) (hS : Sp a b c d) (w : World) :
    Calls Try.prog 14 #[.agg #[.int .i64 a, .int .i64 b, .int .i64 c, .int .i64 d]] w fun e w' => (∃ x y : Int, e = .returned (.tuple #[.agg #[.int .i64 x, .int .i64 y], .int .i64 0]) ∧ Least a b c d x y) ∧ Below w.heap.size w w' := by
  have H := Lib.hid (show (if Sp a b c d then (0:Int) else 2) = 0 from if_pos hS)
  have HS := Lib.hid hS
  obtain ⟨⟨h1, h2, h3, h4, _⟩, ⟨k1, k2, k3, k4, _⟩, _⟩ := hS
  go_enter Try.func14, Try.ntmps14
  go_wp2_with fail
  refine (CheckSpan_any _ _ _ _ _ H.out _).mono ?_
  rintro e w1 ⟨rfl, hb1⟩
  obtain ⟨hc1, hf1⟩ := bcell hb1
  have hz1_0 : w.heap.size < w1.heap.size := by have := hb1.size; (try simp at this); omega
  have hz1_1 : w.heap.size + 1 < w1.heap.size := by have := hb1.size; (try simp at this); omega
  go_wp2_with fail
  refine (descend_any _ _ _ (sideV a b c d) a b _ _ (side_span a b c d HS.out _ _) (sd_span HS.out) (by omega) (by omega) _ ⟨Nat.le_refl _, Below.refl _ _⟩).mono ?_
  rintro e w2 ⟨⟨l, m, r, s, rfl, hN, n1, n2⟩, hb2⟩
  have hF := fnd_of HS.out hN n1 n2
  clear hN n1 n2
  obtain ⟨e1, e2⟩ := And.intro hF.num hF.den
  have e3 := hF.l0
  have e4 := hF.m1
  have e5 := hF.r1
  have e6 := hF.s0
  have HF := Lib.hid hF
  clear hF
  obtain ⟨hc2, hf2⟩ := bcell hb2
  have hz2_0 : w.heap.size < w2.heap.size := by have := hb2.size; omega
  have hz2_1 : w.heap.size + 1 < w2.heap.size := by have := hb2.size; omega
  go_wp2_with fail
  refine (middle_any _ _ _ _ (by omega) (by omega) (by omega) (by omega) (by omega) (by omega) (by omega) (by omega) _).mono ?_
  rintro e w3 ⟨rfl, hb3⟩
  obtain ⟨hc3, hf3⟩ := bcell hb3
  have hz3_0 : w.heap.size < w3.heap.size := by have := hb3.size; (try simp at this); omega
  have hz3_1 : w.heap.size + 1 < w3.heap.size := by have := hb3.size; (try simp at this); omega
  go_wp2
  exact bodyPost_ret (v := .tuple #[.agg #[.int .i64 (l + r), .int .i64 (m + s)], .int .i64 0]) (by simp [results, Try.results14, go_sem, hc1, hf1, hz1_0, hz1_1, hc2, hf2, hz2_0, hz2_1, hc3, hf3, hz3_0, hz3_1]) rfl ⟨⟨l + r, m + s, rfl, HF.out.least HS.out⟩, (by repeat (first | exact Below.refl _ _ | (with_reducible refine Below.trans ?_ (hb3.mono (by first | omega | (simp; done) | (simp; omega)))) | (with_reducible refine Below.trans ?_ (hb2.mono (by first | omega | (simp; done) | (simp; omega)))) | (with_reducible refine Below.trans ?_ (hb1.mono (by first | omega | (simp; done) | (simp; omega)))) | (refine Below.alloc ?_ (by first | omega | (simp; done) | (simp; omega)) _) | (refine Below.setCell ?_ (by first | omega | (simp; done) | (simp; omega)) _) | refine Below.drew ?_))⟩

theorem Proof_bad (a b c d : Int) (hS : ¬ Sp a b c d) (w : World) :
    Calls Try.prog 22 #[.agg #[.int .i64 a, .int .i64 b, .int .i64 c, .int .i64 d]] w fun e w' => e = .returned (.tuple #[.agg #[.int .i64 0, .int .i64 0, .int .i64 0, .int .i64 0], .int .i64 2]) ∧ Below w.heap.size w w' := by
  have H := Lib.hid (show (if Sp a b c d then (0:Int) else 2) = 2 from if_neg hS)
  clear hS
  go_enter Try.func22, Try.ntmps22
  go_wp2_with fail
  refine (CheckSpan_any _ _ _ _ _ H.out _).mono ?_
  rintro e w1 ⟨rfl, hb1⟩
  obtain ⟨hc1, hf1⟩ := bcell hb1
  have hz1_0 : w.heap.size < w1.heap.size := by have := hb1.size; (try simp at this); omega
  have hz1_1 : w.heap.size + 1 < w1.heap.size := by have := hb1.size; (try simp at this); omega
  go_wp2
  exact bodyPost_ret (v := .tuple #[.agg #[.int .i64 0, .int .i64 0, .int .i64 0, .int .i64 0], .int .i64 2]) (by simp [results, Try.results22, go_sem, hc1, hf1, hz1_0, hz1_1]) rfl ⟨rfl, (by repeat (first | exact Below.refl _ _ | (with_reducible refine Below.trans ?_ (hb1.mono (by first | omega | (simp; done) | (simp; omega)))) | (refine Below.alloc ?_ (by first | omega | (simp; done) | (simp; omega)) _) | (refine Below.setCell ?_ (by first | omega | (simp; done) | (simp; omega)) _) | refine Below.drew ?_))⟩

set_option maxHeartbeats 4000000 in
theorem Proof_ok (a b c d : Int) (hS : Sp a b c d) (w : World) :
    Calls Try.prog 22 #[.agg #[.int .i64 a, .int .i64 b, .int .i64 c, .int .i64 d]] w fun e w' => (∃ l m r s : Int, e = .returned (.tuple #[.agg #[.int .i64 l, .int .i64 m, .int .i64 r, .int .i64 s], .int .i64 0]) ∧ Fnd a b c d l m r s) ∧ Below w.heap.size w w' := by
  have H := Lib.hid (show (if Sp a b c d then (0:Int) else 2) = 0 from if_pos hS)
  have HS := Lib.hid hS
  obtain ⟨⟨h1, h2, h3, h4, _⟩, ⟨k1, k2, k3, k4, _⟩, _⟩ := hS
  go_enter Try.func22, Try.ntmps22
  go_wp2_with fail
  refine (CheckSpan_any _ _ _ _ _ H.out _).mono ?_
  rintro e w1 ⟨rfl, hb1⟩
  obtain ⟨hc1, hf1⟩ := bcell hb1
  have hz1_0 : w.heap.size < w1.heap.size := by have := hb1.size; (try simp at this); omega
  have hz1_1 : w.heap.size + 1 < w1.heap.size := by have := hb1.size; (try simp at this); omega
  go_wp2_with fail
  refine (descend_any _ _ _ (sideV a b c d) a b _ _ (side_span a b c d HS.out _ _) (sd_span HS.out) (by omega) (by omega) _ ⟨Nat.le_refl _, Below.refl _ _⟩).mono ?_
  rintro e w2 ⟨⟨l, m, r, s, rfl, hN, n1, n2⟩, hb2⟩
  have hF := fnd_of HS.out hN n1 n2
  clear hN n1 n2
  obtain ⟨e1, e2⟩ := And.intro hF.num hF.den
  have e3 := hF.l0
  have e4 := hF.m1
  have e5 := hF.r1
  have e6 := hF.s0
  have HF := Lib.hid hF
  clear hF
  obtain ⟨hc2, hf2⟩ := bcell hb2
  have hz2_0 : w.heap.size < w2.heap.size := by have := hb2.size; omega
  have hz2_1 : w.heap.size + 1 < w2.heap.size := by have := hb2.size; omega
  go_wp2_with fail
  go_region_with (first
    | (go_at_call 48; refine (left_any _ _ _ _ _).mono ?_; rintro e w3 ⟨rfl, hb3⟩; have hb3 := below_of_drew hb3; obtain ⟨hc3, hf3⟩ := bcell hb3; have hz3 : w2.heap.size < w3.heap.size := (by have := hb3.size; simp at this; omega); have hy3 : w.heap.size + 1 < w3.heap.size := (by omega))
    | (go_at_call 49; refine (right_any _ _ _ _ _).mono ?_; rintro e w4 ⟨rfl, hb4⟩; obtain ⟨hc4, hf4⟩ := bcell hb4; have hz4 : w.heap.size + 1 < w4.heap.size := (by have := hb4.size; omega)))
  all_goals go_wp2
  all_goals exact bodyPost_ret (v := .tuple #[.agg #[.int .i64 l, .int .i64 m, .int .i64 r, .int .i64 s], .int .i64 0]) (by simp [results, Try.results22, go_sem, hc1, hf1, hz1_0, hz1_1, hc2, hf2, hz2_0, hz2_1, hc3, hf3, hz3, hy3, hc4, hf4, hz4]) rfl ⟨⟨l, m, r, s, rfl, HF.out⟩, (by repeat (first | exact Below.refl _ _ | (with_reducible refine Below.trans ?_ (hb4.mono (by first | omega | (simp; done) | (simp; omega)))) | (with_reducible refine Below.trans ?_ (hb3.mono (by first | omega | (simp; done) | (simp; omega)))) | (with_reducible refine Below.trans ?_ (hb2.mono (by first | omega | (simp; done) | (simp; omega)))) | (with_reducible refine Below.trans ?_ (hb1.mono (by first | omega | (simp; done) | (simp; omega)))) | (refine Below.alloc ?_ (by first | omega | (simp; done) | (simp; omega)) _) | (refine Below.setCell ?_ (by first | omega | (simp; done) | (simp; omega)) _) | refine Below.drew ?_))⟩

end Go.Proofs.Ytbdjllgngblfoaa
