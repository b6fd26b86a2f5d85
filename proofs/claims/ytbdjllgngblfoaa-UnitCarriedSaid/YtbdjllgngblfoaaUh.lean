import Derived.Test.YtbdjllgngblfoaaUg
import Derived.Deep.LoopGhost
import Derived.WalkMore
namespace Go.Proofs.Ytbdjllgngblfoaa
set_option linter.unusedVariables false
set_option linter.unusedSimpArgs false
open Go.RowKit

/-- Where a search has come to: two neighbours, the left one low or 0 / 1, the right one high or 1 / 0, and p / q between. -/
structure Nb (sd : Int → Int → Int) (p q a b c d : Int) : Prop where
  det : b * c - a * d = 1
  a0 : 0 ≤ a
  b1 : 1 ≤ b
  c1 : 1 ≤ c
  d0 : 0 ≤ d
  left : a * q < p * b
  right : p * d < c * q
  low : (a = 0 ∧ b = 1) ∨ sd a b = -1
  high : (c = 1 ∧ d = 0) ∨ sd c d = 1

/-- What is asked of the sides: p / q is above all that are low and below all that are high. -/
structure Sd (sd : Int → Int → Int) (p q : Int) : Prop where
  p1 : 1 ≤ p
  q1 : 1 ≤ q
  low : ∀ x y, 0 ≤ x → 1 ≤ y → sd x y = -1 → x * q < p * y
  high : ∀ x y, 1 ≤ x → 0 ≤ y → sd x y = 1 → p * y < x * q

theorem Nb.le {sd : Int → Int → Int} {p q a b c d : Int} (h : Nb sd p q a b c d) : a + c ≤ p ∧ b + d ≤ q := between h.det h.a0 h.b1 h.c1 h.d0 h.left h.right

theorem Nb.start {sd : Int → Int → Int} {p q : Int} (h : Sd sd p q) : Nb sd p q 0 1 1 0 :=
  ⟨by omega, by omega, by omega, by omega, by omega, by have := h.p1; omega, by have := h.q1; omega, .inl ⟨rfl, rfl⟩, .inl ⟨rfl, rfl⟩⟩

theorem Nb.nn {sd : Int → Int → Int} {p q a b c d n : Int} (h : Nb sd p q a b c d) (hn : 1 ≤ n) : c ≤ n * c ∧ n ≤ n * c ∧ 0 ≤ n * d ∧ b ≤ n * b ∧ n ≤ n * b ∧ 0 ≤ n * a := by
  have h1 : 1 * c ≤ n * c := Int.mul_le_mul_of_nonneg_right hn (by have := h.c1; omega)
  have h2 : n * 1 ≤ n * c := Int.mul_le_mul_of_nonneg_left h.c1 (by omega)
  have h3 : 1 * b ≤ n * b := Int.mul_le_mul_of_nonneg_right hn (by have := h.b1; omega)
  have h4 : n * 1 ≤ n * b := Int.mul_le_mul_of_nonneg_left h.b1 (by omega)
  have h5 := @mul_nn n d (by omega) h.d0
  have h6 := @mul_nn n a (by omega) h.a0
  omega

theorem Nb.up {sd : Int → Int → Int} {p q a b c d n : Int} (h : Nb sd p q a b c d) (hs : Sd sd p q) (hn : 1 ≤ n) (hl : sd (a + n * c) (b + n * d) = -1) : Nb sd p q (a + n * c) (b + n * d) c d := by
  obtain ⟨k1, k2, k3, k4, k5, k6⟩ := h.nn hn
  have ha := h.a0
  have hb := h.b1
  have hc := h.c1
  exact ⟨by have := h.det; grind, by omega, by omega, h.c1, h.d0, hs.low _ _ (by omega) (by omega) hl, h.right, .inr hl, h.high⟩

theorem Nb.down {sd : Int → Int → Int} {p q a b c d n : Int} (h : Nb sd p q a b c d) (hs : Sd sd p q) (hn : 1 ≤ n) (hl : sd (c + n * a) (d + n * b) = 1) : Nb sd p q a b (c + n * a) (d + n * b) := by
  obtain ⟨k1, k2, k3, k4, k5, k6⟩ := h.nn hn
  have ha := h.d0
  have hb := h.b1
  have hc := h.c1
  exact ⟨by have := h.det; grind, h.a0, h.b1, by omega, by omega, h.left, hs.high _ _ (by omega) (by omega) hl, h.low, .inr hl⟩

theorem mostUp (f : Nat) (fb fc : Array Value) (sd : Int → Int → Int) (p q : Int) (B0 : Nat) (w0 : World) (hs : Side f fb fc sd (2 * p) (2 * q) B0 w0) (hsd : Sd sd p q) (hp : p ≤ 2000000000000) (hq : q ≤ 2000000000000) (B1 B2 : Nat) (a b c d : Int) (hN : Nb sd p q a b c d) (hm : sd (a + c) (b + d) = -1) (w : World) (hH : Hold B0 w0 w)
    (h0 : w.cell? ⟨B1, 0, none⟩ = some (.func (.func f) fb fc)) (h1 : w.cell? ⟨B2, 0, none⟩ = some (.int .i64 a)) (h2 : w.cell? ⟨B2, 1, none⟩ = some (.int .i64 b)) (h3 : w.cell? ⟨B2, 2, none⟩ = some (.int .i64 c)) (h4 : w.cell? ⟨B2, 3, none⟩ = some (.int .i64 d)) :
    Calls Try.prog 63 #[.func (.func 64) #[] #[.pointer (some ⟨B1, 0, none⟩), .pointer (some ⟨B2, 0, none⟩)]] w fun e w' => (∃ n : Int, e = .returned (.int .i64 n) ∧ 1 ≤ n ∧ sd (a + n * c) (b + n * d) = -1) ∧ Below w.heap.size w w' := by
  have hle := hN.le
  have q1 : B1 < w.heap.size := lt_of_cell h0
  have q2 : B2 < w.heap.size := lt_of_cell h1
  refine (most_any 64 _ _ (fun n => decide (sd (a + n * c) (b + n * d) = -1)) (p + q) (by have := hsd.p1; have := hsd.q1; omega) (by omega) w (fun x W => by go_simp) ?_ ?_ ?_).mono ?_
  · intro x m W hx hm1 hxm hB hb
    have hB' := of_decide_eq_true hB
    obtain ⟨e1, e2⟩ := (hN.up hsd hm1 hB').le
    obtain ⟨k1, k2, k3, k4, k5, k6⟩ := hN.nn hm1
    obtain ⟨l1, l2, l3, l4, l5, l6⟩ := hN.nn hx
    have m1 : x * c ≤ (2 * m) * c := Int.mul_le_mul_of_nonneg_right hxm (by have := hN.a0; have := hN.c1; omega)
    have m2 : x * d ≤ (2 * m) * d := Int.mul_le_mul_of_nonneg_right hxm (by have := hN.b1; have := hN.d0; omega)
    rw [Int.mul_assoc] at m1 m2
    have ha := hN.a0
    have hb1 := hN.b1
    have hc := hN.c1
    have hd := hN.d0
    exact d1_any f fb fc sd (2 * p) (2 * q) B0 w0 hs (by omega) (by omega) B1 B2 a b c d x _ rfl ha (by omega) (by omega) hd (by omega) (by omega) (by omega) (by omega) (by omega) (by omega) (by omega) (by omega) W ⟨Nat.le_trans hH.1 hb.size, hH.2.trans (hb.mono hH.1)⟩
      ((hb.cell q1).trans h0) ((hb.cell q2).trans h1) ((hb.cell q2).trans h2) ((hb.cell q2).trans h3) ((hb.cell q2).trans h4)
  · have : sd (a + 1 * c) (b + 1 * d) = -1 := by rw [show a + 1 * c = a + c by omega, show b + 1 * d = b + d by omega, hm]
    exact decide_eq_true this
  · intro m hm1 hB
    obtain ⟨e1, e2⟩ := (hN.up hsd hm1 (of_decide_eq_true hB)).le
    obtain ⟨k1, k2, k3, k4, k5, k6⟩ := hN.nn hm1
    have ha := hN.a0
    have hb1 := hN.b1
    have hc := hN.c1
    have hd := hN.d0
    omega
  · rintro e w' ⟨⟨n, rfl, hn1, hn2, hn3⟩, hb⟩
    exact ⟨⟨n, rfl, hn1, of_decide_eq_true hn3⟩, hb⟩

theorem mostDown (f : Nat) (fb fc : Array Value) (sd : Int → Int → Int) (p q : Int) (B0 : Nat) (w0 : World) (hs : Side f fb fc sd (2 * p) (2 * q) B0 w0) (hsd : Sd sd p q) (hp : p ≤ 2000000000000) (hq : q ≤ 2000000000000) (B1 B2 : Nat) (a b c d : Int) (hN : Nb sd p q a b c d) (hm : sd (a + c) (b + d) = 1) (w : World) (hH : Hold B0 w0 w)
    (h0 : w.cell? ⟨B1, 0, none⟩ = some (.func (.func f) fb fc)) (h1 : w.cell? ⟨B2, 0, none⟩ = some (.int .i64 a)) (h2 : w.cell? ⟨B2, 1, none⟩ = some (.int .i64 b)) (h3 : w.cell? ⟨B2, 2, none⟩ = some (.int .i64 c)) (h4 : w.cell? ⟨B2, 3, none⟩ = some (.int .i64 d)) :
    Calls Try.prog 63 #[.func (.func 66) #[] #[.pointer (some ⟨B1, 0, none⟩), .pointer (some ⟨B2, 0, none⟩)]] w fun e w' => (∃ n : Int, e = .returned (.int .i64 n) ∧ 1 ≤ n ∧ sd (c + n * a) (d + n * b) = 1) ∧ Below w.heap.size w w' := by
  have hle := hN.le
  have q1 : B1 < w.heap.size := lt_of_cell h0
  have q2 : B2 < w.heap.size := lt_of_cell h1
  refine (most_any 66 _ _ (fun n => decide (sd (c + n * a) (d + n * b) = 1)) (p + q) (by have := hsd.p1; have := hsd.q1; omega) (by omega) w (fun x W => by go_simp) ?_ ?_ ?_).mono ?_
  · intro x m W hx hm1 hxm hB hb
    have hB' := of_decide_eq_true hB
    obtain ⟨e1, e2⟩ := (hN.down hsd hm1 hB').le
    obtain ⟨k1, k2, k3, k4, k5, k6⟩ := hN.nn hm1
    obtain ⟨l1, l2, l3, l4, l5, l6⟩ := hN.nn hx
    have m1 : x * a ≤ (2 * m) * a := Int.mul_le_mul_of_nonneg_right hxm (by have := hN.a0; have := hN.c1; omega)
    have m2 : x * b ≤ (2 * m) * b := Int.mul_le_mul_of_nonneg_right hxm (by have := hN.b1; have := hN.d0; omega)
    rw [Int.mul_assoc] at m1 m2
    have ha := hN.a0
    have hb1 := hN.b1
    have hc := hN.c1
    have hd := hN.d0
    exact d2_any f fb fc sd (2 * p) (2 * q) B0 w0 hs (by omega) (by omega) B1 B2 a b c d x _ rfl ha (by omega) (by omega) hd (by omega) (by omega) (by omega) (by omega) (by omega) (by omega) (by omega) (by omega) W ⟨Nat.le_trans hH.1 hb.size, hH.2.trans (hb.mono hH.1)⟩
      ((hb.cell q1).trans h0) ((hb.cell q2).trans h1) ((hb.cell q2).trans h2) ((hb.cell q2).trans h3) ((hb.cell q2).trans h4)
  · have : sd (c + 1 * a) (d + 1 * b) = 1 := by rw [show c + 1 * a = a + c by omega, show d + 1 * b = b + d by omega, hm]
    exact decide_eq_true this
  · intro m hm1 hB
    obtain ⟨e1, e2⟩ := (hN.down hsd hm1 (of_decide_eq_true hB)).le
    obtain ⟨k1, k2, k3, k4, k5, k6⟩ := hN.nn hm1
    have ha := hN.a0
    have hb1 := hN.b1
    have hc := hN.c1
    have hd := hN.d0
    omega
  · rintro e w' ⟨⟨n, rfl, hn1, hn2, hn3⟩, hb⟩
    exact ⟨⟨n, rfl, hn1, of_decide_eq_true hn3⟩, hb⟩

end Go.Proofs.Ytbdjllgngblfoaa
