import Derived.Test.YtbdjllgngblfoaaUz2
import Derived.Deep.RegionHeld3
namespace Go.Proofs.Ytbdjllgngblfoaa
set_option linter.unusedVariables false
set_option linter.unusedSimpArgs false
open Go.RowKit

theorem sp_turn {a b c d : Int} (h : Sp a b c d) : Sp d c b a := by
  obtain ⟨h1, h2, h3⟩ := h
  exact ⟨fr_turn h2, fr_turn h1, by rw [Int.mul_comm d a, Int.mul_comm b c]; exact h3⟩
theorem least_turn {a b c d x y : Int} (h : Least a b c d x y) : Least d c b a y x := by
  refine ⟨fr_turn h.fr, ?_, ?_, fun p q hp hq h1 h2 => ?_⟩
  · rw [Int.mul_comm d x, Int.mul_comm y c]; exact h.hi
  · rw [Int.mul_comm y a, Int.mul_comm b x]; exact h.lo
  · have := h.min q p hq hp (by rw [Int.mul_comm a p, Int.mul_comm q b]; exact h2) (by rw [Int.mul_comm q d, Int.mul_comm c p]; exact h1)
    exact ⟨this.2, this.1⟩
theorem least_add {a b c d x y u v n : Int} (hS : Sp a b c d) (hn : 0 ≤ n) (h : Least a b c d x y) (k : Least (a + n * b) b (c + n * d) d u v) : u = x + n * y ∧ v = y := by
  obtain ⟨⟨a1, _, b1, _, _⟩, ⟨_, _, d1, _, _⟩, _⟩ := hS
  have kf := k.fr
  have hf := h.fr
  have k1 := k.lo
  have k2 := k.hi
  have e1 : (a + n * b) * v = a * v + b * (n * v) := by grind
  have e2 : u * b = (u - n * v) * b + b * (n * v) := by grind
  have e3 : u * d = (u - n * v) * d + d * (n * v) := by grind
  have e4 : (c + n * d) * v = c * v + d * (n * v) := by grind
  rw [e1, e2] at k1
  rw [e3, e4] at k2
  have g1 : a * v ≤ (u - n * v) * b := by omega
  have g2 : (u - n * v) * d ≤ c * v := by omega
  have av : 1 ≤ a * v := by
    have := Int.mul_le_mul a1 kf.2.2.1 (by omega) (by omega)
    omega
  have p1 : 1 ≤ u - n * v := by
    rcases Int.lt_or_le 0 (u - n * v) with h | h
    · omega
    · exfalso
      have := Int.mul_nonneg (show 0 ≤ -(u - n * v) by omega) (show 0 ≤ b by omega)
      have e : -(u - n * v) * b = -((u - n * v) * b) := Int.neg_mul _ _
      omega
  obtain ⟨m1, m2⟩ := h.min (u - n * v) v p1 kf.2.2.1 g1 g2
  have h1 := h.lo
  have h2 := h.hi
  have ny := Int.mul_nonneg hn (show 0 ≤ y by have := hf.2.2.1; omega)
  have f1 : (a + n * b) * y ≤ (x + n * y) * b := by
    have e1 : (a + n * b) * y = a * y + b * (n * y) := by grind
    have e2 : (x + n * y) * b = x * b + b * (n * y) := by grind
    omega
  have f2 : (x + n * y) * d ≤ (c + n * d) * y := by
    have e1 : (x + n * y) * d = x * d + d * (n * y) := by grind
    have e2 : (c + n * d) * y = c * y + d * (n * y) := by grind
    omega
  obtain ⟨q1, q2⟩ := k.min (x + n * y) y (by have := hf.1; omega) hf.2.2.1 f1 f2
  have hv : v = y := by omega
  subst hv
  exact ⟨by omega, rfl⟩

theorem keepS4 {k B : Nat} {W0 W w' : World} {v0 v1 v2 v3 : Option Value} (q : B < k)
    (h : Hold k W0 W ∧ W.cell? ⟨B, 0, none⟩ = v0 ∧ W.cell? ⟨B, 1, none⟩ = v1 ∧ W.cell? ⟨B, 2, none⟩ = v2 ∧ W.cell? ⟨B, 3, none⟩ = v3) (hb : Below W.heap.size W w') :
    Hold k W0 w' ∧ w'.cell? ⟨B, 0, none⟩ = v0 ∧ w'.cell? ⟨B, 1, none⟩ = v1 ∧ w'.cell? ⟨B, 2, none⟩ = v2 ∧ w'.cell? ⟨B, 3, none⟩ = v3 := by
  obtain ⟨hh, h0, h1, h2, h3⟩ := h
  have c : ∀ o, w'.cell? ⟨B, o, none⟩ = W.cell? ⟨B, o, none⟩ := fun o => hb.cell (Nat.lt_of_lt_of_le q hh.1)
  exact ⟨hh.next hb, (c _).trans h0, (c _).trans h1, (c _).trans h2, (c _).trans h3⟩
theorem hold_le {k : Nat} {W0 W : World} {Q : Prop} (h : Hold k W0 W ∧ Q) : k ≤ W.heap.size := h.1.1
theorem keepS4_re {k B : Nat} {W0 W : World} {o o' : Obj} {v0 v1 v2 v3 : Option Value} (q : B < k) (hk : k ≤ W.heap.size)
    (h : Hold k W0 (W.alloc o) ∧ (W.alloc o).cell? ⟨B, 0, none⟩ = v0 ∧ (W.alloc o).cell? ⟨B, 1, none⟩ = v1 ∧ (W.alloc o).cell? ⟨B, 2, none⟩ = v2 ∧ (W.alloc o).cell? ⟨B, 3, none⟩ = v3) :
    Hold k W0 (W.alloc o') ∧ (W.alloc o').cell? ⟨B, 0, none⟩ = v0 ∧ (W.alloc o').cell? ⟨B, 1, none⟩ = v1 ∧ (W.alloc o').cell? ⟨B, 2, none⟩ = v2 ∧ (W.alloc o').cell? ⟨B, 3, none⟩ = v3 := by
  obtain ⟨hh, h0, h1, h2, h3⟩ := h
  have hb : Below k (W.alloc o) (W.alloc o') := ⟨rfl, rfl, rfl, by simp, fun i hi => (Below.heap_alloc W o' i (by omega)).trans (Below.heap_alloc W o i (by omega)).symm⟩
  have c : ∀ j, (W.alloc o').cell? ⟨B, j, none⟩ = (W.alloc o).cell? ⟨B, j, none⟩ := fun j => hb.cell q
  exact ⟨⟨Nat.le_trans hh.1 hb.size, hh.2.trans hb⟩, (c _).trans h0, (c _).trans h1, (c _).trans h2, (c _).trans h3⟩
theorem keepS4_set {k B p : Nat} {W0 W : World} {v0 v1 v2 v3 : Option Value} {a b c d : Value} (q : B < k)
    (h : Hold k W0 W ∧ W.cell? ⟨B, 0, none⟩ = v0 ∧ W.cell? ⟨B, 1, none⟩ = v1 ∧ W.cell? ⟨B, 2, none⟩ = v2 ∧ W.cell? ⟨B, 3, none⟩ = v3) (hp : k ≤ p) :
    Hold k W0 ((((W.setCell ⟨p, 0, none⟩ a).setCell ⟨p, 1, none⟩ b).setCell ⟨p, 2, none⟩ c).setCell ⟨p, 3, none⟩ d) ∧ ((((W.setCell ⟨p, 0, none⟩ a).setCell ⟨p, 1, none⟩ b).setCell ⟨p, 2, none⟩ c).setCell ⟨p, 3, none⟩ d).cell? ⟨B, 0, none⟩ = v0 ∧ ((((W.setCell ⟨p, 0, none⟩ a).setCell ⟨p, 1, none⟩ b).setCell ⟨p, 2, none⟩ c).setCell ⟨p, 3, none⟩ d).cell? ⟨B, 1, none⟩ = v1 ∧ ((((W.setCell ⟨p, 0, none⟩ a).setCell ⟨p, 1, none⟩ b).setCell ⟨p, 2, none⟩ c).setCell ⟨p, 3, none⟩ d).cell? ⟨B, 2, none⟩ = v2 ∧ ((((W.setCell ⟨p, 0, none⟩ a).setCell ⟨p, 1, none⟩ b).setCell ⟨p, 2, none⟩ c).setCell ⟨p, 3, none⟩ d).cell? ⟨B, 3, none⟩ = v3 := by
  obtain ⟨hh, h0, h1, h2, h3⟩ := h
  have hb : Below k W ((((W.setCell ⟨p, 0, none⟩ a).setCell ⟨p, 1, none⟩ b).setCell ⟨p, 2, none⟩ c).setCell ⟨p, 3, none⟩ d) :=
    ((((Below.refl _ _).setCell hp _).setCell hp _).setCell hp _).setCell hp _
  have e : ∀ o, ((((W.setCell ⟨p, 0, none⟩ a).setCell ⟨p, 1, none⟩ b).setCell ⟨p, 2, none⟩ c).setCell ⟨p, 3, none⟩ d).cell? ⟨B, o, none⟩ = W.cell? ⟨B, o, none⟩ := fun o => hb.cell q
  exact ⟨⟨Nat.le_trans hh.1 hb.size, hh.2.trans hb⟩, (e _).trans h0, (e _).trans h1, (e _).trans h2, (e _).trans h3⟩
theorem keepT {k B C : Nat} {W0 W w' : World} {v0 v1 u0 u1 : Option Value} (q : B < k) (r : C < k)
    (h : Hold k W0 W ∧ W.cell? ⟨B, 0, none⟩ = v0 ∧ W.cell? ⟨B, 1, none⟩ = v1 ∧ W.cell? ⟨C, 0, none⟩ = u0 ∧ W.cell? ⟨C, 1, none⟩ = u1) (hb : Below W.heap.size W w') :
    Hold k W0 w' ∧ w'.cell? ⟨B, 0, none⟩ = v0 ∧ w'.cell? ⟨B, 1, none⟩ = v1 ∧ w'.cell? ⟨C, 0, none⟩ = u0 ∧ w'.cell? ⟨C, 1, none⟩ = u1 := by
  obtain ⟨hh, h0, h1, g0, g1⟩ := h
  have c : ∀ o, w'.cell? ⟨B, o, none⟩ = W.cell? ⟨B, o, none⟩ := fun o => hb.cell (Nat.lt_of_lt_of_le q hh.1)
  have e : ∀ o, w'.cell? ⟨C, o, none⟩ = W.cell? ⟨C, o, none⟩ := fun o => hb.cell (Nat.lt_of_lt_of_le r hh.1)
  exact ⟨hh.next hb, (c _).trans h0, (c _).trans h1, (e _).trans g0, (e _).trans g1⟩
theorem holdT {w W : World} {o : Obj} {Q : Prop} (h : Hold (w.heap.size + 1) (w.alloc o) W ∧ Q) : Below w.heap.size w W :=
  ((Below.refl _ _).alloc (Nat.le_refl _) o).trans (h.1.2.mono (Nat.le_succ _))

theorem nyb {n y : Int} (h0 : 0 ≤ n) (h1 : n < 65536) (h2 : 1 ≤ y) (h3 : y ≤ 1000000000) : 0 ≤ n * y ∧ n * y ≤ 65536000000000 := by
  have e1 := Int.mul_le_mul (show n ≤ 65536 by omega) h3 (by omega) (by omega)
  have e2 := Int.mul_nonneg h0 (show 0 ≤ y by omega)
  omega

theorem wr {z : Int} (h0 : 0 ≤ z) (h1 : z ≤ 9000000000000000000) : IntKind.i64.wrap z = z := by
  simp [IntKind.wrap, IntKind.bits, IntKind.signed]
  omega

set_option maxRecDepth 100000 in
set_option maxHeartbeats 8000000 in
theorem UTurned_any (a b c d n : Int) (m0 : 0 ≤ n) (m1 : n < 65536) (w : World) : Calls Try.prog 9 #[.agg #[.int .i64 a, .int .i64 b, .int .i64 c, .int .i64 d], .int .u16 n] w fun e w' => e = .returned (.bool true) ∧ Below w.heap.size w w' := by
  by_cases hS : Sp a b c d
  · have HD := Lib.hid (decide_eq_true hS)
    have HS := Lib.hid hS
    obtain ⟨⟨a1, a2, b1, b2, _⟩, ⟨c1, c2, d1, d2, _⟩, _⟩ := hS
    obtain ⟨k1, k2⟩ := nyb m0 m1 b1 b2
    obtain ⟨k5, k6⟩ := nyb m0 m1 d1 d2
    have hw1 := wr k1 (by omega)
    have hw2 := wr (show 0 ≤ a + n * b by omega) (by omega)
    have hw3 := wr k5 (by omega)
    have hw4 := wr (show 0 ≤ c + n * d by omega) (by omega)
    go_enter Try.func9, Try.ntmps9
    go_wp2_with fail
    refine (fine_any a b c d true HD.out _).mono ?_
    rintro e w1 ⟨rfl, hb1⟩
    have hx : Below w.heap.size w w1 := (((Below.refl _ _).alloc (Nat.le_refl _) _) : Below w.heap.size w (w.alloc (.cells #[.int .i64 a, .int .i64 b, .int .i64 c, .int .i64 d] 25))).trans (hb1.mono (by simp))
    have f1_0 : w1.cell? ⟨w.heap.size, 0, none⟩ = some (.int .i64 a) := (hb1.cell (p := ⟨w.heap.size, 0, none⟩) (by simp)).trans (by simp [go_sem])
    have f1_1 : w1.cell? ⟨w.heap.size, 1, none⟩ = some (.int .i64 b) := (hb1.cell (p := ⟨w.heap.size, 1, none⟩) (by simp)).trans (by simp [go_sem])
    have f1_2 : w1.cell? ⟨w.heap.size, 2, none⟩ = some (.int .i64 c) := (hb1.cell (p := ⟨w.heap.size, 2, none⟩) (by simp)).trans (by simp [go_sem])
    have f1_3 : w1.cell? ⟨w.heap.size, 3, none⟩ = some (.int .i64 d) := (hb1.cell (p := ⟨w.heap.size, 3, none⟩) (by simp)).trans (by simp [go_sem])
    have l1 : w.heap.size < w1.heap.size := by have := hb1.size; simp at this; omega
    have hbel : Below w.heap.size w w1 := hx
    clear hx
    clear hb1
    go_wp2_with fail
    refine (Simplest_ok a b c d HS.out _).mono ?_
    rintro e w2 ⟨⟨x, y, rfl, hL⟩, hb2⟩
    have HL := Lib.hid hL
    clear hL
    replace f1_0 : w2.cell? ⟨w.heap.size, 0, none⟩ = some (.int .i64 a) := (hb2.cell (p := ⟨w.heap.size, 0, none⟩) l1).trans f1_0
    replace f1_1 : w2.cell? ⟨w.heap.size, 1, none⟩ = some (.int .i64 b) := (hb2.cell (p := ⟨w.heap.size, 1, none⟩) l1).trans f1_1
    replace f1_2 : w2.cell? ⟨w.heap.size, 2, none⟩ = some (.int .i64 c) := (hb2.cell (p := ⟨w.heap.size, 2, none⟩) l1).trans f1_2
    replace f1_3 : w2.cell? ⟨w.heap.size, 3, none⟩ = some (.int .i64 d) := (hb2.cell (p := ⟨w.heap.size, 3, none⟩) l1).trans f1_3
    replace l1 : w.heap.size < w2.heap.size := Nat.lt_of_lt_of_le l1 hb2.size
    replace hbel : Below w.heap.size w w2 := hbel.trans (hb2.mono hbel.size)
    clear hb2
    go_wp2_with fail
    refine (Turned_any a b c d _).mono ?_
    rintro e w3 ⟨rfl, hb3⟩
    have hx : Below w2.heap.size w2 w3 := (((Below.refl _ _).alloc (Nat.le_refl _) _) : Below w2.heap.size w2 (w2.alloc (.cells #[.int .i64 x, .int .i64 y] 23))).trans (hb3.mono (by simp))
    have f2_0 : w3.cell? ⟨w2.heap.size, 0, none⟩ = some (.int .i64 x) := (hb3.cell (p := ⟨w2.heap.size, 0, none⟩) (by simp)).trans (by simp [go_sem])
    have f2_1 : w3.cell? ⟨w2.heap.size, 1, none⟩ = some (.int .i64 y) := (hb3.cell (p := ⟨w2.heap.size, 1, none⟩) (by simp)).trans (by simp [go_sem])
    have l2 : w2.heap.size < w3.heap.size := by have := hb3.size; simp at this; omega
    replace f1_0 : w3.cell? ⟨w.heap.size, 0, none⟩ = some (.int .i64 a) := (hx.cell (p := ⟨w.heap.size, 0, none⟩) l1).trans f1_0
    replace f1_1 : w3.cell? ⟨w.heap.size, 1, none⟩ = some (.int .i64 b) := (hx.cell (p := ⟨w.heap.size, 1, none⟩) l1).trans f1_1
    replace f1_2 : w3.cell? ⟨w.heap.size, 2, none⟩ = some (.int .i64 c) := (hx.cell (p := ⟨w.heap.size, 2, none⟩) l1).trans f1_2
    replace f1_3 : w3.cell? ⟨w.heap.size, 3, none⟩ = some (.int .i64 d) := (hx.cell (p := ⟨w.heap.size, 3, none⟩) l1).trans f1_3
    replace l1 : w.heap.size < w3.heap.size := Nat.lt_of_lt_of_le l1 hx.size
    replace hbel : Below w.heap.size w w3 := hbel.trans (hx.mono hbel.size)
    clear hx
    clear hb3
    go_wp2_with fail
    refine (simp_ex (sp_turn HS.out) (least_turn HL.out) _).mono ?_
    rintro e w4 ⟨rfl, hb4⟩
    replace f1_0 : w4.cell? ⟨w.heap.size, 0, none⟩ = some (.int .i64 a) := (hb4.cell (p := ⟨w.heap.size, 0, none⟩) l1).trans f1_0
    replace f1_1 : w4.cell? ⟨w.heap.size, 1, none⟩ = some (.int .i64 b) := (hb4.cell (p := ⟨w.heap.size, 1, none⟩) l1).trans f1_1
    replace f1_2 : w4.cell? ⟨w.heap.size, 2, none⟩ = some (.int .i64 c) := (hb4.cell (p := ⟨w.heap.size, 2, none⟩) l1).trans f1_2
    replace f1_3 : w4.cell? ⟨w.heap.size, 3, none⟩ = some (.int .i64 d) := (hb4.cell (p := ⟨w.heap.size, 3, none⟩) l1).trans f1_3
    replace f2_0 : w4.cell? ⟨w2.heap.size, 0, none⟩ = some (.int .i64 x) := (hb4.cell (p := ⟨w2.heap.size, 0, none⟩) l2).trans f2_0
    replace f2_1 : w4.cell? ⟨w2.heap.size, 1, none⟩ = some (.int .i64 y) := (hb4.cell (p := ⟨w2.heap.size, 1, none⟩) l2).trans f2_1
    replace l1 : w.heap.size < w4.heap.size := Nat.lt_of_lt_of_le l1 hb4.size
    replace l2 : w2.heap.size < w4.heap.size := Nat.lt_of_lt_of_le l2 hb4.size
    replace hbel : Below w.heap.size w w4 := hbel.trans (hb4.mono hbel.size)
    clear hb4
    go_wp2_with fail
    refine (IsFraction_any x y true (decide_eq_true HL.out.fr) _).mono ?_
    rintro e w5 ⟨rfl, hb5⟩
    have hx : Below w4.heap.size w4 w5 := (((Below.refl _ _).alloc (Nat.le_refl _) _) : Below w4.heap.size w4 (w4.alloc (.cells #[.int .i64 y, .int .i64 x] 23))).trans (hb5.mono (by simp))
    have f3_0 : w5.cell? ⟨w4.heap.size, 0, none⟩ = some (.int .i64 y) := (hb5.cell (p := ⟨w4.heap.size, 0, none⟩) (by simp)).trans (by simp [go_sem])
    have f3_1 : w5.cell? ⟨w4.heap.size, 1, none⟩ = some (.int .i64 x) := (hb5.cell (p := ⟨w4.heap.size, 1, none⟩) (by simp)).trans (by simp [go_sem])
    have l3 : w4.heap.size < w5.heap.size := by have := hb5.size; simp at this; omega
    replace f1_0 : w5.cell? ⟨w.heap.size, 0, none⟩ = some (.int .i64 a) := (hx.cell (p := ⟨w.heap.size, 0, none⟩) l1).trans f1_0
    replace f1_1 : w5.cell? ⟨w.heap.size, 1, none⟩ = some (.int .i64 b) := (hx.cell (p := ⟨w.heap.size, 1, none⟩) l1).trans f1_1
    replace f1_2 : w5.cell? ⟨w.heap.size, 2, none⟩ = some (.int .i64 c) := (hx.cell (p := ⟨w.heap.size, 2, none⟩) l1).trans f1_2
    replace f1_3 : w5.cell? ⟨w.heap.size, 3, none⟩ = some (.int .i64 d) := (hx.cell (p := ⟨w.heap.size, 3, none⟩) l1).trans f1_3
    replace f2_0 : w5.cell? ⟨w2.heap.size, 0, none⟩ = some (.int .i64 x) := (hx.cell (p := ⟨w2.heap.size, 0, none⟩) l2).trans f2_0
    replace f2_1 : w5.cell? ⟨w2.heap.size, 1, none⟩ = some (.int .i64 y) := (hx.cell (p := ⟨w2.heap.size, 1, none⟩) l2).trans f2_1
    replace l1 : w.heap.size < w5.heap.size := Nat.lt_of_lt_of_le l1 hx.size
    replace l2 : w2.heap.size < w5.heap.size := Nat.lt_of_lt_of_le l2 hx.size
    replace hbel : Below w.heap.size w w5 := hbel.trans (hx.mono hbel.size)
    clear hx
    clear hb5
    go_upto_region 8 with fail
    go_cut [10] (fun s0 wx => ∃ L : Nat, s0 = .pointer (some ⟨L, 0, none⟩) ∧ Hold w5.heap.size w5 wx ∧ w5.heap.size ≤ L ∧ L < wx.heap.size ∧ wx.cell? ⟨L, 0, none⟩ = some (.int .i64 (a + n * b)) ∧ wx.cell? ⟨L, 1, none⟩ = some (.int .i64 (b)) ∧ wx.cell? ⟨L, 2, none⟩ = some (.int .i64 (c + n * d)) ∧ wx.cell? ⟨L, 3, none⟩ = some (.int .i64 (d)))
    case first =>
      go_region_held3 (fun w' => Hold w5.heap.size w5 w' ∧ w'.cell? ⟨w.heap.size, 0, none⟩ = some (.int .i64 a) ∧ w'.cell? ⟨w.heap.size, 1, none⟩ = some (.int .i64 b) ∧ w'.cell? ⟨w.heap.size, 2, none⟩ = some (.int .i64 c) ∧ w'.cell? ⟨w.heap.size, 3, none⟩ = some (.int .i64 d)) (first | exact hsq | exact keepS4 l1 hsq (below_alloc _ _) | exact keepS4 l1 ⟨⟨Nat.le_refl _, Below.refl _ _⟩, f1_0, f1_1, f1_2, f1_3⟩ (Below.refl _ _).drew | exact keepS4 l1 (by assumption) (below_alloc _ _) | exact keepS4_set l1 hsq (by omega)) (first
        | (go_at_call 35; refine (of_any _ _ _).mono ?_; rintro e wq ⟨rfl, hbq⟩; have hsq := keepS4 l1 (by assumption) hbq; have hzq : w5.heap.size ≤ wq.heap.size := hold_le hsq; obtain ⟨hcq, hfq⟩ := bcell hbq; (try have hyq : w5.heap.size < wq.heap.size := (by have := hbq.size; (try simp at this); omega)); (try have hxq := hbq.size); (try simp at hxq)))
      all_goals go_wp2_with fail
      all_goals go_meet
      all_goals exact ⟨_, rfl, And.left (by assumption), by omega, by first | (simp; done) | (simp; omega), by simp [go_sem, *], by simp [go_sem, *], by simp [go_sem, *], by simp [go_sem, *]⟩
    case rest =>
      obtain ⟨L, rfl, hH, hL1, hL2, g0, g1, g2, g3⟩ := hcut
      rename World => wa
      have hx := hH.2
      replace f1_0 : wa.cell? ⟨w.heap.size, 0, none⟩ = some (.int .i64 a) := (hx.cell (p := ⟨w.heap.size, 0, none⟩) l1).trans f1_0
      replace f1_1 : wa.cell? ⟨w.heap.size, 1, none⟩ = some (.int .i64 b) := (hx.cell (p := ⟨w.heap.size, 1, none⟩) l1).trans f1_1
      replace f1_2 : wa.cell? ⟨w.heap.size, 2, none⟩ = some (.int .i64 c) := (hx.cell (p := ⟨w.heap.size, 2, none⟩) l1).trans f1_2
      replace f1_3 : wa.cell? ⟨w.heap.size, 3, none⟩ = some (.int .i64 d) := (hx.cell (p := ⟨w.heap.size, 3, none⟩) l1).trans f1_3
      replace f2_0 : wa.cell? ⟨w2.heap.size, 0, none⟩ = some (.int .i64 x) := (hx.cell (p := ⟨w2.heap.size, 0, none⟩) l2).trans f2_0
      replace f2_1 : wa.cell? ⟨w2.heap.size, 1, none⟩ = some (.int .i64 y) := (hx.cell (p := ⟨w2.heap.size, 1, none⟩) l2).trans f2_1
      replace f3_0 : wa.cell? ⟨w4.heap.size, 0, none⟩ = some (.int .i64 y) := (hx.cell (p := ⟨w4.heap.size, 0, none⟩) l3).trans f3_0
      replace f3_1 : wa.cell? ⟨w4.heap.size, 1, none⟩ = some (.int .i64 x) := (hx.cell (p := ⟨w4.heap.size, 1, none⟩) l3).trans f3_1
      replace l1 : w.heap.size < wa.heap.size := Nat.lt_of_lt_of_le l1 hx.size
      replace l2 : w2.heap.size < wa.heap.size := Nat.lt_of_lt_of_le l2 hx.size
      replace l3 : w4.heap.size < wa.heap.size := Nat.lt_of_lt_of_le l3 hx.size
      replace hbel : Below w.heap.size w wa := hbel.trans (hx.mono hbel.size)
      clear hx hH hL1
      by_cases hX : Sp (a + n * b) b (c + n * d) d
      · have HX := Lib.hid (decide_eq_true hX)
        have HXS := Lib.hid hX
        clear hX
        go_wp2_with fail
        refine (fine_any (a + n * b) b (c + n * d) d true HX.out _).mono ?_
        rintro e w6 ⟨rfl, hb6⟩
        replace f1_0 : w6.cell? ⟨w.heap.size, 0, none⟩ = some (.int .i64 a) := (hb6.cell (p := ⟨w.heap.size, 0, none⟩) l1).trans f1_0
        replace f1_1 : w6.cell? ⟨w.heap.size, 1, none⟩ = some (.int .i64 b) := (hb6.cell (p := ⟨w.heap.size, 1, none⟩) l1).trans f1_1
        replace f1_2 : w6.cell? ⟨w.heap.size, 2, none⟩ = some (.int .i64 c) := (hb6.cell (p := ⟨w.heap.size, 2, none⟩) l1).trans f1_2
        replace f1_3 : w6.cell? ⟨w.heap.size, 3, none⟩ = some (.int .i64 d) := (hb6.cell (p := ⟨w.heap.size, 3, none⟩) l1).trans f1_3
        replace f2_0 : w6.cell? ⟨w2.heap.size, 0, none⟩ = some (.int .i64 x) := (hb6.cell (p := ⟨w2.heap.size, 0, none⟩) l2).trans f2_0
        replace f2_1 : w6.cell? ⟨w2.heap.size, 1, none⟩ = some (.int .i64 y) := (hb6.cell (p := ⟨w2.heap.size, 1, none⟩) l2).trans f2_1
        replace f3_0 : w6.cell? ⟨w4.heap.size, 0, none⟩ = some (.int .i64 y) := (hb6.cell (p := ⟨w4.heap.size, 0, none⟩) l3).trans f3_0
        replace f3_1 : w6.cell? ⟨w4.heap.size, 1, none⟩ = some (.int .i64 x) := (hb6.cell (p := ⟨w4.heap.size, 1, none⟩) l3).trans f3_1
        replace g0 : w6.cell? ⟨L, 0, none⟩ = some (.int .i64 (a + n * b)) := (hb6.cell (p := ⟨L, 0, none⟩) hL2).trans g0
        replace g1 : w6.cell? ⟨L, 1, none⟩ = some (.int .i64 (b)) := (hb6.cell (p := ⟨L, 1, none⟩) hL2).trans g1
        replace g2 : w6.cell? ⟨L, 2, none⟩ = some (.int .i64 (c + n * d)) := (hb6.cell (p := ⟨L, 2, none⟩) hL2).trans g2
        replace g3 : w6.cell? ⟨L, 3, none⟩ = some (.int .i64 (d)) := (hb6.cell (p := ⟨L, 3, none⟩) hL2).trans g3
        replace l1 : w.heap.size < w6.heap.size := Nat.lt_of_lt_of_le l1 hb6.size
        replace l2 : w2.heap.size < w6.heap.size := Nat.lt_of_lt_of_le l2 hb6.size
        replace l3 : w4.heap.size < w6.heap.size := Nat.lt_of_lt_of_le l3 hb6.size
        replace hL2 : L < w6.heap.size := Nat.lt_of_lt_of_le hL2 hb6.size
        replace hbel : Below w.heap.size w w6 := hbel.trans (hb6.mono hbel.size)
        clear hb6
        go_wp2_with fail
        refine (Simplest_ok (a + n * b) b (c + n * d) d HXS.out _).mono ?_
        rintro e w7 ⟨⟨u, v, rfl, hM⟩, hb7⟩
        obtain ⟨eu, ev⟩ := least_add HS.out m0 HL.out hM
        clear hM
        subst eu
        obtain rfl := ev.symm
        replace f1_0 : w7.cell? ⟨w.heap.size, 0, none⟩ = some (.int .i64 a) := (hb7.cell (p := ⟨w.heap.size, 0, none⟩) l1).trans f1_0
        replace f1_1 : w7.cell? ⟨w.heap.size, 1, none⟩ = some (.int .i64 b) := (hb7.cell (p := ⟨w.heap.size, 1, none⟩) l1).trans f1_1
        replace f1_2 : w7.cell? ⟨w.heap.size, 2, none⟩ = some (.int .i64 c) := (hb7.cell (p := ⟨w.heap.size, 2, none⟩) l1).trans f1_2
        replace f1_3 : w7.cell? ⟨w.heap.size, 3, none⟩ = some (.int .i64 d) := (hb7.cell (p := ⟨w.heap.size, 3, none⟩) l1).trans f1_3
        replace f2_0 : w7.cell? ⟨w2.heap.size, 0, none⟩ = some (.int .i64 x) := (hb7.cell (p := ⟨w2.heap.size, 0, none⟩) l2).trans f2_0
        replace f2_1 : w7.cell? ⟨w2.heap.size, 1, none⟩ = some (.int .i64 y) := (hb7.cell (p := ⟨w2.heap.size, 1, none⟩) l2).trans f2_1
        replace f3_0 : w7.cell? ⟨w4.heap.size, 0, none⟩ = some (.int .i64 y) := (hb7.cell (p := ⟨w4.heap.size, 0, none⟩) l3).trans f3_0
        replace f3_1 : w7.cell? ⟨w4.heap.size, 1, none⟩ = some (.int .i64 x) := (hb7.cell (p := ⟨w4.heap.size, 1, none⟩) l3).trans f3_1
        replace g0 : w7.cell? ⟨L, 0, none⟩ = some (.int .i64 (a + n * b)) := (hb7.cell (p := ⟨L, 0, none⟩) hL2).trans g0
        replace g1 : w7.cell? ⟨L, 1, none⟩ = some (.int .i64 (b)) := (hb7.cell (p := ⟨L, 1, none⟩) hL2).trans g1
        replace g2 : w7.cell? ⟨L, 2, none⟩ = some (.int .i64 (c + n * d)) := (hb7.cell (p := ⟨L, 2, none⟩) hL2).trans g2
        replace g3 : w7.cell? ⟨L, 3, none⟩ = some (.int .i64 (d)) := (hb7.cell (p := ⟨L, 3, none⟩) hL2).trans g3
        replace l1 : w.heap.size < w7.heap.size := Nat.lt_of_lt_of_le l1 hb7.size
        replace l2 : w2.heap.size < w7.heap.size := Nat.lt_of_lt_of_le l2 hb7.size
        replace l3 : w4.heap.size < w7.heap.size := Nat.lt_of_lt_of_le l3 hb7.size
        replace hL2 : L < w7.heap.size := Nat.lt_of_lt_of_le hL2 hb7.size
        replace hbel : Below w.heap.size w w7 := hbel.trans (hb7.mono hbel.size)
        clear hb7
        have fy := HL.out.fr
        obtain ⟨fx1, fx2, fy1, fy2, _⟩ := fy
        obtain ⟨k3, k4⟩ := nyb m0 m1 fy1 fy2
        have hw5 := wr k3 (by omega)
        have hw6 := wr (show 0 ≤ x + n * y by omega) (by omega)
        go_wp2_with fail
        go_region_held3 (fun w' => Hold (w7.heap.size + 1) (w7.alloc (.cells #[.int .i64 (x + n * y), .int .i64 y] 23)) w' ∧ w'.cell? ⟨w2.heap.size, 0, none⟩ = some (.int .i64 x) ∧ w'.cell? ⟨w2.heap.size, 1, none⟩ = some (.int .i64 y) ∧ w'.cell? ⟨w7.heap.size, 0, none⟩ = some (.int .i64 (x + n * y)) ∧ w'.cell? ⟨w7.heap.size, 1, none⟩ = some (.int .i64 y)) (first | exact keepT (Nat.lt_succ_of_lt l2) (Nat.lt_succ_self _) (by assumption) hbq | exact keepT (Nat.lt_succ_of_lt l2) (Nat.lt_succ_self _) ⟨⟨by simp, Below.refl _ _⟩, ((below_alloc w7 _).cell (p := ⟨w2.heap.size, 0, none⟩) l2).trans f2_0, ((below_alloc w7 _).cell (p := ⟨w2.heap.size, 1, none⟩) l2).trans f2_1, by simp [go_sem], by simp [go_sem]⟩ (Below.refl _ _).drew) (first
          | (go_at_call 35; refine (of_any _ _ _).mono ?_; rintro e wq ⟨rfl, hbq⟩)
          | (go_at_call 16; refine (Works_any _).mono ?_; rintro e wq ⟨rfl, hbq⟩))
        all_goals go_wp2_with fail
        all_goals go_ret
        all_goals exact ⟨rfl, hbel.trans ((holdT (by assumption)).mono hbel.size)⟩
      · have HX := Lib.hid (decide_eq_false hX)
        clear hX
        go_wp2_with fail
        refine (fine_any (a + n * b) b (c + n * d) d false HX.out _).mono ?_
        rintro e w6 ⟨rfl, hb6⟩
        replace f1_0 : w6.cell? ⟨w.heap.size, 0, none⟩ = some (.int .i64 a) := (hb6.cell (p := ⟨w.heap.size, 0, none⟩) l1).trans f1_0
        replace f1_1 : w6.cell? ⟨w.heap.size, 1, none⟩ = some (.int .i64 b) := (hb6.cell (p := ⟨w.heap.size, 1, none⟩) l1).trans f1_1
        replace f1_2 : w6.cell? ⟨w.heap.size, 2, none⟩ = some (.int .i64 c) := (hb6.cell (p := ⟨w.heap.size, 2, none⟩) l1).trans f1_2
        replace f1_3 : w6.cell? ⟨w.heap.size, 3, none⟩ = some (.int .i64 d) := (hb6.cell (p := ⟨w.heap.size, 3, none⟩) l1).trans f1_3
        replace f2_0 : w6.cell? ⟨w2.heap.size, 0, none⟩ = some (.int .i64 x) := (hb6.cell (p := ⟨w2.heap.size, 0, none⟩) l2).trans f2_0
        replace f2_1 : w6.cell? ⟨w2.heap.size, 1, none⟩ = some (.int .i64 y) := (hb6.cell (p := ⟨w2.heap.size, 1, none⟩) l2).trans f2_1
        replace f3_0 : w6.cell? ⟨w4.heap.size, 0, none⟩ = some (.int .i64 y) := (hb6.cell (p := ⟨w4.heap.size, 0, none⟩) l3).trans f3_0
        replace f3_1 : w6.cell? ⟨w4.heap.size, 1, none⟩ = some (.int .i64 x) := (hb6.cell (p := ⟨w4.heap.size, 1, none⟩) l3).trans f3_1
        replace g0 : w6.cell? ⟨L, 0, none⟩ = some (.int .i64 (a + n * b)) := (hb6.cell (p := ⟨L, 0, none⟩) hL2).trans g0
        replace g1 : w6.cell? ⟨L, 1, none⟩ = some (.int .i64 (b)) := (hb6.cell (p := ⟨L, 1, none⟩) hL2).trans g1
        replace g2 : w6.cell? ⟨L, 2, none⟩ = some (.int .i64 (c + n * d)) := (hb6.cell (p := ⟨L, 2, none⟩) hL2).trans g2
        replace g3 : w6.cell? ⟨L, 3, none⟩ = some (.int .i64 (d)) := (hb6.cell (p := ⟨L, 3, none⟩) hL2).trans g3
        replace l1 : w.heap.size < w6.heap.size := Nat.lt_of_lt_of_le l1 hb6.size
        replace l2 : w2.heap.size < w6.heap.size := Nat.lt_of_lt_of_le l2 hb6.size
        replace l3 : w4.heap.size < w6.heap.size := Nat.lt_of_lt_of_le l3 hb6.size
        replace hL2 : L < w6.heap.size := Nat.lt_of_lt_of_le hL2 hb6.size
        replace hbel : Below w.heap.size w w6 := hbel.trans (hb6.mono hbel.size)
        clear hb6
        go_wp2_with fail
        refine (Works_any _).mono ?_
        rintro e w7 ⟨rfl, hb7⟩
        replace f1_0 : w7.cell? ⟨w.heap.size, 0, none⟩ = some (.int .i64 a) := (hb7.cell (p := ⟨w.heap.size, 0, none⟩) l1).trans f1_0
        replace f1_1 : w7.cell? ⟨w.heap.size, 1, none⟩ = some (.int .i64 b) := (hb7.cell (p := ⟨w.heap.size, 1, none⟩) l1).trans f1_1
        replace f1_2 : w7.cell? ⟨w.heap.size, 2, none⟩ = some (.int .i64 c) := (hb7.cell (p := ⟨w.heap.size, 2, none⟩) l1).trans f1_2
        replace f1_3 : w7.cell? ⟨w.heap.size, 3, none⟩ = some (.int .i64 d) := (hb7.cell (p := ⟨w.heap.size, 3, none⟩) l1).trans f1_3
        replace f2_0 : w7.cell? ⟨w2.heap.size, 0, none⟩ = some (.int .i64 x) := (hb7.cell (p := ⟨w2.heap.size, 0, none⟩) l2).trans f2_0
        replace f2_1 : w7.cell? ⟨w2.heap.size, 1, none⟩ = some (.int .i64 y) := (hb7.cell (p := ⟨w2.heap.size, 1, none⟩) l2).trans f2_1
        replace f3_0 : w7.cell? ⟨w4.heap.size, 0, none⟩ = some (.int .i64 y) := (hb7.cell (p := ⟨w4.heap.size, 0, none⟩) l3).trans f3_0
        replace f3_1 : w7.cell? ⟨w4.heap.size, 1, none⟩ = some (.int .i64 x) := (hb7.cell (p := ⟨w4.heap.size, 1, none⟩) l3).trans f3_1
        replace g0 : w7.cell? ⟨L, 0, none⟩ = some (.int .i64 (a + n * b)) := (hb7.cell (p := ⟨L, 0, none⟩) hL2).trans g0
        replace g1 : w7.cell? ⟨L, 1, none⟩ = some (.int .i64 (b)) := (hb7.cell (p := ⟨L, 1, none⟩) hL2).trans g1
        replace g2 : w7.cell? ⟨L, 2, none⟩ = some (.int .i64 (c + n * d)) := (hb7.cell (p := ⟨L, 2, none⟩) hL2).trans g2
        replace g3 : w7.cell? ⟨L, 3, none⟩ = some (.int .i64 (d)) := (hb7.cell (p := ⟨L, 3, none⟩) hL2).trans g3
        replace l1 : w.heap.size < w7.heap.size := Nat.lt_of_lt_of_le l1 hb7.size
        replace l2 : w2.heap.size < w7.heap.size := Nat.lt_of_lt_of_le l2 hb7.size
        replace l3 : w4.heap.size < w7.heap.size := Nat.lt_of_lt_of_le l3 hb7.size
        replace hL2 : L < w7.heap.size := Nat.lt_of_lt_of_le hL2 hb7.size
        replace hbel : Below w.heap.size w w7 := hbel.trans (hb7.mono hbel.size)
        clear hb7
        go_wp2_with fail
        go_ret
        exact ⟨rfl, hbel⟩
  · have HD := Lib.hid (decide_eq_false hS)
    clear hS
    go_enter Try.func9, Try.ntmps9
    go_wp2_with fail
    refine (fine_any a b c d false HD.out _).mono ?_
    rintro e w1 ⟨rfl, hb1⟩
    have hx : Below w.heap.size w w1 := (((Below.refl _ _).alloc (Nat.le_refl _) _) : Below w.heap.size w (w.alloc (.cells #[.int .i64 a, .int .i64 b, .int .i64 c, .int .i64 d] 25))).trans (hb1.mono (by simp))
    have f1_0 : w1.cell? ⟨w.heap.size, 0, none⟩ = some (.int .i64 a) := (hb1.cell (p := ⟨w.heap.size, 0, none⟩) (by simp)).trans (by simp [go_sem])
    have f1_1 : w1.cell? ⟨w.heap.size, 1, none⟩ = some (.int .i64 b) := (hb1.cell (p := ⟨w.heap.size, 1, none⟩) (by simp)).trans (by simp [go_sem])
    have f1_2 : w1.cell? ⟨w.heap.size, 2, none⟩ = some (.int .i64 c) := (hb1.cell (p := ⟨w.heap.size, 2, none⟩) (by simp)).trans (by simp [go_sem])
    have f1_3 : w1.cell? ⟨w.heap.size, 3, none⟩ = some (.int .i64 d) := (hb1.cell (p := ⟨w.heap.size, 3, none⟩) (by simp)).trans (by simp [go_sem])
    have l1 : w.heap.size < w1.heap.size := by have := hb1.size; simp at this; omega
    have hbel : Below w.heap.size w w1 := hx
    clear hx
    clear hb1
    go_wp2_with fail
    refine (Works_any _).mono ?_
    rintro e w2 ⟨rfl, hb2⟩
    replace f1_0 : w2.cell? ⟨w.heap.size, 0, none⟩ = some (.int .i64 a) := (hb2.cell (p := ⟨w.heap.size, 0, none⟩) l1).trans f1_0
    replace f1_1 : w2.cell? ⟨w.heap.size, 1, none⟩ = some (.int .i64 b) := (hb2.cell (p := ⟨w.heap.size, 1, none⟩) l1).trans f1_1
    replace f1_2 : w2.cell? ⟨w.heap.size, 2, none⟩ = some (.int .i64 c) := (hb2.cell (p := ⟨w.heap.size, 2, none⟩) l1).trans f1_2
    replace f1_3 : w2.cell? ⟨w.heap.size, 3, none⟩ = some (.int .i64 d) := (hb2.cell (p := ⟨w.heap.size, 3, none⟩) l1).trans f1_3
    replace l1 : w.heap.size < w2.heap.size := Nat.lt_of_lt_of_le l1 hb2.size
    replace hbel : Below w.heap.size w w2 := hbel.trans (hb2.mono hbel.size)
    clear hb2
    go_wp2_with fail
    go_ret
    exact ⟨rfl, hbel⟩
end Go.Proofs.Ytbdjllgngblfoaa
