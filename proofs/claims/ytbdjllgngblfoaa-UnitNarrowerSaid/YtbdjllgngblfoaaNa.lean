import Derived.Test.YtbdjllgngblfoaaUz2
namespace Go.Proofs.Ytbdjllgngblfoaa
set_option linter.unusedVariables false
set_option linter.unusedSimpArgs false
open Go.RowKit

theorem le_trans_frac {a b c d x y : Int} (hb : 1 ≤ b) (hd : 1 ≤ d) (hy : 1 ≤ y) (h1 : a * d ≤ c * b) (h2 : c * y ≤ x * d) : a * y ≤ x * b := by
  rcases Int.lt_or_le (x * b) (a * y) with h | h
  · exfalso
    have e1 := Int.mul_le_mul_of_nonneg_right h1 (show 0 ≤ y by omega)
    have e2 := Int.mul_le_mul_of_nonneg_right h2 (show 0 ≤ b by omega)
    have e3 := Int.mul_lt_mul_of_pos_left h (show 0 < d by omega)
    have e4 : a * d * y = d * (a * y) := by grind
    have e5 : c * b * y = c * y * b := by grind
    have e6 : x * d * b = d * (x * b) := by grind
    omega
  · exact h

/-- A span within another has no simpler fraction. -/
theorem narrow_le {a b c d e f g h x y x' y' : Int} (hS : Sp a b c d) (hT : Sp e f g h) (i1 : a * f ≤ e * b) (i2 : g * d ≤ c * h) (hL : Least a b c d x y) (hM : Least e f g h x' y') : x ≤ x' ∧ y ≤ y' := by
  obtain ⟨⟨_, _, b3, _, _⟩, ⟨_, _, d3, _, _⟩, _⟩ := hS
  obtain ⟨⟨_, _, f3, _, _⟩, ⟨_, _, h3, _, _⟩, _⟩ := hT
  have m := hM.fr
  refine hL.min x' y' m.1 m.2.2.1 (le_trans_frac b3 f3 m.2.2.1 i1 hM.lo) ?_
  have := le_trans_frac (a := x') (b := y') (c := g) (d := h) (x := c) (y := d) m.2.2.1 h3 d3 hM.hi i2
  exact this

set_option maxRecDepth 100000 in
set_option maxHeartbeats 8000000 in
theorem Narrower_any (a b c d e f g h : Int) (w : World) : Calls Try.prog 10 #[.agg #[.int .i64 a, .int .i64 b, .int .i64 c, .int .i64 d], .agg #[.int .i64 e, .int .i64 f, .int .i64 g, .int .i64 h]] w fun e w' => e = .returned (.bool true) ∧ Below w.heap.size w w' := by
  by_cases hS : Sp a b c d
  · have HD := Lib.hid (decide_eq_true hS)
    have HS := Lib.hid hS
    have HBS : Hid (0 ≤ a ∧ a ≤ 1000000000 ∧ 0 ≤ b ∧ b ≤ 1000000000 ∧ 0 ≤ c ∧ c ≤ 1000000000 ∧ 0 ≤ d ∧ d ≤ 1000000000) := Lib.hid (by obtain ⟨⟨_, _, _, _, _⟩, ⟨_, _, _, _, _⟩, _⟩ := hS; omega)
    clear hS
    by_cases hT : Sp e f g h
    · have HE := Lib.hid (decide_eq_true hT)
      have HT := Lib.hid hT
      have HBT : Hid (0 ≤ e ∧ e ≤ 1000000000 ∧ 0 ≤ f ∧ f ≤ 1000000000 ∧ 0 ≤ g ∧ g ≤ 1000000000 ∧ 0 ≤ h ∧ h ≤ 1000000000) := Lib.hid (by obtain ⟨⟨_, _, _, _, _⟩, ⟨_, _, _, _, _⟩, _⟩ := hT; omega)
      clear hT
      go_enter Try.func10, Try.ntmps10
      go_wp2_with fail
      refine (fine_any a b c d true HD.out _).mono ?_
      rintro er w1 ⟨rfl, hb1⟩
      have hq1 := hb1
      have hx : Below w.heap.size w w1 := ((((Below.refl _ _).alloc (Nat.le_refl _) _).alloc (by simp) _) : Below w.heap.size w ((w.alloc (.cells #[.int .i64 a, .int .i64 b, .int .i64 c, .int .i64 d] 25)).alloc (.cells #[.int .i64 e, .int .i64 f, .int .i64 g, .int .i64 h] 25))).trans (hb1.mono (by simp; omega))
      have f1_0 : w1.cell? ⟨w.heap.size, 0, none⟩ = some (.int .i64 a) := (hb1.cell (p := ⟨w.heap.size, 0, none⟩) (by (try simp) <;> omega)).trans (by simp [go_sem])
      have f1_1 : w1.cell? ⟨w.heap.size, 1, none⟩ = some (.int .i64 b) := (hb1.cell (p := ⟨w.heap.size, 1, none⟩) (by (try simp) <;> omega)).trans (by simp [go_sem])
      have f1_2 : w1.cell? ⟨w.heap.size, 2, none⟩ = some (.int .i64 c) := (hb1.cell (p := ⟨w.heap.size, 2, none⟩) (by (try simp) <;> omega)).trans (by simp [go_sem])
      have f1_3 : w1.cell? ⟨w.heap.size, 3, none⟩ = some (.int .i64 d) := (hb1.cell (p := ⟨w.heap.size, 3, none⟩) (by (try simp) <;> omega)).trans (by simp [go_sem])
      have l1 : w.heap.size < w1.heap.size := by have := hb1.size; simp at this; omega
      have f2_0 : w1.cell? ⟨w.heap.size + 1, 0, none⟩ = some (.int .i64 e) := (hb1.cell (p := ⟨w.heap.size + 1, 0, none⟩) (by simp)).trans (by simp [go_sem])
      have f2_1 : w1.cell? ⟨w.heap.size + 1, 1, none⟩ = some (.int .i64 f) := (hb1.cell (p := ⟨w.heap.size + 1, 1, none⟩) (by simp)).trans (by simp [go_sem])
      have f2_2 : w1.cell? ⟨w.heap.size + 1, 2, none⟩ = some (.int .i64 g) := (hb1.cell (p := ⟨w.heap.size + 1, 2, none⟩) (by simp)).trans (by simp [go_sem])
      have f2_3 : w1.cell? ⟨w.heap.size + 1, 3, none⟩ = some (.int .i64 h) := (hb1.cell (p := ⟨w.heap.size + 1, 3, none⟩) (by simp)).trans (by simp [go_sem])
      have l2 : w.heap.size + 1 < w1.heap.size := by have := hb1.size; simp at this; omega
      have hbel : Below w.heap.size w w1 := hx
      clear hx
      clear hb1
      have zl1 : ∀ o, w1.frozen? ⟨w.heap.size, o, none⟩ = false := fun o => (hq1.frozen (p := ⟨w.heap.size, o, none⟩) (by (try simp) <;> omega)).trans (by simp [go_sem])
      have zl2 : ∀ o, w1.frozen? ⟨w.heap.size + 1, o, none⟩ = false := fun o => (hq1.frozen (p := ⟨w.heap.size + 1, o, none⟩) (by (try simp) <;> omega)).trans (by simp [go_sem])
      clear hq1
      go_wp2_with fail
      refine (fine_any e f g h true HE.out _).mono ?_
      rintro er w2 ⟨rfl, hb2⟩
      replace zl1 : ∀ o, w2.frozen? ⟨w.heap.size, o, none⟩ = false := fun o => (hb2.frozen (p := ⟨w.heap.size, o, none⟩) l1).trans (zl1 o)
      replace zl2 : ∀ o, w2.frozen? ⟨w.heap.size + 1, o, none⟩ = false := fun o => (hb2.frozen (p := ⟨w.heap.size + 1, o, none⟩) l2).trans (zl2 o)
      replace f1_0 : w2.cell? ⟨w.heap.size, 0, none⟩ = some (.int .i64 a) := (hb2.cell (p := ⟨w.heap.size, 0, none⟩) l1).trans f1_0
      replace f1_1 : w2.cell? ⟨w.heap.size, 1, none⟩ = some (.int .i64 b) := (hb2.cell (p := ⟨w.heap.size, 1, none⟩) l1).trans f1_1
      replace f1_2 : w2.cell? ⟨w.heap.size, 2, none⟩ = some (.int .i64 c) := (hb2.cell (p := ⟨w.heap.size, 2, none⟩) l1).trans f1_2
      replace f1_3 : w2.cell? ⟨w.heap.size, 3, none⟩ = some (.int .i64 d) := (hb2.cell (p := ⟨w.heap.size, 3, none⟩) l1).trans f1_3
      replace f2_0 : w2.cell? ⟨w.heap.size + 1, 0, none⟩ = some (.int .i64 e) := (hb2.cell (p := ⟨w.heap.size + 1, 0, none⟩) l2).trans f2_0
      replace f2_1 : w2.cell? ⟨w.heap.size + 1, 1, none⟩ = some (.int .i64 f) := (hb2.cell (p := ⟨w.heap.size + 1, 1, none⟩) l2).trans f2_1
      replace f2_2 : w2.cell? ⟨w.heap.size + 1, 2, none⟩ = some (.int .i64 g) := (hb2.cell (p := ⟨w.heap.size + 1, 2, none⟩) l2).trans f2_2
      replace f2_3 : w2.cell? ⟨w.heap.size + 1, 3, none⟩ = some (.int .i64 h) := (hb2.cell (p := ⟨w.heap.size + 1, 3, none⟩) l2).trans f2_3
      replace l1 : w.heap.size < w2.heap.size := Nat.lt_of_lt_of_le l1 hb2.size
      replace l2 : w.heap.size + 1 < w2.heap.size := Nat.lt_of_lt_of_le l2 hb2.size
      replace hbel : Below w.heap.size w w2 := hbel.trans (hb2.mono hbel.size)
      clear hb2
      by_cases i1 : e * b ≤ a * f ∧ a * h ≤ g * b
      · have I1 := Lib.hid (decide_eq_true i1)
        have M1 := Lib.hid i1
        clear i1
        go_wp2_with fail
        refine (In_any a b e f g h true I1.out HBT.out.1 HBT.out.2.1 HBT.out.2.2.1 HBT.out.2.2.2.1 HBT.out.2.2.2.2.1 HBT.out.2.2.2.2.2.1 HBT.out.2.2.2.2.2.2.1 HBT.out.2.2.2.2.2.2.2 HBS.out.1 (Int.le_trans HBS.out.2.1 (by decide)) HBS.out.2.2.1 (Int.le_trans HBS.out.2.2.2.1 (by decide)) _).mono ?_
        rintro er w3 ⟨rfl, hb3⟩
        replace zl1 : ∀ o, w3.frozen? ⟨w.heap.size, o, none⟩ = false := fun o => (hb3.frozen (p := ⟨w.heap.size, o, none⟩) l1).trans (zl1 o)
        replace zl2 : ∀ o, w3.frozen? ⟨w.heap.size + 1, o, none⟩ = false := fun o => (hb3.frozen (p := ⟨w.heap.size + 1, o, none⟩) l2).trans (zl2 o)
        replace f1_0 : w3.cell? ⟨w.heap.size, 0, none⟩ = some (.int .i64 a) := (hb3.cell (p := ⟨w.heap.size, 0, none⟩) l1).trans f1_0
        replace f1_1 : w3.cell? ⟨w.heap.size, 1, none⟩ = some (.int .i64 b) := (hb3.cell (p := ⟨w.heap.size, 1, none⟩) l1).trans f1_1
        replace f1_2 : w3.cell? ⟨w.heap.size, 2, none⟩ = some (.int .i64 c) := (hb3.cell (p := ⟨w.heap.size, 2, none⟩) l1).trans f1_2
        replace f1_3 : w3.cell? ⟨w.heap.size, 3, none⟩ = some (.int .i64 d) := (hb3.cell (p := ⟨w.heap.size, 3, none⟩) l1).trans f1_3
        replace f2_0 : w3.cell? ⟨w.heap.size + 1, 0, none⟩ = some (.int .i64 e) := (hb3.cell (p := ⟨w.heap.size + 1, 0, none⟩) l2).trans f2_0
        replace f2_1 : w3.cell? ⟨w.heap.size + 1, 1, none⟩ = some (.int .i64 f) := (hb3.cell (p := ⟨w.heap.size + 1, 1, none⟩) l2).trans f2_1
        replace f2_2 : w3.cell? ⟨w.heap.size + 1, 2, none⟩ = some (.int .i64 g) := (hb3.cell (p := ⟨w.heap.size + 1, 2, none⟩) l2).trans f2_2
        replace f2_3 : w3.cell? ⟨w.heap.size + 1, 3, none⟩ = some (.int .i64 h) := (hb3.cell (p := ⟨w.heap.size + 1, 3, none⟩) l2).trans f2_3
        replace l1 : w.heap.size < w3.heap.size := Nat.lt_of_lt_of_le l1 hb3.size
        replace l2 : w.heap.size + 1 < w3.heap.size := Nat.lt_of_lt_of_le l2 hb3.size
        replace hbel : Below w.heap.size w w3 := hbel.trans (hb3.mono hbel.size)
        clear hb3
        by_cases i2 : e * d ≤ c * f ∧ c * h ≤ g * d
        · have I2 := Lib.hid (decide_eq_true i2)
          have M2 := Lib.hid i2
          clear i2
          go_wp2_with fail
          refine (In_any c d e f g h true I2.out HBT.out.1 HBT.out.2.1 HBT.out.2.2.1 HBT.out.2.2.2.1 HBT.out.2.2.2.2.1 HBT.out.2.2.2.2.2.1 HBT.out.2.2.2.2.2.2.1 HBT.out.2.2.2.2.2.2.2 HBS.out.2.2.2.2.1 (Int.le_trans HBS.out.2.2.2.2.2.1 (by decide)) HBS.out.2.2.2.2.2.2.1 (Int.le_trans HBS.out.2.2.2.2.2.2.2 (by decide)) _).mono ?_
          rintro er w4 ⟨rfl, hb4⟩
          replace zl1 : ∀ o, w4.frozen? ⟨w.heap.size, o, none⟩ = false := fun o => (hb4.frozen (p := ⟨w.heap.size, o, none⟩) l1).trans (zl1 o)
          replace zl2 : ∀ o, w4.frozen? ⟨w.heap.size + 1, o, none⟩ = false := fun o => (hb4.frozen (p := ⟨w.heap.size + 1, o, none⟩) l2).trans (zl2 o)
          replace f1_0 : w4.cell? ⟨w.heap.size, 0, none⟩ = some (.int .i64 a) := (hb4.cell (p := ⟨w.heap.size, 0, none⟩) l1).trans f1_0
          replace f1_1 : w4.cell? ⟨w.heap.size, 1, none⟩ = some (.int .i64 b) := (hb4.cell (p := ⟨w.heap.size, 1, none⟩) l1).trans f1_1
          replace f1_2 : w4.cell? ⟨w.heap.size, 2, none⟩ = some (.int .i64 c) := (hb4.cell (p := ⟨w.heap.size, 2, none⟩) l1).trans f1_2
          replace f1_3 : w4.cell? ⟨w.heap.size, 3, none⟩ = some (.int .i64 d) := (hb4.cell (p := ⟨w.heap.size, 3, none⟩) l1).trans f1_3
          replace f2_0 : w4.cell? ⟨w.heap.size + 1, 0, none⟩ = some (.int .i64 e) := (hb4.cell (p := ⟨w.heap.size + 1, 0, none⟩) l2).trans f2_0
          replace f2_1 : w4.cell? ⟨w.heap.size + 1, 1, none⟩ = some (.int .i64 f) := (hb4.cell (p := ⟨w.heap.size + 1, 1, none⟩) l2).trans f2_1
          replace f2_2 : w4.cell? ⟨w.heap.size + 1, 2, none⟩ = some (.int .i64 g) := (hb4.cell (p := ⟨w.heap.size + 1, 2, none⟩) l2).trans f2_2
          replace f2_3 : w4.cell? ⟨w.heap.size + 1, 3, none⟩ = some (.int .i64 h) := (hb4.cell (p := ⟨w.heap.size + 1, 3, none⟩) l2).trans f2_3
          replace l1 : w.heap.size < w4.heap.size := Nat.lt_of_lt_of_le l1 hb4.size
          replace l2 : w.heap.size + 1 < w4.heap.size := Nat.lt_of_lt_of_le l2 hb4.size
          replace hbel : Below w.heap.size w w4 := hbel.trans (hb4.mono hbel.size)
          clear hb4
          go_wp2_with fail
          refine (In_any a b e f g h true I1.out HBT.out.1 HBT.out.2.1 HBT.out.2.2.1 HBT.out.2.2.2.1 HBT.out.2.2.2.2.1 HBT.out.2.2.2.2.2.1 HBT.out.2.2.2.2.2.2.1 HBT.out.2.2.2.2.2.2.2 HBS.out.1 (Int.le_trans HBS.out.2.1 (by decide)) HBS.out.2.2.1 (Int.le_trans HBS.out.2.2.2.1 (by decide)) _).mono ?_
          rintro e' w5 ⟨rfl, hb5⟩
          have nf1_0 : w5.cell? ⟨w.heap.size, 0, none⟩ = some (.int .i64 e) := (hb5.cell (p := ⟨w.heap.size, 0, none⟩) (by simp; omega)).trans (by simp [go_sem, f1_0, f1_1, f1_2, f1_3, f2_0, f2_1, f2_2, f2_3])
          have nf1_1 : w5.cell? ⟨w.heap.size, 1, none⟩ = some (.int .i64 f) := (hb5.cell (p := ⟨w.heap.size, 1, none⟩) (by simp; omega)).trans (by simp [go_sem, f1_0, f1_1, f1_2, f1_3, f2_0, f2_1, f2_2, f2_3])
          have nf1_2 : w5.cell? ⟨w.heap.size, 2, none⟩ = some (.int .i64 g) := (hb5.cell (p := ⟨w.heap.size, 2, none⟩) (by simp; omega)).trans (by simp [go_sem, f1_0, f1_1, f1_2, f1_3, f2_0, f2_1, f2_2, f2_3])
          have nf1_3 : w5.cell? ⟨w.heap.size, 3, none⟩ = some (.int .i64 h) := (hb5.cell (p := ⟨w.heap.size, 3, none⟩) (by simp; omega)).trans (by simp [go_sem, f1_0, f1_1, f1_2, f1_3, f2_0, f2_1, f2_2, f2_3])
          have nf2_0 : w5.cell? ⟨w.heap.size + 1, 0, none⟩ = some (.int .i64 a) := (hb5.cell (p := ⟨w.heap.size + 1, 0, none⟩) (by simp; omega)).trans (by simp [go_sem, f1_0, f1_1, f1_2, f1_3, f2_0, f2_1, f2_2, f2_3])
          have nf2_1 : w5.cell? ⟨w.heap.size + 1, 1, none⟩ = some (.int .i64 b) := (hb5.cell (p := ⟨w.heap.size + 1, 1, none⟩) (by simp; omega)).trans (by simp [go_sem, f1_0, f1_1, f1_2, f1_3, f2_0, f2_1, f2_2, f2_3])
          have nf2_2 : w5.cell? ⟨w.heap.size + 1, 2, none⟩ = some (.int .i64 c) := (hb5.cell (p := ⟨w.heap.size + 1, 2, none⟩) (by simp; omega)).trans (by simp [go_sem, f1_0, f1_1, f1_2, f1_3, f2_0, f2_1, f2_2, f2_3])
          have nf2_3 : w5.cell? ⟨w.heap.size + 1, 3, none⟩ = some (.int .i64 d) := (hb5.cell (p := ⟨w.heap.size + 1, 3, none⟩) (by simp; omega)).trans (by simp [go_sem, f1_0, f1_1, f1_2, f1_3, f2_0, f2_1, f2_2, f2_3])
          have hbn : Below w.heap.size w w5 := ((((((((hbel.setCell (by simp) _).setCell (by simp) _).setCell (by simp) _).setCell (by simp) _).setCell (by simp) _).setCell (by simp) _).setCell (by simp) _).setCell (by simp) _).trans (hb5.mono (by simp; omega))
          replace l1 : w.heap.size < w5.heap.size := by have := hb5.size; simp at this; omega
          replace l2 : w.heap.size + 1 < w5.heap.size := by have := hb5.size; simp at this; omega
          clear f1_0 f1_1 f1_2 f1_3 f2_0 f2_1 f2_2 f2_3 hbel hb5 zl1 zl2
          have f1_0 := nf1_0
          clear nf1_0
          have f1_1 := nf1_1
          clear nf1_1
          have f1_2 := nf1_2
          clear nf1_2
          have f1_3 := nf1_3
          clear nf1_3
          have f2_0 := nf2_0
          clear nf2_0
          have f2_1 := nf2_1
          clear nf2_1
          have f2_2 := nf2_2
          clear nf2_2
          have f2_3 := nf2_3
          clear nf2_3
          have hbel := hbn
          clear hbn
          go_wp2_with fail
          refine (In_any c d e f g h true I2.out HBT.out.1 HBT.out.2.1 HBT.out.2.2.1 HBT.out.2.2.2.1 HBT.out.2.2.2.2.1 HBT.out.2.2.2.2.2.1 HBT.out.2.2.2.2.2.2.1 HBT.out.2.2.2.2.2.2.2 HBS.out.2.2.2.2.1 (Int.le_trans HBS.out.2.2.2.2.2.1 (by decide)) HBS.out.2.2.2.2.2.2.1 (Int.le_trans HBS.out.2.2.2.2.2.2.2 (by decide)) _).mono ?_
          rintro er w6 ⟨rfl, hb6⟩
          replace f1_0 : w6.cell? ⟨w.heap.size, 0, none⟩ = some (.int .i64 e) := (hb6.cell (p := ⟨w.heap.size, 0, none⟩) l1).trans f1_0
          replace f1_1 : w6.cell? ⟨w.heap.size, 1, none⟩ = some (.int .i64 f) := (hb6.cell (p := ⟨w.heap.size, 1, none⟩) l1).trans f1_1
          replace f1_2 : w6.cell? ⟨w.heap.size, 2, none⟩ = some (.int .i64 g) := (hb6.cell (p := ⟨w.heap.size, 2, none⟩) l1).trans f1_2
          replace f1_3 : w6.cell? ⟨w.heap.size, 3, none⟩ = some (.int .i64 h) := (hb6.cell (p := ⟨w.heap.size, 3, none⟩) l1).trans f1_3
          replace f2_0 : w6.cell? ⟨w.heap.size + 1, 0, none⟩ = some (.int .i64 a) := (hb6.cell (p := ⟨w.heap.size + 1, 0, none⟩) l2).trans f2_0
          replace f2_1 : w6.cell? ⟨w.heap.size + 1, 1, none⟩ = some (.int .i64 b) := (hb6.cell (p := ⟨w.heap.size + 1, 1, none⟩) l2).trans f2_1
          replace f2_2 : w6.cell? ⟨w.heap.size + 1, 2, none⟩ = some (.int .i64 c) := (hb6.cell (p := ⟨w.heap.size + 1, 2, none⟩) l2).trans f2_2
          replace f2_3 : w6.cell? ⟨w.heap.size + 1, 3, none⟩ = some (.int .i64 d) := (hb6.cell (p := ⟨w.heap.size + 1, 3, none⟩) l2).trans f2_3
          replace l1 : w.heap.size < w6.heap.size := Nat.lt_of_lt_of_le l1 hb6.size
          replace l2 : w.heap.size + 1 < w6.heap.size := Nat.lt_of_lt_of_le l2 hb6.size
          replace hbel : Below w.heap.size w w6 := hbel.trans (hb6.mono hbel.size)
          clear hb6
          go_wp2_with fail
          refine (Simplest_ok e f g h HT.out _).mono ?_
          rintro er w7 ⟨⟨x, y, rfl, hL⟩, hb7⟩
          have HL := Lib.hid hL
          clear hL
          replace f1_0 : w7.cell? ⟨w.heap.size, 0, none⟩ = some (.int .i64 e) := (hb7.cell (p := ⟨w.heap.size, 0, none⟩) l1).trans f1_0
          replace f1_1 : w7.cell? ⟨w.heap.size, 1, none⟩ = some (.int .i64 f) := (hb7.cell (p := ⟨w.heap.size, 1, none⟩) l1).trans f1_1
          replace f1_2 : w7.cell? ⟨w.heap.size, 2, none⟩ = some (.int .i64 g) := (hb7.cell (p := ⟨w.heap.size, 2, none⟩) l1).trans f1_2
          replace f1_3 : w7.cell? ⟨w.heap.size, 3, none⟩ = some (.int .i64 h) := (hb7.cell (p := ⟨w.heap.size, 3, none⟩) l1).trans f1_3
          replace f2_0 : w7.cell? ⟨w.heap.size + 1, 0, none⟩ = some (.int .i64 a) := (hb7.cell (p := ⟨w.heap.size + 1, 0, none⟩) l2).trans f2_0
          replace f2_1 : w7.cell? ⟨w.heap.size + 1, 1, none⟩ = some (.int .i64 b) := (hb7.cell (p := ⟨w.heap.size + 1, 1, none⟩) l2).trans f2_1
          replace f2_2 : w7.cell? ⟨w.heap.size + 1, 2, none⟩ = some (.int .i64 c) := (hb7.cell (p := ⟨w.heap.size + 1, 2, none⟩) l2).trans f2_2
          replace f2_3 : w7.cell? ⟨w.heap.size + 1, 3, none⟩ = some (.int .i64 d) := (hb7.cell (p := ⟨w.heap.size + 1, 3, none⟩) l2).trans f2_3
          replace l1 : w.heap.size < w7.heap.size := Nat.lt_of_lt_of_le l1 hb7.size
          replace l2 : w.heap.size + 1 < w7.heap.size := Nat.lt_of_lt_of_le l2 hb7.size
          replace hbel : Below w.heap.size w w7 := hbel.trans (hb7.mono hbel.size)
          clear hb7
          go_wp2_with fail
          refine (Simplest_ok a b c d HS.out _).mono ?_
          rintro er w8 ⟨⟨x', y', rfl, hM⟩, hb8⟩
          have HM := Lib.hid hM
          clear hM
          have hx : Below w7.heap.size w7 w8 := (((Below.refl _ _).alloc (Nat.le_refl _) _) : Below w7.heap.size w7 (w7.alloc (.cells #[.int .i64 x, .int .i64 y] 23))).trans (hb8.mono (by simp))
          have f3_0 : w8.cell? ⟨w7.heap.size, 0, none⟩ = some (.int .i64 x) := (hb8.cell (p := ⟨w7.heap.size, 0, none⟩) (by simp)).trans (by simp [go_sem])
          have f3_1 : w8.cell? ⟨w7.heap.size, 1, none⟩ = some (.int .i64 y) := (hb8.cell (p := ⟨w7.heap.size, 1, none⟩) (by simp)).trans (by simp [go_sem])
          have l3 : w7.heap.size < w8.heap.size := by have := hb8.size; simp at this; omega
          replace f1_0 : w8.cell? ⟨w.heap.size, 0, none⟩ = some (.int .i64 e) := (hx.cell (p := ⟨w.heap.size, 0, none⟩) l1).trans f1_0
          replace f1_1 : w8.cell? ⟨w.heap.size, 1, none⟩ = some (.int .i64 f) := (hx.cell (p := ⟨w.heap.size, 1, none⟩) l1).trans f1_1
          replace f1_2 : w8.cell? ⟨w.heap.size, 2, none⟩ = some (.int .i64 g) := (hx.cell (p := ⟨w.heap.size, 2, none⟩) l1).trans f1_2
          replace f1_3 : w8.cell? ⟨w.heap.size, 3, none⟩ = some (.int .i64 h) := (hx.cell (p := ⟨w.heap.size, 3, none⟩) l1).trans f1_3
          replace f2_0 : w8.cell? ⟨w.heap.size + 1, 0, none⟩ = some (.int .i64 a) := (hx.cell (p := ⟨w.heap.size + 1, 0, none⟩) l2).trans f2_0
          replace f2_1 : w8.cell? ⟨w.heap.size + 1, 1, none⟩ = some (.int .i64 b) := (hx.cell (p := ⟨w.heap.size + 1, 1, none⟩) l2).trans f2_1
          replace f2_2 : w8.cell? ⟨w.heap.size + 1, 2, none⟩ = some (.int .i64 c) := (hx.cell (p := ⟨w.heap.size + 1, 2, none⟩) l2).trans f2_2
          replace f2_3 : w8.cell? ⟨w.heap.size + 1, 3, none⟩ = some (.int .i64 d) := (hx.cell (p := ⟨w.heap.size + 1, 3, none⟩) l2).trans f2_3
          replace l1 : w.heap.size < w8.heap.size := Nat.lt_of_lt_of_le l1 hx.size
          replace l2 : w.heap.size + 1 < w8.heap.size := Nat.lt_of_lt_of_le l2 hx.size
          replace hbel : Below w.heap.size w w8 := hbel.trans (hx.mono hbel.size)
          clear hx
          clear hb8
          go_wp2_with fail
          refine (IsFraction_any x y true (decide_eq_true HL.out.fr) _).mono ?_
          rintro er w9 ⟨rfl, hb9⟩
          have hx : Below w8.heap.size w8 w9 := (((Below.refl _ _).alloc (Nat.le_refl _) _) : Below w8.heap.size w8 (w8.alloc (.cells #[.int .i64 x', .int .i64 y'] 23))).trans (hb9.mono (by simp))
          have f4_0 : w9.cell? ⟨w8.heap.size, 0, none⟩ = some (.int .i64 x') := (hb9.cell (p := ⟨w8.heap.size, 0, none⟩) (by simp)).trans (by simp [go_sem])
          have f4_1 : w9.cell? ⟨w8.heap.size, 1, none⟩ = some (.int .i64 y') := (hb9.cell (p := ⟨w8.heap.size, 1, none⟩) (by simp)).trans (by simp [go_sem])
          have l4 : w8.heap.size < w9.heap.size := by have := hb9.size; simp at this; omega
          replace f1_0 : w9.cell? ⟨w.heap.size, 0, none⟩ = some (.int .i64 e) := (hx.cell (p := ⟨w.heap.size, 0, none⟩) l1).trans f1_0
          replace f1_1 : w9.cell? ⟨w.heap.size, 1, none⟩ = some (.int .i64 f) := (hx.cell (p := ⟨w.heap.size, 1, none⟩) l1).trans f1_1
          replace f1_2 : w9.cell? ⟨w.heap.size, 2, none⟩ = some (.int .i64 g) := (hx.cell (p := ⟨w.heap.size, 2, none⟩) l1).trans f1_2
          replace f1_3 : w9.cell? ⟨w.heap.size, 3, none⟩ = some (.int .i64 h) := (hx.cell (p := ⟨w.heap.size, 3, none⟩) l1).trans f1_3
          replace f2_0 : w9.cell? ⟨w.heap.size + 1, 0, none⟩ = some (.int .i64 a) := (hx.cell (p := ⟨w.heap.size + 1, 0, none⟩) l2).trans f2_0
          replace f2_1 : w9.cell? ⟨w.heap.size + 1, 1, none⟩ = some (.int .i64 b) := (hx.cell (p := ⟨w.heap.size + 1, 1, none⟩) l2).trans f2_1
          replace f2_2 : w9.cell? ⟨w.heap.size + 1, 2, none⟩ = some (.int .i64 c) := (hx.cell (p := ⟨w.heap.size + 1, 2, none⟩) l2).trans f2_2
          replace f2_3 : w9.cell? ⟨w.heap.size + 1, 3, none⟩ = some (.int .i64 d) := (hx.cell (p := ⟨w.heap.size + 1, 3, none⟩) l2).trans f2_3
          replace f3_0 : w9.cell? ⟨w7.heap.size, 0, none⟩ = some (.int .i64 x) := (hx.cell (p := ⟨w7.heap.size, 0, none⟩) l3).trans f3_0
          replace f3_1 : w9.cell? ⟨w7.heap.size, 1, none⟩ = some (.int .i64 y) := (hx.cell (p := ⟨w7.heap.size, 1, none⟩) l3).trans f3_1
          replace l1 : w.heap.size < w9.heap.size := Nat.lt_of_lt_of_le l1 hx.size
          replace l2 : w.heap.size + 1 < w9.heap.size := Nat.lt_of_lt_of_le l2 hx.size
          replace l3 : w7.heap.size < w9.heap.size := Nat.lt_of_lt_of_le l3 hx.size
          replace hbel : Below w.heap.size w w9 := hbel.trans (hx.mono hbel.size)
          clear hx
          clear hb9
          go_wp2_with fail
          refine (IsFraction_any x' y' true (decide_eq_true HM.out.fr) _).mono ?_
          rintro er w10 ⟨rfl, hb10⟩
          replace f1_0 : w10.cell? ⟨w.heap.size, 0, none⟩ = some (.int .i64 e) := (hb10.cell (p := ⟨w.heap.size, 0, none⟩) l1).trans f1_0
          replace f1_1 : w10.cell? ⟨w.heap.size, 1, none⟩ = some (.int .i64 f) := (hb10.cell (p := ⟨w.heap.size, 1, none⟩) l1).trans f1_1
          replace f1_2 : w10.cell? ⟨w.heap.size, 2, none⟩ = some (.int .i64 g) := (hb10.cell (p := ⟨w.heap.size, 2, none⟩) l1).trans f1_2
          replace f1_3 : w10.cell? ⟨w.heap.size, 3, none⟩ = some (.int .i64 h) := (hb10.cell (p := ⟨w.heap.size, 3, none⟩) l1).trans f1_3
          replace f2_0 : w10.cell? ⟨w.heap.size + 1, 0, none⟩ = some (.int .i64 a) := (hb10.cell (p := ⟨w.heap.size + 1, 0, none⟩) l2).trans f2_0
          replace f2_1 : w10.cell? ⟨w.heap.size + 1, 1, none⟩ = some (.int .i64 b) := (hb10.cell (p := ⟨w.heap.size + 1, 1, none⟩) l2).trans f2_1
          replace f2_2 : w10.cell? ⟨w.heap.size + 1, 2, none⟩ = some (.int .i64 c) := (hb10.cell (p := ⟨w.heap.size + 1, 2, none⟩) l2).trans f2_2
          replace f2_3 : w10.cell? ⟨w.heap.size + 1, 3, none⟩ = some (.int .i64 d) := (hb10.cell (p := ⟨w.heap.size + 1, 3, none⟩) l2).trans f2_3
          replace f3_0 : w10.cell? ⟨w7.heap.size, 0, none⟩ = some (.int .i64 x) := (hb10.cell (p := ⟨w7.heap.size, 0, none⟩) l3).trans f3_0
          replace f3_1 : w10.cell? ⟨w7.heap.size, 1, none⟩ = some (.int .i64 y) := (hb10.cell (p := ⟨w7.heap.size, 1, none⟩) l3).trans f3_1
          replace f4_0 : w10.cell? ⟨w8.heap.size, 0, none⟩ = some (.int .i64 x') := (hb10.cell (p := ⟨w8.heap.size, 0, none⟩) l4).trans f4_0
          replace f4_1 : w10.cell? ⟨w8.heap.size, 1, none⟩ = some (.int .i64 y') := (hb10.cell (p := ⟨w8.heap.size, 1, none⟩) l4).trans f4_1
          replace l1 : w.heap.size < w10.heap.size := Nat.lt_of_lt_of_le l1 hb10.size
          replace l2 : w.heap.size + 1 < w10.heap.size := Nat.lt_of_lt_of_le l2 hb10.size
          replace l3 : w7.heap.size < w10.heap.size := Nat.lt_of_lt_of_le l3 hb10.size
          replace l4 : w8.heap.size < w10.heap.size := Nat.lt_of_lt_of_le l4 hb10.size
          replace hbel : Below w.heap.size w w10 := hbel.trans (hb10.mono hbel.size)
          clear hb10
          obtain ⟨hm1, hm2⟩ := narrow_le HT.out HS.out M1.out.1 M2.out.2 HL.out HM.out
          by_cases hin : a * y ≤ x * b ∧ x * d ≤ c * y
          · go_wp2_with fail
            refine (In_any x y a b c d true (decide_eq_true hin) HBS.out.1 HBS.out.2.1 HBS.out.2.2.1 HBS.out.2.2.2.1 HBS.out.2.2.2.2.1 HBS.out.2.2.2.2.2.1 HBS.out.2.2.2.2.2.2.1 HBS.out.2.2.2.2.2.2.2 (by have := HL.out.fr.1; omega) (by have := HL.out.fr.2.1; omega) (by have := HL.out.fr.2.2.1; omega) (by have := HL.out.fr.2.2.2.1; omega) _).mono ?_
            rintro er w11 ⟨rfl, hb11⟩
            obtain ⟨hn1, hn2⟩ := HM.out.min x y HL.out.fr.1 HL.out.fr.2.2.1 hin.1 hin.2
            have ex : x' = x := by omega
            have ey : y' = y := by omega
            have HX := Lib.hid ex
            have HY := Lib.hid ey
            clear hin hn1 hn2 ex ey hm1 hm2
            replace f1_0 : w11.cell? ⟨w.heap.size, 0, none⟩ = some (.int .i64 e) := (hb11.cell (p := ⟨w.heap.size, 0, none⟩) l1).trans f1_0
            replace f1_1 : w11.cell? ⟨w.heap.size, 1, none⟩ = some (.int .i64 f) := (hb11.cell (p := ⟨w.heap.size, 1, none⟩) l1).trans f1_1
            replace f1_2 : w11.cell? ⟨w.heap.size, 2, none⟩ = some (.int .i64 g) := (hb11.cell (p := ⟨w.heap.size, 2, none⟩) l1).trans f1_2
            replace f1_3 : w11.cell? ⟨w.heap.size, 3, none⟩ = some (.int .i64 h) := (hb11.cell (p := ⟨w.heap.size, 3, none⟩) l1).trans f1_3
            replace f2_0 : w11.cell? ⟨w.heap.size + 1, 0, none⟩ = some (.int .i64 a) := (hb11.cell (p := ⟨w.heap.size + 1, 0, none⟩) l2).trans f2_0
            replace f2_1 : w11.cell? ⟨w.heap.size + 1, 1, none⟩ = some (.int .i64 b) := (hb11.cell (p := ⟨w.heap.size + 1, 1, none⟩) l2).trans f2_1
            replace f2_2 : w11.cell? ⟨w.heap.size + 1, 2, none⟩ = some (.int .i64 c) := (hb11.cell (p := ⟨w.heap.size + 1, 2, none⟩) l2).trans f2_2
            replace f2_3 : w11.cell? ⟨w.heap.size + 1, 3, none⟩ = some (.int .i64 d) := (hb11.cell (p := ⟨w.heap.size + 1, 3, none⟩) l2).trans f2_3
            replace f3_0 : w11.cell? ⟨w7.heap.size, 0, none⟩ = some (.int .i64 x) := (hb11.cell (p := ⟨w7.heap.size, 0, none⟩) l3).trans f3_0
            replace f3_1 : w11.cell? ⟨w7.heap.size, 1, none⟩ = some (.int .i64 y) := (hb11.cell (p := ⟨w7.heap.size, 1, none⟩) l3).trans f3_1
            replace f4_0 : w11.cell? ⟨w8.heap.size, 0, none⟩ = some (.int .i64 x') := (hb11.cell (p := ⟨w8.heap.size, 0, none⟩) l4).trans f4_0
            replace f4_1 : w11.cell? ⟨w8.heap.size, 1, none⟩ = some (.int .i64 y') := (hb11.cell (p := ⟨w8.heap.size, 1, none⟩) l4).trans f4_1
            replace l1 : w.heap.size < w11.heap.size := Nat.lt_of_lt_of_le l1 hb11.size
            replace l2 : w.heap.size + 1 < w11.heap.size := Nat.lt_of_lt_of_le l2 hb11.size
            replace l3 : w7.heap.size < w11.heap.size := Nat.lt_of_lt_of_le l3 hb11.size
            replace l4 : w8.heap.size < w11.heap.size := Nat.lt_of_lt_of_le l4 hb11.size
            replace hbel : Below w.heap.size w w11 := hbel.trans (hb11.mono hbel.size)
            clear hb11
            rw [HX.out] at f4_0
            rw [HY.out] at f4_1
            go_wp2_with fail
            refine (Works_any _).mono ?_
            rintro er w12 ⟨rfl, hb12⟩
            replace f1_0 : w12.cell? ⟨w.heap.size, 0, none⟩ = some (.int .i64 e) := (hb12.cell (p := ⟨w.heap.size, 0, none⟩) l1).trans f1_0
            replace f1_1 : w12.cell? ⟨w.heap.size, 1, none⟩ = some (.int .i64 f) := (hb12.cell (p := ⟨w.heap.size, 1, none⟩) l1).trans f1_1
            replace f1_2 : w12.cell? ⟨w.heap.size, 2, none⟩ = some (.int .i64 g) := (hb12.cell (p := ⟨w.heap.size, 2, none⟩) l1).trans f1_2
            replace f1_3 : w12.cell? ⟨w.heap.size, 3, none⟩ = some (.int .i64 h) := (hb12.cell (p := ⟨w.heap.size, 3, none⟩) l1).trans f1_3
            replace f2_0 : w12.cell? ⟨w.heap.size + 1, 0, none⟩ = some (.int .i64 a) := (hb12.cell (p := ⟨w.heap.size + 1, 0, none⟩) l2).trans f2_0
            replace f2_1 : w12.cell? ⟨w.heap.size + 1, 1, none⟩ = some (.int .i64 b) := (hb12.cell (p := ⟨w.heap.size + 1, 1, none⟩) l2).trans f2_1
            replace f2_2 : w12.cell? ⟨w.heap.size + 1, 2, none⟩ = some (.int .i64 c) := (hb12.cell (p := ⟨w.heap.size + 1, 2, none⟩) l2).trans f2_2
            replace f2_3 : w12.cell? ⟨w.heap.size + 1, 3, none⟩ = some (.int .i64 d) := (hb12.cell (p := ⟨w.heap.size + 1, 3, none⟩) l2).trans f2_3
            replace f3_0 : w12.cell? ⟨w7.heap.size, 0, none⟩ = some (.int .i64 x) := (hb12.cell (p := ⟨w7.heap.size, 0, none⟩) l3).trans f3_0
            replace f3_1 : w12.cell? ⟨w7.heap.size, 1, none⟩ = some (.int .i64 y) := (hb12.cell (p := ⟨w7.heap.size, 1, none⟩) l3).trans f3_1
            replace f4_0 : w12.cell? ⟨w8.heap.size, 0, none⟩ = some (.int .i64 x) := (hb12.cell (p := ⟨w8.heap.size, 0, none⟩) l4).trans f4_0
            replace f4_1 : w12.cell? ⟨w8.heap.size, 1, none⟩ = some (.int .i64 y) := (hb12.cell (p := ⟨w8.heap.size, 1, none⟩) l4).trans f4_1
            replace l1 : w.heap.size < w12.heap.size := Nat.lt_of_lt_of_le l1 hb12.size
            replace l2 : w.heap.size + 1 < w12.heap.size := Nat.lt_of_lt_of_le l2 hb12.size
            replace l3 : w7.heap.size < w12.heap.size := Nat.lt_of_lt_of_le l3 hb12.size
            replace l4 : w8.heap.size < w12.heap.size := Nat.lt_of_lt_of_le l4 hb12.size
            replace hbel : Below w.heap.size w w12 := hbel.trans (hb12.mono hbel.size)
            clear hb12
            go_wp2_with fail
            go_ret
            exact ⟨rfl, hbel⟩
          · go_wp2_with fail
            refine (In_any x y a b c d false (decide_eq_false hin) HBS.out.1 HBS.out.2.1 HBS.out.2.2.1 HBS.out.2.2.2.1 HBS.out.2.2.2.2.1 HBS.out.2.2.2.2.2.1 HBS.out.2.2.2.2.2.2.1 HBS.out.2.2.2.2.2.2.2 (by have := HL.out.fr.1; omega) (by have := HL.out.fr.2.1; omega) (by have := HL.out.fr.2.2.1; omega) (by have := HL.out.fr.2.2.2.1; omega) _).mono ?_
            rintro er w11 ⟨rfl, hb11⟩
            clear hin
            replace f1_0 : w11.cell? ⟨w.heap.size, 0, none⟩ = some (.int .i64 e) := (hb11.cell (p := ⟨w.heap.size, 0, none⟩) l1).trans f1_0
            replace f1_1 : w11.cell? ⟨w.heap.size, 1, none⟩ = some (.int .i64 f) := (hb11.cell (p := ⟨w.heap.size, 1, none⟩) l1).trans f1_1
            replace f1_2 : w11.cell? ⟨w.heap.size, 2, none⟩ = some (.int .i64 g) := (hb11.cell (p := ⟨w.heap.size, 2, none⟩) l1).trans f1_2
            replace f1_3 : w11.cell? ⟨w.heap.size, 3, none⟩ = some (.int .i64 h) := (hb11.cell (p := ⟨w.heap.size, 3, none⟩) l1).trans f1_3
            replace f2_0 : w11.cell? ⟨w.heap.size + 1, 0, none⟩ = some (.int .i64 a) := (hb11.cell (p := ⟨w.heap.size + 1, 0, none⟩) l2).trans f2_0
            replace f2_1 : w11.cell? ⟨w.heap.size + 1, 1, none⟩ = some (.int .i64 b) := (hb11.cell (p := ⟨w.heap.size + 1, 1, none⟩) l2).trans f2_1
            replace f2_2 : w11.cell? ⟨w.heap.size + 1, 2, none⟩ = some (.int .i64 c) := (hb11.cell (p := ⟨w.heap.size + 1, 2, none⟩) l2).trans f2_2
            replace f2_3 : w11.cell? ⟨w.heap.size + 1, 3, none⟩ = some (.int .i64 d) := (hb11.cell (p := ⟨w.heap.size + 1, 3, none⟩) l2).trans f2_3
            replace f3_0 : w11.cell? ⟨w7.heap.size, 0, none⟩ = some (.int .i64 x) := (hb11.cell (p := ⟨w7.heap.size, 0, none⟩) l3).trans f3_0
            replace f3_1 : w11.cell? ⟨w7.heap.size, 1, none⟩ = some (.int .i64 y) := (hb11.cell (p := ⟨w7.heap.size, 1, none⟩) l3).trans f3_1
            replace f4_0 : w11.cell? ⟨w8.heap.size, 0, none⟩ = some (.int .i64 x') := (hb11.cell (p := ⟨w8.heap.size, 0, none⟩) l4).trans f4_0
            replace f4_1 : w11.cell? ⟨w8.heap.size, 1, none⟩ = some (.int .i64 y') := (hb11.cell (p := ⟨w8.heap.size, 1, none⟩) l4).trans f4_1
            replace l1 : w.heap.size < w11.heap.size := Nat.lt_of_lt_of_le l1 hb11.size
            replace l2 : w.heap.size + 1 < w11.heap.size := Nat.lt_of_lt_of_le l2 hb11.size
            replace l3 : w7.heap.size < w11.heap.size := Nat.lt_of_lt_of_le l3 hb11.size
            replace l4 : w8.heap.size < w11.heap.size := Nat.lt_of_lt_of_le l4 hb11.size
            replace hbel : Below w.heap.size w w11 := hbel.trans (hb11.mono hbel.size)
            clear hb11
            go_wp2_with fail
            refine (Works_any _).mono ?_
            rintro er w12 ⟨rfl, hb12⟩
            replace f1_0 : w12.cell? ⟨w.heap.size, 0, none⟩ = some (.int .i64 e) := (hb12.cell (p := ⟨w.heap.size, 0, none⟩) l1).trans f1_0
            replace f1_1 : w12.cell? ⟨w.heap.size, 1, none⟩ = some (.int .i64 f) := (hb12.cell (p := ⟨w.heap.size, 1, none⟩) l1).trans f1_1
            replace f1_2 : w12.cell? ⟨w.heap.size, 2, none⟩ = some (.int .i64 g) := (hb12.cell (p := ⟨w.heap.size, 2, none⟩) l1).trans f1_2
            replace f1_3 : w12.cell? ⟨w.heap.size, 3, none⟩ = some (.int .i64 h) := (hb12.cell (p := ⟨w.heap.size, 3, none⟩) l1).trans f1_3
            replace f2_0 : w12.cell? ⟨w.heap.size + 1, 0, none⟩ = some (.int .i64 a) := (hb12.cell (p := ⟨w.heap.size + 1, 0, none⟩) l2).trans f2_0
            replace f2_1 : w12.cell? ⟨w.heap.size + 1, 1, none⟩ = some (.int .i64 b) := (hb12.cell (p := ⟨w.heap.size + 1, 1, none⟩) l2).trans f2_1
            replace f2_2 : w12.cell? ⟨w.heap.size + 1, 2, none⟩ = some (.int .i64 c) := (hb12.cell (p := ⟨w.heap.size + 1, 2, none⟩) l2).trans f2_2
            replace f2_3 : w12.cell? ⟨w.heap.size + 1, 3, none⟩ = some (.int .i64 d) := (hb12.cell (p := ⟨w.heap.size + 1, 3, none⟩) l2).trans f2_3
            replace f3_0 : w12.cell? ⟨w7.heap.size, 0, none⟩ = some (.int .i64 x) := (hb12.cell (p := ⟨w7.heap.size, 0, none⟩) l3).trans f3_0
            replace f3_1 : w12.cell? ⟨w7.heap.size, 1, none⟩ = some (.int .i64 y) := (hb12.cell (p := ⟨w7.heap.size, 1, none⟩) l3).trans f3_1
            replace f4_0 : w12.cell? ⟨w8.heap.size, 0, none⟩ = some (.int .i64 x') := (hb12.cell (p := ⟨w8.heap.size, 0, none⟩) l4).trans f4_0
            replace f4_1 : w12.cell? ⟨w8.heap.size, 1, none⟩ = some (.int .i64 y') := (hb12.cell (p := ⟨w8.heap.size, 1, none⟩) l4).trans f4_1
            replace l1 : w.heap.size < w12.heap.size := Nat.lt_of_lt_of_le l1 hb12.size
            replace l2 : w.heap.size + 1 < w12.heap.size := Nat.lt_of_lt_of_le l2 hb12.size
            replace l3 : w7.heap.size < w12.heap.size := Nat.lt_of_lt_of_le l3 hb12.size
            replace l4 : w8.heap.size < w12.heap.size := Nat.lt_of_lt_of_le l4 hb12.size
            replace hbel : Below w.heap.size w w12 := hbel.trans (hb12.mono hbel.size)
            clear hb12
            go_wp2_with fail
            go_ret
            exact ⟨rfl, hbel⟩
        · have I2 := Lib.hid (decide_eq_false i2)
          clear i2
          go_wp2_with fail
          refine (In_any c d e f g h false I2.out HBT.out.1 HBT.out.2.1 HBT.out.2.2.1 HBT.out.2.2.2.1 HBT.out.2.2.2.2.1 HBT.out.2.2.2.2.2.1 HBT.out.2.2.2.2.2.2.1 HBT.out.2.2.2.2.2.2.2 HBS.out.2.2.2.2.1 (Int.le_trans HBS.out.2.2.2.2.2.1 (by decide)) HBS.out.2.2.2.2.2.2.1 (Int.le_trans HBS.out.2.2.2.2.2.2.2 (by decide)) _).mono ?_
          rintro er w4 ⟨rfl, hb4⟩
          replace zl1 : ∀ o, w4.frozen? ⟨w.heap.size, o, none⟩ = false := fun o => (hb4.frozen (p := ⟨w.heap.size, o, none⟩) l1).trans (zl1 o)
          replace zl2 : ∀ o, w4.frozen? ⟨w.heap.size + 1, o, none⟩ = false := fun o => (hb4.frozen (p := ⟨w.heap.size + 1, o, none⟩) l2).trans (zl2 o)
          replace f1_0 : w4.cell? ⟨w.heap.size, 0, none⟩ = some (.int .i64 a) := (hb4.cell (p := ⟨w.heap.size, 0, none⟩) l1).trans f1_0
          replace f1_1 : w4.cell? ⟨w.heap.size, 1, none⟩ = some (.int .i64 b) := (hb4.cell (p := ⟨w.heap.size, 1, none⟩) l1).trans f1_1
          replace f1_2 : w4.cell? ⟨w.heap.size, 2, none⟩ = some (.int .i64 c) := (hb4.cell (p := ⟨w.heap.size, 2, none⟩) l1).trans f1_2
          replace f1_3 : w4.cell? ⟨w.heap.size, 3, none⟩ = some (.int .i64 d) := (hb4.cell (p := ⟨w.heap.size, 3, none⟩) l1).trans f1_3
          replace f2_0 : w4.cell? ⟨w.heap.size + 1, 0, none⟩ = some (.int .i64 e) := (hb4.cell (p := ⟨w.heap.size + 1, 0, none⟩) l2).trans f2_0
          replace f2_1 : w4.cell? ⟨w.heap.size + 1, 1, none⟩ = some (.int .i64 f) := (hb4.cell (p := ⟨w.heap.size + 1, 1, none⟩) l2).trans f2_1
          replace f2_2 : w4.cell? ⟨w.heap.size + 1, 2, none⟩ = some (.int .i64 g) := (hb4.cell (p := ⟨w.heap.size + 1, 2, none⟩) l2).trans f2_2
          replace f2_3 : w4.cell? ⟨w.heap.size + 1, 3, none⟩ = some (.int .i64 h) := (hb4.cell (p := ⟨w.heap.size + 1, 3, none⟩) l2).trans f2_3
          replace l1 : w.heap.size < w4.heap.size := Nat.lt_of_lt_of_le l1 hb4.size
          replace l2 : w.heap.size + 1 < w4.heap.size := Nat.lt_of_lt_of_le l2 hb4.size
          replace hbel : Below w.heap.size w w4 := hbel.trans (hb4.mono hbel.size)
          clear hb4
          by_cases j1 : a * f ≤ e * b ∧ e * d ≤ c * f
          · have J1 := Lib.hid (decide_eq_true j1)
            have K1 := Lib.hid j1
            clear j1
            go_wp2_with fail
            refine (In_any e f a b c d true J1.out HBS.out.1 HBS.out.2.1 HBS.out.2.2.1 HBS.out.2.2.2.1 HBS.out.2.2.2.2.1 HBS.out.2.2.2.2.2.1 HBS.out.2.2.2.2.2.2.1 HBS.out.2.2.2.2.2.2.2 HBT.out.1 (Int.le_trans HBT.out.2.1 (by decide)) HBT.out.2.2.1 (Int.le_trans HBT.out.2.2.2.1 (by decide)) _).mono ?_
            rintro er w5 ⟨rfl, hb5⟩
            replace f1_0 : w5.cell? ⟨w.heap.size, 0, none⟩ = some (.int .i64 a) := (hb5.cell (p := ⟨w.heap.size, 0, none⟩) l1).trans f1_0
            replace f1_1 : w5.cell? ⟨w.heap.size, 1, none⟩ = some (.int .i64 b) := (hb5.cell (p := ⟨w.heap.size, 1, none⟩) l1).trans f1_1
            replace f1_2 : w5.cell? ⟨w.heap.size, 2, none⟩ = some (.int .i64 c) := (hb5.cell (p := ⟨w.heap.size, 2, none⟩) l1).trans f1_2
            replace f1_3 : w5.cell? ⟨w.heap.size, 3, none⟩ = some (.int .i64 d) := (hb5.cell (p := ⟨w.heap.size, 3, none⟩) l1).trans f1_3
            replace f2_0 : w5.cell? ⟨w.heap.size + 1, 0, none⟩ = some (.int .i64 e) := (hb5.cell (p := ⟨w.heap.size + 1, 0, none⟩) l2).trans f2_0
            replace f2_1 : w5.cell? ⟨w.heap.size + 1, 1, none⟩ = some (.int .i64 f) := (hb5.cell (p := ⟨w.heap.size + 1, 1, none⟩) l2).trans f2_1
            replace f2_2 : w5.cell? ⟨w.heap.size + 1, 2, none⟩ = some (.int .i64 g) := (hb5.cell (p := ⟨w.heap.size + 1, 2, none⟩) l2).trans f2_2
            replace f2_3 : w5.cell? ⟨w.heap.size + 1, 3, none⟩ = some (.int .i64 h) := (hb5.cell (p := ⟨w.heap.size + 1, 3, none⟩) l2).trans f2_3
            replace l1 : w.heap.size < w5.heap.size := Nat.lt_of_lt_of_le l1 hb5.size
            replace l2 : w.heap.size + 1 < w5.heap.size := Nat.lt_of_lt_of_le l2 hb5.size
            replace hbel : Below w.heap.size w w5 := hbel.trans (hb5.mono hbel.size)
            clear hb5
            by_cases j2 : a * h ≤ g * b ∧ g * d ≤ c * h
            · have J2 := Lib.hid (decide_eq_true j2)
              have K2 := Lib.hid j2
              clear j2
              go_wp2_with fail
              refine (In_any g h a b c d true J2.out HBS.out.1 HBS.out.2.1 HBS.out.2.2.1 HBS.out.2.2.2.1 HBS.out.2.2.2.2.1 HBS.out.2.2.2.2.2.1 HBS.out.2.2.2.2.2.2.1 HBS.out.2.2.2.2.2.2.2 HBT.out.2.2.2.2.1 (Int.le_trans HBT.out.2.2.2.2.2.1 (by decide)) HBT.out.2.2.2.2.2.2.1 (Int.le_trans HBT.out.2.2.2.2.2.2.2 (by decide)) _).mono ?_
              rintro er w6 ⟨rfl, hb6⟩
              replace f1_0 : w6.cell? ⟨w.heap.size, 0, none⟩ = some (.int .i64 a) := (hb6.cell (p := ⟨w.heap.size, 0, none⟩) l1).trans f1_0
              replace f1_1 : w6.cell? ⟨w.heap.size, 1, none⟩ = some (.int .i64 b) := (hb6.cell (p := ⟨w.heap.size, 1, none⟩) l1).trans f1_1
              replace f1_2 : w6.cell? ⟨w.heap.size, 2, none⟩ = some (.int .i64 c) := (hb6.cell (p := ⟨w.heap.size, 2, none⟩) l1).trans f1_2
              replace f1_3 : w6.cell? ⟨w.heap.size, 3, none⟩ = some (.int .i64 d) := (hb6.cell (p := ⟨w.heap.size, 3, none⟩) l1).trans f1_3
              replace f2_0 : w6.cell? ⟨w.heap.size + 1, 0, none⟩ = some (.int .i64 e) := (hb6.cell (p := ⟨w.heap.size + 1, 0, none⟩) l2).trans f2_0
              replace f2_1 : w6.cell? ⟨w.heap.size + 1, 1, none⟩ = some (.int .i64 f) := (hb6.cell (p := ⟨w.heap.size + 1, 1, none⟩) l2).trans f2_1
              replace f2_2 : w6.cell? ⟨w.heap.size + 1, 2, none⟩ = some (.int .i64 g) := (hb6.cell (p := ⟨w.heap.size + 1, 2, none⟩) l2).trans f2_2
              replace f2_3 : w6.cell? ⟨w.heap.size + 1, 3, none⟩ = some (.int .i64 h) := (hb6.cell (p := ⟨w.heap.size + 1, 3, none⟩) l2).trans f2_3
              replace l1 : w.heap.size < w6.heap.size := Nat.lt_of_lt_of_le l1 hb6.size
              replace l2 : w.heap.size + 1 < w6.heap.size := Nat.lt_of_lt_of_le l2 hb6.size
              replace hbel : Below w.heap.size w w6 := hbel.trans (hb6.mono hbel.size)
              clear hb6
              go_wp2_with fail
              refine (Simplest_ok a b c d HS.out _).mono ?_
              rintro er w7 ⟨⟨x, y, rfl, hL⟩, hb7⟩
              have HL := Lib.hid hL
              clear hL
              replace f1_0 : w7.cell? ⟨w.heap.size, 0, none⟩ = some (.int .i64 a) := (hb7.cell (p := ⟨w.heap.size, 0, none⟩) l1).trans f1_0
              replace f1_1 : w7.cell? ⟨w.heap.size, 1, none⟩ = some (.int .i64 b) := (hb7.cell (p := ⟨w.heap.size, 1, none⟩) l1).trans f1_1
              replace f1_2 : w7.cell? ⟨w.heap.size, 2, none⟩ = some (.int .i64 c) := (hb7.cell (p := ⟨w.heap.size, 2, none⟩) l1).trans f1_2
              replace f1_3 : w7.cell? ⟨w.heap.size, 3, none⟩ = some (.int .i64 d) := (hb7.cell (p := ⟨w.heap.size, 3, none⟩) l1).trans f1_3
              replace f2_0 : w7.cell? ⟨w.heap.size + 1, 0, none⟩ = some (.int .i64 e) := (hb7.cell (p := ⟨w.heap.size + 1, 0, none⟩) l2).trans f2_0
              replace f2_1 : w7.cell? ⟨w.heap.size + 1, 1, none⟩ = some (.int .i64 f) := (hb7.cell (p := ⟨w.heap.size + 1, 1, none⟩) l2).trans f2_1
              replace f2_2 : w7.cell? ⟨w.heap.size + 1, 2, none⟩ = some (.int .i64 g) := (hb7.cell (p := ⟨w.heap.size + 1, 2, none⟩) l2).trans f2_2
              replace f2_3 : w7.cell? ⟨w.heap.size + 1, 3, none⟩ = some (.int .i64 h) := (hb7.cell (p := ⟨w.heap.size + 1, 3, none⟩) l2).trans f2_3
              replace l1 : w.heap.size < w7.heap.size := Nat.lt_of_lt_of_le l1 hb7.size
              replace l2 : w.heap.size + 1 < w7.heap.size := Nat.lt_of_lt_of_le l2 hb7.size
              replace hbel : Below w.heap.size w w7 := hbel.trans (hb7.mono hbel.size)
              clear hb7
              go_wp2_with fail
              refine (Simplest_ok e f g h HT.out _).mono ?_
              rintro er w8 ⟨⟨x', y', rfl, hM⟩, hb8⟩
              have HM := Lib.hid hM
              clear hM
              have hx : Below w7.heap.size w7 w8 := (((Below.refl _ _).alloc (Nat.le_refl _) _) : Below w7.heap.size w7 (w7.alloc (.cells #[.int .i64 x, .int .i64 y] 23))).trans (hb8.mono (by simp))
              have f3_0 : w8.cell? ⟨w7.heap.size, 0, none⟩ = some (.int .i64 x) := (hb8.cell (p := ⟨w7.heap.size, 0, none⟩) (by simp)).trans (by simp [go_sem])
              have f3_1 : w8.cell? ⟨w7.heap.size, 1, none⟩ = some (.int .i64 y) := (hb8.cell (p := ⟨w7.heap.size, 1, none⟩) (by simp)).trans (by simp [go_sem])
              have l3 : w7.heap.size < w8.heap.size := by have := hb8.size; simp at this; omega
              replace f1_0 : w8.cell? ⟨w.heap.size, 0, none⟩ = some (.int .i64 a) := (hx.cell (p := ⟨w.heap.size, 0, none⟩) l1).trans f1_0
              replace f1_1 : w8.cell? ⟨w.heap.size, 1, none⟩ = some (.int .i64 b) := (hx.cell (p := ⟨w.heap.size, 1, none⟩) l1).trans f1_1
              replace f1_2 : w8.cell? ⟨w.heap.size, 2, none⟩ = some (.int .i64 c) := (hx.cell (p := ⟨w.heap.size, 2, none⟩) l1).trans f1_2
              replace f1_3 : w8.cell? ⟨w.heap.size, 3, none⟩ = some (.int .i64 d) := (hx.cell (p := ⟨w.heap.size, 3, none⟩) l1).trans f1_3
              replace f2_0 : w8.cell? ⟨w.heap.size + 1, 0, none⟩ = some (.int .i64 e) := (hx.cell (p := ⟨w.heap.size + 1, 0, none⟩) l2).trans f2_0
              replace f2_1 : w8.cell? ⟨w.heap.size + 1, 1, none⟩ = some (.int .i64 f) := (hx.cell (p := ⟨w.heap.size + 1, 1, none⟩) l2).trans f2_1
              replace f2_2 : w8.cell? ⟨w.heap.size + 1, 2, none⟩ = some (.int .i64 g) := (hx.cell (p := ⟨w.heap.size + 1, 2, none⟩) l2).trans f2_2
              replace f2_3 : w8.cell? ⟨w.heap.size + 1, 3, none⟩ = some (.int .i64 h) := (hx.cell (p := ⟨w.heap.size + 1, 3, none⟩) l2).trans f2_3
              replace l1 : w.heap.size < w8.heap.size := Nat.lt_of_lt_of_le l1 hx.size
              replace l2 : w.heap.size + 1 < w8.heap.size := Nat.lt_of_lt_of_le l2 hx.size
              replace hbel : Below w.heap.size w w8 := hbel.trans (hx.mono hbel.size)
              clear hx
              clear hb8
              go_wp2_with fail
              refine (IsFraction_any x y true (decide_eq_true HL.out.fr) _).mono ?_
              rintro er w9 ⟨rfl, hb9⟩
              have hx : Below w8.heap.size w8 w9 := (((Below.refl _ _).alloc (Nat.le_refl _) _) : Below w8.heap.size w8 (w8.alloc (.cells #[.int .i64 x', .int .i64 y'] 23))).trans (hb9.mono (by simp))
              have f4_0 : w9.cell? ⟨w8.heap.size, 0, none⟩ = some (.int .i64 x') := (hb9.cell (p := ⟨w8.heap.size, 0, none⟩) (by simp)).trans (by simp [go_sem])
              have f4_1 : w9.cell? ⟨w8.heap.size, 1, none⟩ = some (.int .i64 y') := (hb9.cell (p := ⟨w8.heap.size, 1, none⟩) (by simp)).trans (by simp [go_sem])
              have l4 : w8.heap.size < w9.heap.size := by have := hb9.size; simp at this; omega
              replace f1_0 : w9.cell? ⟨w.heap.size, 0, none⟩ = some (.int .i64 a) := (hx.cell (p := ⟨w.heap.size, 0, none⟩) l1).trans f1_0
              replace f1_1 : w9.cell? ⟨w.heap.size, 1, none⟩ = some (.int .i64 b) := (hx.cell (p := ⟨w.heap.size, 1, none⟩) l1).trans f1_1
              replace f1_2 : w9.cell? ⟨w.heap.size, 2, none⟩ = some (.int .i64 c) := (hx.cell (p := ⟨w.heap.size, 2, none⟩) l1).trans f1_2
              replace f1_3 : w9.cell? ⟨w.heap.size, 3, none⟩ = some (.int .i64 d) := (hx.cell (p := ⟨w.heap.size, 3, none⟩) l1).trans f1_3
              replace f2_0 : w9.cell? ⟨w.heap.size + 1, 0, none⟩ = some (.int .i64 e) := (hx.cell (p := ⟨w.heap.size + 1, 0, none⟩) l2).trans f2_0
              replace f2_1 : w9.cell? ⟨w.heap.size + 1, 1, none⟩ = some (.int .i64 f) := (hx.cell (p := ⟨w.heap.size + 1, 1, none⟩) l2).trans f2_1
              replace f2_2 : w9.cell? ⟨w.heap.size + 1, 2, none⟩ = some (.int .i64 g) := (hx.cell (p := ⟨w.heap.size + 1, 2, none⟩) l2).trans f2_2
              replace f2_3 : w9.cell? ⟨w.heap.size + 1, 3, none⟩ = some (.int .i64 h) := (hx.cell (p := ⟨w.heap.size + 1, 3, none⟩) l2).trans f2_3
              replace f3_0 : w9.cell? ⟨w7.heap.size, 0, none⟩ = some (.int .i64 x) := (hx.cell (p := ⟨w7.heap.size, 0, none⟩) l3).trans f3_0
              replace f3_1 : w9.cell? ⟨w7.heap.size, 1, none⟩ = some (.int .i64 y) := (hx.cell (p := ⟨w7.heap.size, 1, none⟩) l3).trans f3_1
              replace l1 : w.heap.size < w9.heap.size := Nat.lt_of_lt_of_le l1 hx.size
              replace l2 : w.heap.size + 1 < w9.heap.size := Nat.lt_of_lt_of_le l2 hx.size
              replace l3 : w7.heap.size < w9.heap.size := Nat.lt_of_lt_of_le l3 hx.size
              replace hbel : Below w.heap.size w w9 := hbel.trans (hx.mono hbel.size)
              clear hx
              clear hb9
              go_wp2_with fail
              refine (IsFraction_any x' y' true (decide_eq_true HM.out.fr) _).mono ?_
              rintro er w10 ⟨rfl, hb10⟩
              replace f1_0 : w10.cell? ⟨w.heap.size, 0, none⟩ = some (.int .i64 a) := (hb10.cell (p := ⟨w.heap.size, 0, none⟩) l1).trans f1_0
              replace f1_1 : w10.cell? ⟨w.heap.size, 1, none⟩ = some (.int .i64 b) := (hb10.cell (p := ⟨w.heap.size, 1, none⟩) l1).trans f1_1
              replace f1_2 : w10.cell? ⟨w.heap.size, 2, none⟩ = some (.int .i64 c) := (hb10.cell (p := ⟨w.heap.size, 2, none⟩) l1).trans f1_2
              replace f1_3 : w10.cell? ⟨w.heap.size, 3, none⟩ = some (.int .i64 d) := (hb10.cell (p := ⟨w.heap.size, 3, none⟩) l1).trans f1_3
              replace f2_0 : w10.cell? ⟨w.heap.size + 1, 0, none⟩ = some (.int .i64 e) := (hb10.cell (p := ⟨w.heap.size + 1, 0, none⟩) l2).trans f2_0
              replace f2_1 : w10.cell? ⟨w.heap.size + 1, 1, none⟩ = some (.int .i64 f) := (hb10.cell (p := ⟨w.heap.size + 1, 1, none⟩) l2).trans f2_1
              replace f2_2 : w10.cell? ⟨w.heap.size + 1, 2, none⟩ = some (.int .i64 g) := (hb10.cell (p := ⟨w.heap.size + 1, 2, none⟩) l2).trans f2_2
              replace f2_3 : w10.cell? ⟨w.heap.size + 1, 3, none⟩ = some (.int .i64 h) := (hb10.cell (p := ⟨w.heap.size + 1, 3, none⟩) l2).trans f2_3
              replace f3_0 : w10.cell? ⟨w7.heap.size, 0, none⟩ = some (.int .i64 x) := (hb10.cell (p := ⟨w7.heap.size, 0, none⟩) l3).trans f3_0
              replace f3_1 : w10.cell? ⟨w7.heap.size, 1, none⟩ = some (.int .i64 y) := (hb10.cell (p := ⟨w7.heap.size, 1, none⟩) l3).trans f3_1
              replace f4_0 : w10.cell? ⟨w8.heap.size, 0, none⟩ = some (.int .i64 x') := (hb10.cell (p := ⟨w8.heap.size, 0, none⟩) l4).trans f4_0
              replace f4_1 : w10.cell? ⟨w8.heap.size, 1, none⟩ = some (.int .i64 y') := (hb10.cell (p := ⟨w8.heap.size, 1, none⟩) l4).trans f4_1
              replace l1 : w.heap.size < w10.heap.size := Nat.lt_of_lt_of_le l1 hb10.size
              replace l2 : w.heap.size + 1 < w10.heap.size := Nat.lt_of_lt_of_le l2 hb10.size
              replace l3 : w7.heap.size < w10.heap.size := Nat.lt_of_lt_of_le l3 hb10.size
              replace l4 : w8.heap.size < w10.heap.size := Nat.lt_of_lt_of_le l4 hb10.size
              replace hbel : Below w.heap.size w w10 := hbel.trans (hb10.mono hbel.size)
              clear hb10
              obtain ⟨hm1, hm2⟩ := narrow_le HS.out HT.out K1.out.1 K2.out.2 HL.out HM.out
              by_cases hin : e * y ≤ x * f ∧ x * h ≤ g * y
              · go_wp2_with fail
                refine (In_any x y e f g h true (decide_eq_true hin) HBT.out.1 HBT.out.2.1 HBT.out.2.2.1 HBT.out.2.2.2.1 HBT.out.2.2.2.2.1 HBT.out.2.2.2.2.2.1 HBT.out.2.2.2.2.2.2.1 HBT.out.2.2.2.2.2.2.2 (by have := HL.out.fr.1; omega) (by have := HL.out.fr.2.1; omega) (by have := HL.out.fr.2.2.1; omega) (by have := HL.out.fr.2.2.2.1; omega) _).mono ?_
                rintro er w11 ⟨rfl, hb11⟩
                obtain ⟨hn1, hn2⟩ := HM.out.min x y HL.out.fr.1 HL.out.fr.2.2.1 hin.1 hin.2
                have ex : x' = x := by omega
                have ey : y' = y := by omega
                have HX := Lib.hid ex
                have HY := Lib.hid ey
                clear hin hn1 hn2 ex ey hm1 hm2
                replace f1_0 : w11.cell? ⟨w.heap.size, 0, none⟩ = some (.int .i64 a) := (hb11.cell (p := ⟨w.heap.size, 0, none⟩) l1).trans f1_0
                replace f1_1 : w11.cell? ⟨w.heap.size, 1, none⟩ = some (.int .i64 b) := (hb11.cell (p := ⟨w.heap.size, 1, none⟩) l1).trans f1_1
                replace f1_2 : w11.cell? ⟨w.heap.size, 2, none⟩ = some (.int .i64 c) := (hb11.cell (p := ⟨w.heap.size, 2, none⟩) l1).trans f1_2
                replace f1_3 : w11.cell? ⟨w.heap.size, 3, none⟩ = some (.int .i64 d) := (hb11.cell (p := ⟨w.heap.size, 3, none⟩) l1).trans f1_3
                replace f2_0 : w11.cell? ⟨w.heap.size + 1, 0, none⟩ = some (.int .i64 e) := (hb11.cell (p := ⟨w.heap.size + 1, 0, none⟩) l2).trans f2_0
                replace f2_1 : w11.cell? ⟨w.heap.size + 1, 1, none⟩ = some (.int .i64 f) := (hb11.cell (p := ⟨w.heap.size + 1, 1, none⟩) l2).trans f2_1
                replace f2_2 : w11.cell? ⟨w.heap.size + 1, 2, none⟩ = some (.int .i64 g) := (hb11.cell (p := ⟨w.heap.size + 1, 2, none⟩) l2).trans f2_2
                replace f2_3 : w11.cell? ⟨w.heap.size + 1, 3, none⟩ = some (.int .i64 h) := (hb11.cell (p := ⟨w.heap.size + 1, 3, none⟩) l2).trans f2_3
                replace f3_0 : w11.cell? ⟨w7.heap.size, 0, none⟩ = some (.int .i64 x) := (hb11.cell (p := ⟨w7.heap.size, 0, none⟩) l3).trans f3_0
                replace f3_1 : w11.cell? ⟨w7.heap.size, 1, none⟩ = some (.int .i64 y) := (hb11.cell (p := ⟨w7.heap.size, 1, none⟩) l3).trans f3_1
                replace f4_0 : w11.cell? ⟨w8.heap.size, 0, none⟩ = some (.int .i64 x') := (hb11.cell (p := ⟨w8.heap.size, 0, none⟩) l4).trans f4_0
                replace f4_1 : w11.cell? ⟨w8.heap.size, 1, none⟩ = some (.int .i64 y') := (hb11.cell (p := ⟨w8.heap.size, 1, none⟩) l4).trans f4_1
                replace l1 : w.heap.size < w11.heap.size := Nat.lt_of_lt_of_le l1 hb11.size
                replace l2 : w.heap.size + 1 < w11.heap.size := Nat.lt_of_lt_of_le l2 hb11.size
                replace l3 : w7.heap.size < w11.heap.size := Nat.lt_of_lt_of_le l3 hb11.size
                replace l4 : w8.heap.size < w11.heap.size := Nat.lt_of_lt_of_le l4 hb11.size
                replace hbel : Below w.heap.size w w11 := hbel.trans (hb11.mono hbel.size)
                clear hb11
                rw [HX.out] at f4_0
                rw [HY.out] at f4_1
                go_wp2_with fail
                refine (Works_any _).mono ?_
                rintro er w12 ⟨rfl, hb12⟩
                replace f1_0 : w12.cell? ⟨w.heap.size, 0, none⟩ = some (.int .i64 a) := (hb12.cell (p := ⟨w.heap.size, 0, none⟩) l1).trans f1_0
                replace f1_1 : w12.cell? ⟨w.heap.size, 1, none⟩ = some (.int .i64 b) := (hb12.cell (p := ⟨w.heap.size, 1, none⟩) l1).trans f1_1
                replace f1_2 : w12.cell? ⟨w.heap.size, 2, none⟩ = some (.int .i64 c) := (hb12.cell (p := ⟨w.heap.size, 2, none⟩) l1).trans f1_2
                replace f1_3 : w12.cell? ⟨w.heap.size, 3, none⟩ = some (.int .i64 d) := (hb12.cell (p := ⟨w.heap.size, 3, none⟩) l1).trans f1_3
                replace f2_0 : w12.cell? ⟨w.heap.size + 1, 0, none⟩ = some (.int .i64 e) := (hb12.cell (p := ⟨w.heap.size + 1, 0, none⟩) l2).trans f2_0
                replace f2_1 : w12.cell? ⟨w.heap.size + 1, 1, none⟩ = some (.int .i64 f) := (hb12.cell (p := ⟨w.heap.size + 1, 1, none⟩) l2).trans f2_1
                replace f2_2 : w12.cell? ⟨w.heap.size + 1, 2, none⟩ = some (.int .i64 g) := (hb12.cell (p := ⟨w.heap.size + 1, 2, none⟩) l2).trans f2_2
                replace f2_3 : w12.cell? ⟨w.heap.size + 1, 3, none⟩ = some (.int .i64 h) := (hb12.cell (p := ⟨w.heap.size + 1, 3, none⟩) l2).trans f2_3
                replace f3_0 : w12.cell? ⟨w7.heap.size, 0, none⟩ = some (.int .i64 x) := (hb12.cell (p := ⟨w7.heap.size, 0, none⟩) l3).trans f3_0
                replace f3_1 : w12.cell? ⟨w7.heap.size, 1, none⟩ = some (.int .i64 y) := (hb12.cell (p := ⟨w7.heap.size, 1, none⟩) l3).trans f3_1
                replace f4_0 : w12.cell? ⟨w8.heap.size, 0, none⟩ = some (.int .i64 x) := (hb12.cell (p := ⟨w8.heap.size, 0, none⟩) l4).trans f4_0
                replace f4_1 : w12.cell? ⟨w8.heap.size, 1, none⟩ = some (.int .i64 y) := (hb12.cell (p := ⟨w8.heap.size, 1, none⟩) l4).trans f4_1
                replace l1 : w.heap.size < w12.heap.size := Nat.lt_of_lt_of_le l1 hb12.size
                replace l2 : w.heap.size + 1 < w12.heap.size := Nat.lt_of_lt_of_le l2 hb12.size
                replace l3 : w7.heap.size < w12.heap.size := Nat.lt_of_lt_of_le l3 hb12.size
                replace l4 : w8.heap.size < w12.heap.size := Nat.lt_of_lt_of_le l4 hb12.size
                replace hbel : Below w.heap.size w w12 := hbel.trans (hb12.mono hbel.size)
                clear hb12
                go_wp2_with fail
                go_ret
                exact ⟨rfl, hbel⟩
              · go_wp2_with fail
                refine (In_any x y e f g h false (decide_eq_false hin) HBT.out.1 HBT.out.2.1 HBT.out.2.2.1 HBT.out.2.2.2.1 HBT.out.2.2.2.2.1 HBT.out.2.2.2.2.2.1 HBT.out.2.2.2.2.2.2.1 HBT.out.2.2.2.2.2.2.2 (by have := HL.out.fr.1; omega) (by have := HL.out.fr.2.1; omega) (by have := HL.out.fr.2.2.1; omega) (by have := HL.out.fr.2.2.2.1; omega) _).mono ?_
                rintro er w11 ⟨rfl, hb11⟩
                clear hin
                replace f1_0 : w11.cell? ⟨w.heap.size, 0, none⟩ = some (.int .i64 a) := (hb11.cell (p := ⟨w.heap.size, 0, none⟩) l1).trans f1_0
                replace f1_1 : w11.cell? ⟨w.heap.size, 1, none⟩ = some (.int .i64 b) := (hb11.cell (p := ⟨w.heap.size, 1, none⟩) l1).trans f1_1
                replace f1_2 : w11.cell? ⟨w.heap.size, 2, none⟩ = some (.int .i64 c) := (hb11.cell (p := ⟨w.heap.size, 2, none⟩) l1).trans f1_2
                replace f1_3 : w11.cell? ⟨w.heap.size, 3, none⟩ = some (.int .i64 d) := (hb11.cell (p := ⟨w.heap.size, 3, none⟩) l1).trans f1_3
                replace f2_0 : w11.cell? ⟨w.heap.size + 1, 0, none⟩ = some (.int .i64 e) := (hb11.cell (p := ⟨w.heap.size + 1, 0, none⟩) l2).trans f2_0
                replace f2_1 : w11.cell? ⟨w.heap.size + 1, 1, none⟩ = some (.int .i64 f) := (hb11.cell (p := ⟨w.heap.size + 1, 1, none⟩) l2).trans f2_1
                replace f2_2 : w11.cell? ⟨w.heap.size + 1, 2, none⟩ = some (.int .i64 g) := (hb11.cell (p := ⟨w.heap.size + 1, 2, none⟩) l2).trans f2_2
                replace f2_3 : w11.cell? ⟨w.heap.size + 1, 3, none⟩ = some (.int .i64 h) := (hb11.cell (p := ⟨w.heap.size + 1, 3, none⟩) l2).trans f2_3
                replace f3_0 : w11.cell? ⟨w7.heap.size, 0, none⟩ = some (.int .i64 x) := (hb11.cell (p := ⟨w7.heap.size, 0, none⟩) l3).trans f3_0
                replace f3_1 : w11.cell? ⟨w7.heap.size, 1, none⟩ = some (.int .i64 y) := (hb11.cell (p := ⟨w7.heap.size, 1, none⟩) l3).trans f3_1
                replace f4_0 : w11.cell? ⟨w8.heap.size, 0, none⟩ = some (.int .i64 x') := (hb11.cell (p := ⟨w8.heap.size, 0, none⟩) l4).trans f4_0
                replace f4_1 : w11.cell? ⟨w8.heap.size, 1, none⟩ = some (.int .i64 y') := (hb11.cell (p := ⟨w8.heap.size, 1, none⟩) l4).trans f4_1
                replace l1 : w.heap.size < w11.heap.size := Nat.lt_of_lt_of_le l1 hb11.size
                replace l2 : w.heap.size + 1 < w11.heap.size := Nat.lt_of_lt_of_le l2 hb11.size
                replace l3 : w7.heap.size < w11.heap.size := Nat.lt_of_lt_of_le l3 hb11.size
                replace l4 : w8.heap.size < w11.heap.size := Nat.lt_of_lt_of_le l4 hb11.size
                replace hbel : Below w.heap.size w w11 := hbel.trans (hb11.mono hbel.size)
                clear hb11
                go_wp2_with fail
                refine (Works_any _).mono ?_
                rintro er w12 ⟨rfl, hb12⟩
                replace f1_0 : w12.cell? ⟨w.heap.size, 0, none⟩ = some (.int .i64 a) := (hb12.cell (p := ⟨w.heap.size, 0, none⟩) l1).trans f1_0
                replace f1_1 : w12.cell? ⟨w.heap.size, 1, none⟩ = some (.int .i64 b) := (hb12.cell (p := ⟨w.heap.size, 1, none⟩) l1).trans f1_1
                replace f1_2 : w12.cell? ⟨w.heap.size, 2, none⟩ = some (.int .i64 c) := (hb12.cell (p := ⟨w.heap.size, 2, none⟩) l1).trans f1_2
                replace f1_3 : w12.cell? ⟨w.heap.size, 3, none⟩ = some (.int .i64 d) := (hb12.cell (p := ⟨w.heap.size, 3, none⟩) l1).trans f1_3
                replace f2_0 : w12.cell? ⟨w.heap.size + 1, 0, none⟩ = some (.int .i64 e) := (hb12.cell (p := ⟨w.heap.size + 1, 0, none⟩) l2).trans f2_0
                replace f2_1 : w12.cell? ⟨w.heap.size + 1, 1, none⟩ = some (.int .i64 f) := (hb12.cell (p := ⟨w.heap.size + 1, 1, none⟩) l2).trans f2_1
                replace f2_2 : w12.cell? ⟨w.heap.size + 1, 2, none⟩ = some (.int .i64 g) := (hb12.cell (p := ⟨w.heap.size + 1, 2, none⟩) l2).trans f2_2
                replace f2_3 : w12.cell? ⟨w.heap.size + 1, 3, none⟩ = some (.int .i64 h) := (hb12.cell (p := ⟨w.heap.size + 1, 3, none⟩) l2).trans f2_3
                replace f3_0 : w12.cell? ⟨w7.heap.size, 0, none⟩ = some (.int .i64 x) := (hb12.cell (p := ⟨w7.heap.size, 0, none⟩) l3).trans f3_0
                replace f3_1 : w12.cell? ⟨w7.heap.size, 1, none⟩ = some (.int .i64 y) := (hb12.cell (p := ⟨w7.heap.size, 1, none⟩) l3).trans f3_1
                replace f4_0 : w12.cell? ⟨w8.heap.size, 0, none⟩ = some (.int .i64 x') := (hb12.cell (p := ⟨w8.heap.size, 0, none⟩) l4).trans f4_0
                replace f4_1 : w12.cell? ⟨w8.heap.size, 1, none⟩ = some (.int .i64 y') := (hb12.cell (p := ⟨w8.heap.size, 1, none⟩) l4).trans f4_1
                replace l1 : w.heap.size < w12.heap.size := Nat.lt_of_lt_of_le l1 hb12.size
                replace l2 : w.heap.size + 1 < w12.heap.size := Nat.lt_of_lt_of_le l2 hb12.size
                replace l3 : w7.heap.size < w12.heap.size := Nat.lt_of_lt_of_le l3 hb12.size
                replace l4 : w8.heap.size < w12.heap.size := Nat.lt_of_lt_of_le l4 hb12.size
                replace hbel : Below w.heap.size w w12 := hbel.trans (hb12.mono hbel.size)
                clear hb12
                go_wp2_with fail
                go_ret
                exact ⟨rfl, hbel⟩
            · have J2 := Lib.hid (decide_eq_false j2)
              clear j2
              go_wp2_with fail
              refine (In_any g h a b c d false J2.out HBS.out.1 HBS.out.2.1 HBS.out.2.2.1 HBS.out.2.2.2.1 HBS.out.2.2.2.2.1 HBS.out.2.2.2.2.2.1 HBS.out.2.2.2.2.2.2.1 HBS.out.2.2.2.2.2.2.2 HBT.out.2.2.2.2.1 (Int.le_trans HBT.out.2.2.2.2.2.1 (by decide)) HBT.out.2.2.2.2.2.2.1 (Int.le_trans HBT.out.2.2.2.2.2.2.2 (by decide)) _).mono ?_
              rintro er w6 ⟨rfl, hb6⟩
              replace f1_0 : w6.cell? ⟨w.heap.size, 0, none⟩ = some (.int .i64 a) := (hb6.cell (p := ⟨w.heap.size, 0, none⟩) l1).trans f1_0
              replace f1_1 : w6.cell? ⟨w.heap.size, 1, none⟩ = some (.int .i64 b) := (hb6.cell (p := ⟨w.heap.size, 1, none⟩) l1).trans f1_1
              replace f1_2 : w6.cell? ⟨w.heap.size, 2, none⟩ = some (.int .i64 c) := (hb6.cell (p := ⟨w.heap.size, 2, none⟩) l1).trans f1_2
              replace f1_3 : w6.cell? ⟨w.heap.size, 3, none⟩ = some (.int .i64 d) := (hb6.cell (p := ⟨w.heap.size, 3, none⟩) l1).trans f1_3
              replace f2_0 : w6.cell? ⟨w.heap.size + 1, 0, none⟩ = some (.int .i64 e) := (hb6.cell (p := ⟨w.heap.size + 1, 0, none⟩) l2).trans f2_0
              replace f2_1 : w6.cell? ⟨w.heap.size + 1, 1, none⟩ = some (.int .i64 f) := (hb6.cell (p := ⟨w.heap.size + 1, 1, none⟩) l2).trans f2_1
              replace f2_2 : w6.cell? ⟨w.heap.size + 1, 2, none⟩ = some (.int .i64 g) := (hb6.cell (p := ⟨w.heap.size + 1, 2, none⟩) l2).trans f2_2
              replace f2_3 : w6.cell? ⟨w.heap.size + 1, 3, none⟩ = some (.int .i64 h) := (hb6.cell (p := ⟨w.heap.size + 1, 3, none⟩) l2).trans f2_3
              replace l1 : w.heap.size < w6.heap.size := Nat.lt_of_lt_of_le l1 hb6.size
              replace l2 : w.heap.size + 1 < w6.heap.size := Nat.lt_of_lt_of_le l2 hb6.size
              replace hbel : Below w.heap.size w w6 := hbel.trans (hb6.mono hbel.size)
              clear hb6
              go_wp2_with fail
              refine (Works_any _).mono ?_
              rintro er w7 ⟨rfl, hb7⟩
              replace f1_0 : w7.cell? ⟨w.heap.size, 0, none⟩ = some (.int .i64 a) := (hb7.cell (p := ⟨w.heap.size, 0, none⟩) l1).trans f1_0
              replace f1_1 : w7.cell? ⟨w.heap.size, 1, none⟩ = some (.int .i64 b) := (hb7.cell (p := ⟨w.heap.size, 1, none⟩) l1).trans f1_1
              replace f1_2 : w7.cell? ⟨w.heap.size, 2, none⟩ = some (.int .i64 c) := (hb7.cell (p := ⟨w.heap.size, 2, none⟩) l1).trans f1_2
              replace f1_3 : w7.cell? ⟨w.heap.size, 3, none⟩ = some (.int .i64 d) := (hb7.cell (p := ⟨w.heap.size, 3, none⟩) l1).trans f1_3
              replace f2_0 : w7.cell? ⟨w.heap.size + 1, 0, none⟩ = some (.int .i64 e) := (hb7.cell (p := ⟨w.heap.size + 1, 0, none⟩) l2).trans f2_0
              replace f2_1 : w7.cell? ⟨w.heap.size + 1, 1, none⟩ = some (.int .i64 f) := (hb7.cell (p := ⟨w.heap.size + 1, 1, none⟩) l2).trans f2_1
              replace f2_2 : w7.cell? ⟨w.heap.size + 1, 2, none⟩ = some (.int .i64 g) := (hb7.cell (p := ⟨w.heap.size + 1, 2, none⟩) l2).trans f2_2
              replace f2_3 : w7.cell? ⟨w.heap.size + 1, 3, none⟩ = some (.int .i64 h) := (hb7.cell (p := ⟨w.heap.size + 1, 3, none⟩) l2).trans f2_3
              replace l1 : w.heap.size < w7.heap.size := Nat.lt_of_lt_of_le l1 hb7.size
              replace l2 : w.heap.size + 1 < w7.heap.size := Nat.lt_of_lt_of_le l2 hb7.size
              replace hbel : Below w.heap.size w w7 := hbel.trans (hb7.mono hbel.size)
              clear hb7
              go_wp2_with fail
              go_ret
              exact ⟨rfl, hbel⟩
          · have J1 := Lib.hid (decide_eq_false j1)
            clear j1
            go_wp2_with fail
            refine (In_any e f a b c d false J1.out HBS.out.1 HBS.out.2.1 HBS.out.2.2.1 HBS.out.2.2.2.1 HBS.out.2.2.2.2.1 HBS.out.2.2.2.2.2.1 HBS.out.2.2.2.2.2.2.1 HBS.out.2.2.2.2.2.2.2 HBT.out.1 (Int.le_trans HBT.out.2.1 (by decide)) HBT.out.2.2.1 (Int.le_trans HBT.out.2.2.2.1 (by decide)) _).mono ?_
            rintro er w5 ⟨rfl, hb5⟩
            replace f1_0 : w5.cell? ⟨w.heap.size, 0, none⟩ = some (.int .i64 a) := (hb5.cell (p := ⟨w.heap.size, 0, none⟩) l1).trans f1_0
            replace f1_1 : w5.cell? ⟨w.heap.size, 1, none⟩ = some (.int .i64 b) := (hb5.cell (p := ⟨w.heap.size, 1, none⟩) l1).trans f1_1
            replace f1_2 : w5.cell? ⟨w.heap.size, 2, none⟩ = some (.int .i64 c) := (hb5.cell (p := ⟨w.heap.size, 2, none⟩) l1).trans f1_2
            replace f1_3 : w5.cell? ⟨w.heap.size, 3, none⟩ = some (.int .i64 d) := (hb5.cell (p := ⟨w.heap.size, 3, none⟩) l1).trans f1_3
            replace f2_0 : w5.cell? ⟨w.heap.size + 1, 0, none⟩ = some (.int .i64 e) := (hb5.cell (p := ⟨w.heap.size + 1, 0, none⟩) l2).trans f2_0
            replace f2_1 : w5.cell? ⟨w.heap.size + 1, 1, none⟩ = some (.int .i64 f) := (hb5.cell (p := ⟨w.heap.size + 1, 1, none⟩) l2).trans f2_1
            replace f2_2 : w5.cell? ⟨w.heap.size + 1, 2, none⟩ = some (.int .i64 g) := (hb5.cell (p := ⟨w.heap.size + 1, 2, none⟩) l2).trans f2_2
            replace f2_3 : w5.cell? ⟨w.heap.size + 1, 3, none⟩ = some (.int .i64 h) := (hb5.cell (p := ⟨w.heap.size + 1, 3, none⟩) l2).trans f2_3
            replace l1 : w.heap.size < w5.heap.size := Nat.lt_of_lt_of_le l1 hb5.size
            replace l2 : w.heap.size + 1 < w5.heap.size := Nat.lt_of_lt_of_le l2 hb5.size
            replace hbel : Below w.heap.size w w5 := hbel.trans (hb5.mono hbel.size)
            clear hb5
            go_wp2_with fail
            refine (Works_any _).mono ?_
            rintro er w6 ⟨rfl, hb6⟩
            replace f1_0 : w6.cell? ⟨w.heap.size, 0, none⟩ = some (.int .i64 a) := (hb6.cell (p := ⟨w.heap.size, 0, none⟩) l1).trans f1_0
            replace f1_1 : w6.cell? ⟨w.heap.size, 1, none⟩ = some (.int .i64 b) := (hb6.cell (p := ⟨w.heap.size, 1, none⟩) l1).trans f1_1
            replace f1_2 : w6.cell? ⟨w.heap.size, 2, none⟩ = some (.int .i64 c) := (hb6.cell (p := ⟨w.heap.size, 2, none⟩) l1).trans f1_2
            replace f1_3 : w6.cell? ⟨w.heap.size, 3, none⟩ = some (.int .i64 d) := (hb6.cell (p := ⟨w.heap.size, 3, none⟩) l1).trans f1_3
            replace f2_0 : w6.cell? ⟨w.heap.size + 1, 0, none⟩ = some (.int .i64 e) := (hb6.cell (p := ⟨w.heap.size + 1, 0, none⟩) l2).trans f2_0
            replace f2_1 : w6.cell? ⟨w.heap.size + 1, 1, none⟩ = some (.int .i64 f) := (hb6.cell (p := ⟨w.heap.size + 1, 1, none⟩) l2).trans f2_1
            replace f2_2 : w6.cell? ⟨w.heap.size + 1, 2, none⟩ = some (.int .i64 g) := (hb6.cell (p := ⟨w.heap.size + 1, 2, none⟩) l2).trans f2_2
            replace f2_3 : w6.cell? ⟨w.heap.size + 1, 3, none⟩ = some (.int .i64 h) := (hb6.cell (p := ⟨w.heap.size + 1, 3, none⟩) l2).trans f2_3
            replace l1 : w.heap.size < w6.heap.size := Nat.lt_of_lt_of_le l1 hb6.size
            replace l2 : w.heap.size + 1 < w6.heap.size := Nat.lt_of_lt_of_le l2 hb6.size
            replace hbel : Below w.heap.size w w6 := hbel.trans (hb6.mono hbel.size)
            clear hb6
            go_wp2_with fail
            go_ret
            exact ⟨rfl, hbel⟩
      · have I1 := Lib.hid (decide_eq_false i1)
        clear i1
        go_wp2_with fail
        refine (In_any a b e f g h false I1.out HBT.out.1 HBT.out.2.1 HBT.out.2.2.1 HBT.out.2.2.2.1 HBT.out.2.2.2.2.1 HBT.out.2.2.2.2.2.1 HBT.out.2.2.2.2.2.2.1 HBT.out.2.2.2.2.2.2.2 HBS.out.1 (Int.le_trans HBS.out.2.1 (by decide)) HBS.out.2.2.1 (Int.le_trans HBS.out.2.2.2.1 (by decide)) _).mono ?_
        rintro er w3 ⟨rfl, hb3⟩
        replace zl1 : ∀ o, w3.frozen? ⟨w.heap.size, o, none⟩ = false := fun o => (hb3.frozen (p := ⟨w.heap.size, o, none⟩) l1).trans (zl1 o)
        replace zl2 : ∀ o, w3.frozen? ⟨w.heap.size + 1, o, none⟩ = false := fun o => (hb3.frozen (p := ⟨w.heap.size + 1, o, none⟩) l2).trans (zl2 o)
        replace f1_0 : w3.cell? ⟨w.heap.size, 0, none⟩ = some (.int .i64 a) := (hb3.cell (p := ⟨w.heap.size, 0, none⟩) l1).trans f1_0
        replace f1_1 : w3.cell? ⟨w.heap.size, 1, none⟩ = some (.int .i64 b) := (hb3.cell (p := ⟨w.heap.size, 1, none⟩) l1).trans f1_1
        replace f1_2 : w3.cell? ⟨w.heap.size, 2, none⟩ = some (.int .i64 c) := (hb3.cell (p := ⟨w.heap.size, 2, none⟩) l1).trans f1_2
        replace f1_3 : w3.cell? ⟨w.heap.size, 3, none⟩ = some (.int .i64 d) := (hb3.cell (p := ⟨w.heap.size, 3, none⟩) l1).trans f1_3
        replace f2_0 : w3.cell? ⟨w.heap.size + 1, 0, none⟩ = some (.int .i64 e) := (hb3.cell (p := ⟨w.heap.size + 1, 0, none⟩) l2).trans f2_0
        replace f2_1 : w3.cell? ⟨w.heap.size + 1, 1, none⟩ = some (.int .i64 f) := (hb3.cell (p := ⟨w.heap.size + 1, 1, none⟩) l2).trans f2_1
        replace f2_2 : w3.cell? ⟨w.heap.size + 1, 2, none⟩ = some (.int .i64 g) := (hb3.cell (p := ⟨w.heap.size + 1, 2, none⟩) l2).trans f2_2
        replace f2_3 : w3.cell? ⟨w.heap.size + 1, 3, none⟩ = some (.int .i64 h) := (hb3.cell (p := ⟨w.heap.size + 1, 3, none⟩) l2).trans f2_3
        replace l1 : w.heap.size < w3.heap.size := Nat.lt_of_lt_of_le l1 hb3.size
        replace l2 : w.heap.size + 1 < w3.heap.size := Nat.lt_of_lt_of_le l2 hb3.size
        replace hbel : Below w.heap.size w w3 := hbel.trans (hb3.mono hbel.size)
        clear hb3
        by_cases j1 : a * f ≤ e * b ∧ e * d ≤ c * f
        · have J1 := Lib.hid (decide_eq_true j1)
          have K1 := Lib.hid j1
          clear j1
          go_wp2_with fail
          refine (In_any e f a b c d true J1.out HBS.out.1 HBS.out.2.1 HBS.out.2.2.1 HBS.out.2.2.2.1 HBS.out.2.2.2.2.1 HBS.out.2.2.2.2.2.1 HBS.out.2.2.2.2.2.2.1 HBS.out.2.2.2.2.2.2.2 HBT.out.1 (Int.le_trans HBT.out.2.1 (by decide)) HBT.out.2.2.1 (Int.le_trans HBT.out.2.2.2.1 (by decide)) _).mono ?_
          rintro er w4 ⟨rfl, hb4⟩
          replace f1_0 : w4.cell? ⟨w.heap.size, 0, none⟩ = some (.int .i64 a) := (hb4.cell (p := ⟨w.heap.size, 0, none⟩) l1).trans f1_0
          replace f1_1 : w4.cell? ⟨w.heap.size, 1, none⟩ = some (.int .i64 b) := (hb4.cell (p := ⟨w.heap.size, 1, none⟩) l1).trans f1_1
          replace f1_2 : w4.cell? ⟨w.heap.size, 2, none⟩ = some (.int .i64 c) := (hb4.cell (p := ⟨w.heap.size, 2, none⟩) l1).trans f1_2
          replace f1_3 : w4.cell? ⟨w.heap.size, 3, none⟩ = some (.int .i64 d) := (hb4.cell (p := ⟨w.heap.size, 3, none⟩) l1).trans f1_3
          replace f2_0 : w4.cell? ⟨w.heap.size + 1, 0, none⟩ = some (.int .i64 e) := (hb4.cell (p := ⟨w.heap.size + 1, 0, none⟩) l2).trans f2_0
          replace f2_1 : w4.cell? ⟨w.heap.size + 1, 1, none⟩ = some (.int .i64 f) := (hb4.cell (p := ⟨w.heap.size + 1, 1, none⟩) l2).trans f2_1
          replace f2_2 : w4.cell? ⟨w.heap.size + 1, 2, none⟩ = some (.int .i64 g) := (hb4.cell (p := ⟨w.heap.size + 1, 2, none⟩) l2).trans f2_2
          replace f2_3 : w4.cell? ⟨w.heap.size + 1, 3, none⟩ = some (.int .i64 h) := (hb4.cell (p := ⟨w.heap.size + 1, 3, none⟩) l2).trans f2_3
          replace l1 : w.heap.size < w4.heap.size := Nat.lt_of_lt_of_le l1 hb4.size
          replace l2 : w.heap.size + 1 < w4.heap.size := Nat.lt_of_lt_of_le l2 hb4.size
          replace hbel : Below w.heap.size w w4 := hbel.trans (hb4.mono hbel.size)
          clear hb4
          by_cases j2 : a * h ≤ g * b ∧ g * d ≤ c * h
          · have J2 := Lib.hid (decide_eq_true j2)
            have K2 := Lib.hid j2
            clear j2
            go_wp2_with fail
            refine (In_any g h a b c d true J2.out HBS.out.1 HBS.out.2.1 HBS.out.2.2.1 HBS.out.2.2.2.1 HBS.out.2.2.2.2.1 HBS.out.2.2.2.2.2.1 HBS.out.2.2.2.2.2.2.1 HBS.out.2.2.2.2.2.2.2 HBT.out.2.2.2.2.1 (Int.le_trans HBT.out.2.2.2.2.2.1 (by decide)) HBT.out.2.2.2.2.2.2.1 (Int.le_trans HBT.out.2.2.2.2.2.2.2 (by decide)) _).mono ?_
            rintro er w5 ⟨rfl, hb5⟩
            replace f1_0 : w5.cell? ⟨w.heap.size, 0, none⟩ = some (.int .i64 a) := (hb5.cell (p := ⟨w.heap.size, 0, none⟩) l1).trans f1_0
            replace f1_1 : w5.cell? ⟨w.heap.size, 1, none⟩ = some (.int .i64 b) := (hb5.cell (p := ⟨w.heap.size, 1, none⟩) l1).trans f1_1
            replace f1_2 : w5.cell? ⟨w.heap.size, 2, none⟩ = some (.int .i64 c) := (hb5.cell (p := ⟨w.heap.size, 2, none⟩) l1).trans f1_2
            replace f1_3 : w5.cell? ⟨w.heap.size, 3, none⟩ = some (.int .i64 d) := (hb5.cell (p := ⟨w.heap.size, 3, none⟩) l1).trans f1_3
            replace f2_0 : w5.cell? ⟨w.heap.size + 1, 0, none⟩ = some (.int .i64 e) := (hb5.cell (p := ⟨w.heap.size + 1, 0, none⟩) l2).trans f2_0
            replace f2_1 : w5.cell? ⟨w.heap.size + 1, 1, none⟩ = some (.int .i64 f) := (hb5.cell (p := ⟨w.heap.size + 1, 1, none⟩) l2).trans f2_1
            replace f2_2 : w5.cell? ⟨w.heap.size + 1, 2, none⟩ = some (.int .i64 g) := (hb5.cell (p := ⟨w.heap.size + 1, 2, none⟩) l2).trans f2_2
            replace f2_3 : w5.cell? ⟨w.heap.size + 1, 3, none⟩ = some (.int .i64 h) := (hb5.cell (p := ⟨w.heap.size + 1, 3, none⟩) l2).trans f2_3
            replace l1 : w.heap.size < w5.heap.size := Nat.lt_of_lt_of_le l1 hb5.size
            replace l2 : w.heap.size + 1 < w5.heap.size := Nat.lt_of_lt_of_le l2 hb5.size
            replace hbel : Below w.heap.size w w5 := hbel.trans (hb5.mono hbel.size)
            clear hb5
            go_wp2_with fail
            refine (Simplest_ok a b c d HS.out _).mono ?_
            rintro er w6 ⟨⟨x, y, rfl, hL⟩, hb6⟩
            have HL := Lib.hid hL
            clear hL
            replace f1_0 : w6.cell? ⟨w.heap.size, 0, none⟩ = some (.int .i64 a) := (hb6.cell (p := ⟨w.heap.size, 0, none⟩) l1).trans f1_0
            replace f1_1 : w6.cell? ⟨w.heap.size, 1, none⟩ = some (.int .i64 b) := (hb6.cell (p := ⟨w.heap.size, 1, none⟩) l1).trans f1_1
            replace f1_2 : w6.cell? ⟨w.heap.size, 2, none⟩ = some (.int .i64 c) := (hb6.cell (p := ⟨w.heap.size, 2, none⟩) l1).trans f1_2
            replace f1_3 : w6.cell? ⟨w.heap.size, 3, none⟩ = some (.int .i64 d) := (hb6.cell (p := ⟨w.heap.size, 3, none⟩) l1).trans f1_3
            replace f2_0 : w6.cell? ⟨w.heap.size + 1, 0, none⟩ = some (.int .i64 e) := (hb6.cell (p := ⟨w.heap.size + 1, 0, none⟩) l2).trans f2_0
            replace f2_1 : w6.cell? ⟨w.heap.size + 1, 1, none⟩ = some (.int .i64 f) := (hb6.cell (p := ⟨w.heap.size + 1, 1, none⟩) l2).trans f2_1
            replace f2_2 : w6.cell? ⟨w.heap.size + 1, 2, none⟩ = some (.int .i64 g) := (hb6.cell (p := ⟨w.heap.size + 1, 2, none⟩) l2).trans f2_2
            replace f2_3 : w6.cell? ⟨w.heap.size + 1, 3, none⟩ = some (.int .i64 h) := (hb6.cell (p := ⟨w.heap.size + 1, 3, none⟩) l2).trans f2_3
            replace l1 : w.heap.size < w6.heap.size := Nat.lt_of_lt_of_le l1 hb6.size
            replace l2 : w.heap.size + 1 < w6.heap.size := Nat.lt_of_lt_of_le l2 hb6.size
            replace hbel : Below w.heap.size w w6 := hbel.trans (hb6.mono hbel.size)
            clear hb6
            go_wp2_with fail
            refine (Simplest_ok e f g h HT.out _).mono ?_
            rintro er w7 ⟨⟨x', y', rfl, hM⟩, hb7⟩
            have HM := Lib.hid hM
            clear hM
            have hx : Below w6.heap.size w6 w7 := (((Below.refl _ _).alloc (Nat.le_refl _) _) : Below w6.heap.size w6 (w6.alloc (.cells #[.int .i64 x, .int .i64 y] 23))).trans (hb7.mono (by simp))
            have f3_0 : w7.cell? ⟨w6.heap.size, 0, none⟩ = some (.int .i64 x) := (hb7.cell (p := ⟨w6.heap.size, 0, none⟩) (by simp)).trans (by simp [go_sem])
            have f3_1 : w7.cell? ⟨w6.heap.size, 1, none⟩ = some (.int .i64 y) := (hb7.cell (p := ⟨w6.heap.size, 1, none⟩) (by simp)).trans (by simp [go_sem])
            have l3 : w6.heap.size < w7.heap.size := by have := hb7.size; simp at this; omega
            replace f1_0 : w7.cell? ⟨w.heap.size, 0, none⟩ = some (.int .i64 a) := (hx.cell (p := ⟨w.heap.size, 0, none⟩) l1).trans f1_0
            replace f1_1 : w7.cell? ⟨w.heap.size, 1, none⟩ = some (.int .i64 b) := (hx.cell (p := ⟨w.heap.size, 1, none⟩) l1).trans f1_1
            replace f1_2 : w7.cell? ⟨w.heap.size, 2, none⟩ = some (.int .i64 c) := (hx.cell (p := ⟨w.heap.size, 2, none⟩) l1).trans f1_2
            replace f1_3 : w7.cell? ⟨w.heap.size, 3, none⟩ = some (.int .i64 d) := (hx.cell (p := ⟨w.heap.size, 3, none⟩) l1).trans f1_3
            replace f2_0 : w7.cell? ⟨w.heap.size + 1, 0, none⟩ = some (.int .i64 e) := (hx.cell (p := ⟨w.heap.size + 1, 0, none⟩) l2).trans f2_0
            replace f2_1 : w7.cell? ⟨w.heap.size + 1, 1, none⟩ = some (.int .i64 f) := (hx.cell (p := ⟨w.heap.size + 1, 1, none⟩) l2).trans f2_1
            replace f2_2 : w7.cell? ⟨w.heap.size + 1, 2, none⟩ = some (.int .i64 g) := (hx.cell (p := ⟨w.heap.size + 1, 2, none⟩) l2).trans f2_2
            replace f2_3 : w7.cell? ⟨w.heap.size + 1, 3, none⟩ = some (.int .i64 h) := (hx.cell (p := ⟨w.heap.size + 1, 3, none⟩) l2).trans f2_3
            replace l1 : w.heap.size < w7.heap.size := Nat.lt_of_lt_of_le l1 hx.size
            replace l2 : w.heap.size + 1 < w7.heap.size := Nat.lt_of_lt_of_le l2 hx.size
            replace hbel : Below w.heap.size w w7 := hbel.trans (hx.mono hbel.size)
            clear hx
            clear hb7
            go_wp2_with fail
            refine (IsFraction_any x y true (decide_eq_true HL.out.fr) _).mono ?_
            rintro er w8 ⟨rfl, hb8⟩
            have hx : Below w7.heap.size w7 w8 := (((Below.refl _ _).alloc (Nat.le_refl _) _) : Below w7.heap.size w7 (w7.alloc (.cells #[.int .i64 x', .int .i64 y'] 23))).trans (hb8.mono (by simp))
            have f4_0 : w8.cell? ⟨w7.heap.size, 0, none⟩ = some (.int .i64 x') := (hb8.cell (p := ⟨w7.heap.size, 0, none⟩) (by simp)).trans (by simp [go_sem])
            have f4_1 : w8.cell? ⟨w7.heap.size, 1, none⟩ = some (.int .i64 y') := (hb8.cell (p := ⟨w7.heap.size, 1, none⟩) (by simp)).trans (by simp [go_sem])
            have l4 : w7.heap.size < w8.heap.size := by have := hb8.size; simp at this; omega
            replace f1_0 : w8.cell? ⟨w.heap.size, 0, none⟩ = some (.int .i64 a) := (hx.cell (p := ⟨w.heap.size, 0, none⟩) l1).trans f1_0
            replace f1_1 : w8.cell? ⟨w.heap.size, 1, none⟩ = some (.int .i64 b) := (hx.cell (p := ⟨w.heap.size, 1, none⟩) l1).trans f1_1
            replace f1_2 : w8.cell? ⟨w.heap.size, 2, none⟩ = some (.int .i64 c) := (hx.cell (p := ⟨w.heap.size, 2, none⟩) l1).trans f1_2
            replace f1_3 : w8.cell? ⟨w.heap.size, 3, none⟩ = some (.int .i64 d) := (hx.cell (p := ⟨w.heap.size, 3, none⟩) l1).trans f1_3
            replace f2_0 : w8.cell? ⟨w.heap.size + 1, 0, none⟩ = some (.int .i64 e) := (hx.cell (p := ⟨w.heap.size + 1, 0, none⟩) l2).trans f2_0
            replace f2_1 : w8.cell? ⟨w.heap.size + 1, 1, none⟩ = some (.int .i64 f) := (hx.cell (p := ⟨w.heap.size + 1, 1, none⟩) l2).trans f2_1
            replace f2_2 : w8.cell? ⟨w.heap.size + 1, 2, none⟩ = some (.int .i64 g) := (hx.cell (p := ⟨w.heap.size + 1, 2, none⟩) l2).trans f2_2
            replace f2_3 : w8.cell? ⟨w.heap.size + 1, 3, none⟩ = some (.int .i64 h) := (hx.cell (p := ⟨w.heap.size + 1, 3, none⟩) l2).trans f2_3
            replace f3_0 : w8.cell? ⟨w6.heap.size, 0, none⟩ = some (.int .i64 x) := (hx.cell (p := ⟨w6.heap.size, 0, none⟩) l3).trans f3_0
            replace f3_1 : w8.cell? ⟨w6.heap.size, 1, none⟩ = some (.int .i64 y) := (hx.cell (p := ⟨w6.heap.size, 1, none⟩) l3).trans f3_1
            replace l1 : w.heap.size < w8.heap.size := Nat.lt_of_lt_of_le l1 hx.size
            replace l2 : w.heap.size + 1 < w8.heap.size := Nat.lt_of_lt_of_le l2 hx.size
            replace l3 : w6.heap.size < w8.heap.size := Nat.lt_of_lt_of_le l3 hx.size
            replace hbel : Below w.heap.size w w8 := hbel.trans (hx.mono hbel.size)
            clear hx
            clear hb8
            go_wp2_with fail
            refine (IsFraction_any x' y' true (decide_eq_true HM.out.fr) _).mono ?_
            rintro er w9 ⟨rfl, hb9⟩
            replace f1_0 : w9.cell? ⟨w.heap.size, 0, none⟩ = some (.int .i64 a) := (hb9.cell (p := ⟨w.heap.size, 0, none⟩) l1).trans f1_0
            replace f1_1 : w9.cell? ⟨w.heap.size, 1, none⟩ = some (.int .i64 b) := (hb9.cell (p := ⟨w.heap.size, 1, none⟩) l1).trans f1_1
            replace f1_2 : w9.cell? ⟨w.heap.size, 2, none⟩ = some (.int .i64 c) := (hb9.cell (p := ⟨w.heap.size, 2, none⟩) l1).trans f1_2
            replace f1_3 : w9.cell? ⟨w.heap.size, 3, none⟩ = some (.int .i64 d) := (hb9.cell (p := ⟨w.heap.size, 3, none⟩) l1).trans f1_3
            replace f2_0 : w9.cell? ⟨w.heap.size + 1, 0, none⟩ = some (.int .i64 e) := (hb9.cell (p := ⟨w.heap.size + 1, 0, none⟩) l2).trans f2_0
            replace f2_1 : w9.cell? ⟨w.heap.size + 1, 1, none⟩ = some (.int .i64 f) := (hb9.cell (p := ⟨w.heap.size + 1, 1, none⟩) l2).trans f2_1
            replace f2_2 : w9.cell? ⟨w.heap.size + 1, 2, none⟩ = some (.int .i64 g) := (hb9.cell (p := ⟨w.heap.size + 1, 2, none⟩) l2).trans f2_2
            replace f2_3 : w9.cell? ⟨w.heap.size + 1, 3, none⟩ = some (.int .i64 h) := (hb9.cell (p := ⟨w.heap.size + 1, 3, none⟩) l2).trans f2_3
            replace f3_0 : w9.cell? ⟨w6.heap.size, 0, none⟩ = some (.int .i64 x) := (hb9.cell (p := ⟨w6.heap.size, 0, none⟩) l3).trans f3_0
            replace f3_1 : w9.cell? ⟨w6.heap.size, 1, none⟩ = some (.int .i64 y) := (hb9.cell (p := ⟨w6.heap.size, 1, none⟩) l3).trans f3_1
            replace f4_0 : w9.cell? ⟨w7.heap.size, 0, none⟩ = some (.int .i64 x') := (hb9.cell (p := ⟨w7.heap.size, 0, none⟩) l4).trans f4_0
            replace f4_1 : w9.cell? ⟨w7.heap.size, 1, none⟩ = some (.int .i64 y') := (hb9.cell (p := ⟨w7.heap.size, 1, none⟩) l4).trans f4_1
            replace l1 : w.heap.size < w9.heap.size := Nat.lt_of_lt_of_le l1 hb9.size
            replace l2 : w.heap.size + 1 < w9.heap.size := Nat.lt_of_lt_of_le l2 hb9.size
            replace l3 : w6.heap.size < w9.heap.size := Nat.lt_of_lt_of_le l3 hb9.size
            replace l4 : w7.heap.size < w9.heap.size := Nat.lt_of_lt_of_le l4 hb9.size
            replace hbel : Below w.heap.size w w9 := hbel.trans (hb9.mono hbel.size)
            clear hb9
            obtain ⟨hm1, hm2⟩ := narrow_le HS.out HT.out K1.out.1 K2.out.2 HL.out HM.out
            by_cases hin : e * y ≤ x * f ∧ x * h ≤ g * y
            · go_wp2_with fail
              refine (In_any x y e f g h true (decide_eq_true hin) HBT.out.1 HBT.out.2.1 HBT.out.2.2.1 HBT.out.2.2.2.1 HBT.out.2.2.2.2.1 HBT.out.2.2.2.2.2.1 HBT.out.2.2.2.2.2.2.1 HBT.out.2.2.2.2.2.2.2 (by have := HL.out.fr.1; omega) (by have := HL.out.fr.2.1; omega) (by have := HL.out.fr.2.2.1; omega) (by have := HL.out.fr.2.2.2.1; omega) _).mono ?_
              rintro er w10 ⟨rfl, hb10⟩
              obtain ⟨hn1, hn2⟩ := HM.out.min x y HL.out.fr.1 HL.out.fr.2.2.1 hin.1 hin.2
              have ex : x' = x := by omega
              have ey : y' = y := by omega
              have HX := Lib.hid ex
              have HY := Lib.hid ey
              clear hin hn1 hn2 ex ey hm1 hm2
              replace f1_0 : w10.cell? ⟨w.heap.size, 0, none⟩ = some (.int .i64 a) := (hb10.cell (p := ⟨w.heap.size, 0, none⟩) l1).trans f1_0
              replace f1_1 : w10.cell? ⟨w.heap.size, 1, none⟩ = some (.int .i64 b) := (hb10.cell (p := ⟨w.heap.size, 1, none⟩) l1).trans f1_1
              replace f1_2 : w10.cell? ⟨w.heap.size, 2, none⟩ = some (.int .i64 c) := (hb10.cell (p := ⟨w.heap.size, 2, none⟩) l1).trans f1_2
              replace f1_3 : w10.cell? ⟨w.heap.size, 3, none⟩ = some (.int .i64 d) := (hb10.cell (p := ⟨w.heap.size, 3, none⟩) l1).trans f1_3
              replace f2_0 : w10.cell? ⟨w.heap.size + 1, 0, none⟩ = some (.int .i64 e) := (hb10.cell (p := ⟨w.heap.size + 1, 0, none⟩) l2).trans f2_0
              replace f2_1 : w10.cell? ⟨w.heap.size + 1, 1, none⟩ = some (.int .i64 f) := (hb10.cell (p := ⟨w.heap.size + 1, 1, none⟩) l2).trans f2_1
              replace f2_2 : w10.cell? ⟨w.heap.size + 1, 2, none⟩ = some (.int .i64 g) := (hb10.cell (p := ⟨w.heap.size + 1, 2, none⟩) l2).trans f2_2
              replace f2_3 : w10.cell? ⟨w.heap.size + 1, 3, none⟩ = some (.int .i64 h) := (hb10.cell (p := ⟨w.heap.size + 1, 3, none⟩) l2).trans f2_3
              replace f3_0 : w10.cell? ⟨w6.heap.size, 0, none⟩ = some (.int .i64 x) := (hb10.cell (p := ⟨w6.heap.size, 0, none⟩) l3).trans f3_0
              replace f3_1 : w10.cell? ⟨w6.heap.size, 1, none⟩ = some (.int .i64 y) := (hb10.cell (p := ⟨w6.heap.size, 1, none⟩) l3).trans f3_1
              replace f4_0 : w10.cell? ⟨w7.heap.size, 0, none⟩ = some (.int .i64 x') := (hb10.cell (p := ⟨w7.heap.size, 0, none⟩) l4).trans f4_0
              replace f4_1 : w10.cell? ⟨w7.heap.size, 1, none⟩ = some (.int .i64 y') := (hb10.cell (p := ⟨w7.heap.size, 1, none⟩) l4).trans f4_1
              replace l1 : w.heap.size < w10.heap.size := Nat.lt_of_lt_of_le l1 hb10.size
              replace l2 : w.heap.size + 1 < w10.heap.size := Nat.lt_of_lt_of_le l2 hb10.size
              replace l3 : w6.heap.size < w10.heap.size := Nat.lt_of_lt_of_le l3 hb10.size
              replace l4 : w7.heap.size < w10.heap.size := Nat.lt_of_lt_of_le l4 hb10.size
              replace hbel : Below w.heap.size w w10 := hbel.trans (hb10.mono hbel.size)
              clear hb10
              rw [HX.out] at f4_0
              rw [HY.out] at f4_1
              go_wp2_with fail
              refine (Works_any _).mono ?_
              rintro er w11 ⟨rfl, hb11⟩
              replace f1_0 : w11.cell? ⟨w.heap.size, 0, none⟩ = some (.int .i64 a) := (hb11.cell (p := ⟨w.heap.size, 0, none⟩) l1).trans f1_0
              replace f1_1 : w11.cell? ⟨w.heap.size, 1, none⟩ = some (.int .i64 b) := (hb11.cell (p := ⟨w.heap.size, 1, none⟩) l1).trans f1_1
              replace f1_2 : w11.cell? ⟨w.heap.size, 2, none⟩ = some (.int .i64 c) := (hb11.cell (p := ⟨w.heap.size, 2, none⟩) l1).trans f1_2
              replace f1_3 : w11.cell? ⟨w.heap.size, 3, none⟩ = some (.int .i64 d) := (hb11.cell (p := ⟨w.heap.size, 3, none⟩) l1).trans f1_3
              replace f2_0 : w11.cell? ⟨w.heap.size + 1, 0, none⟩ = some (.int .i64 e) := (hb11.cell (p := ⟨w.heap.size + 1, 0, none⟩) l2).trans f2_0
              replace f2_1 : w11.cell? ⟨w.heap.size + 1, 1, none⟩ = some (.int .i64 f) := (hb11.cell (p := ⟨w.heap.size + 1, 1, none⟩) l2).trans f2_1
              replace f2_2 : w11.cell? ⟨w.heap.size + 1, 2, none⟩ = some (.int .i64 g) := (hb11.cell (p := ⟨w.heap.size + 1, 2, none⟩) l2).trans f2_2
              replace f2_3 : w11.cell? ⟨w.heap.size + 1, 3, none⟩ = some (.int .i64 h) := (hb11.cell (p := ⟨w.heap.size + 1, 3, none⟩) l2).trans f2_3
              replace f3_0 : w11.cell? ⟨w6.heap.size, 0, none⟩ = some (.int .i64 x) := (hb11.cell (p := ⟨w6.heap.size, 0, none⟩) l3).trans f3_0
              replace f3_1 : w11.cell? ⟨w6.heap.size, 1, none⟩ = some (.int .i64 y) := (hb11.cell (p := ⟨w6.heap.size, 1, none⟩) l3).trans f3_1
              replace f4_0 : w11.cell? ⟨w7.heap.size, 0, none⟩ = some (.int .i64 x) := (hb11.cell (p := ⟨w7.heap.size, 0, none⟩) l4).trans f4_0
              replace f4_1 : w11.cell? ⟨w7.heap.size, 1, none⟩ = some (.int .i64 y) := (hb11.cell (p := ⟨w7.heap.size, 1, none⟩) l4).trans f4_1
              replace l1 : w.heap.size < w11.heap.size := Nat.lt_of_lt_of_le l1 hb11.size
              replace l2 : w.heap.size + 1 < w11.heap.size := Nat.lt_of_lt_of_le l2 hb11.size
              replace l3 : w6.heap.size < w11.heap.size := Nat.lt_of_lt_of_le l3 hb11.size
              replace l4 : w7.heap.size < w11.heap.size := Nat.lt_of_lt_of_le l4 hb11.size
              replace hbel : Below w.heap.size w w11 := hbel.trans (hb11.mono hbel.size)
              clear hb11
              go_wp2_with fail
              go_ret
              exact ⟨rfl, hbel⟩
            · go_wp2_with fail
              refine (In_any x y e f g h false (decide_eq_false hin) HBT.out.1 HBT.out.2.1 HBT.out.2.2.1 HBT.out.2.2.2.1 HBT.out.2.2.2.2.1 HBT.out.2.2.2.2.2.1 HBT.out.2.2.2.2.2.2.1 HBT.out.2.2.2.2.2.2.2 (by have := HL.out.fr.1; omega) (by have := HL.out.fr.2.1; omega) (by have := HL.out.fr.2.2.1; omega) (by have := HL.out.fr.2.2.2.1; omega) _).mono ?_
              rintro er w10 ⟨rfl, hb10⟩
              clear hin
              replace f1_0 : w10.cell? ⟨w.heap.size, 0, none⟩ = some (.int .i64 a) := (hb10.cell (p := ⟨w.heap.size, 0, none⟩) l1).trans f1_0
              replace f1_1 : w10.cell? ⟨w.heap.size, 1, none⟩ = some (.int .i64 b) := (hb10.cell (p := ⟨w.heap.size, 1, none⟩) l1).trans f1_1
              replace f1_2 : w10.cell? ⟨w.heap.size, 2, none⟩ = some (.int .i64 c) := (hb10.cell (p := ⟨w.heap.size, 2, none⟩) l1).trans f1_2
              replace f1_3 : w10.cell? ⟨w.heap.size, 3, none⟩ = some (.int .i64 d) := (hb10.cell (p := ⟨w.heap.size, 3, none⟩) l1).trans f1_3
              replace f2_0 : w10.cell? ⟨w.heap.size + 1, 0, none⟩ = some (.int .i64 e) := (hb10.cell (p := ⟨w.heap.size + 1, 0, none⟩) l2).trans f2_0
              replace f2_1 : w10.cell? ⟨w.heap.size + 1, 1, none⟩ = some (.int .i64 f) := (hb10.cell (p := ⟨w.heap.size + 1, 1, none⟩) l2).trans f2_1
              replace f2_2 : w10.cell? ⟨w.heap.size + 1, 2, none⟩ = some (.int .i64 g) := (hb10.cell (p := ⟨w.heap.size + 1, 2, none⟩) l2).trans f2_2
              replace f2_3 : w10.cell? ⟨w.heap.size + 1, 3, none⟩ = some (.int .i64 h) := (hb10.cell (p := ⟨w.heap.size + 1, 3, none⟩) l2).trans f2_3
              replace f3_0 : w10.cell? ⟨w6.heap.size, 0, none⟩ = some (.int .i64 x) := (hb10.cell (p := ⟨w6.heap.size, 0, none⟩) l3).trans f3_0
              replace f3_1 : w10.cell? ⟨w6.heap.size, 1, none⟩ = some (.int .i64 y) := (hb10.cell (p := ⟨w6.heap.size, 1, none⟩) l3).trans f3_1
              replace f4_0 : w10.cell? ⟨w7.heap.size, 0, none⟩ = some (.int .i64 x') := (hb10.cell (p := ⟨w7.heap.size, 0, none⟩) l4).trans f4_0
              replace f4_1 : w10.cell? ⟨w7.heap.size, 1, none⟩ = some (.int .i64 y') := (hb10.cell (p := ⟨w7.heap.size, 1, none⟩) l4).trans f4_1
              replace l1 : w.heap.size < w10.heap.size := Nat.lt_of_lt_of_le l1 hb10.size
              replace l2 : w.heap.size + 1 < w10.heap.size := Nat.lt_of_lt_of_le l2 hb10.size
              replace l3 : w6.heap.size < w10.heap.size := Nat.lt_of_lt_of_le l3 hb10.size
              replace l4 : w7.heap.size < w10.heap.size := Nat.lt_of_lt_of_le l4 hb10.size
              replace hbel : Below w.heap.size w w10 := hbel.trans (hb10.mono hbel.size)
              clear hb10
              go_wp2_with fail
              refine (Works_any _).mono ?_
              rintro er w11 ⟨rfl, hb11⟩
              replace f1_0 : w11.cell? ⟨w.heap.size, 0, none⟩ = some (.int .i64 a) := (hb11.cell (p := ⟨w.heap.size, 0, none⟩) l1).trans f1_0
              replace f1_1 : w11.cell? ⟨w.heap.size, 1, none⟩ = some (.int .i64 b) := (hb11.cell (p := ⟨w.heap.size, 1, none⟩) l1).trans f1_1
              replace f1_2 : w11.cell? ⟨w.heap.size, 2, none⟩ = some (.int .i64 c) := (hb11.cell (p := ⟨w.heap.size, 2, none⟩) l1).trans f1_2
              replace f1_3 : w11.cell? ⟨w.heap.size, 3, none⟩ = some (.int .i64 d) := (hb11.cell (p := ⟨w.heap.size, 3, none⟩) l1).trans f1_3
              replace f2_0 : w11.cell? ⟨w.heap.size + 1, 0, none⟩ = some (.int .i64 e) := (hb11.cell (p := ⟨w.heap.size + 1, 0, none⟩) l2).trans f2_0
              replace f2_1 : w11.cell? ⟨w.heap.size + 1, 1, none⟩ = some (.int .i64 f) := (hb11.cell (p := ⟨w.heap.size + 1, 1, none⟩) l2).trans f2_1
              replace f2_2 : w11.cell? ⟨w.heap.size + 1, 2, none⟩ = some (.int .i64 g) := (hb11.cell (p := ⟨w.heap.size + 1, 2, none⟩) l2).trans f2_2
              replace f2_3 : w11.cell? ⟨w.heap.size + 1, 3, none⟩ = some (.int .i64 h) := (hb11.cell (p := ⟨w.heap.size + 1, 3, none⟩) l2).trans f2_3
              replace f3_0 : w11.cell? ⟨w6.heap.size, 0, none⟩ = some (.int .i64 x) := (hb11.cell (p := ⟨w6.heap.size, 0, none⟩) l3).trans f3_0
              replace f3_1 : w11.cell? ⟨w6.heap.size, 1, none⟩ = some (.int .i64 y) := (hb11.cell (p := ⟨w6.heap.size, 1, none⟩) l3).trans f3_1
              replace f4_0 : w11.cell? ⟨w7.heap.size, 0, none⟩ = some (.int .i64 x') := (hb11.cell (p := ⟨w7.heap.size, 0, none⟩) l4).trans f4_0
              replace f4_1 : w11.cell? ⟨w7.heap.size, 1, none⟩ = some (.int .i64 y') := (hb11.cell (p := ⟨w7.heap.size, 1, none⟩) l4).trans f4_1
              replace l1 : w.heap.size < w11.heap.size := Nat.lt_of_lt_of_le l1 hb11.size
              replace l2 : w.heap.size + 1 < w11.heap.size := Nat.lt_of_lt_of_le l2 hb11.size
              replace l3 : w6.heap.size < w11.heap.size := Nat.lt_of_lt_of_le l3 hb11.size
              replace l4 : w7.heap.size < w11.heap.size := Nat.lt_of_lt_of_le l4 hb11.size
              replace hbel : Below w.heap.size w w11 := hbel.trans (hb11.mono hbel.size)
              clear hb11
              go_wp2_with fail
              go_ret
              exact ⟨rfl, hbel⟩
          · have J2 := Lib.hid (decide_eq_false j2)
            clear j2
            go_wp2_with fail
            refine (In_any g h a b c d false J2.out HBS.out.1 HBS.out.2.1 HBS.out.2.2.1 HBS.out.2.2.2.1 HBS.out.2.2.2.2.1 HBS.out.2.2.2.2.2.1 HBS.out.2.2.2.2.2.2.1 HBS.out.2.2.2.2.2.2.2 HBT.out.2.2.2.2.1 (Int.le_trans HBT.out.2.2.2.2.2.1 (by decide)) HBT.out.2.2.2.2.2.2.1 (Int.le_trans HBT.out.2.2.2.2.2.2.2 (by decide)) _).mono ?_
            rintro er w5 ⟨rfl, hb5⟩
            replace f1_0 : w5.cell? ⟨w.heap.size, 0, none⟩ = some (.int .i64 a) := (hb5.cell (p := ⟨w.heap.size, 0, none⟩) l1).trans f1_0
            replace f1_1 : w5.cell? ⟨w.heap.size, 1, none⟩ = some (.int .i64 b) := (hb5.cell (p := ⟨w.heap.size, 1, none⟩) l1).trans f1_1
            replace f1_2 : w5.cell? ⟨w.heap.size, 2, none⟩ = some (.int .i64 c) := (hb5.cell (p := ⟨w.heap.size, 2, none⟩) l1).trans f1_2
            replace f1_3 : w5.cell? ⟨w.heap.size, 3, none⟩ = some (.int .i64 d) := (hb5.cell (p := ⟨w.heap.size, 3, none⟩) l1).trans f1_3
            replace f2_0 : w5.cell? ⟨w.heap.size + 1, 0, none⟩ = some (.int .i64 e) := (hb5.cell (p := ⟨w.heap.size + 1, 0, none⟩) l2).trans f2_0
            replace f2_1 : w5.cell? ⟨w.heap.size + 1, 1, none⟩ = some (.int .i64 f) := (hb5.cell (p := ⟨w.heap.size + 1, 1, none⟩) l2).trans f2_1
            replace f2_2 : w5.cell? ⟨w.heap.size + 1, 2, none⟩ = some (.int .i64 g) := (hb5.cell (p := ⟨w.heap.size + 1, 2, none⟩) l2).trans f2_2
            replace f2_3 : w5.cell? ⟨w.heap.size + 1, 3, none⟩ = some (.int .i64 h) := (hb5.cell (p := ⟨w.heap.size + 1, 3, none⟩) l2).trans f2_3
            replace l1 : w.heap.size < w5.heap.size := Nat.lt_of_lt_of_le l1 hb5.size
            replace l2 : w.heap.size + 1 < w5.heap.size := Nat.lt_of_lt_of_le l2 hb5.size
            replace hbel : Below w.heap.size w w5 := hbel.trans (hb5.mono hbel.size)
            clear hb5
            go_wp2_with fail
            refine (Works_any _).mono ?_
            rintro er w6 ⟨rfl, hb6⟩
            replace f1_0 : w6.cell? ⟨w.heap.size, 0, none⟩ = some (.int .i64 a) := (hb6.cell (p := ⟨w.heap.size, 0, none⟩) l1).trans f1_0
            replace f1_1 : w6.cell? ⟨w.heap.size, 1, none⟩ = some (.int .i64 b) := (hb6.cell (p := ⟨w.heap.size, 1, none⟩) l1).trans f1_1
            replace f1_2 : w6.cell? ⟨w.heap.size, 2, none⟩ = some (.int .i64 c) := (hb6.cell (p := ⟨w.heap.size, 2, none⟩) l1).trans f1_2
            replace f1_3 : w6.cell? ⟨w.heap.size, 3, none⟩ = some (.int .i64 d) := (hb6.cell (p := ⟨w.heap.size, 3, none⟩) l1).trans f1_3
            replace f2_0 : w6.cell? ⟨w.heap.size + 1, 0, none⟩ = some (.int .i64 e) := (hb6.cell (p := ⟨w.heap.size + 1, 0, none⟩) l2).trans f2_0
            replace f2_1 : w6.cell? ⟨w.heap.size + 1, 1, none⟩ = some (.int .i64 f) := (hb6.cell (p := ⟨w.heap.size + 1, 1, none⟩) l2).trans f2_1
            replace f2_2 : w6.cell? ⟨w.heap.size + 1, 2, none⟩ = some (.int .i64 g) := (hb6.cell (p := ⟨w.heap.size + 1, 2, none⟩) l2).trans f2_2
            replace f2_3 : w6.cell? ⟨w.heap.size + 1, 3, none⟩ = some (.int .i64 h) := (hb6.cell (p := ⟨w.heap.size + 1, 3, none⟩) l2).trans f2_3
            replace l1 : w.heap.size < w6.heap.size := Nat.lt_of_lt_of_le l1 hb6.size
            replace l2 : w.heap.size + 1 < w6.heap.size := Nat.lt_of_lt_of_le l2 hb6.size
            replace hbel : Below w.heap.size w w6 := hbel.trans (hb6.mono hbel.size)
            clear hb6
            go_wp2_with fail
            go_ret
            exact ⟨rfl, hbel⟩
        · have J1 := Lib.hid (decide_eq_false j1)
          clear j1
          go_wp2_with fail
          refine (In_any e f a b c d false J1.out HBS.out.1 HBS.out.2.1 HBS.out.2.2.1 HBS.out.2.2.2.1 HBS.out.2.2.2.2.1 HBS.out.2.2.2.2.2.1 HBS.out.2.2.2.2.2.2.1 HBS.out.2.2.2.2.2.2.2 HBT.out.1 (Int.le_trans HBT.out.2.1 (by decide)) HBT.out.2.2.1 (Int.le_trans HBT.out.2.2.2.1 (by decide)) _).mono ?_
          rintro er w4 ⟨rfl, hb4⟩
          replace f1_0 : w4.cell? ⟨w.heap.size, 0, none⟩ = some (.int .i64 a) := (hb4.cell (p := ⟨w.heap.size, 0, none⟩) l1).trans f1_0
          replace f1_1 : w4.cell? ⟨w.heap.size, 1, none⟩ = some (.int .i64 b) := (hb4.cell (p := ⟨w.heap.size, 1, none⟩) l1).trans f1_1
          replace f1_2 : w4.cell? ⟨w.heap.size, 2, none⟩ = some (.int .i64 c) := (hb4.cell (p := ⟨w.heap.size, 2, none⟩) l1).trans f1_2
          replace f1_3 : w4.cell? ⟨w.heap.size, 3, none⟩ = some (.int .i64 d) := (hb4.cell (p := ⟨w.heap.size, 3, none⟩) l1).trans f1_3
          replace f2_0 : w4.cell? ⟨w.heap.size + 1, 0, none⟩ = some (.int .i64 e) := (hb4.cell (p := ⟨w.heap.size + 1, 0, none⟩) l2).trans f2_0
          replace f2_1 : w4.cell? ⟨w.heap.size + 1, 1, none⟩ = some (.int .i64 f) := (hb4.cell (p := ⟨w.heap.size + 1, 1, none⟩) l2).trans f2_1
          replace f2_2 : w4.cell? ⟨w.heap.size + 1, 2, none⟩ = some (.int .i64 g) := (hb4.cell (p := ⟨w.heap.size + 1, 2, none⟩) l2).trans f2_2
          replace f2_3 : w4.cell? ⟨w.heap.size + 1, 3, none⟩ = some (.int .i64 h) := (hb4.cell (p := ⟨w.heap.size + 1, 3, none⟩) l2).trans f2_3
          replace l1 : w.heap.size < w4.heap.size := Nat.lt_of_lt_of_le l1 hb4.size
          replace l2 : w.heap.size + 1 < w4.heap.size := Nat.lt_of_lt_of_le l2 hb4.size
          replace hbel : Below w.heap.size w w4 := hbel.trans (hb4.mono hbel.size)
          clear hb4
          go_wp2_with fail
          refine (Works_any _).mono ?_
          rintro er w5 ⟨rfl, hb5⟩
          replace f1_0 : w5.cell? ⟨w.heap.size, 0, none⟩ = some (.int .i64 a) := (hb5.cell (p := ⟨w.heap.size, 0, none⟩) l1).trans f1_0
          replace f1_1 : w5.cell? ⟨w.heap.size, 1, none⟩ = some (.int .i64 b) := (hb5.cell (p := ⟨w.heap.size, 1, none⟩) l1).trans f1_1
          replace f1_2 : w5.cell? ⟨w.heap.size, 2, none⟩ = some (.int .i64 c) := (hb5.cell (p := ⟨w.heap.size, 2, none⟩) l1).trans f1_2
          replace f1_3 : w5.cell? ⟨w.heap.size, 3, none⟩ = some (.int .i64 d) := (hb5.cell (p := ⟨w.heap.size, 3, none⟩) l1).trans f1_3
          replace f2_0 : w5.cell? ⟨w.heap.size + 1, 0, none⟩ = some (.int .i64 e) := (hb5.cell (p := ⟨w.heap.size + 1, 0, none⟩) l2).trans f2_0
          replace f2_1 : w5.cell? ⟨w.heap.size + 1, 1, none⟩ = some (.int .i64 f) := (hb5.cell (p := ⟨w.heap.size + 1, 1, none⟩) l2).trans f2_1
          replace f2_2 : w5.cell? ⟨w.heap.size + 1, 2, none⟩ = some (.int .i64 g) := (hb5.cell (p := ⟨w.heap.size + 1, 2, none⟩) l2).trans f2_2
          replace f2_3 : w5.cell? ⟨w.heap.size + 1, 3, none⟩ = some (.int .i64 h) := (hb5.cell (p := ⟨w.heap.size + 1, 3, none⟩) l2).trans f2_3
          replace l1 : w.heap.size < w5.heap.size := Nat.lt_of_lt_of_le l1 hb5.size
          replace l2 : w.heap.size + 1 < w5.heap.size := Nat.lt_of_lt_of_le l2 hb5.size
          replace hbel : Below w.heap.size w w5 := hbel.trans (hb5.mono hbel.size)
          clear hb5
          go_wp2_with fail
          go_ret
          exact ⟨rfl, hbel⟩
    · have HE := Lib.hid (decide_eq_false hT)
      clear hT
      go_enter Try.func10, Try.ntmps10
      go_wp2_with fail
      refine (fine_any a b c d true HD.out _).mono ?_
      rintro er w1 ⟨rfl, hb1⟩
      have hq1 := hb1
      have hx : Below w.heap.size w w1 := ((((Below.refl _ _).alloc (Nat.le_refl _) _).alloc (by simp) _) : Below w.heap.size w ((w.alloc (.cells #[.int .i64 a, .int .i64 b, .int .i64 c, .int .i64 d] 25)).alloc (.cells #[.int .i64 e, .int .i64 f, .int .i64 g, .int .i64 h] 25))).trans (hb1.mono (by simp; omega))
      have f1_0 : w1.cell? ⟨w.heap.size, 0, none⟩ = some (.int .i64 a) := (hb1.cell (p := ⟨w.heap.size, 0, none⟩) (by (try simp) <;> omega)).trans (by simp [go_sem])
      have f1_1 : w1.cell? ⟨w.heap.size, 1, none⟩ = some (.int .i64 b) := (hb1.cell (p := ⟨w.heap.size, 1, none⟩) (by (try simp) <;> omega)).trans (by simp [go_sem])
      have f1_2 : w1.cell? ⟨w.heap.size, 2, none⟩ = some (.int .i64 c) := (hb1.cell (p := ⟨w.heap.size, 2, none⟩) (by (try simp) <;> omega)).trans (by simp [go_sem])
      have f1_3 : w1.cell? ⟨w.heap.size, 3, none⟩ = some (.int .i64 d) := (hb1.cell (p := ⟨w.heap.size, 3, none⟩) (by (try simp) <;> omega)).trans (by simp [go_sem])
      have l1 : w.heap.size < w1.heap.size := by have := hb1.size; simp at this; omega
      have f2_0 : w1.cell? ⟨w.heap.size + 1, 0, none⟩ = some (.int .i64 e) := (hb1.cell (p := ⟨w.heap.size + 1, 0, none⟩) (by simp)).trans (by simp [go_sem])
      have f2_1 : w1.cell? ⟨w.heap.size + 1, 1, none⟩ = some (.int .i64 f) := (hb1.cell (p := ⟨w.heap.size + 1, 1, none⟩) (by simp)).trans (by simp [go_sem])
      have f2_2 : w1.cell? ⟨w.heap.size + 1, 2, none⟩ = some (.int .i64 g) := (hb1.cell (p := ⟨w.heap.size + 1, 2, none⟩) (by simp)).trans (by simp [go_sem])
      have f2_3 : w1.cell? ⟨w.heap.size + 1, 3, none⟩ = some (.int .i64 h) := (hb1.cell (p := ⟨w.heap.size + 1, 3, none⟩) (by simp)).trans (by simp [go_sem])
      have l2 : w.heap.size + 1 < w1.heap.size := by have := hb1.size; simp at this; omega
      have hbel : Below w.heap.size w w1 := hx
      clear hx
      clear hb1
      have zl1 : ∀ o, w1.frozen? ⟨w.heap.size, o, none⟩ = false := fun o => (hq1.frozen (p := ⟨w.heap.size, o, none⟩) (by (try simp) <;> omega)).trans (by simp [go_sem])
      have zl2 : ∀ o, w1.frozen? ⟨w.heap.size + 1, o, none⟩ = false := fun o => (hq1.frozen (p := ⟨w.heap.size + 1, o, none⟩) (by (try simp) <;> omega)).trans (by simp [go_sem])
      clear hq1
      go_wp2_with fail
      refine (fine_any e f g h false HE.out _).mono ?_
      rintro er w2 ⟨rfl, hb2⟩
      replace zl1 : ∀ o, w2.frozen? ⟨w.heap.size, o, none⟩ = false := fun o => (hb2.frozen (p := ⟨w.heap.size, o, none⟩) l1).trans (zl1 o)
      replace zl2 : ∀ o, w2.frozen? ⟨w.heap.size + 1, o, none⟩ = false := fun o => (hb2.frozen (p := ⟨w.heap.size + 1, o, none⟩) l2).trans (zl2 o)
      replace f1_0 : w2.cell? ⟨w.heap.size, 0, none⟩ = some (.int .i64 a) := (hb2.cell (p := ⟨w.heap.size, 0, none⟩) l1).trans f1_0
      replace f1_1 : w2.cell? ⟨w.heap.size, 1, none⟩ = some (.int .i64 b) := (hb2.cell (p := ⟨w.heap.size, 1, none⟩) l1).trans f1_1
      replace f1_2 : w2.cell? ⟨w.heap.size, 2, none⟩ = some (.int .i64 c) := (hb2.cell (p := ⟨w.heap.size, 2, none⟩) l1).trans f1_2
      replace f1_3 : w2.cell? ⟨w.heap.size, 3, none⟩ = some (.int .i64 d) := (hb2.cell (p := ⟨w.heap.size, 3, none⟩) l1).trans f1_3
      replace f2_0 : w2.cell? ⟨w.heap.size + 1, 0, none⟩ = some (.int .i64 e) := (hb2.cell (p := ⟨w.heap.size + 1, 0, none⟩) l2).trans f2_0
      replace f2_1 : w2.cell? ⟨w.heap.size + 1, 1, none⟩ = some (.int .i64 f) := (hb2.cell (p := ⟨w.heap.size + 1, 1, none⟩) l2).trans f2_1
      replace f2_2 : w2.cell? ⟨w.heap.size + 1, 2, none⟩ = some (.int .i64 g) := (hb2.cell (p := ⟨w.heap.size + 1, 2, none⟩) l2).trans f2_2
      replace f2_3 : w2.cell? ⟨w.heap.size + 1, 3, none⟩ = some (.int .i64 h) := (hb2.cell (p := ⟨w.heap.size + 1, 3, none⟩) l2).trans f2_3
      replace l1 : w.heap.size < w2.heap.size := Nat.lt_of_lt_of_le l1 hb2.size
      replace l2 : w.heap.size + 1 < w2.heap.size := Nat.lt_of_lt_of_le l2 hb2.size
      replace hbel : Below w.heap.size w w2 := hbel.trans (hb2.mono hbel.size)
      clear hb2
      go_wp2_with fail
      refine (Works_any _).mono ?_
      rintro er w3 ⟨rfl, hb3⟩
      replace zl1 : ∀ o, w3.frozen? ⟨w.heap.size, o, none⟩ = false := fun o => (hb3.frozen (p := ⟨w.heap.size, o, none⟩) l1).trans (zl1 o)
      replace zl2 : ∀ o, w3.frozen? ⟨w.heap.size + 1, o, none⟩ = false := fun o => (hb3.frozen (p := ⟨w.heap.size + 1, o, none⟩) l2).trans (zl2 o)
      replace f1_0 : w3.cell? ⟨w.heap.size, 0, none⟩ = some (.int .i64 a) := (hb3.cell (p := ⟨w.heap.size, 0, none⟩) l1).trans f1_0
      replace f1_1 : w3.cell? ⟨w.heap.size, 1, none⟩ = some (.int .i64 b) := (hb3.cell (p := ⟨w.heap.size, 1, none⟩) l1).trans f1_1
      replace f1_2 : w3.cell? ⟨w.heap.size, 2, none⟩ = some (.int .i64 c) := (hb3.cell (p := ⟨w.heap.size, 2, none⟩) l1).trans f1_2
      replace f1_3 : w3.cell? ⟨w.heap.size, 3, none⟩ = some (.int .i64 d) := (hb3.cell (p := ⟨w.heap.size, 3, none⟩) l1).trans f1_3
      replace f2_0 : w3.cell? ⟨w.heap.size + 1, 0, none⟩ = some (.int .i64 e) := (hb3.cell (p := ⟨w.heap.size + 1, 0, none⟩) l2).trans f2_0
      replace f2_1 : w3.cell? ⟨w.heap.size + 1, 1, none⟩ = some (.int .i64 f) := (hb3.cell (p := ⟨w.heap.size + 1, 1, none⟩) l2).trans f2_1
      replace f2_2 : w3.cell? ⟨w.heap.size + 1, 2, none⟩ = some (.int .i64 g) := (hb3.cell (p := ⟨w.heap.size + 1, 2, none⟩) l2).trans f2_2
      replace f2_3 : w3.cell? ⟨w.heap.size + 1, 3, none⟩ = some (.int .i64 h) := (hb3.cell (p := ⟨w.heap.size + 1, 3, none⟩) l2).trans f2_3
      replace l1 : w.heap.size < w3.heap.size := Nat.lt_of_lt_of_le l1 hb3.size
      replace l2 : w.heap.size + 1 < w3.heap.size := Nat.lt_of_lt_of_le l2 hb3.size
      replace hbel : Below w.heap.size w w3 := hbel.trans (hb3.mono hbel.size)
      clear hb3
      go_wp2_with fail
      go_ret
      exact ⟨rfl, hbel⟩
  · have HD := Lib.hid (decide_eq_false hS)
    clear hS
    go_enter Try.func10, Try.ntmps10
    go_wp2_with fail
    refine (fine_any a b c d false HD.out _).mono ?_
    rintro er w1 ⟨rfl, hb1⟩
    have hq1 := hb1
    have hx : Below w.heap.size w w1 := ((((Below.refl _ _).alloc (Nat.le_refl _) _).alloc (by simp) _) : Below w.heap.size w ((w.alloc (.cells #[.int .i64 a, .int .i64 b, .int .i64 c, .int .i64 d] 25)).alloc (.cells #[.int .i64 e, .int .i64 f, .int .i64 g, .int .i64 h] 25))).trans (hb1.mono (by simp; omega))
    have f1_0 : w1.cell? ⟨w.heap.size, 0, none⟩ = some (.int .i64 a) := (hb1.cell (p := ⟨w.heap.size, 0, none⟩) (by (try simp) <;> omega)).trans (by simp [go_sem])
    have f1_1 : w1.cell? ⟨w.heap.size, 1, none⟩ = some (.int .i64 b) := (hb1.cell (p := ⟨w.heap.size, 1, none⟩) (by (try simp) <;> omega)).trans (by simp [go_sem])
    have f1_2 : w1.cell? ⟨w.heap.size, 2, none⟩ = some (.int .i64 c) := (hb1.cell (p := ⟨w.heap.size, 2, none⟩) (by (try simp) <;> omega)).trans (by simp [go_sem])
    have f1_3 : w1.cell? ⟨w.heap.size, 3, none⟩ = some (.int .i64 d) := (hb1.cell (p := ⟨w.heap.size, 3, none⟩) (by (try simp) <;> omega)).trans (by simp [go_sem])
    have l1 : w.heap.size < w1.heap.size := by have := hb1.size; simp at this; omega
    have f2_0 : w1.cell? ⟨w.heap.size + 1, 0, none⟩ = some (.int .i64 e) := (hb1.cell (p := ⟨w.heap.size + 1, 0, none⟩) (by simp)).trans (by simp [go_sem])
    have f2_1 : w1.cell? ⟨w.heap.size + 1, 1, none⟩ = some (.int .i64 f) := (hb1.cell (p := ⟨w.heap.size + 1, 1, none⟩) (by simp)).trans (by simp [go_sem])
    have f2_2 : w1.cell? ⟨w.heap.size + 1, 2, none⟩ = some (.int .i64 g) := (hb1.cell (p := ⟨w.heap.size + 1, 2, none⟩) (by simp)).trans (by simp [go_sem])
    have f2_3 : w1.cell? ⟨w.heap.size + 1, 3, none⟩ = some (.int .i64 h) := (hb1.cell (p := ⟨w.heap.size + 1, 3, none⟩) (by simp)).trans (by simp [go_sem])
    have l2 : w.heap.size + 1 < w1.heap.size := by have := hb1.size; simp at this; omega
    have hbel : Below w.heap.size w w1 := hx
    clear hx
    clear hb1
    have zl1 : ∀ o, w1.frozen? ⟨w.heap.size, o, none⟩ = false := fun o => (hq1.frozen (p := ⟨w.heap.size, o, none⟩) (by (try simp) <;> omega)).trans (by simp [go_sem])
    have zl2 : ∀ o, w1.frozen? ⟨w.heap.size + 1, o, none⟩ = false := fun o => (hq1.frozen (p := ⟨w.heap.size + 1, o, none⟩) (by (try simp) <;> omega)).trans (by simp [go_sem])
    clear hq1
    go_wp2_with fail
    refine (Works_any _).mono ?_
    rintro er w2 ⟨rfl, hb2⟩
    replace zl1 : ∀ o, w2.frozen? ⟨w.heap.size, o, none⟩ = false := fun o => (hb2.frozen (p := ⟨w.heap.size, o, none⟩) l1).trans (zl1 o)
    replace zl2 : ∀ o, w2.frozen? ⟨w.heap.size + 1, o, none⟩ = false := fun o => (hb2.frozen (p := ⟨w.heap.size + 1, o, none⟩) l2).trans (zl2 o)
    replace f1_0 : w2.cell? ⟨w.heap.size, 0, none⟩ = some (.int .i64 a) := (hb2.cell (p := ⟨w.heap.size, 0, none⟩) l1).trans f1_0
    replace f1_1 : w2.cell? ⟨w.heap.size, 1, none⟩ = some (.int .i64 b) := (hb2.cell (p := ⟨w.heap.size, 1, none⟩) l1).trans f1_1
    replace f1_2 : w2.cell? ⟨w.heap.size, 2, none⟩ = some (.int .i64 c) := (hb2.cell (p := ⟨w.heap.size, 2, none⟩) l1).trans f1_2
    replace f1_3 : w2.cell? ⟨w.heap.size, 3, none⟩ = some (.int .i64 d) := (hb2.cell (p := ⟨w.heap.size, 3, none⟩) l1).trans f1_3
    replace f2_0 : w2.cell? ⟨w.heap.size + 1, 0, none⟩ = some (.int .i64 e) := (hb2.cell (p := ⟨w.heap.size + 1, 0, none⟩) l2).trans f2_0
    replace f2_1 : w2.cell? ⟨w.heap.size + 1, 1, none⟩ = some (.int .i64 f) := (hb2.cell (p := ⟨w.heap.size + 1, 1, none⟩) l2).trans f2_1
    replace f2_2 : w2.cell? ⟨w.heap.size + 1, 2, none⟩ = some (.int .i64 g) := (hb2.cell (p := ⟨w.heap.size + 1, 2, none⟩) l2).trans f2_2
    replace f2_3 : w2.cell? ⟨w.heap.size + 1, 3, none⟩ = some (.int .i64 h) := (hb2.cell (p := ⟨w.heap.size + 1, 3, none⟩) l2).trans f2_3
    replace l1 : w.heap.size < w2.heap.size := Nat.lt_of_lt_of_le l1 hb2.size
    replace l2 : w.heap.size + 1 < w2.heap.size := Nat.lt_of_lt_of_le l2 hb2.size
    replace hbel : Below w.heap.size w w2 := hbel.trans (hb2.mono hbel.size)
    clear hb2
    go_wp2_with fail
    go_ret
    exact ⟨rfl, hbel⟩
end Go.Proofs.Ytbdjllgngblfoaa
