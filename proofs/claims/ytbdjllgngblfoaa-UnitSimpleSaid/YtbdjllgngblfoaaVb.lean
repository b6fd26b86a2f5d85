import Derived.Test.YtbdjllgngblfoaaVa
namespace Go.Proofs.Ytbdjllgngblfoaa
set_option linter.unusedVariables false
set_option linter.unusedSimpArgs false
open Go.RowKit

set_option maxRecDepth 100000 in
set_option maxHeartbeats 8000000 in
theorem Simple_any (a b c d : Int) (w : World) : Calls Try.prog 3 #[.agg #[.int .i64 a, .int .i64 b, .int .i64 c, .int .i64 d]] w fun e w' => e = .returned (.bool true) ∧ Below w.heap.size w w' := by
  by_cases hS : Sp a b c d
  · have HC := Lib.hid (show (if Sp a b c d then (0:Int) else 2) = 0 from if_pos hS)
    have HS := Lib.hid hS
    obtain ⟨⟨a1, a2, b1, b2, _⟩, ⟨c1, c2, d1, d2, _⟩, _⟩ := hS
    go_enter Try.func3, Try.ntmps3
    go_wp2_with fail
    refine (Simplest_ok a b c d HS.out _).mono ?_
    rintro e w1 ⟨⟨x, y, rfl, hL⟩, hb1⟩
    have HL := Lib.hid hL
    have y1 := hL.fr.2.2.1
    have y2 := hL.fr.2.2.2.1
    have x1 := hL.fr.1
    have x2 := hL.fr.2.1
    have HFr := Lib.hid (decide_eq_true hL.fr)
    have HIn := Lib.hid (decide_eq_true (And.intro hL.lo hL.hi))
    clear hL
    have hx : Below w.heap.size w w1 := (((Below.refl _ _).alloc (Nat.le_refl _) _) : Below w.heap.size w (w.alloc (.cells #[.int .i64 a, .int .i64 b, .int .i64 c, .int .i64 d] 25))).trans (hb1.mono (by simp))
    have f1_0 : w1.cell? ⟨w.heap.size, 0, none⟩ = some (.int .i64 a) := (hb1.cell (p := ⟨w.heap.size, 0, none⟩) (by simp)).trans (by simp [go_sem])
    have f1_1 : w1.cell? ⟨w.heap.size, 1, none⟩ = some (.int .i64 b) := (hb1.cell (p := ⟨w.heap.size, 1, none⟩) (by simp)).trans (by simp [go_sem])
    have f1_2 : w1.cell? ⟨w.heap.size, 2, none⟩ = some (.int .i64 c) := (hb1.cell (p := ⟨w.heap.size, 2, none⟩) (by simp)).trans (by simp [go_sem])
    have f1_3 : w1.cell? ⟨w.heap.size, 3, none⟩ = some (.int .i64 d) := (hb1.cell (p := ⟨w.heap.size, 3, none⟩) (by simp)).trans (by simp [go_sem])
    have l1 : w.heap.size < w1.heap.size := by have := hb1.size; simp at this; omega
    have hbel : Below w.heap.size w w1 := hx
    clear hx
    clear hb1
    go_wp2_with fail
    refine (CheckSpanR_any a b c d 0 HC.out _).mono ?_
    rintro e w2 ⟨rfl, hb2⟩
    have hx : Below w1.heap.size w1 w2 := (((Below.refl _ _).alloc (Nat.le_refl _) _) : Below w1.heap.size w1 (w1.alloc (.cells #[.int .i64 x, .int .i64 y] 23))).trans (hb2.mono (by simp))
    have f2_0 : w2.cell? ⟨w1.heap.size, 0, none⟩ = some (.int .i64 x) := (hb2.cell (p := ⟨w1.heap.size, 0, none⟩) (by simp)).trans (by simp [go_sem])
    have f2_1 : w2.cell? ⟨w1.heap.size, 1, none⟩ = some (.int .i64 y) := (hb2.cell (p := ⟨w1.heap.size, 1, none⟩) (by simp)).trans (by simp [go_sem])
    have l2 : w1.heap.size < w2.heap.size := by have := hb2.size; simp at this; omega
    replace f1_0 : w2.cell? ⟨w.heap.size, 0, none⟩ = some (.int .i64 a) := (hx.cell (p := ⟨w.heap.size, 0, none⟩) l1).trans f1_0
    replace f1_1 : w2.cell? ⟨w.heap.size, 1, none⟩ = some (.int .i64 b) := (hx.cell (p := ⟨w.heap.size, 1, none⟩) l1).trans f1_1
    replace f1_2 : w2.cell? ⟨w.heap.size, 2, none⟩ = some (.int .i64 c) := (hx.cell (p := ⟨w.heap.size, 2, none⟩) l1).trans f1_2
    replace f1_3 : w2.cell? ⟨w.heap.size, 3, none⟩ = some (.int .i64 d) := (hx.cell (p := ⟨w.heap.size, 3, none⟩) l1).trans f1_3
    replace l1 : w.heap.size < w2.heap.size := Nat.lt_of_lt_of_le l1 hx.size
    replace hbel : Below w.heap.size w w2 := hbel.trans (hx.mono hbel.size)
    clear hx
    clear hb2
    by_cases hy : y ≤ 3000
    · have HY := Lib.hid (show (if y ≤ 3000 then (x, y, true) else (0, 0, false)) = (x, y, true) from if_pos hy)
      go_wp2_with fail
      refine (Found_any a b c d x y x y true HS.out HL.out HY.out _).mono ?_
      rintro e w3 ⟨rfl, hb3⟩
      replace f1_0 : w3.cell? ⟨w.heap.size, 0, none⟩ = some (.int .i64 a) := (hb3.cell (p := ⟨w.heap.size, 0, none⟩) l1).trans f1_0
      replace f1_1 : w3.cell? ⟨w.heap.size, 1, none⟩ = some (.int .i64 b) := (hb3.cell (p := ⟨w.heap.size, 1, none⟩) l1).trans f1_1
      replace f1_2 : w3.cell? ⟨w.heap.size, 2, none⟩ = some (.int .i64 c) := (hb3.cell (p := ⟨w.heap.size, 2, none⟩) l1).trans f1_2
      replace f1_3 : w3.cell? ⟨w.heap.size, 3, none⟩ = some (.int .i64 d) := (hb3.cell (p := ⟨w.heap.size, 3, none⟩) l1).trans f1_3
      replace f2_0 : w3.cell? ⟨w1.heap.size, 0, none⟩ = some (.int .i64 x) := (hb3.cell (p := ⟨w1.heap.size, 0, none⟩) l2).trans f2_0
      replace f2_1 : w3.cell? ⟨w1.heap.size, 1, none⟩ = some (.int .i64 y) := (hb3.cell (p := ⟨w1.heap.size, 1, none⟩) l2).trans f2_1
      replace l1 : w.heap.size < w3.heap.size := Nat.lt_of_lt_of_le l1 hb3.size
      replace l2 : w1.heap.size < w3.heap.size := Nat.lt_of_lt_of_le l2 hb3.size
      replace hbel : Below w.heap.size w w3 := hbel.trans (hb3.mono hbel.size)
      clear hb3
      go_wp2_with fail
      refine (IsFraction_any x y true HFr.out _).mono ?_
      rintro e w4 ⟨rfl, hb4⟩
      have hx : Below w3.heap.size w3 w4 := (((Below.refl _ _).alloc (Nat.le_refl _) _) : Below w3.heap.size w3 (w3.alloc (.cells #[.int .i64 x, .int .i64 y] 23))).trans (hb4.mono (by simp))
      have f3_0 : w4.cell? ⟨w3.heap.size, 0, none⟩ = some (.int .i64 x) := (hb4.cell (p := ⟨w3.heap.size, 0, none⟩) (by simp)).trans (by simp [go_sem])
      have f3_1 : w4.cell? ⟨w3.heap.size, 1, none⟩ = some (.int .i64 y) := (hb4.cell (p := ⟨w3.heap.size, 1, none⟩) (by simp)).trans (by simp [go_sem])
      have l3 : w3.heap.size < w4.heap.size := by have := hb4.size; simp at this; omega
      replace f1_0 : w4.cell? ⟨w.heap.size, 0, none⟩ = some (.int .i64 a) := (hx.cell (p := ⟨w.heap.size, 0, none⟩) l1).trans f1_0
      replace f1_1 : w4.cell? ⟨w.heap.size, 1, none⟩ = some (.int .i64 b) := (hx.cell (p := ⟨w.heap.size, 1, none⟩) l1).trans f1_1
      replace f1_2 : w4.cell? ⟨w.heap.size, 2, none⟩ = some (.int .i64 c) := (hx.cell (p := ⟨w.heap.size, 2, none⟩) l1).trans f1_2
      replace f1_3 : w4.cell? ⟨w.heap.size, 3, none⟩ = some (.int .i64 d) := (hx.cell (p := ⟨w.heap.size, 3, none⟩) l1).trans f1_3
      replace f2_0 : w4.cell? ⟨w1.heap.size, 0, none⟩ = some (.int .i64 x) := (hx.cell (p := ⟨w1.heap.size, 0, none⟩) l2).trans f2_0
      replace f2_1 : w4.cell? ⟨w1.heap.size, 1, none⟩ = some (.int .i64 y) := (hx.cell (p := ⟨w1.heap.size, 1, none⟩) l2).trans f2_1
      replace l1 : w.heap.size < w4.heap.size := Nat.lt_of_lt_of_le l1 hx.size
      replace l2 : w1.heap.size < w4.heap.size := Nat.lt_of_lt_of_le l2 hx.size
      replace hbel : Below w.heap.size w w4 := hbel.trans (hx.mono hbel.size)
      clear hx
      clear hb4
      go_wp2_with fail
      refine (In_any x y a b c d true HIn.out (by omega) (by omega) (by omega) (by omega) (by omega) (by omega) (by omega) (by omega) (by omega) (by omega) (by omega) (by omega) _).mono ?_
      rintro e w5 ⟨rfl, hb5⟩
      replace f1_0 : w5.cell? ⟨w.heap.size, 0, none⟩ = some (.int .i64 a) := (hb5.cell (p := ⟨w.heap.size, 0, none⟩) l1).trans f1_0
      replace f1_1 : w5.cell? ⟨w.heap.size, 1, none⟩ = some (.int .i64 b) := (hb5.cell (p := ⟨w.heap.size, 1, none⟩) l1).trans f1_1
      replace f1_2 : w5.cell? ⟨w.heap.size, 2, none⟩ = some (.int .i64 c) := (hb5.cell (p := ⟨w.heap.size, 2, none⟩) l1).trans f1_2
      replace f1_3 : w5.cell? ⟨w.heap.size, 3, none⟩ = some (.int .i64 d) := (hb5.cell (p := ⟨w.heap.size, 3, none⟩) l1).trans f1_3
      replace f2_0 : w5.cell? ⟨w1.heap.size, 0, none⟩ = some (.int .i64 x) := (hb5.cell (p := ⟨w1.heap.size, 0, none⟩) l2).trans f2_0
      replace f2_1 : w5.cell? ⟨w1.heap.size, 1, none⟩ = some (.int .i64 y) := (hb5.cell (p := ⟨w1.heap.size, 1, none⟩) l2).trans f2_1
      replace f3_0 : w5.cell? ⟨w3.heap.size, 0, none⟩ = some (.int .i64 x) := (hb5.cell (p := ⟨w3.heap.size, 0, none⟩) l3).trans f3_0
      replace f3_1 : w5.cell? ⟨w3.heap.size, 1, none⟩ = some (.int .i64 y) := (hb5.cell (p := ⟨w3.heap.size, 1, none⟩) l3).trans f3_1
      replace l1 : w.heap.size < w5.heap.size := Nat.lt_of_lt_of_le l1 hb5.size
      replace l2 : w1.heap.size < w5.heap.size := Nat.lt_of_lt_of_le l2 hb5.size
      replace l3 : w3.heap.size < w5.heap.size := Nat.lt_of_lt_of_le l3 hb5.size
      replace hbel : Below w.heap.size w w5 := hbel.trans (hb5.mono hbel.size)
      clear hb5
      go_wp2_with fail
      refine (Works_any _).mono ?_
      rintro e w6 ⟨rfl, hb6⟩
      replace f1_0 : w6.cell? ⟨w.heap.size, 0, none⟩ = some (.int .i64 a) := (hb6.cell (p := ⟨w.heap.size, 0, none⟩) l1).trans f1_0
      replace f1_1 : w6.cell? ⟨w.heap.size, 1, none⟩ = some (.int .i64 b) := (hb6.cell (p := ⟨w.heap.size, 1, none⟩) l1).trans f1_1
      replace f1_2 : w6.cell? ⟨w.heap.size, 2, none⟩ = some (.int .i64 c) := (hb6.cell (p := ⟨w.heap.size, 2, none⟩) l1).trans f1_2
      replace f1_3 : w6.cell? ⟨w.heap.size, 3, none⟩ = some (.int .i64 d) := (hb6.cell (p := ⟨w.heap.size, 3, none⟩) l1).trans f1_3
      replace f2_0 : w6.cell? ⟨w1.heap.size, 0, none⟩ = some (.int .i64 x) := (hb6.cell (p := ⟨w1.heap.size, 0, none⟩) l2).trans f2_0
      replace f2_1 : w6.cell? ⟨w1.heap.size, 1, none⟩ = some (.int .i64 y) := (hb6.cell (p := ⟨w1.heap.size, 1, none⟩) l2).trans f2_1
      replace f3_0 : w6.cell? ⟨w3.heap.size, 0, none⟩ = some (.int .i64 x) := (hb6.cell (p := ⟨w3.heap.size, 0, none⟩) l3).trans f3_0
      replace f3_1 : w6.cell? ⟨w3.heap.size, 1, none⟩ = some (.int .i64 y) := (hb6.cell (p := ⟨w3.heap.size, 1, none⟩) l3).trans f3_1
      replace l1 : w.heap.size < w6.heap.size := Nat.lt_of_lt_of_le l1 hb6.size
      replace l2 : w1.heap.size < w6.heap.size := Nat.lt_of_lt_of_le l2 hb6.size
      replace l3 : w3.heap.size < w6.heap.size := Nat.lt_of_lt_of_le l3 hb6.size
      replace hbel : Below w.heap.size w w6 := hbel.trans (hb6.mono hbel.size)
      clear hb6
      go_wp2_with fail
      go_ret
      exact ⟨rfl, hbel⟩
    · have HY := Lib.hid (show (if y ≤ 3000 then (x, y, true) else (0, 0, false)) = (0, 0, false) from if_neg hy)
      have hy' : decide (y ≤ 3000) = false := decide_eq_false hy
      go_wp2_with fail
      refine (Found_any a b c d x y 0 0 false HS.out HL.out HY.out _).mono ?_
      rintro e w3 ⟨rfl, hb3⟩
      replace f1_0 : w3.cell? ⟨w.heap.size, 0, none⟩ = some (.int .i64 a) := (hb3.cell (p := ⟨w.heap.size, 0, none⟩) l1).trans f1_0
      replace f1_1 : w3.cell? ⟨w.heap.size, 1, none⟩ = some (.int .i64 b) := (hb3.cell (p := ⟨w.heap.size, 1, none⟩) l1).trans f1_1
      replace f1_2 : w3.cell? ⟨w.heap.size, 2, none⟩ = some (.int .i64 c) := (hb3.cell (p := ⟨w.heap.size, 2, none⟩) l1).trans f1_2
      replace f1_3 : w3.cell? ⟨w.heap.size, 3, none⟩ = some (.int .i64 d) := (hb3.cell (p := ⟨w.heap.size, 3, none⟩) l1).trans f1_3
      replace f2_0 : w3.cell? ⟨w1.heap.size, 0, none⟩ = some (.int .i64 x) := (hb3.cell (p := ⟨w1.heap.size, 0, none⟩) l2).trans f2_0
      replace f2_1 : w3.cell? ⟨w1.heap.size, 1, none⟩ = some (.int .i64 y) := (hb3.cell (p := ⟨w1.heap.size, 1, none⟩) l2).trans f2_1
      replace l1 : w.heap.size < w3.heap.size := Nat.lt_of_lt_of_le l1 hb3.size
      replace l2 : w1.heap.size < w3.heap.size := Nat.lt_of_lt_of_le l2 hb3.size
      replace hbel : Below w.heap.size w w3 := hbel.trans (hb3.mono hbel.size)
      clear hb3
      go_wp2_with fail
      refine (IsFraction_any x y true HFr.out _).mono ?_
      rintro e w4 ⟨rfl, hb4⟩
      have hx : Below w3.heap.size w3 w4 := (((Below.refl _ _).alloc (Nat.le_refl _) _) : Below w3.heap.size w3 (w3.alloc (.cells #[.int .i64 0, .int .i64 0] 23))).trans (hb4.mono (by simp))
      have f3_0 : w4.cell? ⟨w3.heap.size, 0, none⟩ = some (.int .i64 0) := (hb4.cell (p := ⟨w3.heap.size, 0, none⟩) (by simp)).trans (by simp [go_sem])
      have f3_1 : w4.cell? ⟨w3.heap.size, 1, none⟩ = some (.int .i64 0) := (hb4.cell (p := ⟨w3.heap.size, 1, none⟩) (by simp)).trans (by simp [go_sem])
      have l3 : w3.heap.size < w4.heap.size := by have := hb4.size; simp at this; omega
      replace f1_0 : w4.cell? ⟨w.heap.size, 0, none⟩ = some (.int .i64 a) := (hx.cell (p := ⟨w.heap.size, 0, none⟩) l1).trans f1_0
      replace f1_1 : w4.cell? ⟨w.heap.size, 1, none⟩ = some (.int .i64 b) := (hx.cell (p := ⟨w.heap.size, 1, none⟩) l1).trans f1_1
      replace f1_2 : w4.cell? ⟨w.heap.size, 2, none⟩ = some (.int .i64 c) := (hx.cell (p := ⟨w.heap.size, 2, none⟩) l1).trans f1_2
      replace f1_3 : w4.cell? ⟨w.heap.size, 3, none⟩ = some (.int .i64 d) := (hx.cell (p := ⟨w.heap.size, 3, none⟩) l1).trans f1_3
      replace f2_0 : w4.cell? ⟨w1.heap.size, 0, none⟩ = some (.int .i64 x) := (hx.cell (p := ⟨w1.heap.size, 0, none⟩) l2).trans f2_0
      replace f2_1 : w4.cell? ⟨w1.heap.size, 1, none⟩ = some (.int .i64 y) := (hx.cell (p := ⟨w1.heap.size, 1, none⟩) l2).trans f2_1
      replace l1 : w.heap.size < w4.heap.size := Nat.lt_of_lt_of_le l1 hx.size
      replace l2 : w1.heap.size < w4.heap.size := Nat.lt_of_lt_of_le l2 hx.size
      replace hbel : Below w.heap.size w w4 := hbel.trans (hx.mono hbel.size)
      clear hx
      clear hb4
      go_wp2_with fail
      refine (In_any x y a b c d true HIn.out (by omega) (by omega) (by omega) (by omega) (by omega) (by omega) (by omega) (by omega) (by omega) (by omega) (by omega) (by omega) _).mono ?_
      rintro e w5 ⟨rfl, hb5⟩
      replace f1_0 : w5.cell? ⟨w.heap.size, 0, none⟩ = some (.int .i64 a) := (hb5.cell (p := ⟨w.heap.size, 0, none⟩) l1).trans f1_0
      replace f1_1 : w5.cell? ⟨w.heap.size, 1, none⟩ = some (.int .i64 b) := (hb5.cell (p := ⟨w.heap.size, 1, none⟩) l1).trans f1_1
      replace f1_2 : w5.cell? ⟨w.heap.size, 2, none⟩ = some (.int .i64 c) := (hb5.cell (p := ⟨w.heap.size, 2, none⟩) l1).trans f1_2
      replace f1_3 : w5.cell? ⟨w.heap.size, 3, none⟩ = some (.int .i64 d) := (hb5.cell (p := ⟨w.heap.size, 3, none⟩) l1).trans f1_3
      replace f2_0 : w5.cell? ⟨w1.heap.size, 0, none⟩ = some (.int .i64 x) := (hb5.cell (p := ⟨w1.heap.size, 0, none⟩) l2).trans f2_0
      replace f2_1 : w5.cell? ⟨w1.heap.size, 1, none⟩ = some (.int .i64 y) := (hb5.cell (p := ⟨w1.heap.size, 1, none⟩) l2).trans f2_1
      replace f3_0 : w5.cell? ⟨w3.heap.size, 0, none⟩ = some (.int .i64 0) := (hb5.cell (p := ⟨w3.heap.size, 0, none⟩) l3).trans f3_0
      replace f3_1 : w5.cell? ⟨w3.heap.size, 1, none⟩ = some (.int .i64 0) := (hb5.cell (p := ⟨w3.heap.size, 1, none⟩) l3).trans f3_1
      replace l1 : w.heap.size < w5.heap.size := Nat.lt_of_lt_of_le l1 hb5.size
      replace l2 : w1.heap.size < w5.heap.size := Nat.lt_of_lt_of_le l2 hb5.size
      replace l3 : w3.heap.size < w5.heap.size := Nat.lt_of_lt_of_le l3 hb5.size
      replace hbel : Below w.heap.size w w5 := hbel.trans (hb5.mono hbel.size)
      clear hb5
      go_wp2_with fail
      refine (Works_any _).mono ?_
      rintro e w6 ⟨rfl, hb6⟩
      replace f1_0 : w6.cell? ⟨w.heap.size, 0, none⟩ = some (.int .i64 a) := (hb6.cell (p := ⟨w.heap.size, 0, none⟩) l1).trans f1_0
      replace f1_1 : w6.cell? ⟨w.heap.size, 1, none⟩ = some (.int .i64 b) := (hb6.cell (p := ⟨w.heap.size, 1, none⟩) l1).trans f1_1
      replace f1_2 : w6.cell? ⟨w.heap.size, 2, none⟩ = some (.int .i64 c) := (hb6.cell (p := ⟨w.heap.size, 2, none⟩) l1).trans f1_2
      replace f1_3 : w6.cell? ⟨w.heap.size, 3, none⟩ = some (.int .i64 d) := (hb6.cell (p := ⟨w.heap.size, 3, none⟩) l1).trans f1_3
      replace f2_0 : w6.cell? ⟨w1.heap.size, 0, none⟩ = some (.int .i64 x) := (hb6.cell (p := ⟨w1.heap.size, 0, none⟩) l2).trans f2_0
      replace f2_1 : w6.cell? ⟨w1.heap.size, 1, none⟩ = some (.int .i64 y) := (hb6.cell (p := ⟨w1.heap.size, 1, none⟩) l2).trans f2_1
      replace f3_0 : w6.cell? ⟨w3.heap.size, 0, none⟩ = some (.int .i64 0) := (hb6.cell (p := ⟨w3.heap.size, 0, none⟩) l3).trans f3_0
      replace f3_1 : w6.cell? ⟨w3.heap.size, 1, none⟩ = some (.int .i64 0) := (hb6.cell (p := ⟨w3.heap.size, 1, none⟩) l3).trans f3_1
      replace l1 : w.heap.size < w6.heap.size := Nat.lt_of_lt_of_le l1 hb6.size
      replace l2 : w1.heap.size < w6.heap.size := Nat.lt_of_lt_of_le l2 hb6.size
      replace l3 : w3.heap.size < w6.heap.size := Nat.lt_of_lt_of_le l3 hb6.size
      replace hbel : Below w.heap.size w w6 := hbel.trans (hb6.mono hbel.size)
      clear hb6
      go_wp2_with fail
      go_ret
      exact ⟨rfl, hbel⟩
  · have HC := Lib.hid (show (if Sp a b c d then (0:Int) else 2) = 2 from if_neg hS)
    have HS := Lib.hid hS
    clear hS
    go_enter Try.func3, Try.ntmps3
    go_wp2_with fail
    refine (Simplest_bad a b c d HS.out _).mono ?_
    rintro e w1 ⟨rfl, hb1⟩
    have hx : Below w.heap.size w w1 := (((Below.refl _ _).alloc (Nat.le_refl _) _) : Below w.heap.size w (w.alloc (.cells #[.int .i64 a, .int .i64 b, .int .i64 c, .int .i64 d] 25))).trans (hb1.mono (by simp))
    have f1_0 : w1.cell? ⟨w.heap.size, 0, none⟩ = some (.int .i64 a) := (hb1.cell (p := ⟨w.heap.size, 0, none⟩) (by simp)).trans (by simp [go_sem])
    have f1_1 : w1.cell? ⟨w.heap.size, 1, none⟩ = some (.int .i64 b) := (hb1.cell (p := ⟨w.heap.size, 1, none⟩) (by simp)).trans (by simp [go_sem])
    have f1_2 : w1.cell? ⟨w.heap.size, 2, none⟩ = some (.int .i64 c) := (hb1.cell (p := ⟨w.heap.size, 2, none⟩) (by simp)).trans (by simp [go_sem])
    have f1_3 : w1.cell? ⟨w.heap.size, 3, none⟩ = some (.int .i64 d) := (hb1.cell (p := ⟨w.heap.size, 3, none⟩) (by simp)).trans (by simp [go_sem])
    have l1 : w.heap.size < w1.heap.size := by have := hb1.size; simp at this; omega
    have hbel : Below w.heap.size w w1 := hx
    clear hx
    clear hb1
    go_wp2_with fail
    refine (CheckSpanR_any a b c d 2 HC.out _).mono ?_
    rintro e w2 ⟨rfl, hb2⟩
    have hx : Below w1.heap.size w1 w2 := (((Below.refl _ _).alloc (Nat.le_refl _) _) : Below w1.heap.size w1 (w1.alloc (.cells #[.int .i64 0, .int .i64 0] 23))).trans (hb2.mono (by simp))
    have f2_0 : w2.cell? ⟨w1.heap.size, 0, none⟩ = some (.int .i64 0) := (hb2.cell (p := ⟨w1.heap.size, 0, none⟩) (by simp)).trans (by simp [go_sem])
    have f2_1 : w2.cell? ⟨w1.heap.size, 1, none⟩ = some (.int .i64 0) := (hb2.cell (p := ⟨w1.heap.size, 1, none⟩) (by simp)).trans (by simp [go_sem])
    have l2 : w1.heap.size < w2.heap.size := by have := hb2.size; simp at this; omega
    replace f1_0 : w2.cell? ⟨w.heap.size, 0, none⟩ = some (.int .i64 a) := (hx.cell (p := ⟨w.heap.size, 0, none⟩) l1).trans f1_0
    replace f1_1 : w2.cell? ⟨w.heap.size, 1, none⟩ = some (.int .i64 b) := (hx.cell (p := ⟨w.heap.size, 1, none⟩) l1).trans f1_1
    replace f1_2 : w2.cell? ⟨w.heap.size, 2, none⟩ = some (.int .i64 c) := (hx.cell (p := ⟨w.heap.size, 2, none⟩) l1).trans f1_2
    replace f1_3 : w2.cell? ⟨w.heap.size, 3, none⟩ = some (.int .i64 d) := (hx.cell (p := ⟨w.heap.size, 3, none⟩) l1).trans f1_3
    replace l1 : w.heap.size < w2.heap.size := Nat.lt_of_lt_of_le l1 hx.size
    replace hbel : Below w.heap.size w w2 := hbel.trans (hx.mono hbel.size)
    clear hx
    clear hb2
    go_wp2_with fail
    refine (CheckSpanR_any a b c d 2 HC.out _).mono ?_
    rintro e w3 ⟨rfl, hb3⟩
    replace f1_0 : w3.cell? ⟨w.heap.size, 0, none⟩ = some (.int .i64 a) := (hb3.cell (p := ⟨w.heap.size, 0, none⟩) l1).trans f1_0
    replace f1_1 : w3.cell? ⟨w.heap.size, 1, none⟩ = some (.int .i64 b) := (hb3.cell (p := ⟨w.heap.size, 1, none⟩) l1).trans f1_1
    replace f1_2 : w3.cell? ⟨w.heap.size, 2, none⟩ = some (.int .i64 c) := (hb3.cell (p := ⟨w.heap.size, 2, none⟩) l1).trans f1_2
    replace f1_3 : w3.cell? ⟨w.heap.size, 3, none⟩ = some (.int .i64 d) := (hb3.cell (p := ⟨w.heap.size, 3, none⟩) l1).trans f1_3
    replace f2_0 : w3.cell? ⟨w1.heap.size, 0, none⟩ = some (.int .i64 0) := (hb3.cell (p := ⟨w1.heap.size, 0, none⟩) l2).trans f2_0
    replace f2_1 : w3.cell? ⟨w1.heap.size, 1, none⟩ = some (.int .i64 0) := (hb3.cell (p := ⟨w1.heap.size, 1, none⟩) l2).trans f2_1
    replace l1 : w.heap.size < w3.heap.size := Nat.lt_of_lt_of_le l1 hb3.size
    replace l2 : w1.heap.size < w3.heap.size := Nat.lt_of_lt_of_le l2 hb3.size
    replace hbel : Below w.heap.size w w3 := hbel.trans (hb3.mono hbel.size)
    clear hb3
    go_wp2_with fail
    refine (Works_any _).mono ?_
    rintro e w4 ⟨rfl, hb4⟩
    replace f1_0 : w4.cell? ⟨w.heap.size, 0, none⟩ = some (.int .i64 a) := (hb4.cell (p := ⟨w.heap.size, 0, none⟩) l1).trans f1_0
    replace f1_1 : w4.cell? ⟨w.heap.size, 1, none⟩ = some (.int .i64 b) := (hb4.cell (p := ⟨w.heap.size, 1, none⟩) l1).trans f1_1
    replace f1_2 : w4.cell? ⟨w.heap.size, 2, none⟩ = some (.int .i64 c) := (hb4.cell (p := ⟨w.heap.size, 2, none⟩) l1).trans f1_2
    replace f1_3 : w4.cell? ⟨w.heap.size, 3, none⟩ = some (.int .i64 d) := (hb4.cell (p := ⟨w.heap.size, 3, none⟩) l1).trans f1_3
    replace f2_0 : w4.cell? ⟨w1.heap.size, 0, none⟩ = some (.int .i64 0) := (hb4.cell (p := ⟨w1.heap.size, 0, none⟩) l2).trans f2_0
    replace f2_1 : w4.cell? ⟨w1.heap.size, 1, none⟩ = some (.int .i64 0) := (hb4.cell (p := ⟨w1.heap.size, 1, none⟩) l2).trans f2_1
    replace l1 : w.heap.size < w4.heap.size := Nat.lt_of_lt_of_le l1 hb4.size
    replace l2 : w1.heap.size < w4.heap.size := Nat.lt_of_lt_of_le l2 hb4.size
    replace hbel : Below w.heap.size w w4 := hbel.trans (hb4.mono hbel.size)
    clear hb4
    go_wp2_with fail
    go_ret
    exact ⟨rfl, hbel⟩
end Go.Proofs.Ytbdjllgngblfoaa
