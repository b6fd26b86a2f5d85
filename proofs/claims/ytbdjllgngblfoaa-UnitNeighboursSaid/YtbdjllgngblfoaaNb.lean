import Derived.Test.YtbdjllgngblfoaaUz2
import Derived.Deep.QuietTactic
import Derived.BigQuiet
namespace Go.Proofs.Ytbdjllgngblfoaa
set_option linter.unusedVariables false
set_option linter.unusedSimpArgs false
open Go.RowKit

theorem nat_mul {x q A B : Int} (h1 : 1 ≤ x) (h2 : x ≤ A) (h3 : 1 ≤ q) (h4 : q ≤ B) : 0 ≤ x * q ∧ x * q ≤ A * B := by
  have e1 := Int.mul_le_mul h2 h4 (by omega) (by omega)
  have e2 := Int.mul_nonneg (show 0 ≤ x by omega) (show 0 ≤ q by omega)
  exact ⟨e2, e1⟩

set_option maxRecDepth 100000 in
set_option maxHeartbeats 8000000 in
theorem Neighbours_any (num den most g h : Int) (n0 : 0 ≤ num) (n1 : num < 4294967296) (d0 : 0 ≤ den) (d1 : den < 65536) (m0 : 0 ≤ most) (m1 : most < 65536) (w : World) : Calls Try.prog 12 #[.int .u32 num, .int .u16 den, .int .u16 most, .agg #[.int .i64 g, .int .i64 h]] w fun e w' => e = .returned (.bool true) ∧ Below w.heap.size w w' := by
  obtain ⟨x, y, hR⟩ : ∃ x y, Red (1 + num % 999999) (1 + den % 1000) x y := ⟨_, _, Red.mk' _ _⟩
  have b1 : 1 ≤ 1 + num % 999999 ∧ 1 + num % 999999 ≤ 999999 := by omega
  have b2 : 1 ≤ 1 + den % 1000 ∧ 1 + den % 1000 ≤ 1000 := by omega
  obtain ⟨hx1, hx2, hy1, hy2⟩ := hR.bd b1.1 b2.1
  replace hx2 : x ≤ 999999 := by omega
  replace hy2 : y ≤ 1000 := by omega
  have HF : Hid (Fr x y) := Lib.hid ⟨hx1, by omega, hy1, by omega, hR.gcd b1.1⟩
  have HR := Lib.hid hR
  clear hR
  obtain ⟨n, hn⟩ : ∃ n, y + most % (1000 - y + 1) = n := ⟨_, rfl⟩
  have r1 := Int.emod_nonneg most (show 1000 - y + 1 ≠ 0 by omega)
  have r2 := Int.emod_lt_of_pos most (show 0 < 1000 - y + 1 by omega)
  have hyn : y ≤ n := by omega
  have hn2 : n ≤ 1000 := by omega
  have hne : (1000 - y + 1 : Int) ≠ 0 := by omega
  have HN := Lib.hid hn
  clear hn
  go_enter Try.func12, Try.ntmps12
  go_wp2_with fail
  refine (Reduced_any _ _ x y HR.out (by omega) (by omega) (by omega) (by omega) _).mono ?_
  rintro e w1 ⟨rfl, hb1⟩
  have hx : Below w.heap.size w w1 := (((Below.refl _ _).alloc (Nat.le_refl _) _) : Below w.heap.size w (w.alloc (.cells #[.int .i64 g, .int .i64 h] 23))).trans (hb1.mono (by simp))
  have f1_0 : w1.cell? ⟨w.heap.size, 0, none⟩ = some (.int .i64 g) := (hb1.cell (p := ⟨w.heap.size, 0, none⟩) (by simp)).trans (by simp [go_sem])
  have f1_1 : w1.cell? ⟨w.heap.size, 1, none⟩ = some (.int .i64 h) := (hb1.cell (p := ⟨w.heap.size, 1, none⟩) (by simp)).trans (by simp [go_sem])
  have l1 : w.heap.size < w1.heap.size := by have := hb1.size; simp at this; omega
  have hbel : Below w.heap.size w w1 := hx
  clear hx
  clear hb1
  go_wp2_with fail
  go_quiet (fail)
  go_wp2_with fail
  rw [HN.out]
  refine (Next_ok x y n HF.out ⟨by omega, by omega⟩ (by omega) _).mono ?_
  rintro e w2 ⟨⟨p, q, rfl, hP⟩, hb0⟩
  have hb2 : Below (w1.alloc (.cells #[.int .i64 x, .int .i64 y] 23)).heap.size (w1.alloc (.cells #[.int .i64 x, .int .i64 y] 23)) w2 := ⟨hb0.os, hb0.tape, hb0.output, hb0.size, hb0.block⟩
  clear hb0
  have hx : Below w1.heap.size w1 w2 := (((Below.refl _ _).alloc (Nat.le_refl _) _) : Below w1.heap.size w1 (w1.alloc (.cells #[.int .i64 x, .int .i64 y] 23))).trans (hb2.mono (by simp))
  have f2_0 : w2.cell? ⟨w1.heap.size, 0, none⟩ = some (.int .i64 x) := (hb2.cell (p := ⟨w1.heap.size, 0, none⟩) (by simp)).trans (by simp [go_sem])
  have f2_1 : w2.cell? ⟨w1.heap.size, 1, none⟩ = some (.int .i64 y) := (hb2.cell (p := ⟨w1.heap.size, 1, none⟩) (by simp)).trans (by simp [go_sem])
  have l2 : w1.heap.size < w2.heap.size := by have := hb2.size; simp at this; omega
  replace f1_0 : w2.cell? ⟨w.heap.size, 0, none⟩ = some (.int .i64 g) := (hx.cell (p := ⟨w.heap.size, 0, none⟩) l1).trans f1_0
  replace f1_1 : w2.cell? ⟨w.heap.size, 1, none⟩ = some (.int .i64 h) := (hx.cell (p := ⟨w.heap.size, 1, none⟩) l1).trans f1_1
  replace l1 : w.heap.size < w2.heap.size := Nat.lt_of_lt_of_le l1 hx.size
  replace hbel : Below w.heap.size w w2 := hbel.trans (hx.mono hbel.size)
  clear hx
  clear hb2
  have hfp := hP.fr
  have hdt := hP.det hyn
  have hqn := hP.den
  obtain ⟨p1, p2, q1, q2, _⟩ := hfp
  obtain ⟨e1, e2⟩ := nat_mul hy1 hy2 p1 p2
  obtain ⟨e3, e4⟩ := nat_mul hx1 hx2 q1 (show q ≤ 1000 by omega)
  have hd1 : (y * p - x * q != 1) = false := by rw [hdt]; rfl
  have HP := Lib.hid hP
  clear hP
  go_wp2_with fail
  refine (IsFraction_any p q true (decide_eq_true HP.out.fr) _).mono ?_
  rintro e w3 ⟨rfl, hb3⟩
  have hx : Below w2.heap.size w2 w3 := (((Below.refl _ _).alloc (Nat.le_refl _) _) : Below w2.heap.size w2 (w2.alloc (.cells #[.int .i64 p, .int .i64 q] 23))).trans (hb3.mono (by simp))
  have f3_0 : w3.cell? ⟨w2.heap.size, 0, none⟩ = some (.int .i64 p) := (hb3.cell (p := ⟨w2.heap.size, 0, none⟩) (by simp)).trans (by simp [go_sem])
  have f3_1 : w3.cell? ⟨w2.heap.size, 1, none⟩ = some (.int .i64 q) := (hb3.cell (p := ⟨w2.heap.size, 1, none⟩) (by simp)).trans (by simp [go_sem])
  have l3 : w2.heap.size < w3.heap.size := by have := hb3.size; simp at this; omega
  replace f1_0 : w3.cell? ⟨w.heap.size, 0, none⟩ = some (.int .i64 g) := (hx.cell (p := ⟨w.heap.size, 0, none⟩) l1).trans f1_0
  replace f1_1 : w3.cell? ⟨w.heap.size, 1, none⟩ = some (.int .i64 h) := (hx.cell (p := ⟨w.heap.size, 1, none⟩) l1).trans f1_1
  replace f2_0 : w3.cell? ⟨w1.heap.size, 0, none⟩ = some (.int .i64 x) := (hx.cell (p := ⟨w1.heap.size, 0, none⟩) l2).trans f2_0
  replace f2_1 : w3.cell? ⟨w1.heap.size, 1, none⟩ = some (.int .i64 y) := (hx.cell (p := ⟨w1.heap.size, 1, none⟩) l2).trans f2_1
  replace l1 : w.heap.size < w3.heap.size := Nat.lt_of_lt_of_le l1 hx.size
  replace l2 : w1.heap.size < w3.heap.size := Nat.lt_of_lt_of_le l2 hx.size
  replace hbel : Below w.heap.size w w3 := hbel.trans (hx.mono hbel.size)
  clear hx
  clear hb3
  by_cases hG : Fr g h
  · have HG := Lib.hid (decide_eq_true hG)
    obtain ⟨g1, g2, h1, h2, _⟩ := hG
    go_wp2_with fail
    refine (IsFraction_any g h true HG.out _).mono ?_
    rintro e w4 ⟨rfl, hb4⟩
    replace f1_0 : w4.cell? ⟨w.heap.size, 0, none⟩ = some (.int .i64 g) := (hb4.cell (p := ⟨w.heap.size, 0, none⟩) l1).trans f1_0
    replace f1_1 : w4.cell? ⟨w.heap.size, 1, none⟩ = some (.int .i64 h) := (hb4.cell (p := ⟨w.heap.size, 1, none⟩) l1).trans f1_1
    replace f2_0 : w4.cell? ⟨w1.heap.size, 0, none⟩ = some (.int .i64 x) := (hb4.cell (p := ⟨w1.heap.size, 0, none⟩) l2).trans f2_0
    replace f2_1 : w4.cell? ⟨w1.heap.size, 1, none⟩ = some (.int .i64 y) := (hb4.cell (p := ⟨w1.heap.size, 1, none⟩) l2).trans f2_1
    replace f3_0 : w4.cell? ⟨w2.heap.size, 0, none⟩ = some (.int .i64 p) := (hb4.cell (p := ⟨w2.heap.size, 0, none⟩) l3).trans f3_0
    replace f3_1 : w4.cell? ⟨w2.heap.size, 1, none⟩ = some (.int .i64 q) := (hb4.cell (p := ⟨w2.heap.size, 1, none⟩) l3).trans f3_1
    replace l1 : w.heap.size < w4.heap.size := Nat.lt_of_lt_of_le l1 hb4.size
    replace l2 : w1.heap.size < w4.heap.size := Nat.lt_of_lt_of_le l2 hb4.size
    replace l3 : w2.heap.size < w4.heap.size := Nat.lt_of_lt_of_le l3 hb4.size
    replace hbel : Below w.heap.size w w4 := hbel.trans (hb4.mono hbel.size)
    clear hb4
    by_cases hn3 : h ≤ n
    · have f1 := nat_mul hx1 hx2 h1 h2
      have f2 := nat_mul g1 g2 hy1 hy2
      have f3 := nat_mul g1 g2 q1 q2
      have f4 := nat_mul p1 p2 h1 h2
      by_cases hl : x * h < g * y
      · have HL := Lib.hid (decide_eq_true hl)
        have HM := Lib.hid (decide_eq_false (show ¬ g * q < p * h by have := HP.out.min g h h1 hn3 hl; omega))
        clear hl
        go_wp2_with fail
        refine (less_any x y g h true HL.out f1.1 (by have := f1.2; omega) f2.1 (by have := f2.2; omega) _).mono ?_
        rintro e w5 ⟨rfl, hb5⟩
        replace f1_0 : w5.cell? ⟨w.heap.size, 0, none⟩ = some (.int .i64 g) := (hb5.cell (p := ⟨w.heap.size, 0, none⟩) l1).trans f1_0
        replace f1_1 : w5.cell? ⟨w.heap.size, 1, none⟩ = some (.int .i64 h) := (hb5.cell (p := ⟨w.heap.size, 1, none⟩) l1).trans f1_1
        replace f2_0 : w5.cell? ⟨w1.heap.size, 0, none⟩ = some (.int .i64 x) := (hb5.cell (p := ⟨w1.heap.size, 0, none⟩) l2).trans f2_0
        replace f2_1 : w5.cell? ⟨w1.heap.size, 1, none⟩ = some (.int .i64 y) := (hb5.cell (p := ⟨w1.heap.size, 1, none⟩) l2).trans f2_1
        replace f3_0 : w5.cell? ⟨w2.heap.size, 0, none⟩ = some (.int .i64 p) := (hb5.cell (p := ⟨w2.heap.size, 0, none⟩) l3).trans f3_0
        replace f3_1 : w5.cell? ⟨w2.heap.size, 1, none⟩ = some (.int .i64 q) := (hb5.cell (p := ⟨w2.heap.size, 1, none⟩) l3).trans f3_1
        replace l1 : w.heap.size < w5.heap.size := Nat.lt_of_lt_of_le l1 hb5.size
        replace l2 : w1.heap.size < w5.heap.size := Nat.lt_of_lt_of_le l2 hb5.size
        replace l3 : w2.heap.size < w5.heap.size := Nat.lt_of_lt_of_le l3 hb5.size
        replace hbel : Below w.heap.size w w5 := hbel.trans (hb5.mono hbel.size)
        clear hb5
        go_wp2_with fail
        refine (less_any g h p q false HM.out f3.1 (by have := f3.2; omega) f4.1 (by have := f4.2; omega) _).mono ?_
        rintro e w6 ⟨rfl, hb6⟩
        replace f1_0 : w6.cell? ⟨w.heap.size, 0, none⟩ = some (.int .i64 g) := (hb6.cell (p := ⟨w.heap.size, 0, none⟩) l1).trans f1_0
        replace f1_1 : w6.cell? ⟨w.heap.size, 1, none⟩ = some (.int .i64 h) := (hb6.cell (p := ⟨w.heap.size, 1, none⟩) l1).trans f1_1
        replace f2_0 : w6.cell? ⟨w1.heap.size, 0, none⟩ = some (.int .i64 x) := (hb6.cell (p := ⟨w1.heap.size, 0, none⟩) l2).trans f2_0
        replace f2_1 : w6.cell? ⟨w1.heap.size, 1, none⟩ = some (.int .i64 y) := (hb6.cell (p := ⟨w1.heap.size, 1, none⟩) l2).trans f2_1
        replace f3_0 : w6.cell? ⟨w2.heap.size, 0, none⟩ = some (.int .i64 p) := (hb6.cell (p := ⟨w2.heap.size, 0, none⟩) l3).trans f3_0
        replace f3_1 : w6.cell? ⟨w2.heap.size, 1, none⟩ = some (.int .i64 q) := (hb6.cell (p := ⟨w2.heap.size, 1, none⟩) l3).trans f3_1
        replace l1 : w.heap.size < w6.heap.size := Nat.lt_of_lt_of_le l1 hb6.size
        replace l2 : w1.heap.size < w6.heap.size := Nat.lt_of_lt_of_le l2 hb6.size
        replace l3 : w2.heap.size < w6.heap.size := Nat.lt_of_lt_of_le l3 hb6.size
        replace hbel : Below w.heap.size w w6 := hbel.trans (hb6.mono hbel.size)
        clear hb6
        go_wp2_with fail
        refine (Works_any _).mono ?_
        rintro e w7 ⟨rfl, hb7⟩
        replace f1_0 : w7.cell? ⟨w.heap.size, 0, none⟩ = some (.int .i64 g) := (hb7.cell (p := ⟨w.heap.size, 0, none⟩) l1).trans f1_0
        replace f1_1 : w7.cell? ⟨w.heap.size, 1, none⟩ = some (.int .i64 h) := (hb7.cell (p := ⟨w.heap.size, 1, none⟩) l1).trans f1_1
        replace f2_0 : w7.cell? ⟨w1.heap.size, 0, none⟩ = some (.int .i64 x) := (hb7.cell (p := ⟨w1.heap.size, 0, none⟩) l2).trans f2_0
        replace f2_1 : w7.cell? ⟨w1.heap.size, 1, none⟩ = some (.int .i64 y) := (hb7.cell (p := ⟨w1.heap.size, 1, none⟩) l2).trans f2_1
        replace f3_0 : w7.cell? ⟨w2.heap.size, 0, none⟩ = some (.int .i64 p) := (hb7.cell (p := ⟨w2.heap.size, 0, none⟩) l3).trans f3_0
        replace f3_1 : w7.cell? ⟨w2.heap.size, 1, none⟩ = some (.int .i64 q) := (hb7.cell (p := ⟨w2.heap.size, 1, none⟩) l3).trans f3_1
        replace l1 : w.heap.size < w7.heap.size := Nat.lt_of_lt_of_le l1 hb7.size
        replace l2 : w1.heap.size < w7.heap.size := Nat.lt_of_lt_of_le l2 hb7.size
        replace l3 : w2.heap.size < w7.heap.size := Nat.lt_of_lt_of_le l3 hb7.size
        replace hbel : Below w.heap.size w w7 := hbel.trans (hb7.mono hbel.size)
        clear hb7
        go_wp2_with fail
        go_ret
        exact ⟨rfl, hbel⟩
      · have HL := Lib.hid (decide_eq_false hl)
        clear hl
        go_wp2_with fail
        refine (less_any x y g h false HL.out f1.1 (by have := f1.2; omega) f2.1 (by have := f2.2; omega) _).mono ?_
        rintro e w5 ⟨rfl, hb5⟩
        replace f1_0 : w5.cell? ⟨w.heap.size, 0, none⟩ = some (.int .i64 g) := (hb5.cell (p := ⟨w.heap.size, 0, none⟩) l1).trans f1_0
        replace f1_1 : w5.cell? ⟨w.heap.size, 1, none⟩ = some (.int .i64 h) := (hb5.cell (p := ⟨w.heap.size, 1, none⟩) l1).trans f1_1
        replace f2_0 : w5.cell? ⟨w1.heap.size, 0, none⟩ = some (.int .i64 x) := (hb5.cell (p := ⟨w1.heap.size, 0, none⟩) l2).trans f2_0
        replace f2_1 : w5.cell? ⟨w1.heap.size, 1, none⟩ = some (.int .i64 y) := (hb5.cell (p := ⟨w1.heap.size, 1, none⟩) l2).trans f2_1
        replace f3_0 : w5.cell? ⟨w2.heap.size, 0, none⟩ = some (.int .i64 p) := (hb5.cell (p := ⟨w2.heap.size, 0, none⟩) l3).trans f3_0
        replace f3_1 : w5.cell? ⟨w2.heap.size, 1, none⟩ = some (.int .i64 q) := (hb5.cell (p := ⟨w2.heap.size, 1, none⟩) l3).trans f3_1
        replace l1 : w.heap.size < w5.heap.size := Nat.lt_of_lt_of_le l1 hb5.size
        replace l2 : w1.heap.size < w5.heap.size := Nat.lt_of_lt_of_le l2 hb5.size
        replace l3 : w2.heap.size < w5.heap.size := Nat.lt_of_lt_of_le l3 hb5.size
        replace hbel : Below w.heap.size w w5 := hbel.trans (hb5.mono hbel.size)
        clear hb5
        go_wp2_with fail
        refine (Works_any _).mono ?_
        rintro e w6 ⟨rfl, hb6⟩
        replace f1_0 : w6.cell? ⟨w.heap.size, 0, none⟩ = some (.int .i64 g) := (hb6.cell (p := ⟨w.heap.size, 0, none⟩) l1).trans f1_0
        replace f1_1 : w6.cell? ⟨w.heap.size, 1, none⟩ = some (.int .i64 h) := (hb6.cell (p := ⟨w.heap.size, 1, none⟩) l1).trans f1_1
        replace f2_0 : w6.cell? ⟨w1.heap.size, 0, none⟩ = some (.int .i64 x) := (hb6.cell (p := ⟨w1.heap.size, 0, none⟩) l2).trans f2_0
        replace f2_1 : w6.cell? ⟨w1.heap.size, 1, none⟩ = some (.int .i64 y) := (hb6.cell (p := ⟨w1.heap.size, 1, none⟩) l2).trans f2_1
        replace f3_0 : w6.cell? ⟨w2.heap.size, 0, none⟩ = some (.int .i64 p) := (hb6.cell (p := ⟨w2.heap.size, 0, none⟩) l3).trans f3_0
        replace f3_1 : w6.cell? ⟨w2.heap.size, 1, none⟩ = some (.int .i64 q) := (hb6.cell (p := ⟨w2.heap.size, 1, none⟩) l3).trans f3_1
        replace l1 : w.heap.size < w6.heap.size := Nat.lt_of_lt_of_le l1 hb6.size
        replace l2 : w1.heap.size < w6.heap.size := Nat.lt_of_lt_of_le l2 hb6.size
        replace l3 : w2.heap.size < w6.heap.size := Nat.lt_of_lt_of_le l3 hb6.size
        replace hbel : Below w.heap.size w w6 := hbel.trans (hb6.mono hbel.size)
        clear hb6
        go_wp2_with fail
        go_ret
        exact ⟨rfl, hbel⟩
    · have hn4 : n < h := by omega
      go_wp2_with fail
      refine (Works_any _).mono ?_
      rintro e w5 ⟨rfl, hb5⟩
      replace f1_0 : w5.cell? ⟨w.heap.size, 0, none⟩ = some (.int .i64 g) := (hb5.cell (p := ⟨w.heap.size, 0, none⟩) l1).trans f1_0
      replace f1_1 : w5.cell? ⟨w.heap.size, 1, none⟩ = some (.int .i64 h) := (hb5.cell (p := ⟨w.heap.size, 1, none⟩) l1).trans f1_1
      replace f2_0 : w5.cell? ⟨w1.heap.size, 0, none⟩ = some (.int .i64 x) := (hb5.cell (p := ⟨w1.heap.size, 0, none⟩) l2).trans f2_0
      replace f2_1 : w5.cell? ⟨w1.heap.size, 1, none⟩ = some (.int .i64 y) := (hb5.cell (p := ⟨w1.heap.size, 1, none⟩) l2).trans f2_1
      replace f3_0 : w5.cell? ⟨w2.heap.size, 0, none⟩ = some (.int .i64 p) := (hb5.cell (p := ⟨w2.heap.size, 0, none⟩) l3).trans f3_0
      replace f3_1 : w5.cell? ⟨w2.heap.size, 1, none⟩ = some (.int .i64 q) := (hb5.cell (p := ⟨w2.heap.size, 1, none⟩) l3).trans f3_1
      replace l1 : w.heap.size < w5.heap.size := Nat.lt_of_lt_of_le l1 hb5.size
      replace l2 : w1.heap.size < w5.heap.size := Nat.lt_of_lt_of_le l2 hb5.size
      replace l3 : w2.heap.size < w5.heap.size := Nat.lt_of_lt_of_le l3 hb5.size
      replace hbel : Below w.heap.size w w5 := hbel.trans (hb5.mono hbel.size)
      clear hb5
      go_wp2_with fail
      go_ret
      exact ⟨rfl, hbel⟩
  · have HG := Lib.hid (decide_eq_false hG)
    clear hG
    go_wp2_with fail
    refine (IsFraction_any g h false HG.out _).mono ?_
    rintro e w4 ⟨rfl, hb4⟩
    replace f1_0 : w4.cell? ⟨w.heap.size, 0, none⟩ = some (.int .i64 g) := (hb4.cell (p := ⟨w.heap.size, 0, none⟩) l1).trans f1_0
    replace f1_1 : w4.cell? ⟨w.heap.size, 1, none⟩ = some (.int .i64 h) := (hb4.cell (p := ⟨w.heap.size, 1, none⟩) l1).trans f1_1
    replace f2_0 : w4.cell? ⟨w1.heap.size, 0, none⟩ = some (.int .i64 x) := (hb4.cell (p := ⟨w1.heap.size, 0, none⟩) l2).trans f2_0
    replace f2_1 : w4.cell? ⟨w1.heap.size, 1, none⟩ = some (.int .i64 y) := (hb4.cell (p := ⟨w1.heap.size, 1, none⟩) l2).trans f2_1
    replace f3_0 : w4.cell? ⟨w2.heap.size, 0, none⟩ = some (.int .i64 p) := (hb4.cell (p := ⟨w2.heap.size, 0, none⟩) l3).trans f3_0
    replace f3_1 : w4.cell? ⟨w2.heap.size, 1, none⟩ = some (.int .i64 q) := (hb4.cell (p := ⟨w2.heap.size, 1, none⟩) l3).trans f3_1
    replace l1 : w.heap.size < w4.heap.size := Nat.lt_of_lt_of_le l1 hb4.size
    replace l2 : w1.heap.size < w4.heap.size := Nat.lt_of_lt_of_le l2 hb4.size
    replace l3 : w2.heap.size < w4.heap.size := Nat.lt_of_lt_of_le l3 hb4.size
    replace hbel : Below w.heap.size w w4 := hbel.trans (hb4.mono hbel.size)
    clear hb4
    go_wp2_with fail
    refine (Works_any _).mono ?_
    rintro e w5 ⟨rfl, hb5⟩
    replace f1_0 : w5.cell? ⟨w.heap.size, 0, none⟩ = some (.int .i64 g) := (hb5.cell (p := ⟨w.heap.size, 0, none⟩) l1).trans f1_0
    replace f1_1 : w5.cell? ⟨w.heap.size, 1, none⟩ = some (.int .i64 h) := (hb5.cell (p := ⟨w.heap.size, 1, none⟩) l1).trans f1_1
    replace f2_0 : w5.cell? ⟨w1.heap.size, 0, none⟩ = some (.int .i64 x) := (hb5.cell (p := ⟨w1.heap.size, 0, none⟩) l2).trans f2_0
    replace f2_1 : w5.cell? ⟨w1.heap.size, 1, none⟩ = some (.int .i64 y) := (hb5.cell (p := ⟨w1.heap.size, 1, none⟩) l2).trans f2_1
    replace f3_0 : w5.cell? ⟨w2.heap.size, 0, none⟩ = some (.int .i64 p) := (hb5.cell (p := ⟨w2.heap.size, 0, none⟩) l3).trans f3_0
    replace f3_1 : w5.cell? ⟨w2.heap.size, 1, none⟩ = some (.int .i64 q) := (hb5.cell (p := ⟨w2.heap.size, 1, none⟩) l3).trans f3_1
    replace l1 : w.heap.size < w5.heap.size := Nat.lt_of_lt_of_le l1 hb5.size
    replace l2 : w1.heap.size < w5.heap.size := Nat.lt_of_lt_of_le l2 hb5.size
    replace l3 : w2.heap.size < w5.heap.size := Nat.lt_of_lt_of_le l3 hb5.size
    replace hbel : Below w.heap.size w w5 := hbel.trans (hb5.mono hbel.size)
    clear hb5
    go_wp2_with fail
    go_ret
    exact ⟨rfl, hbel⟩
end Go.Proofs.Ytbdjllgngblfoaa
