import Derived.Test.YtbdjllgngblfoaaVc
namespace Go.Proofs.Ytbdjllgngblfoaa
set_option linter.unusedVariables false
set_option linter.unusedSimpArgs false
open Go.RowKit

set_option maxRecDepth 100000 in
set_option maxHeartbeats 8000000 in
theorem Nexts_any (N D dn : Int) (w : World) : Calls Try.prog 6 #[.agg #[.int .i64 N, .int .i64 D], .int .i64 dn] w fun e w' => e = .returned (.bool true) ∧ Below w.heap.size w w' := by
  by_cases hF : Fr N D
  · have HF := Lib.hid hF
    clear hF
    by_cases hR : (1 ≤ dn ∧ dn ≤ 1000) ∧ N ≤ 999999
    · have HR := Lib.hid hR
      clear hR
      go_enter Try.func6, Try.ntmps6
      go_wp2_with fail
      refine (Next_ok N D dn HF.out HR.out.1 HR.out.2 _).mono ?_
      rintro e w1 ⟨⟨c, d, rfl, hP⟩, hb1⟩
      have HP := Lib.hid hP
      clear hP
      have hx : Below w.heap.size w w1 := (((Below.refl _ _).alloc (Nat.le_refl _) _) : Below w.heap.size w (w.alloc (.cells #[.int .i64 N, .int .i64 D] 23))).trans (hb1.mono (by simp))
      have f1_0 : w1.cell? ⟨w.heap.size, 0, none⟩ = some (.int .i64 N) := (hb1.cell (p := ⟨w.heap.size, 0, none⟩) (by simp)).trans (by simp [go_sem])
      have f1_1 : w1.cell? ⟨w.heap.size, 1, none⟩ = some (.int .i64 D) := (hb1.cell (p := ⟨w.heap.size, 1, none⟩) (by simp)).trans (by simp [go_sem])
      have l1 : w.heap.size < w1.heap.size := by have := hb1.size; simp at this; omega
      have hbel : Below w.heap.size w w1 := hx
      clear hx
      clear hb1
      go_wp2_with fail
      refine (NextR_ok N D dn c d HF.out HR.out.1 HR.out.2 HP.out _).mono ?_
      rintro e w2 ⟨rfl, hb2⟩
      have hx : Below w1.heap.size w1 w2 := (((Below.refl _ _).alloc (Nat.le_refl _) _) : Below w1.heap.size w1 (w1.alloc (.cells #[.int .i64 c, .int .i64 d] 23))).trans (hb2.mono (by simp))
      have f2_0 : w2.cell? ⟨w1.heap.size, 0, none⟩ = some (.int .i64 c) := (hb2.cell (p := ⟨w1.heap.size, 0, none⟩) (by simp)).trans (by simp [go_sem])
      have f2_1 : w2.cell? ⟨w1.heap.size, 1, none⟩ = some (.int .i64 d) := (hb2.cell (p := ⟨w1.heap.size, 1, none⟩) (by simp)).trans (by simp [go_sem])
      have l2 : w1.heap.size < w2.heap.size := by have := hb2.size; simp at this; omega
      replace f1_0 : w2.cell? ⟨w.heap.size, 0, none⟩ = some (.int .i64 N) := (hx.cell (p := ⟨w.heap.size, 0, none⟩) l1).trans f1_0
      replace f1_1 : w2.cell? ⟨w.heap.size, 1, none⟩ = some (.int .i64 D) := (hx.cell (p := ⟨w.heap.size, 1, none⟩) l1).trans f1_1
      replace l1 : w.heap.size < w2.heap.size := Nat.lt_of_lt_of_le l1 hx.size
      replace hbel : Below w.heap.size w w2 := hbel.trans (hx.mono hbel.size)
      clear hx
      clear hb2
      go_wp2_with fail
      refine (Works_any _).mono ?_
      rintro e w3 ⟨rfl, hb3⟩
      have hx : Below w2.heap.size w2 w3 := (((Below.refl _ _).alloc (Nat.le_refl _) _) : Below w2.heap.size w2 (w2.alloc (.cells #[.int .i64 c, .int .i64 d] 23))).trans (hb3.mono (by simp))
      have f3_0 : w3.cell? ⟨w2.heap.size, 0, none⟩ = some (.int .i64 c) := (hb3.cell (p := ⟨w2.heap.size, 0, none⟩) (by simp)).trans (by simp [go_sem])
      have f3_1 : w3.cell? ⟨w2.heap.size, 1, none⟩ = some (.int .i64 d) := (hb3.cell (p := ⟨w2.heap.size, 1, none⟩) (by simp)).trans (by simp [go_sem])
      have l3 : w2.heap.size < w3.heap.size := by have := hb3.size; simp at this; omega
      replace f1_0 : w3.cell? ⟨w.heap.size, 0, none⟩ = some (.int .i64 N) := (hx.cell (p := ⟨w.heap.size, 0, none⟩) l1).trans f1_0
      replace f1_1 : w3.cell? ⟨w.heap.size, 1, none⟩ = some (.int .i64 D) := (hx.cell (p := ⟨w.heap.size, 1, none⟩) l1).trans f1_1
      replace f2_0 : w3.cell? ⟨w1.heap.size, 0, none⟩ = some (.int .i64 c) := (hx.cell (p := ⟨w1.heap.size, 0, none⟩) l2).trans f2_0
      replace f2_1 : w3.cell? ⟨w1.heap.size, 1, none⟩ = some (.int .i64 d) := (hx.cell (p := ⟨w1.heap.size, 1, none⟩) l2).trans f2_1
      replace l1 : w.heap.size < w3.heap.size := Nat.lt_of_lt_of_le l1 hx.size
      replace l2 : w1.heap.size < w3.heap.size := Nat.lt_of_lt_of_le l2 hx.size
      replace hbel : Below w.heap.size w w3 := hbel.trans (hx.mono hbel.size)
      clear hx
      clear hb3
      go_wp2_with fail
      go_ret
      exact ⟨rfl, hbel⟩
    · have HR := Lib.hid hR
      clear hR
      go_enter Try.func6, Try.ntmps6
      go_wp2_with fail
      refine (Next_range N D dn HF.out HR.out _).mono ?_
      rintro e w1 ⟨rfl, hb1⟩
      have hx : Below w.heap.size w w1 := (((Below.refl _ _).alloc (Nat.le_refl _) _) : Below w.heap.size w (w.alloc (.cells #[.int .i64 N, .int .i64 D] 23))).trans (hb1.mono (by simp))
      have f1_0 : w1.cell? ⟨w.heap.size, 0, none⟩ = some (.int .i64 N) := (hb1.cell (p := ⟨w.heap.size, 0, none⟩) (by simp)).trans (by simp [go_sem])
      have f1_1 : w1.cell? ⟨w.heap.size, 1, none⟩ = some (.int .i64 D) := (hb1.cell (p := ⟨w.heap.size, 1, none⟩) (by simp)).trans (by simp [go_sem])
      have l1 : w.heap.size < w1.heap.size := by have := hb1.size; simp at this; omega
      have hbel : Below w.heap.size w w1 := hx
      clear hx
      clear hb1
      go_wp2_with fail
      refine (NextR_range N D dn HF.out HR.out _).mono ?_
      rintro e w2 ⟨rfl, hb2⟩
      have hx : Below w1.heap.size w1 w2 := (((Below.refl _ _).alloc (Nat.le_refl _) _) : Below w1.heap.size w1 (w1.alloc (.cells #[.int .i64 0, .int .i64 0] 23))).trans (hb2.mono (by simp))
      have f2_0 : w2.cell? ⟨w1.heap.size, 0, none⟩ = some (.int .i64 0) := (hb2.cell (p := ⟨w1.heap.size, 0, none⟩) (by simp)).trans (by simp [go_sem])
      have f2_1 : w2.cell? ⟨w1.heap.size, 1, none⟩ = some (.int .i64 0) := (hb2.cell (p := ⟨w1.heap.size, 1, none⟩) (by simp)).trans (by simp [go_sem])
      have l2 : w1.heap.size < w2.heap.size := by have := hb2.size; simp at this; omega
      replace f1_0 : w2.cell? ⟨w.heap.size, 0, none⟩ = some (.int .i64 N) := (hx.cell (p := ⟨w.heap.size, 0, none⟩) l1).trans f1_0
      replace f1_1 : w2.cell? ⟨w.heap.size, 1, none⟩ = some (.int .i64 D) := (hx.cell (p := ⟨w.heap.size, 1, none⟩) l1).trans f1_1
      replace l1 : w.heap.size < w2.heap.size := Nat.lt_of_lt_of_le l1 hx.size
      replace hbel : Below w.heap.size w w2 := hbel.trans (hx.mono hbel.size)
      clear hx
      clear hb2
      go_wp2_with fail
      refine (Works_any _).mono ?_
      rintro e w3 ⟨rfl, hb3⟩
      have hx : Below w2.heap.size w2 w3 := (((Below.refl _ _).alloc (Nat.le_refl _) _) : Below w2.heap.size w2 (w2.alloc (.cells #[.int .i64 0, .int .i64 0] 23))).trans (hb3.mono (by simp))
      have f3_0 : w3.cell? ⟨w2.heap.size, 0, none⟩ = some (.int .i64 0) := (hb3.cell (p := ⟨w2.heap.size, 0, none⟩) (by simp)).trans (by simp [go_sem])
      have f3_1 : w3.cell? ⟨w2.heap.size, 1, none⟩ = some (.int .i64 0) := (hb3.cell (p := ⟨w2.heap.size, 1, none⟩) (by simp)).trans (by simp [go_sem])
      have l3 : w2.heap.size < w3.heap.size := by have := hb3.size; simp at this; omega
      replace f1_0 : w3.cell? ⟨w.heap.size, 0, none⟩ = some (.int .i64 N) := (hx.cell (p := ⟨w.heap.size, 0, none⟩) l1).trans f1_0
      replace f1_1 : w3.cell? ⟨w.heap.size, 1, none⟩ = some (.int .i64 D) := (hx.cell (p := ⟨w.heap.size, 1, none⟩) l1).trans f1_1
      replace f2_0 : w3.cell? ⟨w1.heap.size, 0, none⟩ = some (.int .i64 0) := (hx.cell (p := ⟨w1.heap.size, 0, none⟩) l2).trans f2_0
      replace f2_1 : w3.cell? ⟨w1.heap.size, 1, none⟩ = some (.int .i64 0) := (hx.cell (p := ⟨w1.heap.size, 1, none⟩) l2).trans f2_1
      replace l1 : w.heap.size < w3.heap.size := Nat.lt_of_lt_of_le l1 hx.size
      replace l2 : w1.heap.size < w3.heap.size := Nat.lt_of_lt_of_le l2 hx.size
      replace hbel : Below w.heap.size w w3 := hbel.trans (hx.mono hbel.size)
      clear hx
      clear hb3
      go_wp2_with fail
      go_ret
      exact ⟨rfl, hbel⟩
  · have HF := Lib.hid hF
    clear hF
    go_enter Try.func6, Try.ntmps6
    go_wp2_with fail
    refine (Next_bad N D dn HF.out _).mono ?_
    rintro e w1 ⟨rfl, hb1⟩
    have hx : Below w.heap.size w w1 := (((Below.refl _ _).alloc (Nat.le_refl _) _) : Below w.heap.size w (w.alloc (.cells #[.int .i64 N, .int .i64 D] 23))).trans (hb1.mono (by simp))
    have f1_0 : w1.cell? ⟨w.heap.size, 0, none⟩ = some (.int .i64 N) := (hb1.cell (p := ⟨w.heap.size, 0, none⟩) (by simp)).trans (by simp [go_sem])
    have f1_1 : w1.cell? ⟨w.heap.size, 1, none⟩ = some (.int .i64 D) := (hb1.cell (p := ⟨w.heap.size, 1, none⟩) (by simp)).trans (by simp [go_sem])
    have l1 : w.heap.size < w1.heap.size := by have := hb1.size; simp at this; omega
    have hbel : Below w.heap.size w w1 := hx
    clear hx
    clear hb1
    go_wp2_with fail
    refine (NextR_bad N D dn HF.out _).mono ?_
    rintro e w2 ⟨rfl, hb2⟩
    have hx : Below w1.heap.size w1 w2 := (((Below.refl _ _).alloc (Nat.le_refl _) _) : Below w1.heap.size w1 (w1.alloc (.cells #[.int .i64 0, .int .i64 0] 23))).trans (hb2.mono (by simp))
    have f2_0 : w2.cell? ⟨w1.heap.size, 0, none⟩ = some (.int .i64 0) := (hb2.cell (p := ⟨w1.heap.size, 0, none⟩) (by simp)).trans (by simp [go_sem])
    have f2_1 : w2.cell? ⟨w1.heap.size, 1, none⟩ = some (.int .i64 0) := (hb2.cell (p := ⟨w1.heap.size, 1, none⟩) (by simp)).trans (by simp [go_sem])
    have l2 : w1.heap.size < w2.heap.size := by have := hb2.size; simp at this; omega
    replace f1_0 : w2.cell? ⟨w.heap.size, 0, none⟩ = some (.int .i64 N) := (hx.cell (p := ⟨w.heap.size, 0, none⟩) l1).trans f1_0
    replace f1_1 : w2.cell? ⟨w.heap.size, 1, none⟩ = some (.int .i64 D) := (hx.cell (p := ⟨w.heap.size, 1, none⟩) l1).trans f1_1
    replace l1 : w.heap.size < w2.heap.size := Nat.lt_of_lt_of_le l1 hx.size
    replace hbel : Below w.heap.size w w2 := hbel.trans (hx.mono hbel.size)
    clear hx
    clear hb2
    go_wp2_with fail
    refine (Works_any _).mono ?_
    rintro e w3 ⟨rfl, hb3⟩
    have hx : Below w2.heap.size w2 w3 := (((Below.refl _ _).alloc (Nat.le_refl _) _) : Below w2.heap.size w2 (w2.alloc (.cells #[.int .i64 0, .int .i64 0] 23))).trans (hb3.mono (by simp))
    have f3_0 : w3.cell? ⟨w2.heap.size, 0, none⟩ = some (.int .i64 0) := (hb3.cell (p := ⟨w2.heap.size, 0, none⟩) (by simp)).trans (by simp [go_sem])
    have f3_1 : w3.cell? ⟨w2.heap.size, 1, none⟩ = some (.int .i64 0) := (hb3.cell (p := ⟨w2.heap.size, 1, none⟩) (by simp)).trans (by simp [go_sem])
    have l3 : w2.heap.size < w3.heap.size := by have := hb3.size; simp at this; omega
    replace f1_0 : w3.cell? ⟨w.heap.size, 0, none⟩ = some (.int .i64 N) := (hx.cell (p := ⟨w.heap.size, 0, none⟩) l1).trans f1_0
    replace f1_1 : w3.cell? ⟨w.heap.size, 1, none⟩ = some (.int .i64 D) := (hx.cell (p := ⟨w.heap.size, 1, none⟩) l1).trans f1_1
    replace f2_0 : w3.cell? ⟨w1.heap.size, 0, none⟩ = some (.int .i64 0) := (hx.cell (p := ⟨w1.heap.size, 0, none⟩) l2).trans f2_0
    replace f2_1 : w3.cell? ⟨w1.heap.size, 1, none⟩ = some (.int .i64 0) := (hx.cell (p := ⟨w1.heap.size, 1, none⟩) l2).trans f2_1
    replace l1 : w.heap.size < w3.heap.size := Nat.lt_of_lt_of_le l1 hx.size
    replace l2 : w1.heap.size < w3.heap.size := Nat.lt_of_lt_of_le l2 hx.size
    replace hbel : Below w.heap.size w w3 := hbel.trans (hx.mono hbel.size)
    clear hx
    clear hb3
    go_wp2_with fail
    go_ret
    exact ⟨rfl, hbel⟩
end Go.Proofs.Ytbdjllgngblfoaa
