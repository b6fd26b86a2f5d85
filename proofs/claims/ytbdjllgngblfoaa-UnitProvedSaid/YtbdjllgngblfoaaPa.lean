import Derived.Test.YtbdjllgngblfoaaUz2
namespace Go.Proofs.Ytbdjllgngblfoaa
set_option linter.unusedVariables false
set_option linter.unusedSimpArgs false
open Go.RowKit

theorem chk_of_fnd {a b c d l m r s : Int} (hS : Sp a b c d) (h : Fnd a b c d l m r s) : chkProof a b c d l m r s = (m + s, 0) := by
  have h1 := h.l0
  have h2 := h.m1
  have h3 := h.r1
  have h4 := h.s0
  have h5 := h.num
  have h6 := h.den
  have hS2 := hS
  obtain ⟨⟨q1, q2, q3, q4, _⟩, _, _⟩ := hS
  unfold chkProof
  rw [if_pos hS2, if_pos, if_pos]
  · exact ⟨h.left, h.right, h.det⟩
  · unfold Pn
    omega

set_option maxRecDepth 100000 in
set_option maxHeartbeats 8000000 in
theorem Proofs_any (a b c d l m r s : Int) (w : World) : Calls Try.prog 4 #[.agg #[.int .i64 a, .int .i64 b, .int .i64 c, .int .i64 d], .agg #[.int .i64 l, .int .i64 m, .int .i64 r, .int .i64 s]] w fun e w' => e = .returned (.bool true) ∧ Below w.heap.size w w' := by
  obtain ⟨⟨v, k⟩, hv⟩ : ∃ q, chkProof a b c d l m r s = q := ⟨_, rfl⟩
  have HV := Lib.hid hv
  clear hv
  by_cases hS : Sp a b c d
  · have HC := Lib.hid (show (if Sp a b c d then (0:Int) else 2) = 0 from if_pos hS)
    have HS := Lib.hid hS
    clear hS
    go_enter Try.func4, Try.ntmps4
    go_wp2_with fail
    refine (CheckProof_any a b c d l m r s v k HV.out _).mono ?_
    rintro e w1 ⟨rfl, hb1⟩
    have hx : Below w.heap.size w w1 := ((((Below.refl _ _).alloc (Nat.le_refl _) _).alloc (by simp) _) : Below w.heap.size w ((w.alloc (.cells #[.int .i64 a, .int .i64 b, .int .i64 c, .int .i64 d] 25)).alloc (.cells #[.int .i64 l, .int .i64 m, .int .i64 r, .int .i64 s] 37))).trans (hb1.mono (by simp; omega))
    have f1_0 : w1.cell? ⟨w.heap.size, 0, none⟩ = some (.int .i64 a) := (hb1.cell (p := ⟨w.heap.size, 0, none⟩) (by (try simp) <;> omega)).trans (by simp [go_sem])
    have f1_1 : w1.cell? ⟨w.heap.size, 1, none⟩ = some (.int .i64 b) := (hb1.cell (p := ⟨w.heap.size, 1, none⟩) (by (try simp) <;> omega)).trans (by simp [go_sem])
    have f1_2 : w1.cell? ⟨w.heap.size, 2, none⟩ = some (.int .i64 c) := (hb1.cell (p := ⟨w.heap.size, 2, none⟩) (by (try simp) <;> omega)).trans (by simp [go_sem])
    have f1_3 : w1.cell? ⟨w.heap.size, 3, none⟩ = some (.int .i64 d) := (hb1.cell (p := ⟨w.heap.size, 3, none⟩) (by (try simp) <;> omega)).trans (by simp [go_sem])
    have l1 : w.heap.size < w1.heap.size := by have := hb1.size; simp at this; omega
    have f2_0 : w1.cell? ⟨w.heap.size + 1, 0, none⟩ = some (.int .i64 l) := (hb1.cell (p := ⟨w.heap.size + 1, 0, none⟩) (by simp)).trans (by simp [go_sem])
    have f2_1 : w1.cell? ⟨w.heap.size + 1, 1, none⟩ = some (.int .i64 m) := (hb1.cell (p := ⟨w.heap.size + 1, 1, none⟩) (by simp)).trans (by simp [go_sem])
    have f2_2 : w1.cell? ⟨w.heap.size + 1, 2, none⟩ = some (.int .i64 r) := (hb1.cell (p := ⟨w.heap.size + 1, 2, none⟩) (by simp)).trans (by simp [go_sem])
    have f2_3 : w1.cell? ⟨w.heap.size + 1, 3, none⟩ = some (.int .i64 s) := (hb1.cell (p := ⟨w.heap.size + 1, 3, none⟩) (by simp)).trans (by simp [go_sem])
    have l2 : w.heap.size + 1 < w1.heap.size := by have := hb1.size; simp at this; omega
    have hbel : Below w.heap.size w w1 := hx
    clear hx
    clear hb1
    go_wp2_with fail
    refine (CheckProofR_any a b c d l m r s v k HV.out _).mono ?_
    rintro e w2 ⟨rfl, hb2⟩
    replace f1_0 : w2.cell? ⟨w.heap.size, 0, none⟩ = some (.int .i64 a) := (hb2.cell (p := ⟨w.heap.size, 0, none⟩) l1).trans f1_0
    replace f1_1 : w2.cell? ⟨w.heap.size, 1, none⟩ = some (.int .i64 b) := (hb2.cell (p := ⟨w.heap.size, 1, none⟩) l1).trans f1_1
    replace f1_2 : w2.cell? ⟨w.heap.size, 2, none⟩ = some (.int .i64 c) := (hb2.cell (p := ⟨w.heap.size, 2, none⟩) l1).trans f1_2
    replace f1_3 : w2.cell? ⟨w.heap.size, 3, none⟩ = some (.int .i64 d) := (hb2.cell (p := ⟨w.heap.size, 3, none⟩) l1).trans f1_3
    replace f2_0 : w2.cell? ⟨w.heap.size + 1, 0, none⟩ = some (.int .i64 l) := (hb2.cell (p := ⟨w.heap.size + 1, 0, none⟩) l2).trans f2_0
    replace f2_1 : w2.cell? ⟨w.heap.size + 1, 1, none⟩ = some (.int .i64 m) := (hb2.cell (p := ⟨w.heap.size + 1, 1, none⟩) l2).trans f2_1
    replace f2_2 : w2.cell? ⟨w.heap.size + 1, 2, none⟩ = some (.int .i64 r) := (hb2.cell (p := ⟨w.heap.size + 1, 2, none⟩) l2).trans f2_2
    replace f2_3 : w2.cell? ⟨w.heap.size + 1, 3, none⟩ = some (.int .i64 s) := (hb2.cell (p := ⟨w.heap.size + 1, 3, none⟩) l2).trans f2_3
    replace l1 : w.heap.size < w2.heap.size := Nat.lt_of_lt_of_le l1 hb2.size
    replace l2 : w.heap.size + 1 < w2.heap.size := Nat.lt_of_lt_of_le l2 hb2.size
    replace hbel : Below w.heap.size w w2 := hbel.trans (hb2.mono hbel.size)
    clear hb2
    go_wp2_with fail
    refine (Proof_ok a b c d HS.out _).mono ?_
    rintro e w3 ⟨⟨l', m', r', s', rfl, hF⟩, hb3⟩
    have HF := Lib.hid hF
    clear hF
    replace f1_0 : w3.cell? ⟨w.heap.size, 0, none⟩ = some (.int .i64 a) := (hb3.cell (p := ⟨w.heap.size, 0, none⟩) l1).trans f1_0
    replace f1_1 : w3.cell? ⟨w.heap.size, 1, none⟩ = some (.int .i64 b) := (hb3.cell (p := ⟨w.heap.size, 1, none⟩) l1).trans f1_1
    replace f1_2 : w3.cell? ⟨w.heap.size, 2, none⟩ = some (.int .i64 c) := (hb3.cell (p := ⟨w.heap.size, 2, none⟩) l1).trans f1_2
    replace f1_3 : w3.cell? ⟨w.heap.size, 3, none⟩ = some (.int .i64 d) := (hb3.cell (p := ⟨w.heap.size, 3, none⟩) l1).trans f1_3
    replace f2_0 : w3.cell? ⟨w.heap.size + 1, 0, none⟩ = some (.int .i64 l) := (hb3.cell (p := ⟨w.heap.size + 1, 0, none⟩) l2).trans f2_0
    replace f2_1 : w3.cell? ⟨w.heap.size + 1, 1, none⟩ = some (.int .i64 m) := (hb3.cell (p := ⟨w.heap.size + 1, 1, none⟩) l2).trans f2_1
    replace f2_2 : w3.cell? ⟨w.heap.size + 1, 2, none⟩ = some (.int .i64 r) := (hb3.cell (p := ⟨w.heap.size + 1, 2, none⟩) l2).trans f2_2
    replace f2_3 : w3.cell? ⟨w.heap.size + 1, 3, none⟩ = some (.int .i64 s) := (hb3.cell (p := ⟨w.heap.size + 1, 3, none⟩) l2).trans f2_3
    replace l1 : w.heap.size < w3.heap.size := Nat.lt_of_lt_of_le l1 hb3.size
    replace l2 : w.heap.size + 1 < w3.heap.size := Nat.lt_of_lt_of_le l2 hb3.size
    replace hbel : Below w.heap.size w w3 := hbel.trans (hb3.mono hbel.size)
    clear hb3
    go_wp2_with fail
    refine (CheckSpanR_any a b c d 0 HC.out _).mono ?_
    rintro e w4 ⟨rfl, hb4⟩
    have hx : Below w3.heap.size w3 w4 := (((Below.refl _ _).alloc (Nat.le_refl _) _) : Below w3.heap.size w3 (w3.alloc (.cells #[.int .i64 l', .int .i64 m', .int .i64 r', .int .i64 s'] 37))).trans (hb4.mono (by simp))
    have f3_0 : w4.cell? ⟨w3.heap.size, 0, none⟩ = some (.int .i64 l') := (hb4.cell (p := ⟨w3.heap.size, 0, none⟩) (by simp)).trans (by simp [go_sem])
    have f3_1 : w4.cell? ⟨w3.heap.size, 1, none⟩ = some (.int .i64 m') := (hb4.cell (p := ⟨w3.heap.size, 1, none⟩) (by simp)).trans (by simp [go_sem])
    have f3_2 : w4.cell? ⟨w3.heap.size, 2, none⟩ = some (.int .i64 r') := (hb4.cell (p := ⟨w3.heap.size, 2, none⟩) (by simp)).trans (by simp [go_sem])
    have f3_3 : w4.cell? ⟨w3.heap.size, 3, none⟩ = some (.int .i64 s') := (hb4.cell (p := ⟨w3.heap.size, 3, none⟩) (by simp)).trans (by simp [go_sem])
    have l3 : w3.heap.size < w4.heap.size := by have := hb4.size; simp at this; omega
    replace f1_0 : w4.cell? ⟨w.heap.size, 0, none⟩ = some (.int .i64 a) := (hx.cell (p := ⟨w.heap.size, 0, none⟩) l1).trans f1_0
    replace f1_1 : w4.cell? ⟨w.heap.size, 1, none⟩ = some (.int .i64 b) := (hx.cell (p := ⟨w.heap.size, 1, none⟩) l1).trans f1_1
    replace f1_2 : w4.cell? ⟨w.heap.size, 2, none⟩ = some (.int .i64 c) := (hx.cell (p := ⟨w.heap.size, 2, none⟩) l1).trans f1_2
    replace f1_3 : w4.cell? ⟨w.heap.size, 3, none⟩ = some (.int .i64 d) := (hx.cell (p := ⟨w.heap.size, 3, none⟩) l1).trans f1_3
    replace f2_0 : w4.cell? ⟨w.heap.size + 1, 0, none⟩ = some (.int .i64 l) := (hx.cell (p := ⟨w.heap.size + 1, 0, none⟩) l2).trans f2_0
    replace f2_1 : w4.cell? ⟨w.heap.size + 1, 1, none⟩ = some (.int .i64 m) := (hx.cell (p := ⟨w.heap.size + 1, 1, none⟩) l2).trans f2_1
    replace f2_2 : w4.cell? ⟨w.heap.size + 1, 2, none⟩ = some (.int .i64 r) := (hx.cell (p := ⟨w.heap.size + 1, 2, none⟩) l2).trans f2_2
    replace f2_3 : w4.cell? ⟨w.heap.size + 1, 3, none⟩ = some (.int .i64 s) := (hx.cell (p := ⟨w.heap.size + 1, 3, none⟩) l2).trans f2_3
    replace l1 : w.heap.size < w4.heap.size := Nat.lt_of_lt_of_le l1 hx.size
    replace l2 : w.heap.size + 1 < w4.heap.size := Nat.lt_of_lt_of_le l2 hx.size
    replace hbel : Below w.heap.size w w4 := hbel.trans (hx.mono hbel.size)
    clear hx
    clear hb4
    go_wp2_with fail
    refine (CheckProofR_any a b c d l' m' r' s' (m' + s') 0 (chk_of_fnd HS.out HF.out) _).mono ?_
    rintro e w5 ⟨rfl, hb5⟩
    replace f1_0 : w5.cell? ⟨w.heap.size, 0, none⟩ = some (.int .i64 a) := (hb5.cell (p := ⟨w.heap.size, 0, none⟩) l1).trans f1_0
    replace f1_1 : w5.cell? ⟨w.heap.size, 1, none⟩ = some (.int .i64 b) := (hb5.cell (p := ⟨w.heap.size, 1, none⟩) l1).trans f1_1
    replace f1_2 : w5.cell? ⟨w.heap.size, 2, none⟩ = some (.int .i64 c) := (hb5.cell (p := ⟨w.heap.size, 2, none⟩) l1).trans f1_2
    replace f1_3 : w5.cell? ⟨w.heap.size, 3, none⟩ = some (.int .i64 d) := (hb5.cell (p := ⟨w.heap.size, 3, none⟩) l1).trans f1_3
    replace f2_0 : w5.cell? ⟨w.heap.size + 1, 0, none⟩ = some (.int .i64 l) := (hb5.cell (p := ⟨w.heap.size + 1, 0, none⟩) l2).trans f2_0
    replace f2_1 : w5.cell? ⟨w.heap.size + 1, 1, none⟩ = some (.int .i64 m) := (hb5.cell (p := ⟨w.heap.size + 1, 1, none⟩) l2).trans f2_1
    replace f2_2 : w5.cell? ⟨w.heap.size + 1, 2, none⟩ = some (.int .i64 r) := (hb5.cell (p := ⟨w.heap.size + 1, 2, none⟩) l2).trans f2_2
    replace f2_3 : w5.cell? ⟨w.heap.size + 1, 3, none⟩ = some (.int .i64 s) := (hb5.cell (p := ⟨w.heap.size + 1, 3, none⟩) l2).trans f2_3
    replace f3_0 : w5.cell? ⟨w3.heap.size, 0, none⟩ = some (.int .i64 l') := (hb5.cell (p := ⟨w3.heap.size, 0, none⟩) l3).trans f3_0
    replace f3_1 : w5.cell? ⟨w3.heap.size, 1, none⟩ = some (.int .i64 m') := (hb5.cell (p := ⟨w3.heap.size, 1, none⟩) l3).trans f3_1
    replace f3_2 : w5.cell? ⟨w3.heap.size, 2, none⟩ = some (.int .i64 r') := (hb5.cell (p := ⟨w3.heap.size, 2, none⟩) l3).trans f3_2
    replace f3_3 : w5.cell? ⟨w3.heap.size, 3, none⟩ = some (.int .i64 s') := (hb5.cell (p := ⟨w3.heap.size, 3, none⟩) l3).trans f3_3
    replace l1 : w.heap.size < w5.heap.size := Nat.lt_of_lt_of_le l1 hb5.size
    replace l2 : w.heap.size + 1 < w5.heap.size := Nat.lt_of_lt_of_le l2 hb5.size
    replace l3 : w3.heap.size < w5.heap.size := Nat.lt_of_lt_of_le l3 hb5.size
    replace hbel : Below w.heap.size w w5 := hbel.trans (hb5.mono hbel.size)
    clear hb5
    go_wp2_with fail
    refine (Simplest_ok a b c d HS.out _).mono ?_
    rintro e w6 ⟨⟨x, y, rfl, hL⟩, hb6⟩
    obtain ⟨e1, e2⟩ := hL.uniq (HF.out.least HS.out)
    subst e2
    clear hL e1
    replace f1_0 : w6.cell? ⟨w.heap.size, 0, none⟩ = some (.int .i64 a) := (hb6.cell (p := ⟨w.heap.size, 0, none⟩) l1).trans f1_0
    replace f1_1 : w6.cell? ⟨w.heap.size, 1, none⟩ = some (.int .i64 b) := (hb6.cell (p := ⟨w.heap.size, 1, none⟩) l1).trans f1_1
    replace f1_2 : w6.cell? ⟨w.heap.size, 2, none⟩ = some (.int .i64 c) := (hb6.cell (p := ⟨w.heap.size, 2, none⟩) l1).trans f1_2
    replace f1_3 : w6.cell? ⟨w.heap.size, 3, none⟩ = some (.int .i64 d) := (hb6.cell (p := ⟨w.heap.size, 3, none⟩) l1).trans f1_3
    replace f2_0 : w6.cell? ⟨w.heap.size + 1, 0, none⟩ = some (.int .i64 l) := (hb6.cell (p := ⟨w.heap.size + 1, 0, none⟩) l2).trans f2_0
    replace f2_1 : w6.cell? ⟨w.heap.size + 1, 1, none⟩ = some (.int .i64 m) := (hb6.cell (p := ⟨w.heap.size + 1, 1, none⟩) l2).trans f2_1
    replace f2_2 : w6.cell? ⟨w.heap.size + 1, 2, none⟩ = some (.int .i64 r) := (hb6.cell (p := ⟨w.heap.size + 1, 2, none⟩) l2).trans f2_2
    replace f2_3 : w6.cell? ⟨w.heap.size + 1, 3, none⟩ = some (.int .i64 s) := (hb6.cell (p := ⟨w.heap.size + 1, 3, none⟩) l2).trans f2_3
    replace f3_0 : w6.cell? ⟨w3.heap.size, 0, none⟩ = some (.int .i64 l') := (hb6.cell (p := ⟨w3.heap.size, 0, none⟩) l3).trans f3_0
    replace f3_1 : w6.cell? ⟨w3.heap.size, 1, none⟩ = some (.int .i64 m') := (hb6.cell (p := ⟨w3.heap.size, 1, none⟩) l3).trans f3_1
    replace f3_2 : w6.cell? ⟨w3.heap.size, 2, none⟩ = some (.int .i64 r') := (hb6.cell (p := ⟨w3.heap.size, 2, none⟩) l3).trans f3_2
    replace f3_3 : w6.cell? ⟨w3.heap.size, 3, none⟩ = some (.int .i64 s') := (hb6.cell (p := ⟨w3.heap.size, 3, none⟩) l3).trans f3_3
    replace l1 : w.heap.size < w6.heap.size := Nat.lt_of_lt_of_le l1 hb6.size
    replace l2 : w.heap.size + 1 < w6.heap.size := Nat.lt_of_lt_of_le l2 hb6.size
    replace l3 : w3.heap.size < w6.heap.size := Nat.lt_of_lt_of_le l3 hb6.size
    replace hbel : Below w.heap.size w w6 := hbel.trans (hb6.mono hbel.size)
    clear hb6
    go_wp2_with fail
    refine (Works_any _).mono ?_
    rintro e w7 ⟨rfl, hb7⟩
    have hx : Below w6.heap.size w6 w7 := (((Below.refl _ _).alloc (Nat.le_refl _) _) : Below w6.heap.size w6 (w6.alloc (.cells #[.int .i64 x, .int .i64 (m' + s')] 23))).trans (hb7.mono (by simp))
    have f4_0 : w7.cell? ⟨w6.heap.size, 0, none⟩ = some (.int .i64 x) := (hb7.cell (p := ⟨w6.heap.size, 0, none⟩) (by simp)).trans (by simp [go_sem])
    have f4_1 : w7.cell? ⟨w6.heap.size, 1, none⟩ = some (.int .i64 (m' + s')) := (hb7.cell (p := ⟨w6.heap.size, 1, none⟩) (by simp)).trans (by simp [go_sem])
    have l4 : w6.heap.size < w7.heap.size := by have := hb7.size; simp at this; omega
    replace f1_0 : w7.cell? ⟨w.heap.size, 0, none⟩ = some (.int .i64 a) := (hx.cell (p := ⟨w.heap.size, 0, none⟩) l1).trans f1_0
    replace f1_1 : w7.cell? ⟨w.heap.size, 1, none⟩ = some (.int .i64 b) := (hx.cell (p := ⟨w.heap.size, 1, none⟩) l1).trans f1_1
    replace f1_2 : w7.cell? ⟨w.heap.size, 2, none⟩ = some (.int .i64 c) := (hx.cell (p := ⟨w.heap.size, 2, none⟩) l1).trans f1_2
    replace f1_3 : w7.cell? ⟨w.heap.size, 3, none⟩ = some (.int .i64 d) := (hx.cell (p := ⟨w.heap.size, 3, none⟩) l1).trans f1_3
    replace f2_0 : w7.cell? ⟨w.heap.size + 1, 0, none⟩ = some (.int .i64 l) := (hx.cell (p := ⟨w.heap.size + 1, 0, none⟩) l2).trans f2_0
    replace f2_1 : w7.cell? ⟨w.heap.size + 1, 1, none⟩ = some (.int .i64 m) := (hx.cell (p := ⟨w.heap.size + 1, 1, none⟩) l2).trans f2_1
    replace f2_2 : w7.cell? ⟨w.heap.size + 1, 2, none⟩ = some (.int .i64 r) := (hx.cell (p := ⟨w.heap.size + 1, 2, none⟩) l2).trans f2_2
    replace f2_3 : w7.cell? ⟨w.heap.size + 1, 3, none⟩ = some (.int .i64 s) := (hx.cell (p := ⟨w.heap.size + 1, 3, none⟩) l2).trans f2_3
    replace f3_0 : w7.cell? ⟨w3.heap.size, 0, none⟩ = some (.int .i64 l') := (hx.cell (p := ⟨w3.heap.size, 0, none⟩) l3).trans f3_0
    replace f3_1 : w7.cell? ⟨w3.heap.size, 1, none⟩ = some (.int .i64 m') := (hx.cell (p := ⟨w3.heap.size, 1, none⟩) l3).trans f3_1
    replace f3_2 : w7.cell? ⟨w3.heap.size, 2, none⟩ = some (.int .i64 r') := (hx.cell (p := ⟨w3.heap.size, 2, none⟩) l3).trans f3_2
    replace f3_3 : w7.cell? ⟨w3.heap.size, 3, none⟩ = some (.int .i64 s') := (hx.cell (p := ⟨w3.heap.size, 3, none⟩) l3).trans f3_3
    replace l1 : w.heap.size < w7.heap.size := Nat.lt_of_lt_of_le l1 hx.size
    replace l2 : w.heap.size + 1 < w7.heap.size := Nat.lt_of_lt_of_le l2 hx.size
    replace l3 : w3.heap.size < w7.heap.size := Nat.lt_of_lt_of_le l3 hx.size
    replace hbel : Below w.heap.size w w7 := hbel.trans (hx.mono hbel.size)
    clear hx
    clear hb7
    go_wp2_with fail
    go_ret
    exact ⟨rfl, hbel⟩
  · have HC := Lib.hid (show (if Sp a b c d then (0:Int) else 2) = 2 from if_neg hS)
    have HS := Lib.hid hS
    clear hS
    go_enter Try.func4, Try.ntmps4
    go_wp2_with fail
    refine (CheckProof_any a b c d l m r s v k HV.out _).mono ?_
    rintro e w1 ⟨rfl, hb1⟩
    have hx : Below w.heap.size w w1 := ((((Below.refl _ _).alloc (Nat.le_refl _) _).alloc (by simp) _) : Below w.heap.size w ((w.alloc (.cells #[.int .i64 a, .int .i64 b, .int .i64 c, .int .i64 d] 25)).alloc (.cells #[.int .i64 l, .int .i64 m, .int .i64 r, .int .i64 s] 37))).trans (hb1.mono (by simp; omega))
    have f1_0 : w1.cell? ⟨w.heap.size, 0, none⟩ = some (.int .i64 a) := (hb1.cell (p := ⟨w.heap.size, 0, none⟩) (by (try simp) <;> omega)).trans (by simp [go_sem])
    have f1_1 : w1.cell? ⟨w.heap.size, 1, none⟩ = some (.int .i64 b) := (hb1.cell (p := ⟨w.heap.size, 1, none⟩) (by (try simp) <;> omega)).trans (by simp [go_sem])
    have f1_2 : w1.cell? ⟨w.heap.size, 2, none⟩ = some (.int .i64 c) := (hb1.cell (p := ⟨w.heap.size, 2, none⟩) (by (try simp) <;> omega)).trans (by simp [go_sem])
    have f1_3 : w1.cell? ⟨w.heap.size, 3, none⟩ = some (.int .i64 d) := (hb1.cell (p := ⟨w.heap.size, 3, none⟩) (by (try simp) <;> omega)).trans (by simp [go_sem])
    have l1 : w.heap.size < w1.heap.size := by have := hb1.size; simp at this; omega
    have f2_0 : w1.cell? ⟨w.heap.size + 1, 0, none⟩ = some (.int .i64 l) := (hb1.cell (p := ⟨w.heap.size + 1, 0, none⟩) (by simp)).trans (by simp [go_sem])
    have f2_1 : w1.cell? ⟨w.heap.size + 1, 1, none⟩ = some (.int .i64 m) := (hb1.cell (p := ⟨w.heap.size + 1, 1, none⟩) (by simp)).trans (by simp [go_sem])
    have f2_2 : w1.cell? ⟨w.heap.size + 1, 2, none⟩ = some (.int .i64 r) := (hb1.cell (p := ⟨w.heap.size + 1, 2, none⟩) (by simp)).trans (by simp [go_sem])
    have f2_3 : w1.cell? ⟨w.heap.size + 1, 3, none⟩ = some (.int .i64 s) := (hb1.cell (p := ⟨w.heap.size + 1, 3, none⟩) (by simp)).trans (by simp [go_sem])
    have l2 : w.heap.size + 1 < w1.heap.size := by have := hb1.size; simp at this; omega
    have hbel : Below w.heap.size w w1 := hx
    clear hx
    clear hb1
    go_wp2_with fail
    refine (CheckProofR_any a b c d l m r s v k HV.out _).mono ?_
    rintro e w2 ⟨rfl, hb2⟩
    replace f1_0 : w2.cell? ⟨w.heap.size, 0, none⟩ = some (.int .i64 a) := (hb2.cell (p := ⟨w.heap.size, 0, none⟩) l1).trans f1_0
    replace f1_1 : w2.cell? ⟨w.heap.size, 1, none⟩ = some (.int .i64 b) := (hb2.cell (p := ⟨w.heap.size, 1, none⟩) l1).trans f1_1
    replace f1_2 : w2.cell? ⟨w.heap.size, 2, none⟩ = some (.int .i64 c) := (hb2.cell (p := ⟨w.heap.size, 2, none⟩) l1).trans f1_2
    replace f1_3 : w2.cell? ⟨w.heap.size, 3, none⟩ = some (.int .i64 d) := (hb2.cell (p := ⟨w.heap.size, 3, none⟩) l1).trans f1_3
    replace f2_0 : w2.cell? ⟨w.heap.size + 1, 0, none⟩ = some (.int .i64 l) := (hb2.cell (p := ⟨w.heap.size + 1, 0, none⟩) l2).trans f2_0
    replace f2_1 : w2.cell? ⟨w.heap.size + 1, 1, none⟩ = some (.int .i64 m) := (hb2.cell (p := ⟨w.heap.size + 1, 1, none⟩) l2).trans f2_1
    replace f2_2 : w2.cell? ⟨w.heap.size + 1, 2, none⟩ = some (.int .i64 r) := (hb2.cell (p := ⟨w.heap.size + 1, 2, none⟩) l2).trans f2_2
    replace f2_3 : w2.cell? ⟨w.heap.size + 1, 3, none⟩ = some (.int .i64 s) := (hb2.cell (p := ⟨w.heap.size + 1, 3, none⟩) l2).trans f2_3
    replace l1 : w.heap.size < w2.heap.size := Nat.lt_of_lt_of_le l1 hb2.size
    replace l2 : w.heap.size + 1 < w2.heap.size := Nat.lt_of_lt_of_le l2 hb2.size
    replace hbel : Below w.heap.size w w2 := hbel.trans (hb2.mono hbel.size)
    clear hb2
    go_wp2_with fail
    refine (Proof_bad a b c d HS.out _).mono ?_
    rintro e w3 ⟨rfl, hb3⟩
    replace f1_0 : w3.cell? ⟨w.heap.size, 0, none⟩ = some (.int .i64 a) := (hb3.cell (p := ⟨w.heap.size, 0, none⟩) l1).trans f1_0
    replace f1_1 : w3.cell? ⟨w.heap.size, 1, none⟩ = some (.int .i64 b) := (hb3.cell (p := ⟨w.heap.size, 1, none⟩) l1).trans f1_1
    replace f1_2 : w3.cell? ⟨w.heap.size, 2, none⟩ = some (.int .i64 c) := (hb3.cell (p := ⟨w.heap.size, 2, none⟩) l1).trans f1_2
    replace f1_3 : w3.cell? ⟨w.heap.size, 3, none⟩ = some (.int .i64 d) := (hb3.cell (p := ⟨w.heap.size, 3, none⟩) l1).trans f1_3
    replace f2_0 : w3.cell? ⟨w.heap.size + 1, 0, none⟩ = some (.int .i64 l) := (hb3.cell (p := ⟨w.heap.size + 1, 0, none⟩) l2).trans f2_0
    replace f2_1 : w3.cell? ⟨w.heap.size + 1, 1, none⟩ = some (.int .i64 m) := (hb3.cell (p := ⟨w.heap.size + 1, 1, none⟩) l2).trans f2_1
    replace f2_2 : w3.cell? ⟨w.heap.size + 1, 2, none⟩ = some (.int .i64 r) := (hb3.cell (p := ⟨w.heap.size + 1, 2, none⟩) l2).trans f2_2
    replace f2_3 : w3.cell? ⟨w.heap.size + 1, 3, none⟩ = some (.int .i64 s) := (hb3.cell (p := ⟨w.heap.size + 1, 3, none⟩) l2).trans f2_3
    replace l1 : w.heap.size < w3.heap.size := Nat.lt_of_lt_of_le l1 hb3.size
    replace l2 : w.heap.size + 1 < w3.heap.size := Nat.lt_of_lt_of_le l2 hb3.size
    replace hbel : Below w.heap.size w w3 := hbel.trans (hb3.mono hbel.size)
    clear hb3
    go_wp2_with fail
    refine (CheckSpanR_any a b c d 2 HC.out _).mono ?_
    rintro e w4 ⟨rfl, hb4⟩
    have hx : Below w3.heap.size w3 w4 := (((Below.refl _ _).alloc (Nat.le_refl _) _) : Below w3.heap.size w3 (w3.alloc (.cells #[.int .i64 0, .int .i64 0, .int .i64 0, .int .i64 0] 37))).trans (hb4.mono (by simp))
    have f3_0 : w4.cell? ⟨w3.heap.size, 0, none⟩ = some (.int .i64 0) := (hb4.cell (p := ⟨w3.heap.size, 0, none⟩) (by simp)).trans (by simp [go_sem])
    have f3_1 : w4.cell? ⟨w3.heap.size, 1, none⟩ = some (.int .i64 0) := (hb4.cell (p := ⟨w3.heap.size, 1, none⟩) (by simp)).trans (by simp [go_sem])
    have f3_2 : w4.cell? ⟨w3.heap.size, 2, none⟩ = some (.int .i64 0) := (hb4.cell (p := ⟨w3.heap.size, 2, none⟩) (by simp)).trans (by simp [go_sem])
    have f3_3 : w4.cell? ⟨w3.heap.size, 3, none⟩ = some (.int .i64 0) := (hb4.cell (p := ⟨w3.heap.size, 3, none⟩) (by simp)).trans (by simp [go_sem])
    have l3 : w3.heap.size < w4.heap.size := by have := hb4.size; simp at this; omega
    replace f1_0 : w4.cell? ⟨w.heap.size, 0, none⟩ = some (.int .i64 a) := (hx.cell (p := ⟨w.heap.size, 0, none⟩) l1).trans f1_0
    replace f1_1 : w4.cell? ⟨w.heap.size, 1, none⟩ = some (.int .i64 b) := (hx.cell (p := ⟨w.heap.size, 1, none⟩) l1).trans f1_1
    replace f1_2 : w4.cell? ⟨w.heap.size, 2, none⟩ = some (.int .i64 c) := (hx.cell (p := ⟨w.heap.size, 2, none⟩) l1).trans f1_2
    replace f1_3 : w4.cell? ⟨w.heap.size, 3, none⟩ = some (.int .i64 d) := (hx.cell (p := ⟨w.heap.size, 3, none⟩) l1).trans f1_3
    replace f2_0 : w4.cell? ⟨w.heap.size + 1, 0, none⟩ = some (.int .i64 l) := (hx.cell (p := ⟨w.heap.size + 1, 0, none⟩) l2).trans f2_0
    replace f2_1 : w4.cell? ⟨w.heap.size + 1, 1, none⟩ = some (.int .i64 m) := (hx.cell (p := ⟨w.heap.size + 1, 1, none⟩) l2).trans f2_1
    replace f2_2 : w4.cell? ⟨w.heap.size + 1, 2, none⟩ = some (.int .i64 r) := (hx.cell (p := ⟨w.heap.size + 1, 2, none⟩) l2).trans f2_2
    replace f2_3 : w4.cell? ⟨w.heap.size + 1, 3, none⟩ = some (.int .i64 s) := (hx.cell (p := ⟨w.heap.size + 1, 3, none⟩) l2).trans f2_3
    replace l1 : w.heap.size < w4.heap.size := Nat.lt_of_lt_of_le l1 hx.size
    replace l2 : w.heap.size + 1 < w4.heap.size := Nat.lt_of_lt_of_le l2 hx.size
    replace hbel : Below w.heap.size w w4 := hbel.trans (hx.mono hbel.size)
    clear hx
    clear hb4
    go_wp2_with fail
    refine (CheckSpanR_any a b c d 2 HC.out _).mono ?_
    rintro e w5 ⟨rfl, hb5⟩
    replace f1_0 : w5.cell? ⟨w.heap.size, 0, none⟩ = some (.int .i64 a) := (hb5.cell (p := ⟨w.heap.size, 0, none⟩) l1).trans f1_0
    replace f1_1 : w5.cell? ⟨w.heap.size, 1, none⟩ = some (.int .i64 b) := (hb5.cell (p := ⟨w.heap.size, 1, none⟩) l1).trans f1_1
    replace f1_2 : w5.cell? ⟨w.heap.size, 2, none⟩ = some (.int .i64 c) := (hb5.cell (p := ⟨w.heap.size, 2, none⟩) l1).trans f1_2
    replace f1_3 : w5.cell? ⟨w.heap.size, 3, none⟩ = some (.int .i64 d) := (hb5.cell (p := ⟨w.heap.size, 3, none⟩) l1).trans f1_3
    replace f2_0 : w5.cell? ⟨w.heap.size + 1, 0, none⟩ = some (.int .i64 l) := (hb5.cell (p := ⟨w.heap.size + 1, 0, none⟩) l2).trans f2_0
    replace f2_1 : w5.cell? ⟨w.heap.size + 1, 1, none⟩ = some (.int .i64 m) := (hb5.cell (p := ⟨w.heap.size + 1, 1, none⟩) l2).trans f2_1
    replace f2_2 : w5.cell? ⟨w.heap.size + 1, 2, none⟩ = some (.int .i64 r) := (hb5.cell (p := ⟨w.heap.size + 1, 2, none⟩) l2).trans f2_2
    replace f2_3 : w5.cell? ⟨w.heap.size + 1, 3, none⟩ = some (.int .i64 s) := (hb5.cell (p := ⟨w.heap.size + 1, 3, none⟩) l2).trans f2_3
    replace f3_0 : w5.cell? ⟨w3.heap.size, 0, none⟩ = some (.int .i64 0) := (hb5.cell (p := ⟨w3.heap.size, 0, none⟩) l3).trans f3_0
    replace f3_1 : w5.cell? ⟨w3.heap.size, 1, none⟩ = some (.int .i64 0) := (hb5.cell (p := ⟨w3.heap.size, 1, none⟩) l3).trans f3_1
    replace f3_2 : w5.cell? ⟨w3.heap.size, 2, none⟩ = some (.int .i64 0) := (hb5.cell (p := ⟨w3.heap.size, 2, none⟩) l3).trans f3_2
    replace f3_3 : w5.cell? ⟨w3.heap.size, 3, none⟩ = some (.int .i64 0) := (hb5.cell (p := ⟨w3.heap.size, 3, none⟩) l3).trans f3_3
    replace l1 : w.heap.size < w5.heap.size := Nat.lt_of_lt_of_le l1 hb5.size
    replace l2 : w.heap.size + 1 < w5.heap.size := Nat.lt_of_lt_of_le l2 hb5.size
    replace l3 : w3.heap.size < w5.heap.size := Nat.lt_of_lt_of_le l3 hb5.size
    replace hbel : Below w.heap.size w w5 := hbel.trans (hb5.mono hbel.size)
    clear hb5
    go_wp2_with fail
    refine (Works_any _).mono ?_
    rintro e w6 ⟨rfl, hb6⟩
    replace f1_0 : w6.cell? ⟨w.heap.size, 0, none⟩ = some (.int .i64 a) := (hb6.cell (p := ⟨w.heap.size, 0, none⟩) l1).trans f1_0
    replace f1_1 : w6.cell? ⟨w.heap.size, 1, none⟩ = some (.int .i64 b) := (hb6.cell (p := ⟨w.heap.size, 1, none⟩) l1).trans f1_1
    replace f1_2 : w6.cell? ⟨w.heap.size, 2, none⟩ = some (.int .i64 c) := (hb6.cell (p := ⟨w.heap.size, 2, none⟩) l1).trans f1_2
    replace f1_3 : w6.cell? ⟨w.heap.size, 3, none⟩ = some (.int .i64 d) := (hb6.cell (p := ⟨w.heap.size, 3, none⟩) l1).trans f1_3
    replace f2_0 : w6.cell? ⟨w.heap.size + 1, 0, none⟩ = some (.int .i64 l) := (hb6.cell (p := ⟨w.heap.size + 1, 0, none⟩) l2).trans f2_0
    replace f2_1 : w6.cell? ⟨w.heap.size + 1, 1, none⟩ = some (.int .i64 m) := (hb6.cell (p := ⟨w.heap.size + 1, 1, none⟩) l2).trans f2_1
    replace f2_2 : w6.cell? ⟨w.heap.size + 1, 2, none⟩ = some (.int .i64 r) := (hb6.cell (p := ⟨w.heap.size + 1, 2, none⟩) l2).trans f2_2
    replace f2_3 : w6.cell? ⟨w.heap.size + 1, 3, none⟩ = some (.int .i64 s) := (hb6.cell (p := ⟨w.heap.size + 1, 3, none⟩) l2).trans f2_3
    replace f3_0 : w6.cell? ⟨w3.heap.size, 0, none⟩ = some (.int .i64 0) := (hb6.cell (p := ⟨w3.heap.size, 0, none⟩) l3).trans f3_0
    replace f3_1 : w6.cell? ⟨w3.heap.size, 1, none⟩ = some (.int .i64 0) := (hb6.cell (p := ⟨w3.heap.size, 1, none⟩) l3).trans f3_1
    replace f3_2 : w6.cell? ⟨w3.heap.size, 2, none⟩ = some (.int .i64 0) := (hb6.cell (p := ⟨w3.heap.size, 2, none⟩) l3).trans f3_2
    replace f3_3 : w6.cell? ⟨w3.heap.size, 3, none⟩ = some (.int .i64 0) := (hb6.cell (p := ⟨w3.heap.size, 3, none⟩) l3).trans f3_3
    replace l1 : w.heap.size < w6.heap.size := Nat.lt_of_lt_of_le l1 hb6.size
    replace l2 : w.heap.size + 1 < w6.heap.size := Nat.lt_of_lt_of_le l2 hb6.size
    replace l3 : w3.heap.size < w6.heap.size := Nat.lt_of_lt_of_le l3 hb6.size
    replace hbel : Below w.heap.size w w6 := hbel.trans (hb6.mono hbel.size)
    clear hb6
    go_wp2_with fail
    go_ret
    exact ⟨rfl, hbel⟩
end Go.Proofs.Ytbdjllgngblfoaa
