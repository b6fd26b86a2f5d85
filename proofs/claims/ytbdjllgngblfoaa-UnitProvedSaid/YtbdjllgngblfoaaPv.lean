import Derived.Test.YtbdjllgngblfoaaPa
namespace Go.Proofs.Ytbdjllgngblfoaa
set_option linter.unusedVariables false
set_option linter.unusedSimpArgs false
open Go.RowKit

/-- No right proof has a bound above the Den of the simplest fraction. -/
theorem proof_le {a b c d x y l m r s : Int} (hS : Sp a b c d) (hL : Least a b c d x y) (hP : Pn l m r s) (hR : Rt a b c d l m r s) : m + s ≤ y := by
  obtain ⟨⟨b1, _, b3, _, _⟩, ⟨_, _, d3, _, _⟩, _⟩ := hS
  obtain ⟨⟨p1, _⟩, ⟨p2, _⟩, ⟨p3, _⟩, ⟨p4, _⟩⟩ := hP
  obtain ⟨h1, h2, h3⟩ := hR
  obtain ⟨⟨x1, _, y1, _, _⟩, lo, hi, _⟩ := hL
  have q1 : l * y < x * m := by
    rcases Int.lt_or_le (l * y) (x * m) with h | h
    · exact h
    · exfalso
      have e1 := Int.mul_lt_mul_of_pos_right h1 (show 0 < y by omega)
      have e2 := Int.mul_le_mul_of_nonneg_right lo (show 0 ≤ m by omega)
      have e3 := Int.mul_le_mul_of_nonneg_left h (show 0 ≤ b by omega)
      have e4 : l * b * y = b * (l * y) := by grind
      have e5 : a * m * y = a * y * m := by grind
      have e6 : x * b * m = b * (x * m) := by grind
      omega
  have q2 : x * s < r * y := by
    rcases Int.lt_or_le (x * s) (r * y) with h | h
    · exact h
    · exfalso
      have e1 := Int.mul_lt_mul_of_pos_right h2 (show 0 < y by omega)
      have e2 := Int.mul_le_mul_of_nonneg_right hi (show 0 ≤ s by omega)
      have e3 := Int.mul_le_mul_of_nonneg_left h (show 0 ≤ d by omega)
      have e4 : c * s * y = c * y * s := by grind
      have e5 : r * d * y = d * (r * y) := by grind
      have e6 : x * d * s = d * (x * s) := by grind
      omega
  have e : y = m * (r * y - x * s) + s * (x * m - l * y) := by
    have : m * (r * y - x * s) + s * (x * m - l * y) = y * (m * r - l * s) := by grind
    rw [this, h3]
    omega
  have f1 := Int.mul_le_mul_of_nonneg_left (show 1 ≤ r * y - x * s by omega) (show 0 ≤ m by omega)
  have f2 := Int.mul_le_mul_of_nonneg_left (show 1 ≤ x * m - l * y by omega) (show 0 ≤ s by omega)
  omega

theorem chk_le {a b c d x y l m r s v : Int} (hS : Sp a b c d) (hL : Least a b c d x y) (h : chkProof a b c d l m r s = (v, 0)) : v ≤ y := by
  unfold chkProof at h
  rw [if_pos hS] at h
  split at h
  · rename_i hP
    split at h
    · rename_i hR
      have := proof_le hS hL hP hR
      have e := congrArg Prod.fst h
      simp only at e
      omega
    · cases h
  · cases h

set_option maxRecDepth 100000 in
set_option maxHeartbeats 8000000 in
theorem Proved_any (a b c d g h l m r s : Int) (w : World) : Calls Try.prog 7 #[.agg #[.int .i64 a, .int .i64 b, .int .i64 c, .int .i64 d], .agg #[.int .i64 g, .int .i64 h], .agg #[.int .i64 l, .int .i64 m, .int .i64 r, .int .i64 s]] w fun e w' => e = .returned (.bool true) ∧ Below w.heap.size w w' := by
  obtain ⟨⟨v, k⟩, hv⟩ : ∃ q, chkProof a b c d l m r s = q := ⟨_, rfl⟩
  have HV := Lib.hid hv
  clear hv
  by_cases hS : Sp a b c d
  · have HD := Lib.hid (decide_eq_true hS)
    have HS := Lib.hid hS
    have HB : Hid (0 ≤ a ∧ a ≤ 1000000000 ∧ 0 ≤ b ∧ b ≤ 1000000000 ∧ 0 ≤ c ∧ c ≤ 1000000000 ∧ 0 ≤ d ∧ d ≤ 1000000000) := Lib.hid (by obtain ⟨⟨_, _, _, _, _⟩, ⟨_, _, _, _, _⟩, _⟩ := hS; omega)
    clear hS
    go_enter Try.func7, Try.ntmps7
    go_wp2_with fail
    refine (fine_any a b c d true HD.out _).mono ?_
    rintro e w1 ⟨rfl, hb1⟩
    have hx : Below w.heap.size w w1 := (((((Below.refl _ _).alloc (Nat.le_refl _) _).alloc (by simp) _).alloc (by simp; omega) _) : Below w.heap.size w (((w.alloc (.cells #[.int .i64 a, .int .i64 b, .int .i64 c, .int .i64 d] 25)).alloc (.cells #[.int .i64 g, .int .i64 h] 23)).alloc (.cells #[.int .i64 l, .int .i64 m, .int .i64 r, .int .i64 s] 37))).trans (hb1.mono (by simp; omega))
    have f1_0 : w1.cell? ⟨w.heap.size, 0, none⟩ = some (.int .i64 a) := (hb1.cell (p := ⟨w.heap.size, 0, none⟩) (by (try simp) <;> omega)).trans (by simp [go_sem])
    have f1_1 : w1.cell? ⟨w.heap.size, 1, none⟩ = some (.int .i64 b) := (hb1.cell (p := ⟨w.heap.size, 1, none⟩) (by (try simp) <;> omega)).trans (by simp [go_sem])
    have f1_2 : w1.cell? ⟨w.heap.size, 2, none⟩ = some (.int .i64 c) := (hb1.cell (p := ⟨w.heap.size, 2, none⟩) (by (try simp) <;> omega)).trans (by simp [go_sem])
    have f1_3 : w1.cell? ⟨w.heap.size, 3, none⟩ = some (.int .i64 d) := (hb1.cell (p := ⟨w.heap.size, 3, none⟩) (by (try simp) <;> omega)).trans (by simp [go_sem])
    have l1 : w.heap.size < w1.heap.size := by have := hb1.size; simp at this; omega
    have f2_0 : w1.cell? ⟨w.heap.size + 1, 0, none⟩ = some (.int .i64 g) := (hb1.cell (p := ⟨w.heap.size + 1, 0, none⟩) (by (try simp) <;> omega)).trans (by simp [go_sem])
    have f2_1 : w1.cell? ⟨w.heap.size + 1, 1, none⟩ = some (.int .i64 h) := (hb1.cell (p := ⟨w.heap.size + 1, 1, none⟩) (by (try simp) <;> omega)).trans (by simp [go_sem])
    have l2 : w.heap.size + 1 < w1.heap.size := by have := hb1.size; simp at this; omega
    have f3_0 : w1.cell? ⟨w.heap.size + 2, 0, none⟩ = some (.int .i64 l) := (hb1.cell (p := ⟨w.heap.size + 2, 0, none⟩) (by simp)).trans (by simp [go_sem])
    have f3_1 : w1.cell? ⟨w.heap.size + 2, 1, none⟩ = some (.int .i64 m) := (hb1.cell (p := ⟨w.heap.size + 2, 1, none⟩) (by simp)).trans (by simp [go_sem])
    have f3_2 : w1.cell? ⟨w.heap.size + 2, 2, none⟩ = some (.int .i64 r) := (hb1.cell (p := ⟨w.heap.size + 2, 2, none⟩) (by simp)).trans (by simp [go_sem])
    have f3_3 : w1.cell? ⟨w.heap.size + 2, 3, none⟩ = some (.int .i64 s) := (hb1.cell (p := ⟨w.heap.size + 2, 3, none⟩) (by simp)).trans (by simp [go_sem])
    have l3 : w.heap.size + 2 < w1.heap.size := by have := hb1.size; simp at this; omega
    have hbel : Below w.heap.size w w1 := hx
    clear hx
    clear hb1
    go_wp2_with fail
    refine (Simplest_ok a b c d HS.out _).mono ?_
    rintro e w2 ⟨⟨x, y, rfl, hL⟩, hb2⟩
    have HL := Lib.hid hL
    clear hL
    replace f1_0 : w2.cell? ⟨w.heap.size, 0, none⟩ = some (.int .i64 a) := (hb2.cell (p := ⟨w.heap.size, 0, none⟩) l1).trans f1_0
    replace f1_1 : w2.cell? ⟨w.heap.size, 1, none⟩ = some (.int .i64 b) := (hb2.cell (p := ⟨w.heap.size, 1, none⟩) l1).trans f1_1
    replace f1_2 : w2.cell? ⟨w.heap.size, 2, none⟩ = some (.int .i64 c) := (hb2.cell (p := ⟨w.heap.size, 2, none⟩) l1).trans f1_2
    replace f1_3 : w2.cell? ⟨w.heap.size, 3, none⟩ = some (.int .i64 d) := (hb2.cell (p := ⟨w.heap.size, 3, none⟩) l1).trans f1_3
    replace f2_0 : w2.cell? ⟨w.heap.size + 1, 0, none⟩ = some (.int .i64 g) := (hb2.cell (p := ⟨w.heap.size + 1, 0, none⟩) l2).trans f2_0
    replace f2_1 : w2.cell? ⟨w.heap.size + 1, 1, none⟩ = some (.int .i64 h) := (hb2.cell (p := ⟨w.heap.size + 1, 1, none⟩) l2).trans f2_1
    replace f3_0 : w2.cell? ⟨w.heap.size + 2, 0, none⟩ = some (.int .i64 l) := (hb2.cell (p := ⟨w.heap.size + 2, 0, none⟩) l3).trans f3_0
    replace f3_1 : w2.cell? ⟨w.heap.size + 2, 1, none⟩ = some (.int .i64 m) := (hb2.cell (p := ⟨w.heap.size + 2, 1, none⟩) l3).trans f3_1
    replace f3_2 : w2.cell? ⟨w.heap.size + 2, 2, none⟩ = some (.int .i64 r) := (hb2.cell (p := ⟨w.heap.size + 2, 2, none⟩) l3).trans f3_2
    replace f3_3 : w2.cell? ⟨w.heap.size + 2, 3, none⟩ = some (.int .i64 s) := (hb2.cell (p := ⟨w.heap.size + 2, 3, none⟩) l3).trans f3_3
    replace l1 : w.heap.size < w2.heap.size := Nat.lt_of_lt_of_le l1 hb2.size
    replace l2 : w.heap.size + 1 < w2.heap.size := Nat.lt_of_lt_of_le l2 hb2.size
    replace l3 : w.heap.size + 2 < w2.heap.size := Nat.lt_of_lt_of_le l3 hb2.size
    replace hbel : Below w.heap.size w w2 := hbel.trans (hb2.mono hbel.size)
    clear hb2
    go_wp2_with fail
    refine (Proof_ok a b c d HS.out _).mono ?_
    rintro e w3 ⟨⟨l', m', r', s', rfl, hF⟩, hb3⟩
    have HK : Hid (chkProof a b c d l' m' r' s' = (y, 0)) := Lib.hid (by rw [(HL.out.uniq (hF.least HS.out)).2]; exact chk_of_fnd HS.out hF)
    clear hF
    have hx : Below w2.heap.size w2 w3 := (((Below.refl _ _).alloc (Nat.le_refl _) _) : Below w2.heap.size w2 (w2.alloc (.cells #[.int .i64 x, .int .i64 y] 23))).trans (hb3.mono (by simp))
    have f4_0 : w3.cell? ⟨w2.heap.size, 0, none⟩ = some (.int .i64 x) := (hb3.cell (p := ⟨w2.heap.size, 0, none⟩) (by simp)).trans (by simp [go_sem])
    have f4_1 : w3.cell? ⟨w2.heap.size, 1, none⟩ = some (.int .i64 y) := (hb3.cell (p := ⟨w2.heap.size, 1, none⟩) (by simp)).trans (by simp [go_sem])
    have l4 : w2.heap.size < w3.heap.size := by have := hb3.size; simp at this; omega
    replace f1_0 : w3.cell? ⟨w.heap.size, 0, none⟩ = some (.int .i64 a) := (hx.cell (p := ⟨w.heap.size, 0, none⟩) l1).trans f1_0
    replace f1_1 : w3.cell? ⟨w.heap.size, 1, none⟩ = some (.int .i64 b) := (hx.cell (p := ⟨w.heap.size, 1, none⟩) l1).trans f1_1
    replace f1_2 : w3.cell? ⟨w.heap.size, 2, none⟩ = some (.int .i64 c) := (hx.cell (p := ⟨w.heap.size, 2, none⟩) l1).trans f1_2
    replace f1_3 : w3.cell? ⟨w.heap.size, 3, none⟩ = some (.int .i64 d) := (hx.cell (p := ⟨w.heap.size, 3, none⟩) l1).trans f1_3
    replace f2_0 : w3.cell? ⟨w.heap.size + 1, 0, none⟩ = some (.int .i64 g) := (hx.cell (p := ⟨w.heap.size + 1, 0, none⟩) l2).trans f2_0
    replace f2_1 : w3.cell? ⟨w.heap.size + 1, 1, none⟩ = some (.int .i64 h) := (hx.cell (p := ⟨w.heap.size + 1, 1, none⟩) l2).trans f2_1
    replace f3_0 : w3.cell? ⟨w.heap.size + 2, 0, none⟩ = some (.int .i64 l) := (hx.cell (p := ⟨w.heap.size + 2, 0, none⟩) l3).trans f3_0
    replace f3_1 : w3.cell? ⟨w.heap.size + 2, 1, none⟩ = some (.int .i64 m) := (hx.cell (p := ⟨w.heap.size + 2, 1, none⟩) l3).trans f3_1
    replace f3_2 : w3.cell? ⟨w.heap.size + 2, 2, none⟩ = some (.int .i64 r) := (hx.cell (p := ⟨w.heap.size + 2, 2, none⟩) l3).trans f3_2
    replace f3_3 : w3.cell? ⟨w.heap.size + 2, 3, none⟩ = some (.int .i64 s) := (hx.cell (p := ⟨w.heap.size + 2, 3, none⟩) l3).trans f3_3
    replace l1 : w.heap.size < w3.heap.size := Nat.lt_of_lt_of_le l1 hx.size
    replace l2 : w.heap.size + 1 < w3.heap.size := Nat.lt_of_lt_of_le l2 hx.size
    replace l3 : w.heap.size + 2 < w3.heap.size := Nat.lt_of_lt_of_le l3 hx.size
    replace hbel : Below w.heap.size w w3 := hbel.trans (hx.mono hbel.size)
    clear hx
    clear hb3
    go_wp2_with fail
    refine (CheckProof_any a b c d l' m' r' s' y 0 HK.out _).mono ?_
    rintro e w4 ⟨rfl, hb4⟩
    have hx : Below w3.heap.size w3 w4 := (((Below.refl _ _).alloc (Nat.le_refl _) _) : Below w3.heap.size w3 (w3.alloc (.cells #[.int .i64 l', .int .i64 m', .int .i64 r', .int .i64 s'] 37))).trans (hb4.mono (by simp))
    have f5_0 : w4.cell? ⟨w3.heap.size, 0, none⟩ = some (.int .i64 l') := (hb4.cell (p := ⟨w3.heap.size, 0, none⟩) (by simp)).trans (by simp [go_sem])
    have f5_1 : w4.cell? ⟨w3.heap.size, 1, none⟩ = some (.int .i64 m') := (hb4.cell (p := ⟨w3.heap.size, 1, none⟩) (by simp)).trans (by simp [go_sem])
    have f5_2 : w4.cell? ⟨w3.heap.size, 2, none⟩ = some (.int .i64 r') := (hb4.cell (p := ⟨w3.heap.size, 2, none⟩) (by simp)).trans (by simp [go_sem])
    have f5_3 : w4.cell? ⟨w3.heap.size, 3, none⟩ = some (.int .i64 s') := (hb4.cell (p := ⟨w3.heap.size, 3, none⟩) (by simp)).trans (by simp [go_sem])
    have l5 : w3.heap.size < w4.heap.size := by have := hb4.size; simp at this; omega
    replace f1_0 : w4.cell? ⟨w.heap.size, 0, none⟩ = some (.int .i64 a) := (hx.cell (p := ⟨w.heap.size, 0, none⟩) l1).trans f1_0
    replace f1_1 : w4.cell? ⟨w.heap.size, 1, none⟩ = some (.int .i64 b) := (hx.cell (p := ⟨w.heap.size, 1, none⟩) l1).trans f1_1
    replace f1_2 : w4.cell? ⟨w.heap.size, 2, none⟩ = some (.int .i64 c) := (hx.cell (p := ⟨w.heap.size, 2, none⟩) l1).trans f1_2
    replace f1_3 : w4.cell? ⟨w.heap.size, 3, none⟩ = some (.int .i64 d) := (hx.cell (p := ⟨w.heap.size, 3, none⟩) l1).trans f1_3
    replace f2_0 : w4.cell? ⟨w.heap.size + 1, 0, none⟩ = some (.int .i64 g) := (hx.cell (p := ⟨w.heap.size + 1, 0, none⟩) l2).trans f2_0
    replace f2_1 : w4.cell? ⟨w.heap.size + 1, 1, none⟩ = some (.int .i64 h) := (hx.cell (p := ⟨w.heap.size + 1, 1, none⟩) l2).trans f2_1
    replace f3_0 : w4.cell? ⟨w.heap.size + 2, 0, none⟩ = some (.int .i64 l) := (hx.cell (p := ⟨w.heap.size + 2, 0, none⟩) l3).trans f3_0
    replace f3_1 : w4.cell? ⟨w.heap.size + 2, 1, none⟩ = some (.int .i64 m) := (hx.cell (p := ⟨w.heap.size + 2, 1, none⟩) l3).trans f3_1
    replace f3_2 : w4.cell? ⟨w.heap.size + 2, 2, none⟩ = some (.int .i64 r) := (hx.cell (p := ⟨w.heap.size + 2, 2, none⟩) l3).trans f3_2
    replace f3_3 : w4.cell? ⟨w.heap.size + 2, 3, none⟩ = some (.int .i64 s) := (hx.cell (p := ⟨w.heap.size + 2, 3, none⟩) l3).trans f3_3
    replace f4_0 : w4.cell? ⟨w2.heap.size, 0, none⟩ = some (.int .i64 x) := (hx.cell (p := ⟨w2.heap.size, 0, none⟩) l4).trans f4_0
    replace f4_1 : w4.cell? ⟨w2.heap.size, 1, none⟩ = some (.int .i64 y) := (hx.cell (p := ⟨w2.heap.size, 1, none⟩) l4).trans f4_1
    replace l1 : w.heap.size < w4.heap.size := Nat.lt_of_lt_of_le l1 hx.size
    replace l2 : w.heap.size + 1 < w4.heap.size := Nat.lt_of_lt_of_le l2 hx.size
    replace l3 : w.heap.size + 2 < w4.heap.size := Nat.lt_of_lt_of_le l3 hx.size
    replace l4 : w2.heap.size < w4.heap.size := Nat.lt_of_lt_of_le l4 hx.size
    replace hbel : Below w.heap.size w w4 := hbel.trans (hx.mono hbel.size)
    clear hx
    clear hb4
    go_wp2_with fail
    refine (CheckProofR_any a b c d l' m' r' s' y 0 HK.out _).mono ?_
    rintro e w5 ⟨rfl, hb5⟩
    replace f1_0 : w5.cell? ⟨w.heap.size, 0, none⟩ = some (.int .i64 a) := (hb5.cell (p := ⟨w.heap.size, 0, none⟩) l1).trans f1_0
    replace f1_1 : w5.cell? ⟨w.heap.size, 1, none⟩ = some (.int .i64 b) := (hb5.cell (p := ⟨w.heap.size, 1, none⟩) l1).trans f1_1
    replace f1_2 : w5.cell? ⟨w.heap.size, 2, none⟩ = some (.int .i64 c) := (hb5.cell (p := ⟨w.heap.size, 2, none⟩) l1).trans f1_2
    replace f1_3 : w5.cell? ⟨w.heap.size, 3, none⟩ = some (.int .i64 d) := (hb5.cell (p := ⟨w.heap.size, 3, none⟩) l1).trans f1_3
    replace f2_0 : w5.cell? ⟨w.heap.size + 1, 0, none⟩ = some (.int .i64 g) := (hb5.cell (p := ⟨w.heap.size + 1, 0, none⟩) l2).trans f2_0
    replace f2_1 : w5.cell? ⟨w.heap.size + 1, 1, none⟩ = some (.int .i64 h) := (hb5.cell (p := ⟨w.heap.size + 1, 1, none⟩) l2).trans f2_1
    replace f3_0 : w5.cell? ⟨w.heap.size + 2, 0, none⟩ = some (.int .i64 l) := (hb5.cell (p := ⟨w.heap.size + 2, 0, none⟩) l3).trans f3_0
    replace f3_1 : w5.cell? ⟨w.heap.size + 2, 1, none⟩ = some (.int .i64 m) := (hb5.cell (p := ⟨w.heap.size + 2, 1, none⟩) l3).trans f3_1
    replace f3_2 : w5.cell? ⟨w.heap.size + 2, 2, none⟩ = some (.int .i64 r) := (hb5.cell (p := ⟨w.heap.size + 2, 2, none⟩) l3).trans f3_2
    replace f3_3 : w5.cell? ⟨w.heap.size + 2, 3, none⟩ = some (.int .i64 s) := (hb5.cell (p := ⟨w.heap.size + 2, 3, none⟩) l3).trans f3_3
    replace f4_0 : w5.cell? ⟨w2.heap.size, 0, none⟩ = some (.int .i64 x) := (hb5.cell (p := ⟨w2.heap.size, 0, none⟩) l4).trans f4_0
    replace f4_1 : w5.cell? ⟨w2.heap.size, 1, none⟩ = some (.int .i64 y) := (hb5.cell (p := ⟨w2.heap.size, 1, none⟩) l4).trans f4_1
    replace f5_0 : w5.cell? ⟨w3.heap.size, 0, none⟩ = some (.int .i64 l') := (hb5.cell (p := ⟨w3.heap.size, 0, none⟩) l5).trans f5_0
    replace f5_1 : w5.cell? ⟨w3.heap.size, 1, none⟩ = some (.int .i64 m') := (hb5.cell (p := ⟨w3.heap.size, 1, none⟩) l5).trans f5_1
    replace f5_2 : w5.cell? ⟨w3.heap.size, 2, none⟩ = some (.int .i64 r') := (hb5.cell (p := ⟨w3.heap.size, 2, none⟩) l5).trans f5_2
    replace f5_3 : w5.cell? ⟨w3.heap.size, 3, none⟩ = some (.int .i64 s') := (hb5.cell (p := ⟨w3.heap.size, 3, none⟩) l5).trans f5_3
    replace l1 : w.heap.size < w5.heap.size := Nat.lt_of_lt_of_le l1 hb5.size
    replace l2 : w.heap.size + 1 < w5.heap.size := Nat.lt_of_lt_of_le l2 hb5.size
    replace l3 : w.heap.size + 2 < w5.heap.size := Nat.lt_of_lt_of_le l3 hb5.size
    replace l4 : w2.heap.size < w5.heap.size := Nat.lt_of_lt_of_le l4 hb5.size
    replace l5 : w3.heap.size < w5.heap.size := Nat.lt_of_lt_of_le l5 hb5.size
    replace hbel : Below w.heap.size w w5 := hbel.trans (hb5.mono hbel.size)
    clear hb5
    go_wp2_with fail
    refine (IsFraction_any x y true (decide_eq_true HL.out.fr) _).mono ?_
    rintro e w6 ⟨rfl, hb6⟩
    replace f1_0 : w6.cell? ⟨w.heap.size, 0, none⟩ = some (.int .i64 a) := (hb6.cell (p := ⟨w.heap.size, 0, none⟩) l1).trans f1_0
    replace f1_1 : w6.cell? ⟨w.heap.size, 1, none⟩ = some (.int .i64 b) := (hb6.cell (p := ⟨w.heap.size, 1, none⟩) l1).trans f1_1
    replace f1_2 : w6.cell? ⟨w.heap.size, 2, none⟩ = some (.int .i64 c) := (hb6.cell (p := ⟨w.heap.size, 2, none⟩) l1).trans f1_2
    replace f1_3 : w6.cell? ⟨w.heap.size, 3, none⟩ = some (.int .i64 d) := (hb6.cell (p := ⟨w.heap.size, 3, none⟩) l1).trans f1_3
    replace f2_0 : w6.cell? ⟨w.heap.size + 1, 0, none⟩ = some (.int .i64 g) := (hb6.cell (p := ⟨w.heap.size + 1, 0, none⟩) l2).trans f2_0
    replace f2_1 : w6.cell? ⟨w.heap.size + 1, 1, none⟩ = some (.int .i64 h) := (hb6.cell (p := ⟨w.heap.size + 1, 1, none⟩) l2).trans f2_1
    replace f3_0 : w6.cell? ⟨w.heap.size + 2, 0, none⟩ = some (.int .i64 l) := (hb6.cell (p := ⟨w.heap.size + 2, 0, none⟩) l3).trans f3_0
    replace f3_1 : w6.cell? ⟨w.heap.size + 2, 1, none⟩ = some (.int .i64 m) := (hb6.cell (p := ⟨w.heap.size + 2, 1, none⟩) l3).trans f3_1
    replace f3_2 : w6.cell? ⟨w.heap.size + 2, 2, none⟩ = some (.int .i64 r) := (hb6.cell (p := ⟨w.heap.size + 2, 2, none⟩) l3).trans f3_2
    replace f3_3 : w6.cell? ⟨w.heap.size + 2, 3, none⟩ = some (.int .i64 s) := (hb6.cell (p := ⟨w.heap.size + 2, 3, none⟩) l3).trans f3_3
    replace f4_0 : w6.cell? ⟨w2.heap.size, 0, none⟩ = some (.int .i64 x) := (hb6.cell (p := ⟨w2.heap.size, 0, none⟩) l4).trans f4_0
    replace f4_1 : w6.cell? ⟨w2.heap.size, 1, none⟩ = some (.int .i64 y) := (hb6.cell (p := ⟨w2.heap.size, 1, none⟩) l4).trans f4_1
    replace f5_0 : w6.cell? ⟨w3.heap.size, 0, none⟩ = some (.int .i64 l') := (hb6.cell (p := ⟨w3.heap.size, 0, none⟩) l5).trans f5_0
    replace f5_1 : w6.cell? ⟨w3.heap.size, 1, none⟩ = some (.int .i64 m') := (hb6.cell (p := ⟨w3.heap.size, 1, none⟩) l5).trans f5_1
    replace f5_2 : w6.cell? ⟨w3.heap.size, 2, none⟩ = some (.int .i64 r') := (hb6.cell (p := ⟨w3.heap.size, 2, none⟩) l5).trans f5_2
    replace f5_3 : w6.cell? ⟨w3.heap.size, 3, none⟩ = some (.int .i64 s') := (hb6.cell (p := ⟨w3.heap.size, 3, none⟩) l5).trans f5_3
    replace l1 : w.heap.size < w6.heap.size := Nat.lt_of_lt_of_le l1 hb6.size
    replace l2 : w.heap.size + 1 < w6.heap.size := Nat.lt_of_lt_of_le l2 hb6.size
    replace l3 : w.heap.size + 2 < w6.heap.size := Nat.lt_of_lt_of_le l3 hb6.size
    replace l4 : w2.heap.size < w6.heap.size := Nat.lt_of_lt_of_le l4 hb6.size
    replace l5 : w3.heap.size < w6.heap.size := Nat.lt_of_lt_of_le l5 hb6.size
    replace hbel : Below w.heap.size w w6 := hbel.trans (hb6.mono hbel.size)
    clear hb6
    go_wp2_with fail
    refine (In_any x y a b c d true (decide_eq_true ⟨HL.out.lo, HL.out.hi⟩) HB.out.1 HB.out.2.1 HB.out.2.2.1 HB.out.2.2.2.1 HB.out.2.2.2.2.1 HB.out.2.2.2.2.2.1 HB.out.2.2.2.2.2.2.1 HB.out.2.2.2.2.2.2.2 (by have := HL.out.fr.1; omega) (by have := HL.out.fr.2.1; omega) (by have := HL.out.fr.2.2.1; omega) (by have := HL.out.fr.2.2.2.1; omega) _).mono ?_
    rintro e w7 ⟨rfl, hb7⟩
    replace f1_0 : w7.cell? ⟨w.heap.size, 0, none⟩ = some (.int .i64 a) := (hb7.cell (p := ⟨w.heap.size, 0, none⟩) l1).trans f1_0
    replace f1_1 : w7.cell? ⟨w.heap.size, 1, none⟩ = some (.int .i64 b) := (hb7.cell (p := ⟨w.heap.size, 1, none⟩) l1).trans f1_1
    replace f1_2 : w7.cell? ⟨w.heap.size, 2, none⟩ = some (.int .i64 c) := (hb7.cell (p := ⟨w.heap.size, 2, none⟩) l1).trans f1_2
    replace f1_3 : w7.cell? ⟨w.heap.size, 3, none⟩ = some (.int .i64 d) := (hb7.cell (p := ⟨w.heap.size, 3, none⟩) l1).trans f1_3
    replace f2_0 : w7.cell? ⟨w.heap.size + 1, 0, none⟩ = some (.int .i64 g) := (hb7.cell (p := ⟨w.heap.size + 1, 0, none⟩) l2).trans f2_0
    replace f2_1 : w7.cell? ⟨w.heap.size + 1, 1, none⟩ = some (.int .i64 h) := (hb7.cell (p := ⟨w.heap.size + 1, 1, none⟩) l2).trans f2_1
    replace f3_0 : w7.cell? ⟨w.heap.size + 2, 0, none⟩ = some (.int .i64 l) := (hb7.cell (p := ⟨w.heap.size + 2, 0, none⟩) l3).trans f3_0
    replace f3_1 : w7.cell? ⟨w.heap.size + 2, 1, none⟩ = some (.int .i64 m) := (hb7.cell (p := ⟨w.heap.size + 2, 1, none⟩) l3).trans f3_1
    replace f3_2 : w7.cell? ⟨w.heap.size + 2, 2, none⟩ = some (.int .i64 r) := (hb7.cell (p := ⟨w.heap.size + 2, 2, none⟩) l3).trans f3_2
    replace f3_3 : w7.cell? ⟨w.heap.size + 2, 3, none⟩ = some (.int .i64 s) := (hb7.cell (p := ⟨w.heap.size + 2, 3, none⟩) l3).trans f3_3
    replace f4_0 : w7.cell? ⟨w2.heap.size, 0, none⟩ = some (.int .i64 x) := (hb7.cell (p := ⟨w2.heap.size, 0, none⟩) l4).trans f4_0
    replace f4_1 : w7.cell? ⟨w2.heap.size, 1, none⟩ = some (.int .i64 y) := (hb7.cell (p := ⟨w2.heap.size, 1, none⟩) l4).trans f4_1
    replace f5_0 : w7.cell? ⟨w3.heap.size, 0, none⟩ = some (.int .i64 l') := (hb7.cell (p := ⟨w3.heap.size, 0, none⟩) l5).trans f5_0
    replace f5_1 : w7.cell? ⟨w3.heap.size, 1, none⟩ = some (.int .i64 m') := (hb7.cell (p := ⟨w3.heap.size, 1, none⟩) l5).trans f5_1
    replace f5_2 : w7.cell? ⟨w3.heap.size, 2, none⟩ = some (.int .i64 r') := (hb7.cell (p := ⟨w3.heap.size, 2, none⟩) l5).trans f5_2
    replace f5_3 : w7.cell? ⟨w3.heap.size, 3, none⟩ = some (.int .i64 s') := (hb7.cell (p := ⟨w3.heap.size, 3, none⟩) l5).trans f5_3
    replace l1 : w.heap.size < w7.heap.size := Nat.lt_of_lt_of_le l1 hb7.size
    replace l2 : w.heap.size + 1 < w7.heap.size := Nat.lt_of_lt_of_le l2 hb7.size
    replace l3 : w.heap.size + 2 < w7.heap.size := Nat.lt_of_lt_of_le l3 hb7.size
    replace l4 : w2.heap.size < w7.heap.size := Nat.lt_of_lt_of_le l4 hb7.size
    replace l5 : w3.heap.size < w7.heap.size := Nat.lt_of_lt_of_le l5 hb7.size
    replace hbel : Below w.heap.size w w7 := hbel.trans (hb7.mono hbel.size)
    clear hb7
    by_cases hG : Fr g h
    · have HG := Lib.hid (decide_eq_true hG)
      have HG2 := Lib.hid hG
      clear hG
      go_wp2_with fail
      refine (IsFraction_any g h true HG.out _).mono ?_
      rintro e w8 ⟨rfl, hb8⟩
      replace f1_0 : w8.cell? ⟨w.heap.size, 0, none⟩ = some (.int .i64 a) := (hb8.cell (p := ⟨w.heap.size, 0, none⟩) l1).trans f1_0
      replace f1_1 : w8.cell? ⟨w.heap.size, 1, none⟩ = some (.int .i64 b) := (hb8.cell (p := ⟨w.heap.size, 1, none⟩) l1).trans f1_1
      replace f1_2 : w8.cell? ⟨w.heap.size, 2, none⟩ = some (.int .i64 c) := (hb8.cell (p := ⟨w.heap.size, 2, none⟩) l1).trans f1_2
      replace f1_3 : w8.cell? ⟨w.heap.size, 3, none⟩ = some (.int .i64 d) := (hb8.cell (p := ⟨w.heap.size, 3, none⟩) l1).trans f1_3
      replace f2_0 : w8.cell? ⟨w.heap.size + 1, 0, none⟩ = some (.int .i64 g) := (hb8.cell (p := ⟨w.heap.size + 1, 0, none⟩) l2).trans f2_0
      replace f2_1 : w8.cell? ⟨w.heap.size + 1, 1, none⟩ = some (.int .i64 h) := (hb8.cell (p := ⟨w.heap.size + 1, 1, none⟩) l2).trans f2_1
      replace f3_0 : w8.cell? ⟨w.heap.size + 2, 0, none⟩ = some (.int .i64 l) := (hb8.cell (p := ⟨w.heap.size + 2, 0, none⟩) l3).trans f3_0
      replace f3_1 : w8.cell? ⟨w.heap.size + 2, 1, none⟩ = some (.int .i64 m) := (hb8.cell (p := ⟨w.heap.size + 2, 1, none⟩) l3).trans f3_1
      replace f3_2 : w8.cell? ⟨w.heap.size + 2, 2, none⟩ = some (.int .i64 r) := (hb8.cell (p := ⟨w.heap.size + 2, 2, none⟩) l3).trans f3_2
      replace f3_3 : w8.cell? ⟨w.heap.size + 2, 3, none⟩ = some (.int .i64 s) := (hb8.cell (p := ⟨w.heap.size + 2, 3, none⟩) l3).trans f3_3
      replace f4_0 : w8.cell? ⟨w2.heap.size, 0, none⟩ = some (.int .i64 x) := (hb8.cell (p := ⟨w2.heap.size, 0, none⟩) l4).trans f4_0
      replace f4_1 : w8.cell? ⟨w2.heap.size, 1, none⟩ = some (.int .i64 y) := (hb8.cell (p := ⟨w2.heap.size, 1, none⟩) l4).trans f4_1
      replace f5_0 : w8.cell? ⟨w3.heap.size, 0, none⟩ = some (.int .i64 l') := (hb8.cell (p := ⟨w3.heap.size, 0, none⟩) l5).trans f5_0
      replace f5_1 : w8.cell? ⟨w3.heap.size, 1, none⟩ = some (.int .i64 m') := (hb8.cell (p := ⟨w3.heap.size, 1, none⟩) l5).trans f5_1
      replace f5_2 : w8.cell? ⟨w3.heap.size, 2, none⟩ = some (.int .i64 r') := (hb8.cell (p := ⟨w3.heap.size, 2, none⟩) l5).trans f5_2
      replace f5_3 : w8.cell? ⟨w3.heap.size, 3, none⟩ = some (.int .i64 s') := (hb8.cell (p := ⟨w3.heap.size, 3, none⟩) l5).trans f5_3
      replace l1 : w.heap.size < w8.heap.size := Nat.lt_of_lt_of_le l1 hb8.size
      replace l2 : w.heap.size + 1 < w8.heap.size := Nat.lt_of_lt_of_le l2 hb8.size
      replace l3 : w.heap.size + 2 < w8.heap.size := Nat.lt_of_lt_of_le l3 hb8.size
      replace l4 : w2.heap.size < w8.heap.size := Nat.lt_of_lt_of_le l4 hb8.size
      replace l5 : w3.heap.size < w8.heap.size := Nat.lt_of_lt_of_le l5 hb8.size
      replace hbel : Below w.heap.size w w8 := hbel.trans (hb8.mono hbel.size)
      clear hb8
      by_cases hI : a * h ≤ g * b ∧ g * d ≤ c * h
      · have HI := Lib.hid (decide_eq_true hI)
        have hmin := HL.out.min g h HG2.out.1 HG2.out.2.2.1 hI.1 hI.2
        obtain ⟨hm1, hm2⟩ := hmin
        clear hI
        go_wp2_with fail
        refine (In_any g h a b c d true HI.out HB.out.1 HB.out.2.1 HB.out.2.2.1 HB.out.2.2.2.1 HB.out.2.2.2.2.1 HB.out.2.2.2.2.2.1 HB.out.2.2.2.2.2.2.1 HB.out.2.2.2.2.2.2.2 (by have := HG2.out.1; omega) (by have := HG2.out.2.1; omega) (by have := HG2.out.2.2.1; omega) (by have := HG2.out.2.2.2.1; omega) _).mono ?_
        rintro e w9 ⟨rfl, hb9⟩
        replace f1_0 : w9.cell? ⟨w.heap.size, 0, none⟩ = some (.int .i64 a) := (hb9.cell (p := ⟨w.heap.size, 0, none⟩) l1).trans f1_0
        replace f1_1 : w9.cell? ⟨w.heap.size, 1, none⟩ = some (.int .i64 b) := (hb9.cell (p := ⟨w.heap.size, 1, none⟩) l1).trans f1_1
        replace f1_2 : w9.cell? ⟨w.heap.size, 2, none⟩ = some (.int .i64 c) := (hb9.cell (p := ⟨w.heap.size, 2, none⟩) l1).trans f1_2
        replace f1_3 : w9.cell? ⟨w.heap.size, 3, none⟩ = some (.int .i64 d) := (hb9.cell (p := ⟨w.heap.size, 3, none⟩) l1).trans f1_3
        replace f2_0 : w9.cell? ⟨w.heap.size + 1, 0, none⟩ = some (.int .i64 g) := (hb9.cell (p := ⟨w.heap.size + 1, 0, none⟩) l2).trans f2_0
        replace f2_1 : w9.cell? ⟨w.heap.size + 1, 1, none⟩ = some (.int .i64 h) := (hb9.cell (p := ⟨w.heap.size + 1, 1, none⟩) l2).trans f2_1
        replace f3_0 : w9.cell? ⟨w.heap.size + 2, 0, none⟩ = some (.int .i64 l) := (hb9.cell (p := ⟨w.heap.size + 2, 0, none⟩) l3).trans f3_0
        replace f3_1 : w9.cell? ⟨w.heap.size + 2, 1, none⟩ = some (.int .i64 m) := (hb9.cell (p := ⟨w.heap.size + 2, 1, none⟩) l3).trans f3_1
        replace f3_2 : w9.cell? ⟨w.heap.size + 2, 2, none⟩ = some (.int .i64 r) := (hb9.cell (p := ⟨w.heap.size + 2, 2, none⟩) l3).trans f3_2
        replace f3_3 : w9.cell? ⟨w.heap.size + 2, 3, none⟩ = some (.int .i64 s) := (hb9.cell (p := ⟨w.heap.size + 2, 3, none⟩) l3).trans f3_3
        replace f4_0 : w9.cell? ⟨w2.heap.size, 0, none⟩ = some (.int .i64 x) := (hb9.cell (p := ⟨w2.heap.size, 0, none⟩) l4).trans f4_0
        replace f4_1 : w9.cell? ⟨w2.heap.size, 1, none⟩ = some (.int .i64 y) := (hb9.cell (p := ⟨w2.heap.size, 1, none⟩) l4).trans f4_1
        replace f5_0 : w9.cell? ⟨w3.heap.size, 0, none⟩ = some (.int .i64 l') := (hb9.cell (p := ⟨w3.heap.size, 0, none⟩) l5).trans f5_0
        replace f5_1 : w9.cell? ⟨w3.heap.size, 1, none⟩ = some (.int .i64 m') := (hb9.cell (p := ⟨w3.heap.size, 1, none⟩) l5).trans f5_1
        replace f5_2 : w9.cell? ⟨w3.heap.size, 2, none⟩ = some (.int .i64 r') := (hb9.cell (p := ⟨w3.heap.size, 2, none⟩) l5).trans f5_2
        replace f5_3 : w9.cell? ⟨w3.heap.size, 3, none⟩ = some (.int .i64 s') := (hb9.cell (p := ⟨w3.heap.size, 3, none⟩) l5).trans f5_3
        replace l1 : w.heap.size < w9.heap.size := Nat.lt_of_lt_of_le l1 hb9.size
        replace l2 : w.heap.size + 1 < w9.heap.size := Nat.lt_of_lt_of_le l2 hb9.size
        replace l3 : w.heap.size + 2 < w9.heap.size := Nat.lt_of_lt_of_le l3 hb9.size
        replace l4 : w2.heap.size < w9.heap.size := Nat.lt_of_lt_of_le l4 hb9.size
        replace l5 : w3.heap.size < w9.heap.size := Nat.lt_of_lt_of_le l5 hb9.size
        replace hbel : Below w.heap.size w w9 := hbel.trans (hb9.mono hbel.size)
        clear hb9
        go_wp2_with fail
        refine (CheckProof_any a b c d l m r s v k HV.out _).mono ?_
        rintro e w10 ⟨rfl, hb10⟩
        replace f1_0 : w10.cell? ⟨w.heap.size, 0, none⟩ = some (.int .i64 a) := (hb10.cell (p := ⟨w.heap.size, 0, none⟩) l1).trans f1_0
        replace f1_1 : w10.cell? ⟨w.heap.size, 1, none⟩ = some (.int .i64 b) := (hb10.cell (p := ⟨w.heap.size, 1, none⟩) l1).trans f1_1
        replace f1_2 : w10.cell? ⟨w.heap.size, 2, none⟩ = some (.int .i64 c) := (hb10.cell (p := ⟨w.heap.size, 2, none⟩) l1).trans f1_2
        replace f1_3 : w10.cell? ⟨w.heap.size, 3, none⟩ = some (.int .i64 d) := (hb10.cell (p := ⟨w.heap.size, 3, none⟩) l1).trans f1_3
        replace f2_0 : w10.cell? ⟨w.heap.size + 1, 0, none⟩ = some (.int .i64 g) := (hb10.cell (p := ⟨w.heap.size + 1, 0, none⟩) l2).trans f2_0
        replace f2_1 : w10.cell? ⟨w.heap.size + 1, 1, none⟩ = some (.int .i64 h) := (hb10.cell (p := ⟨w.heap.size + 1, 1, none⟩) l2).trans f2_1
        replace f3_0 : w10.cell? ⟨w.heap.size + 2, 0, none⟩ = some (.int .i64 l) := (hb10.cell (p := ⟨w.heap.size + 2, 0, none⟩) l3).trans f3_0
        replace f3_1 : w10.cell? ⟨w.heap.size + 2, 1, none⟩ = some (.int .i64 m) := (hb10.cell (p := ⟨w.heap.size + 2, 1, none⟩) l3).trans f3_1
        replace f3_2 : w10.cell? ⟨w.heap.size + 2, 2, none⟩ = some (.int .i64 r) := (hb10.cell (p := ⟨w.heap.size + 2, 2, none⟩) l3).trans f3_2
        replace f3_3 : w10.cell? ⟨w.heap.size + 2, 3, none⟩ = some (.int .i64 s) := (hb10.cell (p := ⟨w.heap.size + 2, 3, none⟩) l3).trans f3_3
        replace f4_0 : w10.cell? ⟨w2.heap.size, 0, none⟩ = some (.int .i64 x) := (hb10.cell (p := ⟨w2.heap.size, 0, none⟩) l4).trans f4_0
        replace f4_1 : w10.cell? ⟨w2.heap.size, 1, none⟩ = some (.int .i64 y) := (hb10.cell (p := ⟨w2.heap.size, 1, none⟩) l4).trans f4_1
        replace f5_0 : w10.cell? ⟨w3.heap.size, 0, none⟩ = some (.int .i64 l') := (hb10.cell (p := ⟨w3.heap.size, 0, none⟩) l5).trans f5_0
        replace f5_1 : w10.cell? ⟨w3.heap.size, 1, none⟩ = some (.int .i64 m') := (hb10.cell (p := ⟨w3.heap.size, 1, none⟩) l5).trans f5_1
        replace f5_2 : w10.cell? ⟨w3.heap.size, 2, none⟩ = some (.int .i64 r') := (hb10.cell (p := ⟨w3.heap.size, 2, none⟩) l5).trans f5_2
        replace f5_3 : w10.cell? ⟨w3.heap.size, 3, none⟩ = some (.int .i64 s') := (hb10.cell (p := ⟨w3.heap.size, 3, none⟩) l5).trans f5_3
        replace l1 : w.heap.size < w10.heap.size := Nat.lt_of_lt_of_le l1 hb10.size
        replace l2 : w.heap.size + 1 < w10.heap.size := Nat.lt_of_lt_of_le l2 hb10.size
        replace l3 : w.heap.size + 2 < w10.heap.size := Nat.lt_of_lt_of_le l3 hb10.size
        replace l4 : w2.heap.size < w10.heap.size := Nat.lt_of_lt_of_le l4 hb10.size
        replace l5 : w3.heap.size < w10.heap.size := Nat.lt_of_lt_of_le l5 hb10.size
        replace hbel : Below w.heap.size w w10 := hbel.trans (hb10.mono hbel.size)
        clear hb10
        by_cases hk : k = 0
        · subst hk
          have hvy := chk_le HS.out HL.out HV.out
          go_wp2_with fail
          refine (Works_any _).mono ?_
          rintro e w11 ⟨rfl, hb11⟩
          replace f1_0 : w11.cell? ⟨w.heap.size, 0, none⟩ = some (.int .i64 a) := (hb11.cell (p := ⟨w.heap.size, 0, none⟩) l1).trans f1_0
          replace f1_1 : w11.cell? ⟨w.heap.size, 1, none⟩ = some (.int .i64 b) := (hb11.cell (p := ⟨w.heap.size, 1, none⟩) l1).trans f1_1
          replace f1_2 : w11.cell? ⟨w.heap.size, 2, none⟩ = some (.int .i64 c) := (hb11.cell (p := ⟨w.heap.size, 2, none⟩) l1).trans f1_2
          replace f1_3 : w11.cell? ⟨w.heap.size, 3, none⟩ = some (.int .i64 d) := (hb11.cell (p := ⟨w.heap.size, 3, none⟩) l1).trans f1_3
          replace f2_0 : w11.cell? ⟨w.heap.size + 1, 0, none⟩ = some (.int .i64 g) := (hb11.cell (p := ⟨w.heap.size + 1, 0, none⟩) l2).trans f2_0
          replace f2_1 : w11.cell? ⟨w.heap.size + 1, 1, none⟩ = some (.int .i64 h) := (hb11.cell (p := ⟨w.heap.size + 1, 1, none⟩) l2).trans f2_1
          replace f3_0 : w11.cell? ⟨w.heap.size + 2, 0, none⟩ = some (.int .i64 l) := (hb11.cell (p := ⟨w.heap.size + 2, 0, none⟩) l3).trans f3_0
          replace f3_1 : w11.cell? ⟨w.heap.size + 2, 1, none⟩ = some (.int .i64 m) := (hb11.cell (p := ⟨w.heap.size + 2, 1, none⟩) l3).trans f3_1
          replace f3_2 : w11.cell? ⟨w.heap.size + 2, 2, none⟩ = some (.int .i64 r) := (hb11.cell (p := ⟨w.heap.size + 2, 2, none⟩) l3).trans f3_2
          replace f3_3 : w11.cell? ⟨w.heap.size + 2, 3, none⟩ = some (.int .i64 s) := (hb11.cell (p := ⟨w.heap.size + 2, 3, none⟩) l3).trans f3_3
          replace f4_0 : w11.cell? ⟨w2.heap.size, 0, none⟩ = some (.int .i64 x) := (hb11.cell (p := ⟨w2.heap.size, 0, none⟩) l4).trans f4_0
          replace f4_1 : w11.cell? ⟨w2.heap.size, 1, none⟩ = some (.int .i64 y) := (hb11.cell (p := ⟨w2.heap.size, 1, none⟩) l4).trans f4_1
          replace f5_0 : w11.cell? ⟨w3.heap.size, 0, none⟩ = some (.int .i64 l') := (hb11.cell (p := ⟨w3.heap.size, 0, none⟩) l5).trans f5_0
          replace f5_1 : w11.cell? ⟨w3.heap.size, 1, none⟩ = some (.int .i64 m') := (hb11.cell (p := ⟨w3.heap.size, 1, none⟩) l5).trans f5_1
          replace f5_2 : w11.cell? ⟨w3.heap.size, 2, none⟩ = some (.int .i64 r') := (hb11.cell (p := ⟨w3.heap.size, 2, none⟩) l5).trans f5_2
          replace f5_3 : w11.cell? ⟨w3.heap.size, 3, none⟩ = some (.int .i64 s') := (hb11.cell (p := ⟨w3.heap.size, 3, none⟩) l5).trans f5_3
          replace l1 : w.heap.size < w11.heap.size := Nat.lt_of_lt_of_le l1 hb11.size
          replace l2 : w.heap.size + 1 < w11.heap.size := Nat.lt_of_lt_of_le l2 hb11.size
          replace l3 : w.heap.size + 2 < w11.heap.size := Nat.lt_of_lt_of_le l3 hb11.size
          replace l4 : w2.heap.size < w11.heap.size := Nat.lt_of_lt_of_le l4 hb11.size
          replace l5 : w3.heap.size < w11.heap.size := Nat.lt_of_lt_of_le l5 hb11.size
          replace hbel : Below w.heap.size w w11 := hbel.trans (hb11.mono hbel.size)
          clear hb11
          go_wp2_with fail
          go_ret
          exact ⟨rfl, hbel⟩
        · have hk2 : (k != 0) = true := bne_iff_ne.2 hk
          clear hk
          go_wp2_with fail
          refine (Works_any _).mono ?_
          rintro e w11 ⟨rfl, hb11⟩
          replace f1_0 : w11.cell? ⟨w.heap.size, 0, none⟩ = some (.int .i64 a) := (hb11.cell (p := ⟨w.heap.size, 0, none⟩) l1).trans f1_0
          replace f1_1 : w11.cell? ⟨w.heap.size, 1, none⟩ = some (.int .i64 b) := (hb11.cell (p := ⟨w.heap.size, 1, none⟩) l1).trans f1_1
          replace f1_2 : w11.cell? ⟨w.heap.size, 2, none⟩ = some (.int .i64 c) := (hb11.cell (p := ⟨w.heap.size, 2, none⟩) l1).trans f1_2
          replace f1_3 : w11.cell? ⟨w.heap.size, 3, none⟩ = some (.int .i64 d) := (hb11.cell (p := ⟨w.heap.size, 3, none⟩) l1).trans f1_3
          replace f2_0 : w11.cell? ⟨w.heap.size + 1, 0, none⟩ = some (.int .i64 g) := (hb11.cell (p := ⟨w.heap.size + 1, 0, none⟩) l2).trans f2_0
          replace f2_1 : w11.cell? ⟨w.heap.size + 1, 1, none⟩ = some (.int .i64 h) := (hb11.cell (p := ⟨w.heap.size + 1, 1, none⟩) l2).trans f2_1
          replace f3_0 : w11.cell? ⟨w.heap.size + 2, 0, none⟩ = some (.int .i64 l) := (hb11.cell (p := ⟨w.heap.size + 2, 0, none⟩) l3).trans f3_0
          replace f3_1 : w11.cell? ⟨w.heap.size + 2, 1, none⟩ = some (.int .i64 m) := (hb11.cell (p := ⟨w.heap.size + 2, 1, none⟩) l3).trans f3_1
          replace f3_2 : w11.cell? ⟨w.heap.size + 2, 2, none⟩ = some (.int .i64 r) := (hb11.cell (p := ⟨w.heap.size + 2, 2, none⟩) l3).trans f3_2
          replace f3_3 : w11.cell? ⟨w.heap.size + 2, 3, none⟩ = some (.int .i64 s) := (hb11.cell (p := ⟨w.heap.size + 2, 3, none⟩) l3).trans f3_3
          replace f4_0 : w11.cell? ⟨w2.heap.size, 0, none⟩ = some (.int .i64 x) := (hb11.cell (p := ⟨w2.heap.size, 0, none⟩) l4).trans f4_0
          replace f4_1 : w11.cell? ⟨w2.heap.size, 1, none⟩ = some (.int .i64 y) := (hb11.cell (p := ⟨w2.heap.size, 1, none⟩) l4).trans f4_1
          replace f5_0 : w11.cell? ⟨w3.heap.size, 0, none⟩ = some (.int .i64 l') := (hb11.cell (p := ⟨w3.heap.size, 0, none⟩) l5).trans f5_0
          replace f5_1 : w11.cell? ⟨w3.heap.size, 1, none⟩ = some (.int .i64 m') := (hb11.cell (p := ⟨w3.heap.size, 1, none⟩) l5).trans f5_1
          replace f5_2 : w11.cell? ⟨w3.heap.size, 2, none⟩ = some (.int .i64 r') := (hb11.cell (p := ⟨w3.heap.size, 2, none⟩) l5).trans f5_2
          replace f5_3 : w11.cell? ⟨w3.heap.size, 3, none⟩ = some (.int .i64 s') := (hb11.cell (p := ⟨w3.heap.size, 3, none⟩) l5).trans f5_3
          replace l1 : w.heap.size < w11.heap.size := Nat.lt_of_lt_of_le l1 hb11.size
          replace l2 : w.heap.size + 1 < w11.heap.size := Nat.lt_of_lt_of_le l2 hb11.size
          replace l3 : w.heap.size + 2 < w11.heap.size := Nat.lt_of_lt_of_le l3 hb11.size
          replace l4 : w2.heap.size < w11.heap.size := Nat.lt_of_lt_of_le l4 hb11.size
          replace l5 : w3.heap.size < w11.heap.size := Nat.lt_of_lt_of_le l5 hb11.size
          replace hbel : Below w.heap.size w w11 := hbel.trans (hb11.mono hbel.size)
          clear hb11
          go_wp2_with fail
          go_ret
          exact ⟨rfl, hbel⟩
      · have HI := Lib.hid (decide_eq_false hI)
        clear hI
        go_wp2_with fail
        refine (In_any g h a b c d false HI.out HB.out.1 HB.out.2.1 HB.out.2.2.1 HB.out.2.2.2.1 HB.out.2.2.2.2.1 HB.out.2.2.2.2.2.1 HB.out.2.2.2.2.2.2.1 HB.out.2.2.2.2.2.2.2 (by have := HG2.out.1; omega) (by have := HG2.out.2.1; omega) (by have := HG2.out.2.2.1; omega) (by have := HG2.out.2.2.2.1; omega) _).mono ?_
        rintro e w9 ⟨rfl, hb9⟩
        replace f1_0 : w9.cell? ⟨w.heap.size, 0, none⟩ = some (.int .i64 a) := (hb9.cell (p := ⟨w.heap.size, 0, none⟩) l1).trans f1_0
        replace f1_1 : w9.cell? ⟨w.heap.size, 1, none⟩ = some (.int .i64 b) := (hb9.cell (p := ⟨w.heap.size, 1, none⟩) l1).trans f1_1
        replace f1_2 : w9.cell? ⟨w.heap.size, 2, none⟩ = some (.int .i64 c) := (hb9.cell (p := ⟨w.heap.size, 2, none⟩) l1).trans f1_2
        replace f1_3 : w9.cell? ⟨w.heap.size, 3, none⟩ = some (.int .i64 d) := (hb9.cell (p := ⟨w.heap.size, 3, none⟩) l1).trans f1_3
        replace f2_0 : w9.cell? ⟨w.heap.size + 1, 0, none⟩ = some (.int .i64 g) := (hb9.cell (p := ⟨w.heap.size + 1, 0, none⟩) l2).trans f2_0
        replace f2_1 : w9.cell? ⟨w.heap.size + 1, 1, none⟩ = some (.int .i64 h) := (hb9.cell (p := ⟨w.heap.size + 1, 1, none⟩) l2).trans f2_1
        replace f3_0 : w9.cell? ⟨w.heap.size + 2, 0, none⟩ = some (.int .i64 l) := (hb9.cell (p := ⟨w.heap.size + 2, 0, none⟩) l3).trans f3_0
        replace f3_1 : w9.cell? ⟨w.heap.size + 2, 1, none⟩ = some (.int .i64 m) := (hb9.cell (p := ⟨w.heap.size + 2, 1, none⟩) l3).trans f3_1
        replace f3_2 : w9.cell? ⟨w.heap.size + 2, 2, none⟩ = some (.int .i64 r) := (hb9.cell (p := ⟨w.heap.size + 2, 2, none⟩) l3).trans f3_2
        replace f3_3 : w9.cell? ⟨w.heap.size + 2, 3, none⟩ = some (.int .i64 s) := (hb9.cell (p := ⟨w.heap.size + 2, 3, none⟩) l3).trans f3_3
        replace f4_0 : w9.cell? ⟨w2.heap.size, 0, none⟩ = some (.int .i64 x) := (hb9.cell (p := ⟨w2.heap.size, 0, none⟩) l4).trans f4_0
        replace f4_1 : w9.cell? ⟨w2.heap.size, 1, none⟩ = some (.int .i64 y) := (hb9.cell (p := ⟨w2.heap.size, 1, none⟩) l4).trans f4_1
        replace f5_0 : w9.cell? ⟨w3.heap.size, 0, none⟩ = some (.int .i64 l') := (hb9.cell (p := ⟨w3.heap.size, 0, none⟩) l5).trans f5_0
        replace f5_1 : w9.cell? ⟨w3.heap.size, 1, none⟩ = some (.int .i64 m') := (hb9.cell (p := ⟨w3.heap.size, 1, none⟩) l5).trans f5_1
        replace f5_2 : w9.cell? ⟨w3.heap.size, 2, none⟩ = some (.int .i64 r') := (hb9.cell (p := ⟨w3.heap.size, 2, none⟩) l5).trans f5_2
        replace f5_3 : w9.cell? ⟨w3.heap.size, 3, none⟩ = some (.int .i64 s') := (hb9.cell (p := ⟨w3.heap.size, 3, none⟩) l5).trans f5_3
        replace l1 : w.heap.size < w9.heap.size := Nat.lt_of_lt_of_le l1 hb9.size
        replace l2 : w.heap.size + 1 < w9.heap.size := Nat.lt_of_lt_of_le l2 hb9.size
        replace l3 : w.heap.size + 2 < w9.heap.size := Nat.lt_of_lt_of_le l3 hb9.size
        replace l4 : w2.heap.size < w9.heap.size := Nat.lt_of_lt_of_le l4 hb9.size
        replace l5 : w3.heap.size < w9.heap.size := Nat.lt_of_lt_of_le l5 hb9.size
        replace hbel : Below w.heap.size w w9 := hbel.trans (hb9.mono hbel.size)
        clear hb9
        go_wp2_with fail
        refine (CheckProof_any a b c d l m r s v k HV.out _).mono ?_
        rintro e w10 ⟨rfl, hb10⟩
        replace f1_0 : w10.cell? ⟨w.heap.size, 0, none⟩ = some (.int .i64 a) := (hb10.cell (p := ⟨w.heap.size, 0, none⟩) l1).trans f1_0
        replace f1_1 : w10.cell? ⟨w.heap.size, 1, none⟩ = some (.int .i64 b) := (hb10.cell (p := ⟨w.heap.size, 1, none⟩) l1).trans f1_1
        replace f1_2 : w10.cell? ⟨w.heap.size, 2, none⟩ = some (.int .i64 c) := (hb10.cell (p := ⟨w.heap.size, 2, none⟩) l1).trans f1_2
        replace f1_3 : w10.cell? ⟨w.heap.size, 3, none⟩ = some (.int .i64 d) := (hb10.cell (p := ⟨w.heap.size, 3, none⟩) l1).trans f1_3
        replace f2_0 : w10.cell? ⟨w.heap.size + 1, 0, none⟩ = some (.int .i64 g) := (hb10.cell (p := ⟨w.heap.size + 1, 0, none⟩) l2).trans f2_0
        replace f2_1 : w10.cell? ⟨w.heap.size + 1, 1, none⟩ = some (.int .i64 h) := (hb10.cell (p := ⟨w.heap.size + 1, 1, none⟩) l2).trans f2_1
        replace f3_0 : w10.cell? ⟨w.heap.size + 2, 0, none⟩ = some (.int .i64 l) := (hb10.cell (p := ⟨w.heap.size + 2, 0, none⟩) l3).trans f3_0
        replace f3_1 : w10.cell? ⟨w.heap.size + 2, 1, none⟩ = some (.int .i64 m) := (hb10.cell (p := ⟨w.heap.size + 2, 1, none⟩) l3).trans f3_1
        replace f3_2 : w10.cell? ⟨w.heap.size + 2, 2, none⟩ = some (.int .i64 r) := (hb10.cell (p := ⟨w.heap.size + 2, 2, none⟩) l3).trans f3_2
        replace f3_3 : w10.cell? ⟨w.heap.size + 2, 3, none⟩ = some (.int .i64 s) := (hb10.cell (p := ⟨w.heap.size + 2, 3, none⟩) l3).trans f3_3
        replace f4_0 : w10.cell? ⟨w2.heap.size, 0, none⟩ = some (.int .i64 x) := (hb10.cell (p := ⟨w2.heap.size, 0, none⟩) l4).trans f4_0
        replace f4_1 : w10.cell? ⟨w2.heap.size, 1, none⟩ = some (.int .i64 y) := (hb10.cell (p := ⟨w2.heap.size, 1, none⟩) l4).trans f4_1
        replace f5_0 : w10.cell? ⟨w3.heap.size, 0, none⟩ = some (.int .i64 l') := (hb10.cell (p := ⟨w3.heap.size, 0, none⟩) l5).trans f5_0
        replace f5_1 : w10.cell? ⟨w3.heap.size, 1, none⟩ = some (.int .i64 m') := (hb10.cell (p := ⟨w3.heap.size, 1, none⟩) l5).trans f5_1
        replace f5_2 : w10.cell? ⟨w3.heap.size, 2, none⟩ = some (.int .i64 r') := (hb10.cell (p := ⟨w3.heap.size, 2, none⟩) l5).trans f5_2
        replace f5_3 : w10.cell? ⟨w3.heap.size, 3, none⟩ = some (.int .i64 s') := (hb10.cell (p := ⟨w3.heap.size, 3, none⟩) l5).trans f5_3
        replace l1 : w.heap.size < w10.heap.size := Nat.lt_of_lt_of_le l1 hb10.size
        replace l2 : w.heap.size + 1 < w10.heap.size := Nat.lt_of_lt_of_le l2 hb10.size
        replace l3 : w.heap.size + 2 < w10.heap.size := Nat.lt_of_lt_of_le l3 hb10.size
        replace l4 : w2.heap.size < w10.heap.size := Nat.lt_of_lt_of_le l4 hb10.size
        replace l5 : w3.heap.size < w10.heap.size := Nat.lt_of_lt_of_le l5 hb10.size
        replace hbel : Below w.heap.size w w10 := hbel.trans (hb10.mono hbel.size)
        clear hb10
        by_cases hk : k = 0
        · subst hk
          have hvy := chk_le HS.out HL.out HV.out
          go_wp2_with fail
          refine (Works_any _).mono ?_
          rintro e w11 ⟨rfl, hb11⟩
          replace f1_0 : w11.cell? ⟨w.heap.size, 0, none⟩ = some (.int .i64 a) := (hb11.cell (p := ⟨w.heap.size, 0, none⟩) l1).trans f1_0
          replace f1_1 : w11.cell? ⟨w.heap.size, 1, none⟩ = some (.int .i64 b) := (hb11.cell (p := ⟨w.heap.size, 1, none⟩) l1).trans f1_1
          replace f1_2 : w11.cell? ⟨w.heap.size, 2, none⟩ = some (.int .i64 c) := (hb11.cell (p := ⟨w.heap.size, 2, none⟩) l1).trans f1_2
          replace f1_3 : w11.cell? ⟨w.heap.size, 3, none⟩ = some (.int .i64 d) := (hb11.cell (p := ⟨w.heap.size, 3, none⟩) l1).trans f1_3
          replace f2_0 : w11.cell? ⟨w.heap.size + 1, 0, none⟩ = some (.int .i64 g) := (hb11.cell (p := ⟨w.heap.size + 1, 0, none⟩) l2).trans f2_0
          replace f2_1 : w11.cell? ⟨w.heap.size + 1, 1, none⟩ = some (.int .i64 h) := (hb11.cell (p := ⟨w.heap.size + 1, 1, none⟩) l2).trans f2_1
          replace f3_0 : w11.cell? ⟨w.heap.size + 2, 0, none⟩ = some (.int .i64 l) := (hb11.cell (p := ⟨w.heap.size + 2, 0, none⟩) l3).trans f3_0
          replace f3_1 : w11.cell? ⟨w.heap.size + 2, 1, none⟩ = some (.int .i64 m) := (hb11.cell (p := ⟨w.heap.size + 2, 1, none⟩) l3).trans f3_1
          replace f3_2 : w11.cell? ⟨w.heap.size + 2, 2, none⟩ = some (.int .i64 r) := (hb11.cell (p := ⟨w.heap.size + 2, 2, none⟩) l3).trans f3_2
          replace f3_3 : w11.cell? ⟨w.heap.size + 2, 3, none⟩ = some (.int .i64 s) := (hb11.cell (p := ⟨w.heap.size + 2, 3, none⟩) l3).trans f3_3
          replace f4_0 : w11.cell? ⟨w2.heap.size, 0, none⟩ = some (.int .i64 x) := (hb11.cell (p := ⟨w2.heap.size, 0, none⟩) l4).trans f4_0
          replace f4_1 : w11.cell? ⟨w2.heap.size, 1, none⟩ = some (.int .i64 y) := (hb11.cell (p := ⟨w2.heap.size, 1, none⟩) l4).trans f4_1
          replace f5_0 : w11.cell? ⟨w3.heap.size, 0, none⟩ = some (.int .i64 l') := (hb11.cell (p := ⟨w3.heap.size, 0, none⟩) l5).trans f5_0
          replace f5_1 : w11.cell? ⟨w3.heap.size, 1, none⟩ = some (.int .i64 m') := (hb11.cell (p := ⟨w3.heap.size, 1, none⟩) l5).trans f5_1
          replace f5_2 : w11.cell? ⟨w3.heap.size, 2, none⟩ = some (.int .i64 r') := (hb11.cell (p := ⟨w3.heap.size, 2, none⟩) l5).trans f5_2
          replace f5_3 : w11.cell? ⟨w3.heap.size, 3, none⟩ = some (.int .i64 s') := (hb11.cell (p := ⟨w3.heap.size, 3, none⟩) l5).trans f5_3
          replace l1 : w.heap.size < w11.heap.size := Nat.lt_of_lt_of_le l1 hb11.size
          replace l2 : w.heap.size + 1 < w11.heap.size := Nat.lt_of_lt_of_le l2 hb11.size
          replace l3 : w.heap.size + 2 < w11.heap.size := Nat.lt_of_lt_of_le l3 hb11.size
          replace l4 : w2.heap.size < w11.heap.size := Nat.lt_of_lt_of_le l4 hb11.size
          replace l5 : w3.heap.size < w11.heap.size := Nat.lt_of_lt_of_le l5 hb11.size
          replace hbel : Below w.heap.size w w11 := hbel.trans (hb11.mono hbel.size)
          clear hb11
          go_wp2_with fail
          go_ret
          exact ⟨rfl, hbel⟩
        · have hk2 : (k != 0) = true := bne_iff_ne.2 hk
          clear hk
          go_wp2_with fail
          refine (Works_any _).mono ?_
          rintro e w11 ⟨rfl, hb11⟩
          replace f1_0 : w11.cell? ⟨w.heap.size, 0, none⟩ = some (.int .i64 a) := (hb11.cell (p := ⟨w.heap.size, 0, none⟩) l1).trans f1_0
          replace f1_1 : w11.cell? ⟨w.heap.size, 1, none⟩ = some (.int .i64 b) := (hb11.cell (p := ⟨w.heap.size, 1, none⟩) l1).trans f1_1
          replace f1_2 : w11.cell? ⟨w.heap.size, 2, none⟩ = some (.int .i64 c) := (hb11.cell (p := ⟨w.heap.size, 2, none⟩) l1).trans f1_2
          replace f1_3 : w11.cell? ⟨w.heap.size, 3, none⟩ = some (.int .i64 d) := (hb11.cell (p := ⟨w.heap.size, 3, none⟩) l1).trans f1_3
          replace f2_0 : w11.cell? ⟨w.heap.size + 1, 0, none⟩ = some (.int .i64 g) := (hb11.cell (p := ⟨w.heap.size + 1, 0, none⟩) l2).trans f2_0
          replace f2_1 : w11.cell? ⟨w.heap.size + 1, 1, none⟩ = some (.int .i64 h) := (hb11.cell (p := ⟨w.heap.size + 1, 1, none⟩) l2).trans f2_1
          replace f3_0 : w11.cell? ⟨w.heap.size + 2, 0, none⟩ = some (.int .i64 l) := (hb11.cell (p := ⟨w.heap.size + 2, 0, none⟩) l3).trans f3_0
          replace f3_1 : w11.cell? ⟨w.heap.size + 2, 1, none⟩ = some (.int .i64 m) := (hb11.cell (p := ⟨w.heap.size + 2, 1, none⟩) l3).trans f3_1
          replace f3_2 : w11.cell? ⟨w.heap.size + 2, 2, none⟩ = some (.int .i64 r) := (hb11.cell (p := ⟨w.heap.size + 2, 2, none⟩) l3).trans f3_2
          replace f3_3 : w11.cell? ⟨w.heap.size + 2, 3, none⟩ = some (.int .i64 s) := (hb11.cell (p := ⟨w.heap.size + 2, 3, none⟩) l3).trans f3_3
          replace f4_0 : w11.cell? ⟨w2.heap.size, 0, none⟩ = some (.int .i64 x) := (hb11.cell (p := ⟨w2.heap.size, 0, none⟩) l4).trans f4_0
          replace f4_1 : w11.cell? ⟨w2.heap.size, 1, none⟩ = some (.int .i64 y) := (hb11.cell (p := ⟨w2.heap.size, 1, none⟩) l4).trans f4_1
          replace f5_0 : w11.cell? ⟨w3.heap.size, 0, none⟩ = some (.int .i64 l') := (hb11.cell (p := ⟨w3.heap.size, 0, none⟩) l5).trans f5_0
          replace f5_1 : w11.cell? ⟨w3.heap.size, 1, none⟩ = some (.int .i64 m') := (hb11.cell (p := ⟨w3.heap.size, 1, none⟩) l5).trans f5_1
          replace f5_2 : w11.cell? ⟨w3.heap.size, 2, none⟩ = some (.int .i64 r') := (hb11.cell (p := ⟨w3.heap.size, 2, none⟩) l5).trans f5_2
          replace f5_3 : w11.cell? ⟨w3.heap.size, 3, none⟩ = some (.int .i64 s') := (hb11.cell (p := ⟨w3.heap.size, 3, none⟩) l5).trans f5_3
          replace l1 : w.heap.size < w11.heap.size := Nat.lt_of_lt_of_le l1 hb11.size
          replace l2 : w.heap.size + 1 < w11.heap.size := Nat.lt_of_lt_of_le l2 hb11.size
          replace l3 : w.heap.size + 2 < w11.heap.size := Nat.lt_of_lt_of_le l3 hb11.size
          replace l4 : w2.heap.size < w11.heap.size := Nat.lt_of_lt_of_le l4 hb11.size
          replace l5 : w3.heap.size < w11.heap.size := Nat.lt_of_lt_of_le l5 hb11.size
          replace hbel : Below w.heap.size w w11 := hbel.trans (hb11.mono hbel.size)
          clear hb11
          go_wp2_with fail
          go_ret
          exact ⟨rfl, hbel⟩
    · have HG := Lib.hid (decide_eq_false hG)
      clear hG
      go_wp2_with fail
      refine (IsFraction_any g h false HG.out _).mono ?_
      rintro e w8 ⟨rfl, hb8⟩
      replace f1_0 : w8.cell? ⟨w.heap.size, 0, none⟩ = some (.int .i64 a) := (hb8.cell (p := ⟨w.heap.size, 0, none⟩) l1).trans f1_0
      replace f1_1 : w8.cell? ⟨w.heap.size, 1, none⟩ = some (.int .i64 b) := (hb8.cell (p := ⟨w.heap.size, 1, none⟩) l1).trans f1_1
      replace f1_2 : w8.cell? ⟨w.heap.size, 2, none⟩ = some (.int .i64 c) := (hb8.cell (p := ⟨w.heap.size, 2, none⟩) l1).trans f1_2
      replace f1_3 : w8.cell? ⟨w.heap.size, 3, none⟩ = some (.int .i64 d) := (hb8.cell (p := ⟨w.heap.size, 3, none⟩) l1).trans f1_3
      replace f2_0 : w8.cell? ⟨w.heap.size + 1, 0, none⟩ = some (.int .i64 g) := (hb8.cell (p := ⟨w.heap.size + 1, 0, none⟩) l2).trans f2_0
      replace f2_1 : w8.cell? ⟨w.heap.size + 1, 1, none⟩ = some (.int .i64 h) := (hb8.cell (p := ⟨w.heap.size + 1, 1, none⟩) l2).trans f2_1
      replace f3_0 : w8.cell? ⟨w.heap.size + 2, 0, none⟩ = some (.int .i64 l) := (hb8.cell (p := ⟨w.heap.size + 2, 0, none⟩) l3).trans f3_0
      replace f3_1 : w8.cell? ⟨w.heap.size + 2, 1, none⟩ = some (.int .i64 m) := (hb8.cell (p := ⟨w.heap.size + 2, 1, none⟩) l3).trans f3_1
      replace f3_2 : w8.cell? ⟨w.heap.size + 2, 2, none⟩ = some (.int .i64 r) := (hb8.cell (p := ⟨w.heap.size + 2, 2, none⟩) l3).trans f3_2
      replace f3_3 : w8.cell? ⟨w.heap.size + 2, 3, none⟩ = some (.int .i64 s) := (hb8.cell (p := ⟨w.heap.size + 2, 3, none⟩) l3).trans f3_3
      replace f4_0 : w8.cell? ⟨w2.heap.size, 0, none⟩ = some (.int .i64 x) := (hb8.cell (p := ⟨w2.heap.size, 0, none⟩) l4).trans f4_0
      replace f4_1 : w8.cell? ⟨w2.heap.size, 1, none⟩ = some (.int .i64 y) := (hb8.cell (p := ⟨w2.heap.size, 1, none⟩) l4).trans f4_1
      replace f5_0 : w8.cell? ⟨w3.heap.size, 0, none⟩ = some (.int .i64 l') := (hb8.cell (p := ⟨w3.heap.size, 0, none⟩) l5).trans f5_0
      replace f5_1 : w8.cell? ⟨w3.heap.size, 1, none⟩ = some (.int .i64 m') := (hb8.cell (p := ⟨w3.heap.size, 1, none⟩) l5).trans f5_1
      replace f5_2 : w8.cell? ⟨w3.heap.size, 2, none⟩ = some (.int .i64 r') := (hb8.cell (p := ⟨w3.heap.size, 2, none⟩) l5).trans f5_2
      replace f5_3 : w8.cell? ⟨w3.heap.size, 3, none⟩ = some (.int .i64 s') := (hb8.cell (p := ⟨w3.heap.size, 3, none⟩) l5).trans f5_3
      replace l1 : w.heap.size < w8.heap.size := Nat.lt_of_lt_of_le l1 hb8.size
      replace l2 : w.heap.size + 1 < w8.heap.size := Nat.lt_of_lt_of_le l2 hb8.size
      replace l3 : w.heap.size + 2 < w8.heap.size := Nat.lt_of_lt_of_le l3 hb8.size
      replace l4 : w2.heap.size < w8.heap.size := Nat.lt_of_lt_of_le l4 hb8.size
      replace l5 : w3.heap.size < w8.heap.size := Nat.lt_of_lt_of_le l5 hb8.size
      replace hbel : Below w.heap.size w w8 := hbel.trans (hb8.mono hbel.size)
      clear hb8
      go_wp2_with fail
      refine (CheckProof_any a b c d l m r s v k HV.out _).mono ?_
      rintro e w9 ⟨rfl, hb9⟩
      replace f1_0 : w9.cell? ⟨w.heap.size, 0, none⟩ = some (.int .i64 a) := (hb9.cell (p := ⟨w.heap.size, 0, none⟩) l1).trans f1_0
      replace f1_1 : w9.cell? ⟨w.heap.size, 1, none⟩ = some (.int .i64 b) := (hb9.cell (p := ⟨w.heap.size, 1, none⟩) l1).trans f1_1
      replace f1_2 : w9.cell? ⟨w.heap.size, 2, none⟩ = some (.int .i64 c) := (hb9.cell (p := ⟨w.heap.size, 2, none⟩) l1).trans f1_2
      replace f1_3 : w9.cell? ⟨w.heap.size, 3, none⟩ = some (.int .i64 d) := (hb9.cell (p := ⟨w.heap.size, 3, none⟩) l1).trans f1_3
      replace f2_0 : w9.cell? ⟨w.heap.size + 1, 0, none⟩ = some (.int .i64 g) := (hb9.cell (p := ⟨w.heap.size + 1, 0, none⟩) l2).trans f2_0
      replace f2_1 : w9.cell? ⟨w.heap.size + 1, 1, none⟩ = some (.int .i64 h) := (hb9.cell (p := ⟨w.heap.size + 1, 1, none⟩) l2).trans f2_1
      replace f3_0 : w9.cell? ⟨w.heap.size + 2, 0, none⟩ = some (.int .i64 l) := (hb9.cell (p := ⟨w.heap.size + 2, 0, none⟩) l3).trans f3_0
      replace f3_1 : w9.cell? ⟨w.heap.size + 2, 1, none⟩ = some (.int .i64 m) := (hb9.cell (p := ⟨w.heap.size + 2, 1, none⟩) l3).trans f3_1
      replace f3_2 : w9.cell? ⟨w.heap.size + 2, 2, none⟩ = some (.int .i64 r) := (hb9.cell (p := ⟨w.heap.size + 2, 2, none⟩) l3).trans f3_2
      replace f3_3 : w9.cell? ⟨w.heap.size + 2, 3, none⟩ = some (.int .i64 s) := (hb9.cell (p := ⟨w.heap.size + 2, 3, none⟩) l3).trans f3_3
      replace f4_0 : w9.cell? ⟨w2.heap.size, 0, none⟩ = some (.int .i64 x) := (hb9.cell (p := ⟨w2.heap.size, 0, none⟩) l4).trans f4_0
      replace f4_1 : w9.cell? ⟨w2.heap.size, 1, none⟩ = some (.int .i64 y) := (hb9.cell (p := ⟨w2.heap.size, 1, none⟩) l4).trans f4_1
      replace f5_0 : w9.cell? ⟨w3.heap.size, 0, none⟩ = some (.int .i64 l') := (hb9.cell (p := ⟨w3.heap.size, 0, none⟩) l5).trans f5_0
      replace f5_1 : w9.cell? ⟨w3.heap.size, 1, none⟩ = some (.int .i64 m') := (hb9.cell (p := ⟨w3.heap.size, 1, none⟩) l5).trans f5_1
      replace f5_2 : w9.cell? ⟨w3.heap.size, 2, none⟩ = some (.int .i64 r') := (hb9.cell (p := ⟨w3.heap.size, 2, none⟩) l5).trans f5_2
      replace f5_3 : w9.cell? ⟨w3.heap.size, 3, none⟩ = some (.int .i64 s') := (hb9.cell (p := ⟨w3.heap.size, 3, none⟩) l5).trans f5_3
      replace l1 : w.heap.size < w9.heap.size := Nat.lt_of_lt_of_le l1 hb9.size
      replace l2 : w.heap.size + 1 < w9.heap.size := Nat.lt_of_lt_of_le l2 hb9.size
      replace l3 : w.heap.size + 2 < w9.heap.size := Nat.lt_of_lt_of_le l3 hb9.size
      replace l4 : w2.heap.size < w9.heap.size := Nat.lt_of_lt_of_le l4 hb9.size
      replace l5 : w3.heap.size < w9.heap.size := Nat.lt_of_lt_of_le l5 hb9.size
      replace hbel : Below w.heap.size w w9 := hbel.trans (hb9.mono hbel.size)
      clear hb9
      by_cases hk : k = 0
      · subst hk
        have hvy := chk_le HS.out HL.out HV.out
        go_wp2_with fail
        refine (Works_any _).mono ?_
        rintro e w10 ⟨rfl, hb10⟩
        replace f1_0 : w10.cell? ⟨w.heap.size, 0, none⟩ = some (.int .i64 a) := (hb10.cell (p := ⟨w.heap.size, 0, none⟩) l1).trans f1_0
        replace f1_1 : w10.cell? ⟨w.heap.size, 1, none⟩ = some (.int .i64 b) := (hb10.cell (p := ⟨w.heap.size, 1, none⟩) l1).trans f1_1
        replace f1_2 : w10.cell? ⟨w.heap.size, 2, none⟩ = some (.int .i64 c) := (hb10.cell (p := ⟨w.heap.size, 2, none⟩) l1).trans f1_2
        replace f1_3 : w10.cell? ⟨w.heap.size, 3, none⟩ = some (.int .i64 d) := (hb10.cell (p := ⟨w.heap.size, 3, none⟩) l1).trans f1_3
        replace f2_0 : w10.cell? ⟨w.heap.size + 1, 0, none⟩ = some (.int .i64 g) := (hb10.cell (p := ⟨w.heap.size + 1, 0, none⟩) l2).trans f2_0
        replace f2_1 : w10.cell? ⟨w.heap.size + 1, 1, none⟩ = some (.int .i64 h) := (hb10.cell (p := ⟨w.heap.size + 1, 1, none⟩) l2).trans f2_1
        replace f3_0 : w10.cell? ⟨w.heap.size + 2, 0, none⟩ = some (.int .i64 l) := (hb10.cell (p := ⟨w.heap.size + 2, 0, none⟩) l3).trans f3_0
        replace f3_1 : w10.cell? ⟨w.heap.size + 2, 1, none⟩ = some (.int .i64 m) := (hb10.cell (p := ⟨w.heap.size + 2, 1, none⟩) l3).trans f3_1
        replace f3_2 : w10.cell? ⟨w.heap.size + 2, 2, none⟩ = some (.int .i64 r) := (hb10.cell (p := ⟨w.heap.size + 2, 2, none⟩) l3).trans f3_2
        replace f3_3 : w10.cell? ⟨w.heap.size + 2, 3, none⟩ = some (.int .i64 s) := (hb10.cell (p := ⟨w.heap.size + 2, 3, none⟩) l3).trans f3_3
        replace f4_0 : w10.cell? ⟨w2.heap.size, 0, none⟩ = some (.int .i64 x) := (hb10.cell (p := ⟨w2.heap.size, 0, none⟩) l4).trans f4_0
        replace f4_1 : w10.cell? ⟨w2.heap.size, 1, none⟩ = some (.int .i64 y) := (hb10.cell (p := ⟨w2.heap.size, 1, none⟩) l4).trans f4_1
        replace f5_0 : w10.cell? ⟨w3.heap.size, 0, none⟩ = some (.int .i64 l') := (hb10.cell (p := ⟨w3.heap.size, 0, none⟩) l5).trans f5_0
        replace f5_1 : w10.cell? ⟨w3.heap.size, 1, none⟩ = some (.int .i64 m') := (hb10.cell (p := ⟨w3.heap.size, 1, none⟩) l5).trans f5_1
        replace f5_2 : w10.cell? ⟨w3.heap.size, 2, none⟩ = some (.int .i64 r') := (hb10.cell (p := ⟨w3.heap.size, 2, none⟩) l5).trans f5_2
        replace f5_3 : w10.cell? ⟨w3.heap.size, 3, none⟩ = some (.int .i64 s') := (hb10.cell (p := ⟨w3.heap.size, 3, none⟩) l5).trans f5_3
        replace l1 : w.heap.size < w10.heap.size := Nat.lt_of_lt_of_le l1 hb10.size
        replace l2 : w.heap.size + 1 < w10.heap.size := Nat.lt_of_lt_of_le l2 hb10.size
        replace l3 : w.heap.size + 2 < w10.heap.size := Nat.lt_of_lt_of_le l3 hb10.size
        replace l4 : w2.heap.size < w10.heap.size := Nat.lt_of_lt_of_le l4 hb10.size
        replace l5 : w3.heap.size < w10.heap.size := Nat.lt_of_lt_of_le l5 hb10.size
        replace hbel : Below w.heap.size w w10 := hbel.trans (hb10.mono hbel.size)
        clear hb10
        go_wp2_with fail
        go_ret
        exact ⟨rfl, hbel⟩
      · have hk2 : (k != 0) = true := bne_iff_ne.2 hk
        clear hk
        go_wp2_with fail
        refine (Works_any _).mono ?_
        rintro e w10 ⟨rfl, hb10⟩
        replace f1_0 : w10.cell? ⟨w.heap.size, 0, none⟩ = some (.int .i64 a) := (hb10.cell (p := ⟨w.heap.size, 0, none⟩) l1).trans f1_0
        replace f1_1 : w10.cell? ⟨w.heap.size, 1, none⟩ = some (.int .i64 b) := (hb10.cell (p := ⟨w.heap.size, 1, none⟩) l1).trans f1_1
        replace f1_2 : w10.cell? ⟨w.heap.size, 2, none⟩ = some (.int .i64 c) := (hb10.cell (p := ⟨w.heap.size, 2, none⟩) l1).trans f1_2
        replace f1_3 : w10.cell? ⟨w.heap.size, 3, none⟩ = some (.int .i64 d) := (hb10.cell (p := ⟨w.heap.size, 3, none⟩) l1).trans f1_3
        replace f2_0 : w10.cell? ⟨w.heap.size + 1, 0, none⟩ = some (.int .i64 g) := (hb10.cell (p := ⟨w.heap.size + 1, 0, none⟩) l2).trans f2_0
        replace f2_1 : w10.cell? ⟨w.heap.size + 1, 1, none⟩ = some (.int .i64 h) := (hb10.cell (p := ⟨w.heap.size + 1, 1, none⟩) l2).trans f2_1
        replace f3_0 : w10.cell? ⟨w.heap.size + 2, 0, none⟩ = some (.int .i64 l) := (hb10.cell (p := ⟨w.heap.size + 2, 0, none⟩) l3).trans f3_0
        replace f3_1 : w10.cell? ⟨w.heap.size + 2, 1, none⟩ = some (.int .i64 m) := (hb10.cell (p := ⟨w.heap.size + 2, 1, none⟩) l3).trans f3_1
        replace f3_2 : w10.cell? ⟨w.heap.size + 2, 2, none⟩ = some (.int .i64 r) := (hb10.cell (p := ⟨w.heap.size + 2, 2, none⟩) l3).trans f3_2
        replace f3_3 : w10.cell? ⟨w.heap.size + 2, 3, none⟩ = some (.int .i64 s) := (hb10.cell (p := ⟨w.heap.size + 2, 3, none⟩) l3).trans f3_3
        replace f4_0 : w10.cell? ⟨w2.heap.size, 0, none⟩ = some (.int .i64 x) := (hb10.cell (p := ⟨w2.heap.size, 0, none⟩) l4).trans f4_0
        replace f4_1 : w10.cell? ⟨w2.heap.size, 1, none⟩ = some (.int .i64 y) := (hb10.cell (p := ⟨w2.heap.size, 1, none⟩) l4).trans f4_1
        replace f5_0 : w10.cell? ⟨w3.heap.size, 0, none⟩ = some (.int .i64 l') := (hb10.cell (p := ⟨w3.heap.size, 0, none⟩) l5).trans f5_0
        replace f5_1 : w10.cell? ⟨w3.heap.size, 1, none⟩ = some (.int .i64 m') := (hb10.cell (p := ⟨w3.heap.size, 1, none⟩) l5).trans f5_1
        replace f5_2 : w10.cell? ⟨w3.heap.size, 2, none⟩ = some (.int .i64 r') := (hb10.cell (p := ⟨w3.heap.size, 2, none⟩) l5).trans f5_2
        replace f5_3 : w10.cell? ⟨w3.heap.size, 3, none⟩ = some (.int .i64 s') := (hb10.cell (p := ⟨w3.heap.size, 3, none⟩) l5).trans f5_3
        replace l1 : w.heap.size < w10.heap.size := Nat.lt_of_lt_of_le l1 hb10.size
        replace l2 : w.heap.size + 1 < w10.heap.size := Nat.lt_of_lt_of_le l2 hb10.size
        replace l3 : w.heap.size + 2 < w10.heap.size := Nat.lt_of_lt_of_le l3 hb10.size
        replace l4 : w2.heap.size < w10.heap.size := Nat.lt_of_lt_of_le l4 hb10.size
        replace l5 : w3.heap.size < w10.heap.size := Nat.lt_of_lt_of_le l5 hb10.size
        replace hbel : Below w.heap.size w w10 := hbel.trans (hb10.mono hbel.size)
        clear hb10
        go_wp2_with fail
        go_ret
        exact ⟨rfl, hbel⟩
  · have HD := Lib.hid (decide_eq_false hS)
    clear hS
    go_enter Try.func7, Try.ntmps7
    go_wp2_with fail
    refine (fine_any a b c d false HD.out _).mono ?_
    rintro e w1 ⟨rfl, hb1⟩
    have hx : Below w.heap.size w w1 := (((((Below.refl _ _).alloc (Nat.le_refl _) _).alloc (by simp) _).alloc (by simp; omega) _) : Below w.heap.size w (((w.alloc (.cells #[.int .i64 a, .int .i64 b, .int .i64 c, .int .i64 d] 25)).alloc (.cells #[.int .i64 g, .int .i64 h] 23)).alloc (.cells #[.int .i64 l, .int .i64 m, .int .i64 r, .int .i64 s] 37))).trans (hb1.mono (by simp; omega))
    have f1_0 : w1.cell? ⟨w.heap.size, 0, none⟩ = some (.int .i64 a) := (hb1.cell (p := ⟨w.heap.size, 0, none⟩) (by (try simp) <;> omega)).trans (by simp [go_sem])
    have f1_1 : w1.cell? ⟨w.heap.size, 1, none⟩ = some (.int .i64 b) := (hb1.cell (p := ⟨w.heap.size, 1, none⟩) (by (try simp) <;> omega)).trans (by simp [go_sem])
    have f1_2 : w1.cell? ⟨w.heap.size, 2, none⟩ = some (.int .i64 c) := (hb1.cell (p := ⟨w.heap.size, 2, none⟩) (by (try simp) <;> omega)).trans (by simp [go_sem])
    have f1_3 : w1.cell? ⟨w.heap.size, 3, none⟩ = some (.int .i64 d) := (hb1.cell (p := ⟨w.heap.size, 3, none⟩) (by (try simp) <;> omega)).trans (by simp [go_sem])
    have l1 : w.heap.size < w1.heap.size := by have := hb1.size; simp at this; omega
    have f2_0 : w1.cell? ⟨w.heap.size + 1, 0, none⟩ = some (.int .i64 g) := (hb1.cell (p := ⟨w.heap.size + 1, 0, none⟩) (by (try simp) <;> omega)).trans (by simp [go_sem])
    have f2_1 : w1.cell? ⟨w.heap.size + 1, 1, none⟩ = some (.int .i64 h) := (hb1.cell (p := ⟨w.heap.size + 1, 1, none⟩) (by (try simp) <;> omega)).trans (by simp [go_sem])
    have l2 : w.heap.size + 1 < w1.heap.size := by have := hb1.size; simp at this; omega
    have f3_0 : w1.cell? ⟨w.heap.size + 2, 0, none⟩ = some (.int .i64 l) := (hb1.cell (p := ⟨w.heap.size + 2, 0, none⟩) (by simp)).trans (by simp [go_sem])
    have f3_1 : w1.cell? ⟨w.heap.size + 2, 1, none⟩ = some (.int .i64 m) := (hb1.cell (p := ⟨w.heap.size + 2, 1, none⟩) (by simp)).trans (by simp [go_sem])
    have f3_2 : w1.cell? ⟨w.heap.size + 2, 2, none⟩ = some (.int .i64 r) := (hb1.cell (p := ⟨w.heap.size + 2, 2, none⟩) (by simp)).trans (by simp [go_sem])
    have f3_3 : w1.cell? ⟨w.heap.size + 2, 3, none⟩ = some (.int .i64 s) := (hb1.cell (p := ⟨w.heap.size + 2, 3, none⟩) (by simp)).trans (by simp [go_sem])
    have l3 : w.heap.size + 2 < w1.heap.size := by have := hb1.size; simp at this; omega
    have hbel : Below w.heap.size w w1 := hx
    clear hx
    clear hb1
    go_wp2_with fail
    refine (Works_any _).mono ?_
    rintro e w2 ⟨rfl, hb2⟩
    replace f1_0 : w2.cell? ⟨w.heap.size, 0, none⟩ = some (.int .i64 a) := (hb2.cell (p := ⟨w.heap.size, 0, none⟩) l1).trans f1_0
    replace f1_1 : w2.cell? ⟨w.heap.size, 1, none⟩ = some (.int .i64 b) := (hb2.cell (p := ⟨w.heap.size, 1, none⟩) l1).trans f1_1
    replace f1_2 : w2.cell? ⟨w.heap.size, 2, none⟩ = some (.int .i64 c) := (hb2.cell (p := ⟨w.heap.size, 2, none⟩) l1).trans f1_2
    replace f1_3 : w2.cell? ⟨w.heap.size, 3, none⟩ = some (.int .i64 d) := (hb2.cell (p := ⟨w.heap.size, 3, none⟩) l1).trans f1_3
    replace f2_0 : w2.cell? ⟨w.heap.size + 1, 0, none⟩ = some (.int .i64 g) := (hb2.cell (p := ⟨w.heap.size + 1, 0, none⟩) l2).trans f2_0
    replace f2_1 : w2.cell? ⟨w.heap.size + 1, 1, none⟩ = some (.int .i64 h) := (hb2.cell (p := ⟨w.heap.size + 1, 1, none⟩) l2).trans f2_1
    replace f3_0 : w2.cell? ⟨w.heap.size + 2, 0, none⟩ = some (.int .i64 l) := (hb2.cell (p := ⟨w.heap.size + 2, 0, none⟩) l3).trans f3_0
    replace f3_1 : w2.cell? ⟨w.heap.size + 2, 1, none⟩ = some (.int .i64 m) := (hb2.cell (p := ⟨w.heap.size + 2, 1, none⟩) l3).trans f3_1
    replace f3_2 : w2.cell? ⟨w.heap.size + 2, 2, none⟩ = some (.int .i64 r) := (hb2.cell (p := ⟨w.heap.size + 2, 2, none⟩) l3).trans f3_2
    replace f3_3 : w2.cell? ⟨w.heap.size + 2, 3, none⟩ = some (.int .i64 s) := (hb2.cell (p := ⟨w.heap.size + 2, 3, none⟩) l3).trans f3_3
    replace l1 : w.heap.size < w2.heap.size := Nat.lt_of_lt_of_le l1 hb2.size
    replace l2 : w.heap.size + 1 < w2.heap.size := Nat.lt_of_lt_of_le l2 hb2.size
    replace l3 : w.heap.size + 2 < w2.heap.size := Nat.lt_of_lt_of_le l3 hb2.size
    replace hbel : Below w.heap.size w w2 := hbel.trans (hb2.mono hbel.size)
    clear hb2
    go_wp2_with fail
    go_ret
    exact ⟨rfl, hbel⟩
end Go.Proofs.Ytbdjllgngblfoaa
