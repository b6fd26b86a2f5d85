import Derived.Test.YtbdjllgngblfoaaUz
import Derived.Deep.RegionHeld3
namespace Go.Proofs.Ytbdjllgngblfoaa
set_option linter.unusedVariables false
set_option linter.unusedSimpArgs false
open Go.RowKit

theorem sl3 (w : World) (a b c : Int) (T : TypeId) : Sl (w.alloc (.cells #[.int .i64 a, .int .i64 b, .int .i64 c] T)) (.slice (some ⟨w.heap.size, 0, none⟩) 3 3) [a, b, c] :=
  .inr ⟨w.heap.size, 0, 3, rfl, by simp, fun i hi => by
    match i, hi with
    | 0, _ => simp [go_sem]
    | 1, _ => simp [go_sem]
    | 2, _ => simp [go_sem]
    | k + 3, h => exact absurd h (by simp)⟩
theorem sl2 (w : World) (a b : Int) (T : TypeId) : Sl (w.alloc (.cells #[.int .i64 a, .int .i64 b] T)) (.slice (some ⟨w.heap.size, 0, none⟩) 2 2) [a, b] :=
  .inr ⟨w.heap.size, 0, 2, rfl, by simp, fun i hi => by
    match i, hi with
    | 0, _ => simp [go_sem]
    | 1, _ => simp [go_sem]
    | k + 2, h => exact absurd h (by simp)⟩
theorem sl1 (w : World) (a : Int) (T : TypeId) : Sl (w.alloc (.cells #[.int .i64 a] T)) (.slice (some ⟨w.heap.size, 0, none⟩) 1 1) [a] :=
  .inr ⟨w.heap.size, 0, 1, rfl, by simp, fun i hi => by
    match i, hi with
    | 0, _ => simp [go_sem]
    | k + 1, h => exact absurd h (by simp)⟩

theorem keepW {k B1 B2 B3 B4 B5 B6 : Nat} {W0 W w' : World} {p : Value} {L : List Int} {v0 v1 v2 v3 v4 v5 v6 v7 v8 v9 v10 v11 v12 v13 v14 v15 : Option Value} (qB1 : B1 < k) (qB2 : B2 < k) (qB3 : B3 < k) (qB4 : B4 < k) (qB5 : B5 < k) (qB6 : B6 < k)
    (h : Hold k W0 W ∧ Sl W p L ∧ W.cell? ⟨B1, 0, none⟩ = v0 ∧ W.cell? ⟨B1, 1, none⟩ = v1 ∧ W.cell? ⟨B1, 2, none⟩ = v2 ∧ W.cell? ⟨B1, 3, none⟩ = v3 ∧ W.cell? ⟨B2, 0, none⟩ = v4 ∧ W.cell? ⟨B2, 1, none⟩ = v5 ∧ W.cell? ⟨B2, 2, none⟩ = v6 ∧ W.cell? ⟨B2, 3, none⟩ = v7 ∧ W.cell? ⟨B3, 0, none⟩ = v8 ∧ W.cell? ⟨B3, 1, none⟩ = v9 ∧ W.cell? ⟨B4, 0, none⟩ = v10 ∧ W.cell? ⟨B4, 1, none⟩ = v11 ∧ W.cell? ⟨B5, 0, none⟩ = v12 ∧ W.cell? ⟨B5, 1, none⟩ = v13 ∧ W.cell? ⟨B6, 0, none⟩ = v14 ∧ W.cell? ⟨B6, 1, none⟩ = v15) (hb : Below W.heap.size W w') : Hold k W0 w' ∧ Sl w' p L ∧ w'.cell? ⟨B1, 0, none⟩ = v0 ∧ w'.cell? ⟨B1, 1, none⟩ = v1 ∧ w'.cell? ⟨B1, 2, none⟩ = v2 ∧ w'.cell? ⟨B1, 3, none⟩ = v3 ∧ w'.cell? ⟨B2, 0, none⟩ = v4 ∧ w'.cell? ⟨B2, 1, none⟩ = v5 ∧ w'.cell? ⟨B2, 2, none⟩ = v6 ∧ w'.cell? ⟨B2, 3, none⟩ = v7 ∧ w'.cell? ⟨B3, 0, none⟩ = v8 ∧ w'.cell? ⟨B3, 1, none⟩ = v9 ∧ w'.cell? ⟨B4, 0, none⟩ = v10 ∧ w'.cell? ⟨B4, 1, none⟩ = v11 ∧ w'.cell? ⟨B5, 0, none⟩ = v12 ∧ w'.cell? ⟨B5, 1, none⟩ = v13 ∧ w'.cell? ⟨B6, 0, none⟩ = v14 ∧ w'.cell? ⟨B6, 1, none⟩ = v15 := by
  obtain ⟨hh, hs, h_f1_0, h_f1_1, h_f1_2, h_f1_3, h_f2_0, h_f2_1, h_f2_2, h_f2_3, h_f3_0, h_f3_1, h_f4_0, h_f4_1, h_f6_0, h_f6_1, h_f7_0, h_f7_1⟩ := h
  exact ⟨hh.next hb, hs.next hb, (hb.cell (p := ⟨B1, 0, none⟩) (Nat.lt_of_lt_of_le qB1 hh.1)).trans h_f1_0, (hb.cell (p := ⟨B1, 1, none⟩) (Nat.lt_of_lt_of_le qB1 hh.1)).trans h_f1_1, (hb.cell (p := ⟨B1, 2, none⟩) (Nat.lt_of_lt_of_le qB1 hh.1)).trans h_f1_2, (hb.cell (p := ⟨B1, 3, none⟩) (Nat.lt_of_lt_of_le qB1 hh.1)).trans h_f1_3, (hb.cell (p := ⟨B2, 0, none⟩) (Nat.lt_of_lt_of_le qB2 hh.1)).trans h_f2_0, (hb.cell (p := ⟨B2, 1, none⟩) (Nat.lt_of_lt_of_le qB2 hh.1)).trans h_f2_1, (hb.cell (p := ⟨B2, 2, none⟩) (Nat.lt_of_lt_of_le qB2 hh.1)).trans h_f2_2, (hb.cell (p := ⟨B2, 3, none⟩) (Nat.lt_of_lt_of_le qB2 hh.1)).trans h_f2_3, (hb.cell (p := ⟨B3, 0, none⟩) (Nat.lt_of_lt_of_le qB3 hh.1)).trans h_f3_0, (hb.cell (p := ⟨B3, 1, none⟩) (Nat.lt_of_lt_of_le qB3 hh.1)).trans h_f3_1, (hb.cell (p := ⟨B4, 0, none⟩) (Nat.lt_of_lt_of_le qB4 hh.1)).trans h_f4_0, (hb.cell (p := ⟨B4, 1, none⟩) (Nat.lt_of_lt_of_le qB4 hh.1)).trans h_f4_1, (hb.cell (p := ⟨B5, 0, none⟩) (Nat.lt_of_lt_of_le qB5 hh.1)).trans h_f6_0, (hb.cell (p := ⟨B5, 1, none⟩) (Nat.lt_of_lt_of_le qB5 hh.1)).trans h_f6_1, (hb.cell (p := ⟨B6, 0, none⟩) (Nat.lt_of_lt_of_le qB6 hh.1)).trans h_f7_0, (hb.cell (p := ⟨B6, 1, none⟩) (Nat.lt_of_lt_of_le qB6 hh.1)).trans h_f7_1⟩
theorem slW {k : Nat} {W0 w' : World} {v : Value} {L : List Int} {Q : Prop} (h : Hold k W0 w' ∧ Sl w' v L ∧ Q) : Sl w' v L := h.2.1

set_option maxRecDepth 100000 in
set_option maxHeartbeats 8000000 in
theorem Works_any (w : World) : Calls Try.prog 16 #[] w fun e w' => e = .returned (.bool true) ∧ Below w.heap.size w w' := by
  go_enter Try.func16, Try.ntmps16
  go_wp2_with fail
  refine (Span_any 2 1 5 2 _).mono ?_
  rintro e w1 ⟨rfl, hb1⟩
  have hbel : Below w.heap.size w w1 := hb1
  clear hb1
  go_wp2_with fail
  refine (Decrees_any _).mono ?_
  rintro e w2 ⟨⟨v1, rfl, hs1⟩, hb2⟩
  replace hbel : Below w.heap.size w w2 := hbel.trans (hb2.mono hbel.size)
  clear hb2
  go_wp2_with fail
  refine (carry_ex _ _ hs1).mono ?_
  rintro e w3 ⟨rfl, hb3⟩
  replace hbel : Below w.heap.size w w3 := hbel.trans (hb3.mono hbel.size)
  clear hb3
  go_wp2_with fail
  refine (Span_any 15 1 20 1 _).mono ?_
  rintro e w4 ⟨rfl, hb4⟩
  have hx : Below w3.heap.size w3 w4 := (((Below.refl _ _).alloc (Nat.le_refl _) _) : Below w3.heap.size w3 (w3.alloc (.cells #[.int .i64 15, .int .i64 1, .int .i64 20, .int .i64 1] 25))).trans (hb4.mono (by simp))
  have f1_0 : w4.cell? ⟨w3.heap.size, 0, none⟩ = some (.int .i64 15) := (hb4.cell (p := ⟨w3.heap.size, 0, none⟩) (by simp)).trans (by simp [go_sem])
  have f1_1 : w4.cell? ⟨w3.heap.size, 1, none⟩ = some (.int .i64 1) := (hb4.cell (p := ⟨w3.heap.size, 1, none⟩) (by simp)).trans (by simp [go_sem])
  have f1_2 : w4.cell? ⟨w3.heap.size, 2, none⟩ = some (.int .i64 20) := (hb4.cell (p := ⟨w3.heap.size, 2, none⟩) (by simp)).trans (by simp [go_sem])
  have f1_3 : w4.cell? ⟨w3.heap.size, 3, none⟩ = some (.int .i64 1) := (hb4.cell (p := ⟨w3.heap.size, 3, none⟩) (by simp)).trans (by simp [go_sem])
  have l1 : w3.heap.size < w4.heap.size := by have := hb4.size; simp at this; omega
  replace hbel : Below w.heap.size w w4 := hbel.trans (hx.mono hbel.size)
  clear hx
  clear hb4
  go_wp2_with fail
  refine (Decrees_any _).mono ?_
  rintro e w5 ⟨⟨v2, rfl, hs2⟩, hb5⟩
  replace f1_0 : w5.cell? ⟨w3.heap.size, 0, none⟩ = some (.int .i64 15) := (hb5.cell (p := ⟨w3.heap.size, 0, none⟩) l1).trans f1_0
  replace f1_1 : w5.cell? ⟨w3.heap.size, 1, none⟩ = some (.int .i64 1) := (hb5.cell (p := ⟨w3.heap.size, 1, none⟩) l1).trans f1_1
  replace f1_2 : w5.cell? ⟨w3.heap.size, 2, none⟩ = some (.int .i64 20) := (hb5.cell (p := ⟨w3.heap.size, 2, none⟩) l1).trans f1_2
  replace f1_3 : w5.cell? ⟨w3.heap.size, 3, none⟩ = some (.int .i64 1) := (hb5.cell (p := ⟨w3.heap.size, 3, none⟩) l1).trans f1_3
  replace l1 : w3.heap.size < w5.heap.size := Nat.lt_of_lt_of_le l1 hb5.size
  replace hbel : Below w.heap.size w w5 := hbel.trans (hb5.mono hbel.size)
  clear hb5
  go_wp2_with fail
  refine (back_ex _ _ hs2).mono ?_
  rintro e w6 ⟨rfl, hb6⟩
  replace f1_0 : w6.cell? ⟨w3.heap.size, 0, none⟩ = some (.int .i64 15) := (hb6.cell (p := ⟨w3.heap.size, 0, none⟩) l1).trans f1_0
  replace f1_1 : w6.cell? ⟨w3.heap.size, 1, none⟩ = some (.int .i64 1) := (hb6.cell (p := ⟨w3.heap.size, 1, none⟩) l1).trans f1_1
  replace f1_2 : w6.cell? ⟨w3.heap.size, 2, none⟩ = some (.int .i64 20) := (hb6.cell (p := ⟨w3.heap.size, 2, none⟩) l1).trans f1_2
  replace f1_3 : w6.cell? ⟨w3.heap.size, 3, none⟩ = some (.int .i64 1) := (hb6.cell (p := ⟨w3.heap.size, 3, none⟩) l1).trans f1_3
  replace l1 : w3.heap.size < w6.heap.size := Nat.lt_of_lt_of_le l1 hb6.size
  replace hbel : Below w.heap.size w w6 := hbel.trans (hb6.mono hbel.size)
  clear hb6
  go_wp2_with fail
  refine (Span_any 3 10 1 3 _).mono ?_
  rintro e w7 ⟨rfl, hb7⟩
  have hx : Below w6.heap.size w6 w7 := (((Below.refl _ _).alloc (Nat.le_refl _) _) : Below w6.heap.size w6 (w6.alloc (.cells #[.int .i64 15, .int .i64 8, .int .i64 8, .int .i64 3] 25))).trans (hb7.mono (by simp))
  have f2_0 : w7.cell? ⟨w6.heap.size, 0, none⟩ = some (.int .i64 15) := (hb7.cell (p := ⟨w6.heap.size, 0, none⟩) (by simp)).trans (by simp [go_sem])
  have f2_1 : w7.cell? ⟨w6.heap.size, 1, none⟩ = some (.int .i64 8) := (hb7.cell (p := ⟨w6.heap.size, 1, none⟩) (by simp)).trans (by simp [go_sem])
  have f2_2 : w7.cell? ⟨w6.heap.size, 2, none⟩ = some (.int .i64 8) := (hb7.cell (p := ⟨w6.heap.size, 2, none⟩) (by simp)).trans (by simp [go_sem])
  have f2_3 : w7.cell? ⟨w6.heap.size, 3, none⟩ = some (.int .i64 3) := (hb7.cell (p := ⟨w6.heap.size, 3, none⟩) (by simp)).trans (by simp [go_sem])
  have l2 : w6.heap.size < w7.heap.size := by have := hb7.size; simp at this; omega
  replace f1_0 : w7.cell? ⟨w3.heap.size, 0, none⟩ = some (.int .i64 15) := (hx.cell (p := ⟨w3.heap.size, 0, none⟩) l1).trans f1_0
  replace f1_1 : w7.cell? ⟨w3.heap.size, 1, none⟩ = some (.int .i64 1) := (hx.cell (p := ⟨w3.heap.size, 1, none⟩) l1).trans f1_1
  replace f1_2 : w7.cell? ⟨w3.heap.size, 2, none⟩ = some (.int .i64 20) := (hx.cell (p := ⟨w3.heap.size, 2, none⟩) l1).trans f1_2
  replace f1_3 : w7.cell? ⟨w3.heap.size, 3, none⟩ = some (.int .i64 1) := (hx.cell (p := ⟨w3.heap.size, 3, none⟩) l1).trans f1_3
  replace l1 : w3.heap.size < w7.heap.size := Nat.lt_of_lt_of_le l1 hx.size
  replace hbel : Below w.heap.size w w7 := hbel.trans (hx.mono hbel.size)
  clear hx
  clear hb7
  go_wp2_with fail
  refine (simp_ex1 _).mono ?_
  rintro e w8 ⟨rfl, hb8⟩
  replace f1_0 : w8.cell? ⟨w3.heap.size, 0, none⟩ = some (.int .i64 15) := (hb8.cell (p := ⟨w3.heap.size, 0, none⟩) l1).trans f1_0
  replace f1_1 : w8.cell? ⟨w3.heap.size, 1, none⟩ = some (.int .i64 1) := (hb8.cell (p := ⟨w3.heap.size, 1, none⟩) l1).trans f1_1
  replace f1_2 : w8.cell? ⟨w3.heap.size, 2, none⟩ = some (.int .i64 20) := (hb8.cell (p := ⟨w3.heap.size, 2, none⟩) l1).trans f1_2
  replace f1_3 : w8.cell? ⟨w3.heap.size, 3, none⟩ = some (.int .i64 1) := (hb8.cell (p := ⟨w3.heap.size, 3, none⟩) l1).trans f1_3
  replace f2_0 : w8.cell? ⟨w6.heap.size, 0, none⟩ = some (.int .i64 15) := (hb8.cell (p := ⟨w6.heap.size, 0, none⟩) l2).trans f2_0
  replace f2_1 : w8.cell? ⟨w6.heap.size, 1, none⟩ = some (.int .i64 8) := (hb8.cell (p := ⟨w6.heap.size, 1, none⟩) l2).trans f2_1
  replace f2_2 : w8.cell? ⟨w6.heap.size, 2, none⟩ = some (.int .i64 8) := (hb8.cell (p := ⟨w6.heap.size, 2, none⟩) l2).trans f2_2
  replace f2_3 : w8.cell? ⟨w6.heap.size, 3, none⟩ = some (.int .i64 3) := (hb8.cell (p := ⟨w6.heap.size, 3, none⟩) l2).trans f2_3
  replace l1 : w3.heap.size < w8.heap.size := Nat.lt_of_lt_of_le l1 hb8.size
  replace l2 : w6.heap.size < w8.heap.size := Nat.lt_of_lt_of_le l2 hb8.size
  replace hbel : Below w.heap.size w w8 := hbel.trans (hb8.mono hbel.size)
  clear hb8
  go_wp2_with fail
  refine (Span_any 31 100 8 25 _).mono ?_
  rintro e w9 ⟨rfl, hb9⟩
  have hx : Below w8.heap.size w8 w9 := (((Below.refl _ _).alloc (Nat.le_refl _) _) : Below w8.heap.size w8 (w8.alloc (.cells #[.int .i64 1, .int .i64 3] 23))).trans (hb9.mono (by simp))
  have f3_0 : w9.cell? ⟨w8.heap.size, 0, none⟩ = some (.int .i64 1) := (hb9.cell (p := ⟨w8.heap.size, 0, none⟩) (by simp)).trans (by simp [go_sem])
  have f3_1 : w9.cell? ⟨w8.heap.size, 1, none⟩ = some (.int .i64 3) := (hb9.cell (p := ⟨w8.heap.size, 1, none⟩) (by simp)).trans (by simp [go_sem])
  have l3 : w8.heap.size < w9.heap.size := by have := hb9.size; simp at this; omega
  replace f1_0 : w9.cell? ⟨w3.heap.size, 0, none⟩ = some (.int .i64 15) := (hx.cell (p := ⟨w3.heap.size, 0, none⟩) l1).trans f1_0
  replace f1_1 : w9.cell? ⟨w3.heap.size, 1, none⟩ = some (.int .i64 1) := (hx.cell (p := ⟨w3.heap.size, 1, none⟩) l1).trans f1_1
  replace f1_2 : w9.cell? ⟨w3.heap.size, 2, none⟩ = some (.int .i64 20) := (hx.cell (p := ⟨w3.heap.size, 2, none⟩) l1).trans f1_2
  replace f1_3 : w9.cell? ⟨w3.heap.size, 3, none⟩ = some (.int .i64 1) := (hx.cell (p := ⟨w3.heap.size, 3, none⟩) l1).trans f1_3
  replace f2_0 : w9.cell? ⟨w6.heap.size, 0, none⟩ = some (.int .i64 15) := (hx.cell (p := ⟨w6.heap.size, 0, none⟩) l2).trans f2_0
  replace f2_1 : w9.cell? ⟨w6.heap.size, 1, none⟩ = some (.int .i64 8) := (hx.cell (p := ⟨w6.heap.size, 1, none⟩) l2).trans f2_1
  replace f2_2 : w9.cell? ⟨w6.heap.size, 2, none⟩ = some (.int .i64 8) := (hx.cell (p := ⟨w6.heap.size, 2, none⟩) l2).trans f2_2
  replace f2_3 : w9.cell? ⟨w6.heap.size, 3, none⟩ = some (.int .i64 3) := (hx.cell (p := ⟨w6.heap.size, 3, none⟩) l2).trans f2_3
  replace l1 : w3.heap.size < w9.heap.size := Nat.lt_of_lt_of_le l1 hx.size
  replace l2 : w6.heap.size < w9.heap.size := Nat.lt_of_lt_of_le l2 hx.size
  replace hbel : Below w.heap.size w w9 := hbel.trans (hx.mono hbel.size)
  clear hx
  clear hb9
  go_wp2_with fail
  refine (simp_ex2 _).mono ?_
  rintro e w10 ⟨rfl, hb10⟩
  replace f1_0 : w10.cell? ⟨w3.heap.size, 0, none⟩ = some (.int .i64 15) := (hb10.cell (p := ⟨w3.heap.size, 0, none⟩) l1).trans f1_0
  replace f1_1 : w10.cell? ⟨w3.heap.size, 1, none⟩ = some (.int .i64 1) := (hb10.cell (p := ⟨w3.heap.size, 1, none⟩) l1).trans f1_1
  replace f1_2 : w10.cell? ⟨w3.heap.size, 2, none⟩ = some (.int .i64 20) := (hb10.cell (p := ⟨w3.heap.size, 2, none⟩) l1).trans f1_2
  replace f1_3 : w10.cell? ⟨w3.heap.size, 3, none⟩ = some (.int .i64 1) := (hb10.cell (p := ⟨w3.heap.size, 3, none⟩) l1).trans f1_3
  replace f2_0 : w10.cell? ⟨w6.heap.size, 0, none⟩ = some (.int .i64 15) := (hb10.cell (p := ⟨w6.heap.size, 0, none⟩) l2).trans f2_0
  replace f2_1 : w10.cell? ⟨w6.heap.size, 1, none⟩ = some (.int .i64 8) := (hb10.cell (p := ⟨w6.heap.size, 1, none⟩) l2).trans f2_1
  replace f2_2 : w10.cell? ⟨w6.heap.size, 2, none⟩ = some (.int .i64 8) := (hb10.cell (p := ⟨w6.heap.size, 2, none⟩) l2).trans f2_2
  replace f2_3 : w10.cell? ⟨w6.heap.size, 3, none⟩ = some (.int .i64 3) := (hb10.cell (p := ⟨w6.heap.size, 3, none⟩) l2).trans f2_3
  replace f3_0 : w10.cell? ⟨w8.heap.size, 0, none⟩ = some (.int .i64 1) := (hb10.cell (p := ⟨w8.heap.size, 0, none⟩) l3).trans f3_0
  replace f3_1 : w10.cell? ⟨w8.heap.size, 1, none⟩ = some (.int .i64 3) := (hb10.cell (p := ⟨w8.heap.size, 1, none⟩) l3).trans f3_1
  replace l1 : w3.heap.size < w10.heap.size := Nat.lt_of_lt_of_le l1 hb10.size
  replace l2 : w6.heap.size < w10.heap.size := Nat.lt_of_lt_of_le l2 hb10.size
  replace l3 : w8.heap.size < w10.heap.size := Nat.lt_of_lt_of_le l3 hb10.size
  replace hbel : Below w.heap.size w w10 := hbel.trans (hb10.mono hbel.size)
  clear hb10
  go_wp2_with fail
  refine (Span_any 31 100 8 25 _).mono ?_
  rintro e w11 ⟨rfl, hb11⟩
  have hx : Below w10.heap.size w10 w11 := (((Below.refl _ _).alloc (Nat.le_refl _) _) : Below w10.heap.size w10 (w10.alloc (.cells #[.int .i64 5, .int .i64 16] 23))).trans (hb11.mono (by simp))
  have f4_0 : w11.cell? ⟨w10.heap.size, 0, none⟩ = some (.int .i64 5) := (hb11.cell (p := ⟨w10.heap.size, 0, none⟩) (by simp)).trans (by simp [go_sem])
  have f4_1 : w11.cell? ⟨w10.heap.size, 1, none⟩ = some (.int .i64 16) := (hb11.cell (p := ⟨w10.heap.size, 1, none⟩) (by simp)).trans (by simp [go_sem])
  have l4 : w10.heap.size < w11.heap.size := by have := hb11.size; simp at this; omega
  replace f1_0 : w11.cell? ⟨w3.heap.size, 0, none⟩ = some (.int .i64 15) := (hx.cell (p := ⟨w3.heap.size, 0, none⟩) l1).trans f1_0
  replace f1_1 : w11.cell? ⟨w3.heap.size, 1, none⟩ = some (.int .i64 1) := (hx.cell (p := ⟨w3.heap.size, 1, none⟩) l1).trans f1_1
  replace f1_2 : w11.cell? ⟨w3.heap.size, 2, none⟩ = some (.int .i64 20) := (hx.cell (p := ⟨w3.heap.size, 2, none⟩) l1).trans f1_2
  replace f1_3 : w11.cell? ⟨w3.heap.size, 3, none⟩ = some (.int .i64 1) := (hx.cell (p := ⟨w3.heap.size, 3, none⟩) l1).trans f1_3
  replace f2_0 : w11.cell? ⟨w6.heap.size, 0, none⟩ = some (.int .i64 15) := (hx.cell (p := ⟨w6.heap.size, 0, none⟩) l2).trans f2_0
  replace f2_1 : w11.cell? ⟨w6.heap.size, 1, none⟩ = some (.int .i64 8) := (hx.cell (p := ⟨w6.heap.size, 1, none⟩) l2).trans f2_1
  replace f2_2 : w11.cell? ⟨w6.heap.size, 2, none⟩ = some (.int .i64 8) := (hx.cell (p := ⟨w6.heap.size, 2, none⟩) l2).trans f2_2
  replace f2_3 : w11.cell? ⟨w6.heap.size, 3, none⟩ = some (.int .i64 3) := (hx.cell (p := ⟨w6.heap.size, 3, none⟩) l2).trans f2_3
  replace f3_0 : w11.cell? ⟨w8.heap.size, 0, none⟩ = some (.int .i64 1) := (hx.cell (p := ⟨w8.heap.size, 0, none⟩) l3).trans f3_0
  replace f3_1 : w11.cell? ⟨w8.heap.size, 1, none⟩ = some (.int .i64 3) := (hx.cell (p := ⟨w8.heap.size, 1, none⟩) l3).trans f3_1
  replace l1 : w3.heap.size < w11.heap.size := Nat.lt_of_lt_of_le l1 hx.size
  replace l2 : w6.heap.size < w11.heap.size := Nat.lt_of_lt_of_le l2 hx.size
  replace l3 : w8.heap.size < w11.heap.size := Nat.lt_of_lt_of_le l3 hx.size
  replace hbel : Below w.heap.size w w11 := hbel.trans (hx.mono hbel.size)
  clear hx
  clear hb11
  go_wp2_with fail
  refine (of_any 3 10 _).mono ?_
  rintro e w12 ⟨rfl, hb12⟩
  replace f1_0 : w12.cell? ⟨w3.heap.size, 0, none⟩ = some (.int .i64 15) := (hb12.cell (p := ⟨w3.heap.size, 0, none⟩) l1).trans f1_0
  replace f1_1 : w12.cell? ⟨w3.heap.size, 1, none⟩ = some (.int .i64 1) := (hb12.cell (p := ⟨w3.heap.size, 1, none⟩) l1).trans f1_1
  replace f1_2 : w12.cell? ⟨w3.heap.size, 2, none⟩ = some (.int .i64 20) := (hb12.cell (p := ⟨w3.heap.size, 2, none⟩) l1).trans f1_2
  replace f1_3 : w12.cell? ⟨w3.heap.size, 3, none⟩ = some (.int .i64 1) := (hb12.cell (p := ⟨w3.heap.size, 3, none⟩) l1).trans f1_3
  replace f2_0 : w12.cell? ⟨w6.heap.size, 0, none⟩ = some (.int .i64 15) := (hb12.cell (p := ⟨w6.heap.size, 0, none⟩) l2).trans f2_0
  replace f2_1 : w12.cell? ⟨w6.heap.size, 1, none⟩ = some (.int .i64 8) := (hb12.cell (p := ⟨w6.heap.size, 1, none⟩) l2).trans f2_1
  replace f2_2 : w12.cell? ⟨w6.heap.size, 2, none⟩ = some (.int .i64 8) := (hb12.cell (p := ⟨w6.heap.size, 2, none⟩) l2).trans f2_2
  replace f2_3 : w12.cell? ⟨w6.heap.size, 3, none⟩ = some (.int .i64 3) := (hb12.cell (p := ⟨w6.heap.size, 3, none⟩) l2).trans f2_3
  replace f3_0 : w12.cell? ⟨w8.heap.size, 0, none⟩ = some (.int .i64 1) := (hb12.cell (p := ⟨w8.heap.size, 0, none⟩) l3).trans f3_0
  replace f3_1 : w12.cell? ⟨w8.heap.size, 1, none⟩ = some (.int .i64 3) := (hb12.cell (p := ⟨w8.heap.size, 1, none⟩) l3).trans f3_1
  replace f4_0 : w12.cell? ⟨w10.heap.size, 0, none⟩ = some (.int .i64 5) := (hb12.cell (p := ⟨w10.heap.size, 0, none⟩) l4).trans f4_0
  replace f4_1 : w12.cell? ⟨w10.heap.size, 1, none⟩ = some (.int .i64 16) := (hb12.cell (p := ⟨w10.heap.size, 1, none⟩) l4).trans f4_1
  replace l1 : w3.heap.size < w12.heap.size := Nat.lt_of_lt_of_le l1 hb12.size
  replace l2 : w6.heap.size < w12.heap.size := Nat.lt_of_lt_of_le l2 hb12.size
  replace l3 : w8.heap.size < w12.heap.size := Nat.lt_of_lt_of_le l3 hb12.size
  replace l4 : w10.heap.size < w12.heap.size := Nat.lt_of_lt_of_le l4 hb12.size
  replace hbel : Below w.heap.size w w12 := hbel.trans (hb12.mono hbel.size)
  clear hb12
  go_wp2_with fail
  refine (of_any 1 3 _).mono ?_
  rintro e w13 ⟨rfl, hb13⟩
  replace f1_0 : w13.cell? ⟨w3.heap.size, 0, none⟩ = some (.int .i64 15) := (hb13.cell (p := ⟨w3.heap.size, 0, none⟩) l1).trans f1_0
  replace f1_1 : w13.cell? ⟨w3.heap.size, 1, none⟩ = some (.int .i64 1) := (hb13.cell (p := ⟨w3.heap.size, 1, none⟩) l1).trans f1_1
  replace f1_2 : w13.cell? ⟨w3.heap.size, 2, none⟩ = some (.int .i64 20) := (hb13.cell (p := ⟨w3.heap.size, 2, none⟩) l1).trans f1_2
  replace f1_3 : w13.cell? ⟨w3.heap.size, 3, none⟩ = some (.int .i64 1) := (hb13.cell (p := ⟨w3.heap.size, 3, none⟩) l1).trans f1_3
  replace f2_0 : w13.cell? ⟨w6.heap.size, 0, none⟩ = some (.int .i64 15) := (hb13.cell (p := ⟨w6.heap.size, 0, none⟩) l2).trans f2_0
  replace f2_1 : w13.cell? ⟨w6.heap.size, 1, none⟩ = some (.int .i64 8) := (hb13.cell (p := ⟨w6.heap.size, 1, none⟩) l2).trans f2_1
  replace f2_2 : w13.cell? ⟨w6.heap.size, 2, none⟩ = some (.int .i64 8) := (hb13.cell (p := ⟨w6.heap.size, 2, none⟩) l2).trans f2_2
  replace f2_3 : w13.cell? ⟨w6.heap.size, 3, none⟩ = some (.int .i64 3) := (hb13.cell (p := ⟨w6.heap.size, 3, none⟩) l2).trans f2_3
  replace f3_0 : w13.cell? ⟨w8.heap.size, 0, none⟩ = some (.int .i64 1) := (hb13.cell (p := ⟨w8.heap.size, 0, none⟩) l3).trans f3_0
  replace f3_1 : w13.cell? ⟨w8.heap.size, 1, none⟩ = some (.int .i64 3) := (hb13.cell (p := ⟨w8.heap.size, 1, none⟩) l3).trans f3_1
  replace f4_0 : w13.cell? ⟨w10.heap.size, 0, none⟩ = some (.int .i64 5) := (hb13.cell (p := ⟨w10.heap.size, 0, none⟩) l4).trans f4_0
  replace f4_1 : w13.cell? ⟨w10.heap.size, 1, none⟩ = some (.int .i64 16) := (hb13.cell (p := ⟨w10.heap.size, 1, none⟩) l4).trans f4_1
  replace l1 : w3.heap.size < w13.heap.size := Nat.lt_of_lt_of_le l1 hb13.size
  replace l2 : w6.heap.size < w13.heap.size := Nat.lt_of_lt_of_le l2 hb13.size
  replace l3 : w8.heap.size < w13.heap.size := Nat.lt_of_lt_of_le l3 hb13.size
  replace l4 : w10.heap.size < w13.heap.size := Nat.lt_of_lt_of_le l4 hb13.size
  replace hbel : Below w.heap.size w w13 := hbel.trans (hb13.mono hbel.size)
  clear hb13
  go_wp2_with fail
  refine (chk_ex1 _).mono ?_
  rintro e w14 ⟨rfl, hb14⟩
  replace f1_0 : w14.cell? ⟨w3.heap.size, 0, none⟩ = some (.int .i64 15) := (hb14.cell (p := ⟨w3.heap.size, 0, none⟩) l1).trans f1_0
  replace f1_1 : w14.cell? ⟨w3.heap.size, 1, none⟩ = some (.int .i64 1) := (hb14.cell (p := ⟨w3.heap.size, 1, none⟩) l1).trans f1_1
  replace f1_2 : w14.cell? ⟨w3.heap.size, 2, none⟩ = some (.int .i64 20) := (hb14.cell (p := ⟨w3.heap.size, 2, none⟩) l1).trans f1_2
  replace f1_3 : w14.cell? ⟨w3.heap.size, 3, none⟩ = some (.int .i64 1) := (hb14.cell (p := ⟨w3.heap.size, 3, none⟩) l1).trans f1_3
  replace f2_0 : w14.cell? ⟨w6.heap.size, 0, none⟩ = some (.int .i64 15) := (hb14.cell (p := ⟨w6.heap.size, 0, none⟩) l2).trans f2_0
  replace f2_1 : w14.cell? ⟨w6.heap.size, 1, none⟩ = some (.int .i64 8) := (hb14.cell (p := ⟨w6.heap.size, 1, none⟩) l2).trans f2_1
  replace f2_2 : w14.cell? ⟨w6.heap.size, 2, none⟩ = some (.int .i64 8) := (hb14.cell (p := ⟨w6.heap.size, 2, none⟩) l2).trans f2_2
  replace f2_3 : w14.cell? ⟨w6.heap.size, 3, none⟩ = some (.int .i64 3) := (hb14.cell (p := ⟨w6.heap.size, 3, none⟩) l2).trans f2_3
  replace f3_0 : w14.cell? ⟨w8.heap.size, 0, none⟩ = some (.int .i64 1) := (hb14.cell (p := ⟨w8.heap.size, 0, none⟩) l3).trans f3_0
  replace f3_1 : w14.cell? ⟨w8.heap.size, 1, none⟩ = some (.int .i64 3) := (hb14.cell (p := ⟨w8.heap.size, 1, none⟩) l3).trans f3_1
  replace f4_0 : w14.cell? ⟨w10.heap.size, 0, none⟩ = some (.int .i64 5) := (hb14.cell (p := ⟨w10.heap.size, 0, none⟩) l4).trans f4_0
  replace f4_1 : w14.cell? ⟨w10.heap.size, 1, none⟩ = some (.int .i64 16) := (hb14.cell (p := ⟨w10.heap.size, 1, none⟩) l4).trans f4_1
  replace l1 : w3.heap.size < w14.heap.size := Nat.lt_of_lt_of_le l1 hb14.size
  replace l2 : w6.heap.size < w14.heap.size := Nat.lt_of_lt_of_le l2 hb14.size
  replace l3 : w8.heap.size < w14.heap.size := Nat.lt_of_lt_of_le l3 hb14.size
  replace l4 : w10.heap.size < w14.heap.size := Nat.lt_of_lt_of_le l4 hb14.size
  replace hbel : Below w.heap.size w w14 := hbel.trans (hb14.mono hbel.size)
  clear hb14
  go_wp2_with fail
  refine (of_any 5 16 _).mono ?_
  rintro e w15 ⟨rfl, hb15⟩
  replace f1_0 : w15.cell? ⟨w3.heap.size, 0, none⟩ = some (.int .i64 15) := (hb15.cell (p := ⟨w3.heap.size, 0, none⟩) l1).trans f1_0
  replace f1_1 : w15.cell? ⟨w3.heap.size, 1, none⟩ = some (.int .i64 1) := (hb15.cell (p := ⟨w3.heap.size, 1, none⟩) l1).trans f1_1
  replace f1_2 : w15.cell? ⟨w3.heap.size, 2, none⟩ = some (.int .i64 20) := (hb15.cell (p := ⟨w3.heap.size, 2, none⟩) l1).trans f1_2
  replace f1_3 : w15.cell? ⟨w3.heap.size, 3, none⟩ = some (.int .i64 1) := (hb15.cell (p := ⟨w3.heap.size, 3, none⟩) l1).trans f1_3
  replace f2_0 : w15.cell? ⟨w6.heap.size, 0, none⟩ = some (.int .i64 15) := (hb15.cell (p := ⟨w6.heap.size, 0, none⟩) l2).trans f2_0
  replace f2_1 : w15.cell? ⟨w6.heap.size, 1, none⟩ = some (.int .i64 8) := (hb15.cell (p := ⟨w6.heap.size, 1, none⟩) l2).trans f2_1
  replace f2_2 : w15.cell? ⟨w6.heap.size, 2, none⟩ = some (.int .i64 8) := (hb15.cell (p := ⟨w6.heap.size, 2, none⟩) l2).trans f2_2
  replace f2_3 : w15.cell? ⟨w6.heap.size, 3, none⟩ = some (.int .i64 3) := (hb15.cell (p := ⟨w6.heap.size, 3, none⟩) l2).trans f2_3
  replace f3_0 : w15.cell? ⟨w8.heap.size, 0, none⟩ = some (.int .i64 1) := (hb15.cell (p := ⟨w8.heap.size, 0, none⟩) l3).trans f3_0
  replace f3_1 : w15.cell? ⟨w8.heap.size, 1, none⟩ = some (.int .i64 3) := (hb15.cell (p := ⟨w8.heap.size, 1, none⟩) l3).trans f3_1
  replace f4_0 : w15.cell? ⟨w10.heap.size, 0, none⟩ = some (.int .i64 5) := (hb15.cell (p := ⟨w10.heap.size, 0, none⟩) l4).trans f4_0
  replace f4_1 : w15.cell? ⟨w10.heap.size, 1, none⟩ = some (.int .i64 16) := (hb15.cell (p := ⟨w10.heap.size, 1, none⟩) l4).trans f4_1
  replace l1 : w3.heap.size < w15.heap.size := Nat.lt_of_lt_of_le l1 hb15.size
  replace l2 : w6.heap.size < w15.heap.size := Nat.lt_of_lt_of_le l2 hb15.size
  replace l3 : w8.heap.size < w15.heap.size := Nat.lt_of_lt_of_le l3 hb15.size
  replace l4 : w10.heap.size < w15.heap.size := Nat.lt_of_lt_of_le l4 hb15.size
  replace hbel : Below w.heap.size w w15 := hbel.trans (hb15.mono hbel.size)
  clear hb15
  go_wp2_with fail
  refine (path_ex1 _).mono ?_
  rintro e w16 ⟨⟨v3, rfl, hp⟩, hb16⟩
  replace f1_0 : w16.cell? ⟨w3.heap.size, 0, none⟩ = some (.int .i64 15) := (hb16.cell (p := ⟨w3.heap.size, 0, none⟩) l1).trans f1_0
  replace f1_1 : w16.cell? ⟨w3.heap.size, 1, none⟩ = some (.int .i64 1) := (hb16.cell (p := ⟨w3.heap.size, 1, none⟩) l1).trans f1_1
  replace f1_2 : w16.cell? ⟨w3.heap.size, 2, none⟩ = some (.int .i64 20) := (hb16.cell (p := ⟨w3.heap.size, 2, none⟩) l1).trans f1_2
  replace f1_3 : w16.cell? ⟨w3.heap.size, 3, none⟩ = some (.int .i64 1) := (hb16.cell (p := ⟨w3.heap.size, 3, none⟩) l1).trans f1_3
  replace f2_0 : w16.cell? ⟨w6.heap.size, 0, none⟩ = some (.int .i64 15) := (hb16.cell (p := ⟨w6.heap.size, 0, none⟩) l2).trans f2_0
  replace f2_1 : w16.cell? ⟨w6.heap.size, 1, none⟩ = some (.int .i64 8) := (hb16.cell (p := ⟨w6.heap.size, 1, none⟩) l2).trans f2_1
  replace f2_2 : w16.cell? ⟨w6.heap.size, 2, none⟩ = some (.int .i64 8) := (hb16.cell (p := ⟨w6.heap.size, 2, none⟩) l2).trans f2_2
  replace f2_3 : w16.cell? ⟨w6.heap.size, 3, none⟩ = some (.int .i64 3) := (hb16.cell (p := ⟨w6.heap.size, 3, none⟩) l2).trans f2_3
  replace f3_0 : w16.cell? ⟨w8.heap.size, 0, none⟩ = some (.int .i64 1) := (hb16.cell (p := ⟨w8.heap.size, 0, none⟩) l3).trans f3_0
  replace f3_1 : w16.cell? ⟨w8.heap.size, 1, none⟩ = some (.int .i64 3) := (hb16.cell (p := ⟨w8.heap.size, 1, none⟩) l3).trans f3_1
  replace f4_0 : w16.cell? ⟨w10.heap.size, 0, none⟩ = some (.int .i64 5) := (hb16.cell (p := ⟨w10.heap.size, 0, none⟩) l4).trans f4_0
  replace f4_1 : w16.cell? ⟨w10.heap.size, 1, none⟩ = some (.int .i64 16) := (hb16.cell (p := ⟨w10.heap.size, 1, none⟩) l4).trans f4_1
  replace l1 : w3.heap.size < w16.heap.size := Nat.lt_of_lt_of_le l1 hb16.size
  replace l2 : w6.heap.size < w16.heap.size := Nat.lt_of_lt_of_le l2 hb16.size
  replace l3 : w8.heap.size < w16.heap.size := Nat.lt_of_lt_of_le l3 hb16.size
  replace l4 : w10.heap.size < w16.heap.size := Nat.lt_of_lt_of_le l4 hb16.size
  replace hbel : Below w.heap.size w w16 := hbel.trans (hb16.mono hbel.size)
  clear hb16
  go_wp2_with fail
  refine (follow_ex1 _ _ (sl3 _ 0 3 5 2)).mono ?_
  rintro e w17 ⟨rfl, hb17⟩
  have hx : Below w16.heap.size w16 w17 := (((Below.refl _ _).alloc (Nat.le_refl _) _) : Below w16.heap.size w16 (w16.alloc (.cells #[.int .i64 0, .int .i64 3, .int .i64 5] 2))).trans (hb17.mono (by simp))
  have f5_0 : w17.cell? ⟨w16.heap.size, 0, none⟩ = some (.int .i64 0) := (hb17.cell (p := ⟨w16.heap.size, 0, none⟩) (by simp)).trans (by simp [go_sem])
  have f5_1 : w17.cell? ⟨w16.heap.size, 1, none⟩ = some (.int .i64 3) := (hb17.cell (p := ⟨w16.heap.size, 1, none⟩) (by simp)).trans (by simp [go_sem])
  have f5_2 : w17.cell? ⟨w16.heap.size, 2, none⟩ = some (.int .i64 5) := (hb17.cell (p := ⟨w16.heap.size, 2, none⟩) (by simp)).trans (by simp [go_sem])
  have l5 : w16.heap.size < w17.heap.size := by have := hb17.size; simp at this; omega
  replace f1_0 : w17.cell? ⟨w3.heap.size, 0, none⟩ = some (.int .i64 15) := (hx.cell (p := ⟨w3.heap.size, 0, none⟩) l1).trans f1_0
  replace f1_1 : w17.cell? ⟨w3.heap.size, 1, none⟩ = some (.int .i64 1) := (hx.cell (p := ⟨w3.heap.size, 1, none⟩) l1).trans f1_1
  replace f1_2 : w17.cell? ⟨w3.heap.size, 2, none⟩ = some (.int .i64 20) := (hx.cell (p := ⟨w3.heap.size, 2, none⟩) l1).trans f1_2
  replace f1_3 : w17.cell? ⟨w3.heap.size, 3, none⟩ = some (.int .i64 1) := (hx.cell (p := ⟨w3.heap.size, 3, none⟩) l1).trans f1_3
  replace f2_0 : w17.cell? ⟨w6.heap.size, 0, none⟩ = some (.int .i64 15) := (hx.cell (p := ⟨w6.heap.size, 0, none⟩) l2).trans f2_0
  replace f2_1 : w17.cell? ⟨w6.heap.size, 1, none⟩ = some (.int .i64 8) := (hx.cell (p := ⟨w6.heap.size, 1, none⟩) l2).trans f2_1
  replace f2_2 : w17.cell? ⟨w6.heap.size, 2, none⟩ = some (.int .i64 8) := (hx.cell (p := ⟨w6.heap.size, 2, none⟩) l2).trans f2_2
  replace f2_3 : w17.cell? ⟨w6.heap.size, 3, none⟩ = some (.int .i64 3) := (hx.cell (p := ⟨w6.heap.size, 3, none⟩) l2).trans f2_3
  replace f3_0 : w17.cell? ⟨w8.heap.size, 0, none⟩ = some (.int .i64 1) := (hx.cell (p := ⟨w8.heap.size, 0, none⟩) l3).trans f3_0
  replace f3_1 : w17.cell? ⟨w8.heap.size, 1, none⟩ = some (.int .i64 3) := (hx.cell (p := ⟨w8.heap.size, 1, none⟩) l3).trans f3_1
  replace f4_0 : w17.cell? ⟨w10.heap.size, 0, none⟩ = some (.int .i64 5) := (hx.cell (p := ⟨w10.heap.size, 0, none⟩) l4).trans f4_0
  replace f4_1 : w17.cell? ⟨w10.heap.size, 1, none⟩ = some (.int .i64 16) := (hx.cell (p := ⟨w10.heap.size, 1, none⟩) l4).trans f4_1
  replace l1 : w3.heap.size < w17.heap.size := Nat.lt_of_lt_of_le l1 hx.size
  replace l2 : w6.heap.size < w17.heap.size := Nat.lt_of_lt_of_le l2 hx.size
  replace l3 : w8.heap.size < w17.heap.size := Nat.lt_of_lt_of_le l3 hx.size
  replace l4 : w10.heap.size < w17.heap.size := Nat.lt_of_lt_of_le l4 hx.size
  replace hp := hp.next hx
  replace hbel : Below w.heap.size w w17 := hbel.trans (hx.mono hbel.size)
  clear hx
  clear hb17
  go_wp2_with fail
  refine (of_any 1 3 _).mono ?_
  rintro e w18 ⟨rfl, hb18⟩
  have hx : Below w17.heap.size w17 w18 := (((Below.refl _ _).alloc (Nat.le_refl _) _) : Below w17.heap.size w17 (w17.alloc (.cells #[.int .i64 5, .int .i64 16] 23))).trans (hb18.mono (by simp))
  have f6_0 : w18.cell? ⟨w17.heap.size, 0, none⟩ = some (.int .i64 5) := (hb18.cell (p := ⟨w17.heap.size, 0, none⟩) (by simp)).trans (by simp [go_sem])
  have f6_1 : w18.cell? ⟨w17.heap.size, 1, none⟩ = some (.int .i64 16) := (hb18.cell (p := ⟨w17.heap.size, 1, none⟩) (by simp)).trans (by simp [go_sem])
  have l6 : w17.heap.size < w18.heap.size := by have := hb18.size; simp at this; omega
  replace f1_0 : w18.cell? ⟨w3.heap.size, 0, none⟩ = some (.int .i64 15) := (hx.cell (p := ⟨w3.heap.size, 0, none⟩) l1).trans f1_0
  replace f1_1 : w18.cell? ⟨w3.heap.size, 1, none⟩ = some (.int .i64 1) := (hx.cell (p := ⟨w3.heap.size, 1, none⟩) l1).trans f1_1
  replace f1_2 : w18.cell? ⟨w3.heap.size, 2, none⟩ = some (.int .i64 20) := (hx.cell (p := ⟨w3.heap.size, 2, none⟩) l1).trans f1_2
  replace f1_3 : w18.cell? ⟨w3.heap.size, 3, none⟩ = some (.int .i64 1) := (hx.cell (p := ⟨w3.heap.size, 3, none⟩) l1).trans f1_3
  replace f2_0 : w18.cell? ⟨w6.heap.size, 0, none⟩ = some (.int .i64 15) := (hx.cell (p := ⟨w6.heap.size, 0, none⟩) l2).trans f2_0
  replace f2_1 : w18.cell? ⟨w6.heap.size, 1, none⟩ = some (.int .i64 8) := (hx.cell (p := ⟨w6.heap.size, 1, none⟩) l2).trans f2_1
  replace f2_2 : w18.cell? ⟨w6.heap.size, 2, none⟩ = some (.int .i64 8) := (hx.cell (p := ⟨w6.heap.size, 2, none⟩) l2).trans f2_2
  replace f2_3 : w18.cell? ⟨w6.heap.size, 3, none⟩ = some (.int .i64 3) := (hx.cell (p := ⟨w6.heap.size, 3, none⟩) l2).trans f2_3
  replace f3_0 : w18.cell? ⟨w8.heap.size, 0, none⟩ = some (.int .i64 1) := (hx.cell (p := ⟨w8.heap.size, 0, none⟩) l3).trans f3_0
  replace f3_1 : w18.cell? ⟨w8.heap.size, 1, none⟩ = some (.int .i64 3) := (hx.cell (p := ⟨w8.heap.size, 1, none⟩) l3).trans f3_1
  replace f4_0 : w18.cell? ⟨w10.heap.size, 0, none⟩ = some (.int .i64 5) := (hx.cell (p := ⟨w10.heap.size, 0, none⟩) l4).trans f4_0
  replace f4_1 : w18.cell? ⟨w10.heap.size, 1, none⟩ = some (.int .i64 16) := (hx.cell (p := ⟨w10.heap.size, 1, none⟩) l4).trans f4_1
  replace f5_0 : w18.cell? ⟨w16.heap.size, 0, none⟩ = some (.int .i64 0) := (hx.cell (p := ⟨w16.heap.size, 0, none⟩) l5).trans f5_0
  replace f5_1 : w18.cell? ⟨w16.heap.size, 1, none⟩ = some (.int .i64 3) := (hx.cell (p := ⟨w16.heap.size, 1, none⟩) l5).trans f5_1
  replace f5_2 : w18.cell? ⟨w16.heap.size, 2, none⟩ = some (.int .i64 5) := (hx.cell (p := ⟨w16.heap.size, 2, none⟩) l5).trans f5_2
  replace l1 : w3.heap.size < w18.heap.size := Nat.lt_of_lt_of_le l1 hx.size
  replace l2 : w6.heap.size < w18.heap.size := Nat.lt_of_lt_of_le l2 hx.size
  replace l3 : w8.heap.size < w18.heap.size := Nat.lt_of_lt_of_le l3 hx.size
  replace l4 : w10.heap.size < w18.heap.size := Nat.lt_of_lt_of_le l4 hx.size
  replace l5 : w16.heap.size < w18.heap.size := Nat.lt_of_lt_of_le l5 hx.size
  replace hp := hp.next hx
  replace hbel : Below w.heap.size w w18 := hbel.trans (hx.mono hbel.size)
  clear hx
  clear hb18
  go_wp2_with fail
  refine (next_ex1 _).mono ?_
  rintro e w19 ⟨rfl, hb19⟩
  replace f1_0 : w19.cell? ⟨w3.heap.size, 0, none⟩ = some (.int .i64 15) := (hb19.cell (p := ⟨w3.heap.size, 0, none⟩) l1).trans f1_0
  replace f1_1 : w19.cell? ⟨w3.heap.size, 1, none⟩ = some (.int .i64 1) := (hb19.cell (p := ⟨w3.heap.size, 1, none⟩) l1).trans f1_1
  replace f1_2 : w19.cell? ⟨w3.heap.size, 2, none⟩ = some (.int .i64 20) := (hb19.cell (p := ⟨w3.heap.size, 2, none⟩) l1).trans f1_2
  replace f1_3 : w19.cell? ⟨w3.heap.size, 3, none⟩ = some (.int .i64 1) := (hb19.cell (p := ⟨w3.heap.size, 3, none⟩) l1).trans f1_3
  replace f2_0 : w19.cell? ⟨w6.heap.size, 0, none⟩ = some (.int .i64 15) := (hb19.cell (p := ⟨w6.heap.size, 0, none⟩) l2).trans f2_0
  replace f2_1 : w19.cell? ⟨w6.heap.size, 1, none⟩ = some (.int .i64 8) := (hb19.cell (p := ⟨w6.heap.size, 1, none⟩) l2).trans f2_1
  replace f2_2 : w19.cell? ⟨w6.heap.size, 2, none⟩ = some (.int .i64 8) := (hb19.cell (p := ⟨w6.heap.size, 2, none⟩) l2).trans f2_2
  replace f2_3 : w19.cell? ⟨w6.heap.size, 3, none⟩ = some (.int .i64 3) := (hb19.cell (p := ⟨w6.heap.size, 3, none⟩) l2).trans f2_3
  replace f3_0 : w19.cell? ⟨w8.heap.size, 0, none⟩ = some (.int .i64 1) := (hb19.cell (p := ⟨w8.heap.size, 0, none⟩) l3).trans f3_0
  replace f3_1 : w19.cell? ⟨w8.heap.size, 1, none⟩ = some (.int .i64 3) := (hb19.cell (p := ⟨w8.heap.size, 1, none⟩) l3).trans f3_1
  replace f4_0 : w19.cell? ⟨w10.heap.size, 0, none⟩ = some (.int .i64 5) := (hb19.cell (p := ⟨w10.heap.size, 0, none⟩) l4).trans f4_0
  replace f4_1 : w19.cell? ⟨w10.heap.size, 1, none⟩ = some (.int .i64 16) := (hb19.cell (p := ⟨w10.heap.size, 1, none⟩) l4).trans f4_1
  replace f5_0 : w19.cell? ⟨w16.heap.size, 0, none⟩ = some (.int .i64 0) := (hb19.cell (p := ⟨w16.heap.size, 0, none⟩) l5).trans f5_0
  replace f5_1 : w19.cell? ⟨w16.heap.size, 1, none⟩ = some (.int .i64 3) := (hb19.cell (p := ⟨w16.heap.size, 1, none⟩) l5).trans f5_1
  replace f5_2 : w19.cell? ⟨w16.heap.size, 2, none⟩ = some (.int .i64 5) := (hb19.cell (p := ⟨w16.heap.size, 2, none⟩) l5).trans f5_2
  replace f6_0 : w19.cell? ⟨w17.heap.size, 0, none⟩ = some (.int .i64 5) := (hb19.cell (p := ⟨w17.heap.size, 0, none⟩) l6).trans f6_0
  replace f6_1 : w19.cell? ⟨w17.heap.size, 1, none⟩ = some (.int .i64 16) := (hb19.cell (p := ⟨w17.heap.size, 1, none⟩) l6).trans f6_1
  replace l1 : w3.heap.size < w19.heap.size := Nat.lt_of_lt_of_le l1 hb19.size
  replace l2 : w6.heap.size < w19.heap.size := Nat.lt_of_lt_of_le l2 hb19.size
  replace l3 : w8.heap.size < w19.heap.size := Nat.lt_of_lt_of_le l3 hb19.size
  replace l4 : w10.heap.size < w19.heap.size := Nat.lt_of_lt_of_le l4 hb19.size
  replace l5 : w16.heap.size < w19.heap.size := Nat.lt_of_lt_of_le l5 hb19.size
  replace l6 : w17.heap.size < w19.heap.size := Nat.lt_of_lt_of_le l6 hb19.size
  replace hp := hp.next hb19
  replace hbel : Below w.heap.size w w19 := hbel.trans (hb19.mono hbel.size)
  clear hb19
  go_wp2_with fail
  refine (follow_ex2 _ _ (by have h := sl2 (w19.alloc (.cells #[.int .i64 2, .int .i64 5] 23)) 1 1 2; rw [World.size_alloc] at h; exact h)).mono ?_
  rintro e w20 ⟨rfl, hb20⟩
  have hx : Below w19.heap.size w19 w20 := ((((Below.refl _ _).alloc (Nat.le_refl _) _).alloc (by simp) _) : Below w19.heap.size w19 ((w19.alloc (.cells #[.int .i64 2, .int .i64 5] 23)).alloc (.cells #[.int .i64 1, .int .i64 1] 2))).trans (hb20.mono (by simp; omega))
  have f7_0 : w20.cell? ⟨w19.heap.size, 0, none⟩ = some (.int .i64 2) := (hb20.cell (p := ⟨w19.heap.size, 0, none⟩) (by (try simp) <;> omega)).trans (by simp [go_sem])
  have f7_1 : w20.cell? ⟨w19.heap.size, 1, none⟩ = some (.int .i64 5) := (hb20.cell (p := ⟨w19.heap.size, 1, none⟩) (by (try simp) <;> omega)).trans (by simp [go_sem])
  have l7 : w19.heap.size < w20.heap.size := by have := hb20.size; simp at this; omega
  have f8_0 : w20.cell? ⟨w19.heap.size + 1, 0, none⟩ = some (.int .i64 1) := (hb20.cell (p := ⟨w19.heap.size + 1, 0, none⟩) (by simp)).trans (by simp [go_sem])
  have f8_1 : w20.cell? ⟨w19.heap.size + 1, 1, none⟩ = some (.int .i64 1) := (hb20.cell (p := ⟨w19.heap.size + 1, 1, none⟩) (by simp)).trans (by simp [go_sem])
  have l8 : w19.heap.size + 1 < w20.heap.size := by have := hb20.size; simp at this; omega
  replace f1_0 : w20.cell? ⟨w3.heap.size, 0, none⟩ = some (.int .i64 15) := (hx.cell (p := ⟨w3.heap.size, 0, none⟩) l1).trans f1_0
  replace f1_1 : w20.cell? ⟨w3.heap.size, 1, none⟩ = some (.int .i64 1) := (hx.cell (p := ⟨w3.heap.size, 1, none⟩) l1).trans f1_1
  replace f1_2 : w20.cell? ⟨w3.heap.size, 2, none⟩ = some (.int .i64 20) := (hx.cell (p := ⟨w3.heap.size, 2, none⟩) l1).trans f1_2
  replace f1_3 : w20.cell? ⟨w3.heap.size, 3, none⟩ = some (.int .i64 1) := (hx.cell (p := ⟨w3.heap.size, 3, none⟩) l1).trans f1_3
  replace f2_0 : w20.cell? ⟨w6.heap.size, 0, none⟩ = some (.int .i64 15) := (hx.cell (p := ⟨w6.heap.size, 0, none⟩) l2).trans f2_0
  replace f2_1 : w20.cell? ⟨w6.heap.size, 1, none⟩ = some (.int .i64 8) := (hx.cell (p := ⟨w6.heap.size, 1, none⟩) l2).trans f2_1
  replace f2_2 : w20.cell? ⟨w6.heap.size, 2, none⟩ = some (.int .i64 8) := (hx.cell (p := ⟨w6.heap.size, 2, none⟩) l2).trans f2_2
  replace f2_3 : w20.cell? ⟨w6.heap.size, 3, none⟩ = some (.int .i64 3) := (hx.cell (p := ⟨w6.heap.size, 3, none⟩) l2).trans f2_3
  replace f3_0 : w20.cell? ⟨w8.heap.size, 0, none⟩ = some (.int .i64 1) := (hx.cell (p := ⟨w8.heap.size, 0, none⟩) l3).trans f3_0
  replace f3_1 : w20.cell? ⟨w8.heap.size, 1, none⟩ = some (.int .i64 3) := (hx.cell (p := ⟨w8.heap.size, 1, none⟩) l3).trans f3_1
  replace f4_0 : w20.cell? ⟨w10.heap.size, 0, none⟩ = some (.int .i64 5) := (hx.cell (p := ⟨w10.heap.size, 0, none⟩) l4).trans f4_0
  replace f4_1 : w20.cell? ⟨w10.heap.size, 1, none⟩ = some (.int .i64 16) := (hx.cell (p := ⟨w10.heap.size, 1, none⟩) l4).trans f4_1
  replace f5_0 : w20.cell? ⟨w16.heap.size, 0, none⟩ = some (.int .i64 0) := (hx.cell (p := ⟨w16.heap.size, 0, none⟩) l5).trans f5_0
  replace f5_1 : w20.cell? ⟨w16.heap.size, 1, none⟩ = some (.int .i64 3) := (hx.cell (p := ⟨w16.heap.size, 1, none⟩) l5).trans f5_1
  replace f5_2 : w20.cell? ⟨w16.heap.size, 2, none⟩ = some (.int .i64 5) := (hx.cell (p := ⟨w16.heap.size, 2, none⟩) l5).trans f5_2
  replace f6_0 : w20.cell? ⟨w17.heap.size, 0, none⟩ = some (.int .i64 5) := (hx.cell (p := ⟨w17.heap.size, 0, none⟩) l6).trans f6_0
  replace f6_1 : w20.cell? ⟨w17.heap.size, 1, none⟩ = some (.int .i64 16) := (hx.cell (p := ⟨w17.heap.size, 1, none⟩) l6).trans f6_1
  replace l1 : w3.heap.size < w20.heap.size := Nat.lt_of_lt_of_le l1 hx.size
  replace l2 : w6.heap.size < w20.heap.size := Nat.lt_of_lt_of_le l2 hx.size
  replace l3 : w8.heap.size < w20.heap.size := Nat.lt_of_lt_of_le l3 hx.size
  replace l4 : w10.heap.size < w20.heap.size := Nat.lt_of_lt_of_le l4 hx.size
  replace l5 : w16.heap.size < w20.heap.size := Nat.lt_of_lt_of_le l5 hx.size
  replace l6 : w17.heap.size < w20.heap.size := Nat.lt_of_lt_of_le l6 hx.size
  replace hp := hp.next hx
  replace hbel : Below w.heap.size w w20 := hbel.trans (hx.mono hbel.size)
  clear hx
  clear hb20
  go_wp2_with fail
  simp only [List.append_eq, List.cons_append, List.nil_append]
  go_region_held3 (fun w' => Hold w20.heap.size w20 w' ∧ Sl w' v3 [0, 3, 5] ∧ w'.cell? ⟨w3.heap.size, 0, none⟩ = some (.int .i64 15) ∧ w'.cell? ⟨w3.heap.size, 1, none⟩ = some (.int .i64 1) ∧ w'.cell? ⟨w3.heap.size, 2, none⟩ = some (.int .i64 20) ∧ w'.cell? ⟨w3.heap.size, 3, none⟩ = some (.int .i64 1) ∧ w'.cell? ⟨w6.heap.size, 0, none⟩ = some (.int .i64 15) ∧ w'.cell? ⟨w6.heap.size, 1, none⟩ = some (.int .i64 8) ∧ w'.cell? ⟨w6.heap.size, 2, none⟩ = some (.int .i64 8) ∧ w'.cell? ⟨w6.heap.size, 3, none⟩ = some (.int .i64 3) ∧ w'.cell? ⟨w8.heap.size, 0, none⟩ = some (.int .i64 1) ∧ w'.cell? ⟨w8.heap.size, 1, none⟩ = some (.int .i64 3) ∧ w'.cell? ⟨w10.heap.size, 0, none⟩ = some (.int .i64 5) ∧ w'.cell? ⟨w10.heap.size, 1, none⟩ = some (.int .i64 16) ∧ w'.cell? ⟨w17.heap.size, 0, none⟩ = some (.int .i64 5) ∧ w'.cell? ⟨w17.heap.size, 1, none⟩ = some (.int .i64 16) ∧ w'.cell? ⟨w19.heap.size, 0, none⟩ = some (.int .i64 2) ∧ w'.cell? ⟨w19.heap.size, 1, none⟩ = some (.int .i64 5)) (first | exact keepW l1 l2 l3 l4 l6 l7 (by assumption) hbq | exact keepW l1 l2 l3 l4 l6 l7 (by assumption) (below_alloc _ _) | exact keepW l1 l2 l3 l4 l6 l7 ⟨⟨Nat.le_refl _, Below.refl _ _⟩, hp, f1_0, f1_1, f1_2, f1_3, f2_0, f2_1, f2_2, f2_3, f3_0, f3_1, f4_0, f4_1, f6_0, f6_1, f7_0, f7_1⟩ (((Below.refl _ _).alloc (Nat.le_refl _) _).drew) | exact keepW l1 l2 l3 l4 l6 l7 (by assumption) (below_alloc_drew _ _)) (first
    | (go_at_call 38; refine (Span_any _ _ _ _ _).mono ?_; rintro e wq ⟨rfl, hbq⟩)
    | (go_at_call 35; refine (of_any _ _ _).mono ?_; rintro e wq ⟨rfl, hbq⟩)
    | (go_at_call 27; refine (longs_any _ _ [0, 3, 5] [0, 3, 5] true (by decide) (by decide) (by decide) _ (slW (by assumption)) (sl3 _ 0 3 5 2)).mono ?_; rintro e wq ⟨rfl, hbq⟩))
  go_wp2_with fail
  go_ret
  exact ⟨rfl, hbel.trans ((show Below w20.heap.size w20 _ from hold_fin (by assumption)).mono hbel.size)⟩
end Go.Proofs.Ytbdjllgngblfoaa
