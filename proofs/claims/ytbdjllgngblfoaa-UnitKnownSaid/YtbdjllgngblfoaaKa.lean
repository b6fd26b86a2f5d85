import Derived.Test.YtbdjllgngblfoaaUz2
namespace Go.Proofs.Ytbdjllgngblfoaa
set_option linter.unusedVariables false
set_option linter.unusedSimpArgs false
open Go.RowKit

theorem simp_ex3 (w : World) :
    Calls Try.prog 14 #[.agg #[.int .i64 5, .int .i64 7, .int .i64 3, .int .i64 4]] w fun e w' => e = .returned (.tuple #[.agg #[.int .i64 3, .int .i64 4], .int .i64 0]) ∧ Below w.heap.size w w' := simp_ex (a := 5) (b := 7) (c := 3) (d := 4) (x := 3) (y := 4) (by decide +kernel) ⟨by decide +kernel, by decide, by decide, fun p q h1 h2 h3 h4 => by
  have : ¬ p ≤ 2 := by
    intro h
    rcases (show p = 1 ∨ p = 2 by omega) with rfl | rfl <;> omega
  omega⟩ w
theorem simp_ex4 (w : World) :
    Calls Try.prog 14 #[.agg #[.int .i64 7, .int .i64 2, .int .i64 9, .int .i64 2]] w fun e w' => e = .returned (.tuple #[.agg #[.int .i64 4, .int .i64 1], .int .i64 0]) ∧ Below w.heap.size w w' := simp_ex (a := 7) (b := 2) (c := 9) (d := 2) (x := 4) (y := 1) (by decide +kernel) ⟨by decide +kernel, by decide, by decide, fun p q h1 h2 h3 h4 => by
  omega⟩ w
theorem simp_ex5 (w : World) :
    Calls Try.prog 14 #[.agg #[.int .i64 5, .int .i64 7, .int .i64 5, .int .i64 7]] w fun e w' => e = .returned (.tuple #[.agg #[.int .i64 5, .int .i64 7], .int .i64 0]) ∧ Below w.heap.size w w' := simp_ex (a := 5) (b := 7) (c := 5) (d := 7) (x := 5) (y := 7) (by decide +kernel) ⟨by decide +kernel, by decide, by decide, fun p q h1 h2 h3 h4 => by
  have : ¬ p ≤ 4 := by
    intro h
    rcases (show p = 1 ∨ p = 2 ∨ p = 3 ∨ p = 4 by omega) with rfl | rfl | rfl | rfl <;> omega
  omega⟩ w
theorem chk_ex2 (w : World) :
    Calls Try.prog 20 #[.agg #[.int .i64 31, .int .i64 100, .int .i64 8, .int .i64 25], .agg #[.int .i64 0, .int .i64 1, .int .i64 1, .int .i64 3]] w fun e w' => e = .returned (.tuple #[.int .i64 4, .int .i64 0]) ∧ Below w.heap.size w w' := CheckProof_any 31 100 8 25 0 1 1 3 4 0 (by decide +kernel) w
theorem chk_ex3 (w : World) :
    Calls Try.prog 20 #[.agg #[.int .i64 31, .int .i64 100, .int .i64 8, .int .i64 25], .agg #[.int .i64 1, .int .i64 4, .int .i64 1, .int .i64 3]] w fun e w' => e = .returned (.tuple #[.int .i64 7, .int .i64 0]) ∧ Below w.heap.size w w' := CheckProof_any 31 100 8 25 1 4 1 3 7 0 (by decide +kernel) w
theorem path_ex2 (w : World) : Calls Try.prog 23 #[.agg #[.int .i64 7, .int .i64 3]] w fun e w' => (∃ v, e = .returned (.tuple #[v, .int .i64 0]) ∧ Sl w' v [2, 3]) ∧ Below w.heap.size w w' := by
  have h := Path_ok 7 3 (by decide +kernel) w
  rwa [show pathL 64 7 3 = [2, 3] by decide +kernel] at h
theorem path_ex3 (w : World) : Calls Try.prog 23 #[.agg #[.int .i64 4, .int .i64 1]] w fun e w' => (∃ v, e = .returned (.tuple #[v, .int .i64 0]) ∧ Sl w' v [4]) ∧ Below w.heap.size w w' := by
  have h := Path_ok 4 1 (by decide +kernel) w
  rwa [show pathL 64 4 1 = [4] by decide +kernel] at h
theorem follow_ex3 (v : Value) (w : World) (h : Sl w v [0]) :
    Calls Try.prog 25 #[v] w fun e w' => e = .returned (.tuple #[.agg #[.int .i64 0, .int .i64 0], .int .i64 2]) ∧ Below w.heap.size w w' := Follow_ok v [0] (by decide) (by decide) (by decide +kernel) 0 0 2 (by decide +kernel) w h
theorem next_ex2 (w : World) :
    Calls Try.prog 28 #[.agg #[.int .i64 3, .int .i64 10], .int .i64 3] w fun e w' => e = .returned (.tuple #[.agg #[.int .i64 1, .int .i64 3], .int .i64 0]) ∧ Below w.heap.size w w' := next_ex (N := 3) (D := 10) (dn := 3) (c := 1) (d := 3) (by decide +kernel) (by decide) (by decide) ⟨by decide +kernel, by decide, by decide, fun x y h1 h2 h3 => by omega, fun h => absurd h (by decide)⟩ w

theorem keep4 {k B : Nat} {W0 W w' : World} {v0 v1 v2 v3 : Option Value} (q : B < k)
    (h : Hold k W0 W ∧ W.cell? ⟨B, 0, none⟩ = v0 ∧ W.cell? ⟨B, 1, none⟩ = v1 ∧ W.cell? ⟨B, 2, none⟩ = v2 ∧ W.cell? ⟨B, 3, none⟩ = v3) (hb : Below W.heap.size W w') :
    Hold k W0 w' ∧ w'.cell? ⟨B, 0, none⟩ = v0 ∧ w'.cell? ⟨B, 1, none⟩ = v1 ∧ w'.cell? ⟨B, 2, none⟩ = v2 ∧ w'.cell? ⟨B, 3, none⟩ = v3 := by
  obtain ⟨hh, h0, h1, h2, h3⟩ := h
  have c : ∀ o, w'.cell? ⟨B, o, none⟩ = W.cell? ⟨B, o, none⟩ := fun o => hb.cell (Nat.lt_of_lt_of_le q hh.1)
  exact ⟨hh.next hb, (c _).trans h0, (c _).trans h1, (c _).trans h2, (c _).trans h3⟩

theorem longs23 (v : Value) (W : World) (h : Sl (W.alloc (.cells #[.int .i64 2, .int .i64 3] 2)) v [2, 3]) :
    Calls Try.prog 27 #[v, .slice (some ⟨W.heap.size, 0, none⟩) 2 2] (W.alloc (.cells #[.int .i64 2, .int .i64 3] 2)) fun e w' => e = .returned (.bool true) ∧ Below (W.alloc (.cells #[.int .i64 2, .int .i64 3] 2)).heap.size (W.alloc (.cells #[.int .i64 2, .int .i64 3] 2)) w' :=
  longs_any _ _ [2, 3] [2, 3] true (by decide) (by decide) (by decide) _ h (sl2 _ 2 3 2)
theorem longs4 (v : Value) (W : World) (h : Sl (W.alloc (.cells #[.int .i64 4] 2)) v [4]) :
    Calls Try.prog 27 #[v, .slice (some ⟨W.heap.size, 0, none⟩) 1 1] (W.alloc (.cells #[.int .i64 4] 2)) fun e w' => e = .returned (.bool true) ∧ Below (W.alloc (.cells #[.int .i64 4] 2)).heap.size (W.alloc (.cells #[.int .i64 4] 2)) w' :=
  longs_any _ _ [4] [4] true (by decide) (by decide) (by decide) _ h (sl1 _ 4 2)

theorem hold_one {w W : World} {o : Obj} {Q : Prop} (h : Hold (w.heap.size + 1) (w.alloc o) W ∧ Q) : Hold w.heap.size w W ∧ Q :=
  ⟨⟨Nat.le_of_succ_le h.1.1, ((Below.refl _ _).alloc (Nat.le_refl _) o).trans (h.1.2.mono (Nat.le_succ _))⟩, h.2⟩
theorem hold_two {P Q : Prop} (h : P ∧ Q) : P ∧ Q := h

theorem keepK {k B1 B2 B3 B4 : Nat} {W0 W w' : World} {p q : Value} {L M : List Int} {v0 v1 v2 v3 v4 v5 v6 v7 : Option Value} (qB1 : B1 < k) (qB2 : B2 < k) (qB3 : B3 < k) (qB4 : B4 < k)
    (h : Hold k W0 W ∧ (Sl W p L ∧ Sl W q M) ∧ W.cell? ⟨B1, 0, none⟩ = v0 ∧ W.cell? ⟨B1, 1, none⟩ = v1 ∧ W.cell? ⟨B2, 0, none⟩ = v2 ∧ W.cell? ⟨B2, 1, none⟩ = v3 ∧ W.cell? ⟨B3, 0, none⟩ = v4 ∧ W.cell? ⟨B3, 1, none⟩ = v5 ∧ W.cell? ⟨B4, 0, none⟩ = v6 ∧ W.cell? ⟨B4, 1, none⟩ = v7) (hb : Below W.heap.size W w') : Hold k W0 w' ∧ (Sl w' p L ∧ Sl w' q M) ∧ w'.cell? ⟨B1, 0, none⟩ = v0 ∧ w'.cell? ⟨B1, 1, none⟩ = v1 ∧ w'.cell? ⟨B2, 0, none⟩ = v2 ∧ w'.cell? ⟨B2, 1, none⟩ = v3 ∧ w'.cell? ⟨B3, 0, none⟩ = v4 ∧ w'.cell? ⟨B3, 1, none⟩ = v5 ∧ w'.cell? ⟨B4, 0, none⟩ = v6 ∧ w'.cell? ⟨B4, 1, none⟩ = v7 := by
  obtain ⟨hh, ⟨hs, hs2⟩, h_f1_0, h_f1_1, h_f2_0, h_f2_1, h_f3_0, h_f3_1, h_n0, h_n1⟩ := h
  exact ⟨hh.next hb, ⟨hs.next hb, hs2.next hb⟩, (hb.cell (p := ⟨B1, 0, none⟩) (Nat.lt_of_lt_of_le qB1 hh.1)).trans h_f1_0, (hb.cell (p := ⟨B1, 1, none⟩) (Nat.lt_of_lt_of_le qB1 hh.1)).trans h_f1_1, (hb.cell (p := ⟨B2, 0, none⟩) (Nat.lt_of_lt_of_le qB2 hh.1)).trans h_f2_0, (hb.cell (p := ⟨B2, 1, none⟩) (Nat.lt_of_lt_of_le qB2 hh.1)).trans h_f2_1, (hb.cell (p := ⟨B3, 0, none⟩) (Nat.lt_of_lt_of_le qB3 hh.1)).trans h_f3_0, (hb.cell (p := ⟨B3, 1, none⟩) (Nat.lt_of_lt_of_le qB3 hh.1)).trans h_f3_1, (hb.cell (p := ⟨B4, 0, none⟩) (Nat.lt_of_lt_of_le qB4 hh.1)).trans h_n0, (hb.cell (p := ⟨B4, 1, none⟩) (Nat.lt_of_lt_of_le qB4 hh.1)).trans h_n1⟩
theorem slK1 {k : Nat} {W0 w' : World} {v u : Value} {L M : List Int} {Q : Prop} (h : Hold k W0 w' ∧ (Sl w' v L ∧ Sl w' u M) ∧ Q) : Sl w' v L := h.2.1.1
theorem slK2 {k : Nat} {W0 w' : World} {v u : Value} {L M : List Int} {Q : Prop} (h : Hold k W0 w' ∧ (Sl w' v L ∧ Sl w' u M) ∧ Q) : Sl w' u M := h.2.1.2

set_option maxRecDepth 100000 in
set_option maxHeartbeats 8000000 in
theorem Known_any (w : World) : Calls Try.prog 13 #[] w fun e w' => e = .returned (.bool true) ∧ Below w.heap.size w w' := by
  go_enter Try.func13, Try.ntmps13
  go_wp2_with fail
  refine (Span_any 5 7 3 4 _).mono ?_
  rintro e w1 ⟨rfl, hb1⟩
  have hbel : Below w.heap.size w w1 := hb1
  clear hb1
  go_wp2_with fail
  refine (simp_ex3 _).mono ?_
  rintro e w2 ⟨rfl, hb2⟩
  replace hbel : Below w.heap.size w w2 := hbel.trans (hb2.mono hbel.size)
  clear hb2
  go_wp2_with fail
  refine (Span_any 7 2 9 2 _).mono ?_
  rintro e w3 ⟨rfl, hb3⟩
  have hx : Below w2.heap.size w2 w3 := (((Below.refl _ _).alloc (Nat.le_refl _) _) : Below w2.heap.size w2 (w2.alloc (.cells #[.int .i64 3, .int .i64 4] 23))).trans (hb3.mono (by simp))
  have f1_0 : w3.cell? ⟨w2.heap.size, 0, none⟩ = some (.int .i64 3) := (hb3.cell (p := ⟨w2.heap.size, 0, none⟩) (by simp)).trans (by simp [go_sem])
  have f1_1 : w3.cell? ⟨w2.heap.size, 1, none⟩ = some (.int .i64 4) := (hb3.cell (p := ⟨w2.heap.size, 1, none⟩) (by simp)).trans (by simp [go_sem])
  have l1 : w2.heap.size < w3.heap.size := by have := hb3.size; simp at this; omega
  replace hbel : Below w.heap.size w w3 := hbel.trans (hx.mono hbel.size)
  clear hx
  clear hb3
  go_wp2_with fail
  refine (simp_ex4 _).mono ?_
  rintro e w4 ⟨rfl, hb4⟩
  replace f1_0 : w4.cell? ⟨w2.heap.size, 0, none⟩ = some (.int .i64 3) := (hb4.cell (p := ⟨w2.heap.size, 0, none⟩) l1).trans f1_0
  replace f1_1 : w4.cell? ⟨w2.heap.size, 1, none⟩ = some (.int .i64 4) := (hb4.cell (p := ⟨w2.heap.size, 1, none⟩) l1).trans f1_1
  replace l1 : w2.heap.size < w4.heap.size := Nat.lt_of_lt_of_le l1 hb4.size
  replace hbel : Below w.heap.size w w4 := hbel.trans (hb4.mono hbel.size)
  clear hb4
  go_wp2_with fail
  refine (Span_any 5 7 5 7 _).mono ?_
  rintro e w5 ⟨rfl, hb5⟩
  have hx : Below w4.heap.size w4 w5 := (((Below.refl _ _).alloc (Nat.le_refl _) _) : Below w4.heap.size w4 (w4.alloc (.cells #[.int .i64 4, .int .i64 1] 23))).trans (hb5.mono (by simp))
  have f2_0 : w5.cell? ⟨w4.heap.size, 0, none⟩ = some (.int .i64 4) := (hb5.cell (p := ⟨w4.heap.size, 0, none⟩) (by simp)).trans (by simp [go_sem])
  have f2_1 : w5.cell? ⟨w4.heap.size, 1, none⟩ = some (.int .i64 1) := (hb5.cell (p := ⟨w4.heap.size, 1, none⟩) (by simp)).trans (by simp [go_sem])
  have l2 : w4.heap.size < w5.heap.size := by have := hb5.size; simp at this; omega
  replace f1_0 : w5.cell? ⟨w2.heap.size, 0, none⟩ = some (.int .i64 3) := (hx.cell (p := ⟨w2.heap.size, 0, none⟩) l1).trans f1_0
  replace f1_1 : w5.cell? ⟨w2.heap.size, 1, none⟩ = some (.int .i64 4) := (hx.cell (p := ⟨w2.heap.size, 1, none⟩) l1).trans f1_1
  replace l1 : w2.heap.size < w5.heap.size := Nat.lt_of_lt_of_le l1 hx.size
  replace hbel : Below w.heap.size w w5 := hbel.trans (hx.mono hbel.size)
  clear hx
  clear hb5
  go_wp2_with fail
  refine (simp_ex5 _).mono ?_
  rintro e w6 ⟨rfl, hb6⟩
  replace f1_0 : w6.cell? ⟨w2.heap.size, 0, none⟩ = some (.int .i64 3) := (hb6.cell (p := ⟨w2.heap.size, 0, none⟩) l1).trans f1_0
  replace f1_1 : w6.cell? ⟨w2.heap.size, 1, none⟩ = some (.int .i64 4) := (hb6.cell (p := ⟨w2.heap.size, 1, none⟩) l1).trans f1_1
  replace f2_0 : w6.cell? ⟨w4.heap.size, 0, none⟩ = some (.int .i64 4) := (hb6.cell (p := ⟨w4.heap.size, 0, none⟩) l2).trans f2_0
  replace f2_1 : w6.cell? ⟨w4.heap.size, 1, none⟩ = some (.int .i64 1) := (hb6.cell (p := ⟨w4.heap.size, 1, none⟩) l2).trans f2_1
  replace l1 : w2.heap.size < w6.heap.size := Nat.lt_of_lt_of_le l1 hb6.size
  replace l2 : w4.heap.size < w6.heap.size := Nat.lt_of_lt_of_le l2 hb6.size
  replace hbel : Below w.heap.size w w6 := hbel.trans (hb6.mono hbel.size)
  clear hb6
  go_wp2_with fail
  refine (Span_any 31 100 8 25 _).mono ?_
  rintro e w7 ⟨rfl, hb7⟩
  have hx : Below w6.heap.size w6 w7 := (((Below.refl _ _).alloc (Nat.le_refl _) _) : Below w6.heap.size w6 (w6.alloc (.cells #[.int .i64 5, .int .i64 7] 23))).trans (hb7.mono (by simp))
  have f3_0 : w7.cell? ⟨w6.heap.size, 0, none⟩ = some (.int .i64 5) := (hb7.cell (p := ⟨w6.heap.size, 0, none⟩) (by simp)).trans (by simp [go_sem])
  have f3_1 : w7.cell? ⟨w6.heap.size, 1, none⟩ = some (.int .i64 7) := (hb7.cell (p := ⟨w6.heap.size, 1, none⟩) (by simp)).trans (by simp [go_sem])
  have l3 : w6.heap.size < w7.heap.size := by have := hb7.size; simp at this; omega
  replace f1_0 : w7.cell? ⟨w2.heap.size, 0, none⟩ = some (.int .i64 3) := (hx.cell (p := ⟨w2.heap.size, 0, none⟩) l1).trans f1_0
  replace f1_1 : w7.cell? ⟨w2.heap.size, 1, none⟩ = some (.int .i64 4) := (hx.cell (p := ⟨w2.heap.size, 1, none⟩) l1).trans f1_1
  replace f2_0 : w7.cell? ⟨w4.heap.size, 0, none⟩ = some (.int .i64 4) := (hx.cell (p := ⟨w4.heap.size, 0, none⟩) l2).trans f2_0
  replace f2_1 : w7.cell? ⟨w4.heap.size, 1, none⟩ = some (.int .i64 1) := (hx.cell (p := ⟨w4.heap.size, 1, none⟩) l2).trans f2_1
  replace l1 : w2.heap.size < w7.heap.size := Nat.lt_of_lt_of_le l1 hx.size
  replace l2 : w4.heap.size < w7.heap.size := Nat.lt_of_lt_of_le l2 hx.size
  replace hbel : Below w.heap.size w w7 := hbel.trans (hx.mono hbel.size)
  clear hx
  clear hb7
  go_upto_region 5 with fail
  go_cut [8, 9] (fun s0 s1 wx => s0 = .int .i64 4 ∧ s1 = .int .i64 0 ∧ Hold w7.heap.size w7 wx ∧ wx.cell? ⟨w7.heap.size, 0, none⟩ = some (.int .i64 31) ∧ wx.cell? ⟨w7.heap.size, 1, none⟩ = some (.int .i64 100) ∧ wx.cell? ⟨w7.heap.size, 2, none⟩ = some (.int .i64 8) ∧ wx.cell? ⟨w7.heap.size, 3, none⟩ = some (.int .i64 25))
  case first =>
    go_region_held3 (fun w' => Hold (w7.heap.size + 1) (w7.alloc (.cells #[.int .i64 31, .int .i64 100, .int .i64 8, .int .i64 25] 25)) w' ∧ w'.cell? ⟨w7.heap.size, 0, none⟩ = some (.int .i64 31) ∧ w'.cell? ⟨w7.heap.size, 1, none⟩ = some (.int .i64 100) ∧ w'.cell? ⟨w7.heap.size, 2, none⟩ = some (.int .i64 8) ∧ w'.cell? ⟨w7.heap.size, 3, none⟩ = some (.int .i64 25)) (first | exact keep4 (Nat.lt_succ_self _) (by assumption) hbq | exact keep4 (Nat.lt_succ_self _) ⟨⟨by simp, Below.refl _ _⟩, by simp [go_sem], by simp [go_sem], by simp [go_sem], by simp [go_sem]⟩ (Below.refl _ _).drew) (first
      | (go_at_call 35; refine (of_any _ _ _).mono ?_; rintro e wq ⟨rfl, hbq⟩)
      | (go_at_call 20; refine (chk_ex2 _).mono ?_; rintro e wq ⟨rfl, hbq⟩))
    all_goals go_wp2_with fail
    all_goals go_meet
    all_goals exact ⟨rfl, rfl, hold_one (by assumption)⟩
  case rest =>
    obtain ⟨rfl, rfl, hH, g0, g1, g2, g3⟩ := hcut
    rename World => wa
    have hx := hH.2
    have lbox : w7.heap.size < wa.heap.size := lt_of_cell g0
    replace f1_0 : wa.cell? ⟨w2.heap.size, 0, none⟩ = some (.int .i64 3) := (hx.cell (p := ⟨w2.heap.size, 0, none⟩) l1).trans f1_0
    replace f1_1 : wa.cell? ⟨w2.heap.size, 1, none⟩ = some (.int .i64 4) := (hx.cell (p := ⟨w2.heap.size, 1, none⟩) l1).trans f1_1
    replace f2_0 : wa.cell? ⟨w4.heap.size, 0, none⟩ = some (.int .i64 4) := (hx.cell (p := ⟨w4.heap.size, 0, none⟩) l2).trans f2_0
    replace f2_1 : wa.cell? ⟨w4.heap.size, 1, none⟩ = some (.int .i64 1) := (hx.cell (p := ⟨w4.heap.size, 1, none⟩) l2).trans f2_1
    replace f3_0 : wa.cell? ⟨w6.heap.size, 0, none⟩ = some (.int .i64 5) := (hx.cell (p := ⟨w6.heap.size, 0, none⟩) l3).trans f3_0
    replace f3_1 : wa.cell? ⟨w6.heap.size, 1, none⟩ = some (.int .i64 7) := (hx.cell (p := ⟨w6.heap.size, 1, none⟩) l3).trans f3_1
    replace l1 : w2.heap.size < wa.heap.size := Nat.lt_of_lt_of_le l1 hx.size
    replace l2 : w4.heap.size < wa.heap.size := Nat.lt_of_lt_of_le l2 hx.size
    replace l3 : w6.heap.size < wa.heap.size := Nat.lt_of_lt_of_le l3 hx.size
    replace hbel : Below w.heap.size w wa := hbel.trans (hx.mono hbel.size)
    clear hx hH
    go_upto_region 6 with fail
    go_cut [10, 11] (fun s0 s1 wx => s0 = .int .i64 7 ∧ s1 = .int .i64 0 ∧ Hold wa.heap.size wa wx ∧ wx.cell? ⟨w7.heap.size, 0, none⟩ = some (.int .i64 31) ∧ wx.cell? ⟨w7.heap.size, 1, none⟩ = some (.int .i64 100) ∧ wx.cell? ⟨w7.heap.size, 2, none⟩ = some (.int .i64 8) ∧ wx.cell? ⟨w7.heap.size, 3, none⟩ = some (.int .i64 25))
    case first =>
      go_region_held3 (fun w' => Hold wa.heap.size wa w' ∧ w'.cell? ⟨w7.heap.size, 0, none⟩ = some (.int .i64 31) ∧ w'.cell? ⟨w7.heap.size, 1, none⟩ = some (.int .i64 100) ∧ w'.cell? ⟨w7.heap.size, 2, none⟩ = some (.int .i64 8) ∧ w'.cell? ⟨w7.heap.size, 3, none⟩ = some (.int .i64 25)) (first | exact keep4 lbox (by assumption) hbq | exact keep4 lbox ⟨⟨Nat.le_refl _, Below.refl _ _⟩, g0, g1, g2, g3⟩ (Below.refl _ _).drew) (first
        | (go_at_call 35; refine (of_any _ _ _).mono ?_; rintro e wq ⟨rfl, hbq⟩)
        | (go_at_call 20; refine (chk_ex3 _).mono ?_; rintro e wq ⟨rfl, hbq⟩))
      all_goals go_wp2_with fail
      all_goals go_meet
      all_goals exact ⟨rfl, rfl, hold_two (by assumption)⟩
    case rest =>
      obtain ⟨rfl, rfl, hH, g0, g1, g2, g3⟩ := hcut
      rename World => wb
      have hx := hH.2
      replace lbox : w7.heap.size < wb.heap.size := lt_of_cell g0
      replace f1_0 : wb.cell? ⟨w2.heap.size, 0, none⟩ = some (.int .i64 3) := (hx.cell (p := ⟨w2.heap.size, 0, none⟩) l1).trans f1_0
      replace f1_1 : wb.cell? ⟨w2.heap.size, 1, none⟩ = some (.int .i64 4) := (hx.cell (p := ⟨w2.heap.size, 1, none⟩) l1).trans f1_1
      replace f2_0 : wb.cell? ⟨w4.heap.size, 0, none⟩ = some (.int .i64 4) := (hx.cell (p := ⟨w4.heap.size, 0, none⟩) l2).trans f2_0
      replace f2_1 : wb.cell? ⟨w4.heap.size, 1, none⟩ = some (.int .i64 1) := (hx.cell (p := ⟨w4.heap.size, 1, none⟩) l2).trans f2_1
      replace f3_0 : wb.cell? ⟨w6.heap.size, 0, none⟩ = some (.int .i64 5) := (hx.cell (p := ⟨w6.heap.size, 0, none⟩) l3).trans f3_0
      replace f3_1 : wb.cell? ⟨w6.heap.size, 1, none⟩ = some (.int .i64 7) := (hx.cell (p := ⟨w6.heap.size, 1, none⟩) l3).trans f3_1
      replace l1 : w2.heap.size < wb.heap.size := Nat.lt_of_lt_of_le l1 hx.size
      replace l2 : w4.heap.size < wb.heap.size := Nat.lt_of_lt_of_le l2 hx.size
      replace l3 : w6.heap.size < wb.heap.size := Nat.lt_of_lt_of_le l3 hx.size
      replace hbel : Below w.heap.size w wb := hbel.trans (hx.mono hbel.size)
      clear hx hH
      go_wp2_with fail
      refine (of_any 7 3 _).mono ?_
      rintro e w8 ⟨rfl, hb8⟩
      replace f1_0 : w8.cell? ⟨w2.heap.size, 0, none⟩ = some (.int .i64 3) := (hb8.cell (p := ⟨w2.heap.size, 0, none⟩) l1).trans f1_0
      replace f1_1 : w8.cell? ⟨w2.heap.size, 1, none⟩ = some (.int .i64 4) := (hb8.cell (p := ⟨w2.heap.size, 1, none⟩) l1).trans f1_1
      replace f2_0 : w8.cell? ⟨w4.heap.size, 0, none⟩ = some (.int .i64 4) := (hb8.cell (p := ⟨w4.heap.size, 0, none⟩) l2).trans f2_0
      replace f2_1 : w8.cell? ⟨w4.heap.size, 1, none⟩ = some (.int .i64 1) := (hb8.cell (p := ⟨w4.heap.size, 1, none⟩) l2).trans f2_1
      replace f3_0 : w8.cell? ⟨w6.heap.size, 0, none⟩ = some (.int .i64 5) := (hb8.cell (p := ⟨w6.heap.size, 0, none⟩) l3).trans f3_0
      replace f3_1 : w8.cell? ⟨w6.heap.size, 1, none⟩ = some (.int .i64 7) := (hb8.cell (p := ⟨w6.heap.size, 1, none⟩) l3).trans f3_1
      replace l1 : w2.heap.size < w8.heap.size := Nat.lt_of_lt_of_le l1 hb8.size
      replace l2 : w4.heap.size < w8.heap.size := Nat.lt_of_lt_of_le l2 hb8.size
      replace l3 : w6.heap.size < w8.heap.size := Nat.lt_of_lt_of_le l3 hb8.size
      replace hbel : Below w.heap.size w w8 := hbel.trans (hb8.mono hbel.size)
      clear hb8
      go_wp2_with fail
      refine (path_ex2 _).mono ?_
      rintro e w9 ⟨⟨v3, rfl, hp⟩, hb9⟩
      replace f1_0 : w9.cell? ⟨w2.heap.size, 0, none⟩ = some (.int .i64 3) := (hb9.cell (p := ⟨w2.heap.size, 0, none⟩) l1).trans f1_0
      replace f1_1 : w9.cell? ⟨w2.heap.size, 1, none⟩ = some (.int .i64 4) := (hb9.cell (p := ⟨w2.heap.size, 1, none⟩) l1).trans f1_1
      replace f2_0 : w9.cell? ⟨w4.heap.size, 0, none⟩ = some (.int .i64 4) := (hb9.cell (p := ⟨w4.heap.size, 0, none⟩) l2).trans f2_0
      replace f2_1 : w9.cell? ⟨w4.heap.size, 1, none⟩ = some (.int .i64 1) := (hb9.cell (p := ⟨w4.heap.size, 1, none⟩) l2).trans f2_1
      replace f3_0 : w9.cell? ⟨w6.heap.size, 0, none⟩ = some (.int .i64 5) := (hb9.cell (p := ⟨w6.heap.size, 0, none⟩) l3).trans f3_0
      replace f3_1 : w9.cell? ⟨w6.heap.size, 1, none⟩ = some (.int .i64 7) := (hb9.cell (p := ⟨w6.heap.size, 1, none⟩) l3).trans f3_1
      replace l1 : w2.heap.size < w9.heap.size := Nat.lt_of_lt_of_le l1 hb9.size
      replace l2 : w4.heap.size < w9.heap.size := Nat.lt_of_lt_of_le l2 hb9.size
      replace l3 : w6.heap.size < w9.heap.size := Nat.lt_of_lt_of_le l3 hb9.size
      replace hbel : Below w.heap.size w w9 := hbel.trans (hb9.mono hbel.size)
      clear hb9
      go_wp2_with fail
      refine (of_any 4 1 _).mono ?_
      rintro e w10 ⟨rfl, hb10⟩
      replace f1_0 : w10.cell? ⟨w2.heap.size, 0, none⟩ = some (.int .i64 3) := (hb10.cell (p := ⟨w2.heap.size, 0, none⟩) l1).trans f1_0
      replace f1_1 : w10.cell? ⟨w2.heap.size, 1, none⟩ = some (.int .i64 4) := (hb10.cell (p := ⟨w2.heap.size, 1, none⟩) l1).trans f1_1
      replace f2_0 : w10.cell? ⟨w4.heap.size, 0, none⟩ = some (.int .i64 4) := (hb10.cell (p := ⟨w4.heap.size, 0, none⟩) l2).trans f2_0
      replace f2_1 : w10.cell? ⟨w4.heap.size, 1, none⟩ = some (.int .i64 1) := (hb10.cell (p := ⟨w4.heap.size, 1, none⟩) l2).trans f2_1
      replace f3_0 : w10.cell? ⟨w6.heap.size, 0, none⟩ = some (.int .i64 5) := (hb10.cell (p := ⟨w6.heap.size, 0, none⟩) l3).trans f3_0
      replace f3_1 : w10.cell? ⟨w6.heap.size, 1, none⟩ = some (.int .i64 7) := (hb10.cell (p := ⟨w6.heap.size, 1, none⟩) l3).trans f3_1
      replace l1 : w2.heap.size < w10.heap.size := Nat.lt_of_lt_of_le l1 hb10.size
      replace l2 : w4.heap.size < w10.heap.size := Nat.lt_of_lt_of_le l2 hb10.size
      replace l3 : w6.heap.size < w10.heap.size := Nat.lt_of_lt_of_le l3 hb10.size
      replace hp := hp.next hb10
      replace hbel : Below w.heap.size w w10 := hbel.trans (hb10.mono hbel.size)
      clear hb10
      go_wp2_with fail
      refine (path_ex3 _).mono ?_
      rintro e w11 ⟨⟨v4, rfl, hq⟩, hb11⟩
      replace f1_0 : w11.cell? ⟨w2.heap.size, 0, none⟩ = some (.int .i64 3) := (hb11.cell (p := ⟨w2.heap.size, 0, none⟩) l1).trans f1_0
      replace f1_1 : w11.cell? ⟨w2.heap.size, 1, none⟩ = some (.int .i64 4) := (hb11.cell (p := ⟨w2.heap.size, 1, none⟩) l1).trans f1_1
      replace f2_0 : w11.cell? ⟨w4.heap.size, 0, none⟩ = some (.int .i64 4) := (hb11.cell (p := ⟨w4.heap.size, 0, none⟩) l2).trans f2_0
      replace f2_1 : w11.cell? ⟨w4.heap.size, 1, none⟩ = some (.int .i64 1) := (hb11.cell (p := ⟨w4.heap.size, 1, none⟩) l2).trans f2_1
      replace f3_0 : w11.cell? ⟨w6.heap.size, 0, none⟩ = some (.int .i64 5) := (hb11.cell (p := ⟨w6.heap.size, 0, none⟩) l3).trans f3_0
      replace f3_1 : w11.cell? ⟨w6.heap.size, 1, none⟩ = some (.int .i64 7) := (hb11.cell (p := ⟨w6.heap.size, 1, none⟩) l3).trans f3_1
      replace l1 : w2.heap.size < w11.heap.size := Nat.lt_of_lt_of_le l1 hb11.size
      replace l2 : w4.heap.size < w11.heap.size := Nat.lt_of_lt_of_le l2 hb11.size
      replace l3 : w6.heap.size < w11.heap.size := Nat.lt_of_lt_of_le l3 hb11.size
      replace hp := hp.next hb11
      replace hbel : Below w.heap.size w w11 := hbel.trans (hb11.mono hbel.size)
      clear hb11
      go_wp2_with fail
      refine (follow_ex3 _ _ (sl1 _ 0 2)).mono ?_
      rintro e w12 ⟨rfl, hb12⟩
      have hx : Below w11.heap.size w11 w12 := (((Below.refl _ _).alloc (Nat.le_refl _) _) : Below w11.heap.size w11 (w11.alloc (.cells #[.int .i64 0] 2))).trans (hb12.mono (by simp))
      have f4_0 : w12.cell? ⟨w11.heap.size, 0, none⟩ = some (.int .i64 0) := (hb12.cell (p := ⟨w11.heap.size, 0, none⟩) (by simp)).trans (by simp [go_sem])
      have l4 : w11.heap.size < w12.heap.size := by have := hb12.size; simp at this; omega
      replace f1_0 : w12.cell? ⟨w2.heap.size, 0, none⟩ = some (.int .i64 3) := (hx.cell (p := ⟨w2.heap.size, 0, none⟩) l1).trans f1_0
      replace f1_1 : w12.cell? ⟨w2.heap.size, 1, none⟩ = some (.int .i64 4) := (hx.cell (p := ⟨w2.heap.size, 1, none⟩) l1).trans f1_1
      replace f2_0 : w12.cell? ⟨w4.heap.size, 0, none⟩ = some (.int .i64 4) := (hx.cell (p := ⟨w4.heap.size, 0, none⟩) l2).trans f2_0
      replace f2_1 : w12.cell? ⟨w4.heap.size, 1, none⟩ = some (.int .i64 1) := (hx.cell (p := ⟨w4.heap.size, 1, none⟩) l2).trans f2_1
      replace f3_0 : w12.cell? ⟨w6.heap.size, 0, none⟩ = some (.int .i64 5) := (hx.cell (p := ⟨w6.heap.size, 0, none⟩) l3).trans f3_0
      replace f3_1 : w12.cell? ⟨w6.heap.size, 1, none⟩ = some (.int .i64 7) := (hx.cell (p := ⟨w6.heap.size, 1, none⟩) l3).trans f3_1
      replace l1 : w2.heap.size < w12.heap.size := Nat.lt_of_lt_of_le l1 hx.size
      replace l2 : w4.heap.size < w12.heap.size := Nat.lt_of_lt_of_le l2 hx.size
      replace l3 : w6.heap.size < w12.heap.size := Nat.lt_of_lt_of_le l3 hx.size
      replace hp := hp.next hx
      replace hq := hq.next hx
      replace hbel : Below w.heap.size w w12 := hbel.trans (hx.mono hbel.size)
      clear hx
      clear hb12
      go_wp2_with fail
      refine (of_any 3 10 _).mono ?_
      rintro e w13 ⟨rfl, hb13⟩
      have hx : Below w12.heap.size w12 w13 := (((Below.refl _ _).alloc (Nat.le_refl _) _) : Below w12.heap.size w12 (w12.alloc (.cells #[.int .i64 0, .int .i64 0] 23))).trans (hb13.mono (by simp))
      have f5_0 : w13.cell? ⟨w12.heap.size, 0, none⟩ = some (.int .i64 0) := (hb13.cell (p := ⟨w12.heap.size, 0, none⟩) (by simp)).trans (by simp [go_sem])
      have f5_1 : w13.cell? ⟨w12.heap.size, 1, none⟩ = some (.int .i64 0) := (hb13.cell (p := ⟨w12.heap.size, 1, none⟩) (by simp)).trans (by simp [go_sem])
      have l5 : w12.heap.size < w13.heap.size := by have := hb13.size; simp at this; omega
      replace f1_0 : w13.cell? ⟨w2.heap.size, 0, none⟩ = some (.int .i64 3) := (hx.cell (p := ⟨w2.heap.size, 0, none⟩) l1).trans f1_0
      replace f1_1 : w13.cell? ⟨w2.heap.size, 1, none⟩ = some (.int .i64 4) := (hx.cell (p := ⟨w2.heap.size, 1, none⟩) l1).trans f1_1
      replace f2_0 : w13.cell? ⟨w4.heap.size, 0, none⟩ = some (.int .i64 4) := (hx.cell (p := ⟨w4.heap.size, 0, none⟩) l2).trans f2_0
      replace f2_1 : w13.cell? ⟨w4.heap.size, 1, none⟩ = some (.int .i64 1) := (hx.cell (p := ⟨w4.heap.size, 1, none⟩) l2).trans f2_1
      replace f3_0 : w13.cell? ⟨w6.heap.size, 0, none⟩ = some (.int .i64 5) := (hx.cell (p := ⟨w6.heap.size, 0, none⟩) l3).trans f3_0
      replace f3_1 : w13.cell? ⟨w6.heap.size, 1, none⟩ = some (.int .i64 7) := (hx.cell (p := ⟨w6.heap.size, 1, none⟩) l3).trans f3_1
      replace f4_0 : w13.cell? ⟨w11.heap.size, 0, none⟩ = some (.int .i64 0) := (hx.cell (p := ⟨w11.heap.size, 0, none⟩) l4).trans f4_0
      replace l1 : w2.heap.size < w13.heap.size := Nat.lt_of_lt_of_le l1 hx.size
      replace l2 : w4.heap.size < w13.heap.size := Nat.lt_of_lt_of_le l2 hx.size
      replace l3 : w6.heap.size < w13.heap.size := Nat.lt_of_lt_of_le l3 hx.size
      replace l4 : w11.heap.size < w13.heap.size := Nat.lt_of_lt_of_le l4 hx.size
      replace hp := hp.next hx
      replace hq := hq.next hx
      replace hbel : Below w.heap.size w w13 := hbel.trans (hx.mono hbel.size)
      clear hx
      clear hb13
      go_wp2_with fail
      refine (next_ex2 _).mono ?_
      rintro e w14 ⟨rfl, hb14⟩
      replace f1_0 : w14.cell? ⟨w2.heap.size, 0, none⟩ = some (.int .i64 3) := (hb14.cell (p := ⟨w2.heap.size, 0, none⟩) l1).trans f1_0
      replace f1_1 : w14.cell? ⟨w2.heap.size, 1, none⟩ = some (.int .i64 4) := (hb14.cell (p := ⟨w2.heap.size, 1, none⟩) l1).trans f1_1
      replace f2_0 : w14.cell? ⟨w4.heap.size, 0, none⟩ = some (.int .i64 4) := (hb14.cell (p := ⟨w4.heap.size, 0, none⟩) l2).trans f2_0
      replace f2_1 : w14.cell? ⟨w4.heap.size, 1, none⟩ = some (.int .i64 1) := (hb14.cell (p := ⟨w4.heap.size, 1, none⟩) l2).trans f2_1
      replace f3_0 : w14.cell? ⟨w6.heap.size, 0, none⟩ = some (.int .i64 5) := (hb14.cell (p := ⟨w6.heap.size, 0, none⟩) l3).trans f3_0
      replace f3_1 : w14.cell? ⟨w6.heap.size, 1, none⟩ = some (.int .i64 7) := (hb14.cell (p := ⟨w6.heap.size, 1, none⟩) l3).trans f3_1
      replace f4_0 : w14.cell? ⟨w11.heap.size, 0, none⟩ = some (.int .i64 0) := (hb14.cell (p := ⟨w11.heap.size, 0, none⟩) l4).trans f4_0
      replace f5_0 : w14.cell? ⟨w12.heap.size, 0, none⟩ = some (.int .i64 0) := (hb14.cell (p := ⟨w12.heap.size, 0, none⟩) l5).trans f5_0
      replace f5_1 : w14.cell? ⟨w12.heap.size, 1, none⟩ = some (.int .i64 0) := (hb14.cell (p := ⟨w12.heap.size, 1, none⟩) l5).trans f5_1
      replace l1 : w2.heap.size < w14.heap.size := Nat.lt_of_lt_of_le l1 hb14.size
      replace l2 : w4.heap.size < w14.heap.size := Nat.lt_of_lt_of_le l2 hb14.size
      replace l3 : w6.heap.size < w14.heap.size := Nat.lt_of_lt_of_le l3 hb14.size
      replace l4 : w11.heap.size < w14.heap.size := Nat.lt_of_lt_of_le l4 hb14.size
      replace l5 : w12.heap.size < w14.heap.size := Nat.lt_of_lt_of_le l5 hb14.size
      replace hp := hp.next hb14
      replace hq := hq.next hb14
      replace hbel : Below w.heap.size w w14 := hbel.trans (hb14.mono hbel.size)
      clear hb14
      go_wp2_with fail
      simp only [List.append_eq, List.cons_append, List.nil_append]
      go_region_held3 (fun w' => Hold (w14.heap.size + 1) (w14.alloc (.cells #[.int .i64 1, .int .i64 3] 23)) w' ∧ (Sl w' v3 [2, 3] ∧ Sl w' v4 [4]) ∧ w'.cell? ⟨w2.heap.size, 0, none⟩ = some (.int .i64 3) ∧ w'.cell? ⟨w2.heap.size, 1, none⟩ = some (.int .i64 4) ∧ w'.cell? ⟨w4.heap.size, 0, none⟩ = some (.int .i64 4) ∧ w'.cell? ⟨w4.heap.size, 1, none⟩ = some (.int .i64 1) ∧ w'.cell? ⟨w6.heap.size, 0, none⟩ = some (.int .i64 5) ∧ w'.cell? ⟨w6.heap.size, 1, none⟩ = some (.int .i64 7) ∧ w'.cell? ⟨w14.heap.size, 0, none⟩ = some (.int .i64 1) ∧ w'.cell? ⟨w14.heap.size, 1, none⟩ = some (.int .i64 3)) (first | exact keepK (Nat.lt_succ_of_lt l1) (Nat.lt_succ_of_lt l2) (Nat.lt_succ_of_lt l3) (Nat.lt_succ_self _) (by assumption) hbq | exact keepK (Nat.lt_succ_of_lt l1) (Nat.lt_succ_of_lt l2) (Nat.lt_succ_of_lt l3) (Nat.lt_succ_self _) (by assumption) (below_alloc _ _) | exact keepK (Nat.lt_succ_of_lt l1) (Nat.lt_succ_of_lt l2) (Nat.lt_succ_of_lt l3) (Nat.lt_succ_self _) ⟨⟨by simp, Below.refl _ _⟩, ⟨hp.next (below_alloc _ _), hq.next (below_alloc _ _)⟩, ((below_alloc w14 _).cell (p := ⟨w2.heap.size, 0, none⟩) l1).trans f1_0, ((below_alloc w14 _).cell (p := ⟨w2.heap.size, 1, none⟩) l1).trans f1_1, ((below_alloc w14 _).cell (p := ⟨w4.heap.size, 0, none⟩) l2).trans f2_0, ((below_alloc w14 _).cell (p := ⟨w4.heap.size, 1, none⟩) l2).trans f2_1, ((below_alloc w14 _).cell (p := ⟨w6.heap.size, 0, none⟩) l3).trans f3_0, ((below_alloc w14 _).cell (p := ⟨w6.heap.size, 1, none⟩) l3).trans f3_1, by simp [go_sem], by simp [go_sem]⟩ (Below.refl _ _).drew | exact keepK (Nat.lt_succ_of_lt l1) (Nat.lt_succ_of_lt l2) (Nat.lt_succ_of_lt l3) (Nat.lt_succ_self _) (by assumption) (below_alloc_drew _ _)) (first
        | (go_at_call 35; refine (of_any _ _ _).mono ?_; rintro e wq ⟨rfl, hbq⟩)
        | (go_at_call 27; with_reducible refine (longs23 v3 _ (slK1 (by assumption))).mono ?_; rintro e wq ⟨rfl, hbq⟩)
        | (go_at_call 27; with_reducible refine (longs4 v4 _ (slK2 (by assumption))).mono ?_; rintro e wq ⟨rfl, hbq⟩)
        | (go_at_call 16; refine (Works_any _).mono ?_; rintro e wq ⟨rfl, hbq⟩))
      go_wp2_with fail
      go_ret
      exact ⟨rfl, hbel.trans ((show Below w14.heap.size w14 _ from (hold_one (by assumption)).1.2).mono hbel.size)⟩
end Go.Proofs.Ytbdjllgngblfoaa
