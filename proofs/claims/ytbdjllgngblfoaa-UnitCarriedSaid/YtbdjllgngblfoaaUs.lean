import Derived.Test.YtbdjllgngblfoaaUr
import Derived.Test.YtbdjllgngblfoaaUg
import Derived.Deep.DeepCutAuto
import Derived.Deep.DrawnRows
import Derived.BigRegion
namespace Go.Proofs.Ytbdjllgngblfoaa
set_option linter.unusedVariables false
set_option linter.unusedSimpArgs false
open Go.RowKit

attribute [local go_sem ↓] Go.wp_at_zero Go.wp_at_succ

/-- What a product of two fractions comes to. -/
def PR (a b c d X Y : Int) (f : Bool) : Prop := Fr a b ∧ Fr c d ∧ ∃ x y, Red (a * c) (b * d) x y ∧ ((Wn x y ∧ X = x ∧ Y = y ∧ f = true) ∨ (¬ Wn x y ∧ X = 0 ∧ Y = 0 ∧ f = false))

theorem product_any (a b c d X Y : Int) (f : Bool) (g : Nat) (h : PR a b c d X Y f) (w : World) (h0 : w.cell? ⟨g, 0, none⟩ = some (.int .i64 a)) (h1 : w.cell? ⟨g, 1, none⟩ = some (.int .i64 b)) (h2 : w.cell? ⟨g, 2, none⟩ = some (.int .i64 c)) (h3 : w.cell? ⟨g, 3, none⟩ = some (.int .i64 d)) :
    Calls Try.prog 71 #[.slice (some ⟨g, 0, none⟩) 2 2] w fun e w' => e = .returned (.tuple #[.agg #[.int .i64 X, .int .i64 Y], .bool f]) ∧ Below w.heap.size w w' := by
  obtain ⟨hA, hC, x, y, hR, ⟨hW, rfl, rfl, rfl⟩ | ⟨hW, rfl, rfl, rfl⟩⟩ := h
  · exact product_ok a b c d _ _ g hA hC hR hW w h0 h1 h2 h3
  · exact product_over a b c d x y g hA hC hR hW w h0 h1 h2 h3

/-- What multiply leaves: the span at SB is another one, all else below is as it was. -/
structure Mul (w w' : World) (SB : Nat) (x y z u : Int) : Prop where
  os : w'.os = w.os
  tape : w'.tape = w.tape
  output : w'.output = w.output
  size : w.heap.size ≤ w'.heap.size
  block : ∀ k, k < w.heap.size → k ≠ SB → w'.heap[k]? = w.heap[k]?
  c0 : w'.cell? ⟨SB, 0, none⟩ = some (.int .i64 x)
  c1 : w'.cell? ⟨SB, 1, none⟩ = some (.int .i64 y)
  c2 : w'.cell? ⟨SB, 2, none⟩ = some (.int .i64 z)
  c3 : w'.cell? ⟨SB, 3, none⟩ = some (.int .i64 u)
  fr : ∀ o, w'.frozen? ⟨SB, o, none⟩ = false

theorem hold8 {k SB BB : Nat} {W0 W w' : World} {v0 v1 v2 v3 u0 u1 u2 u3 : Option Value} (q1 : SB < k) (q2 : BB < k)
    (h : Hold k W0 W ∧ W.cell? ⟨SB, 0, none⟩ = v0 ∧ W.cell? ⟨SB, 1, none⟩ = v1 ∧ W.cell? ⟨SB, 2, none⟩ = v2 ∧ W.cell? ⟨SB, 3, none⟩ = v3 ∧ W.cell? ⟨BB, 0, none⟩ = u0 ∧ W.cell? ⟨BB, 1, none⟩ = u1 ∧ W.cell? ⟨BB, 2, none⟩ = u2 ∧ W.cell? ⟨BB, 3, none⟩ = u3) (hb : Below W.heap.size W w') :
    Hold k W0 w' ∧ w'.cell? ⟨SB, 0, none⟩ = v0 ∧ w'.cell? ⟨SB, 1, none⟩ = v1 ∧ w'.cell? ⟨SB, 2, none⟩ = v2 ∧ w'.cell? ⟨SB, 3, none⟩ = v3 ∧ w'.cell? ⟨BB, 0, none⟩ = u0 ∧ w'.cell? ⟨BB, 1, none⟩ = u1 ∧ w'.cell? ⟨BB, 2, none⟩ = u2 ∧ w'.cell? ⟨BB, 3, none⟩ = u3 := by
  obtain ⟨hh, h0, h1, h2, h3, g0, g1, g2, g3⟩ := h
  have c1 : ∀ o, w'.cell? ⟨SB, o, none⟩ = W.cell? ⟨SB, o, none⟩ := fun o => hb.cell (Nat.lt_of_lt_of_le q1 hh.1)
  have c2 : ∀ o, w'.cell? ⟨BB, o, none⟩ = W.cell? ⟨BB, o, none⟩ := fun o => hb.cell (Nat.lt_of_lt_of_le q2 hh.1)
  exact ⟨hh.next hb, (c1 _).trans h0, (c1 _).trans h1, (c1 _).trans h2, (c1 _).trans h3, (c2 _).trans g0, (c2 _).trans g1, (c2 _).trans g2, (c2 _).trans g3⟩

theorem set2_c0 {w : World} {B : Nat} {x y u : Value} (h : w.cell? ⟨B, 0, none⟩ = some u) : ((w.setCell ⟨B, 0, none⟩ x).setCell ⟨B, 1, none⟩ y).cell? ⟨B, 0, none⟩ = some x := by
  have e : (⟨B, 1, none⟩ : Addr) ≠ ⟨B, 0, none⟩ := fun e => by injection e; omega
  rw [World.cell?_setCell_other _ _ _ _ e]
  exact World.cell?_setCell_same' _ _ _ (by rw [h]; rfl)
theorem set2_c1 {w : World} {B : Nat} {x y u : Value} (h : w.cell? ⟨B, 1, none⟩ = some u) : ((w.setCell ⟨B, 0, none⟩ x).setCell ⟨B, 1, none⟩ y).cell? ⟨B, 1, none⟩ = some y := by
  refine World.cell?_setCell_same' _ _ _ ?_
  have e : (⟨B, 0, none⟩ : Addr) ≠ ⟨B, 1, none⟩ := fun e => by injection e; omega
  rw [World.cell?_setCell_other _ _ _ _ e, h]
  rfl
theorem mul_of {w wc : World} {SB : Nat} {a b c d x y z u : Int} (hB : Below w.heap.size w wc) (q1 : SB < w.heap.size) (t0 : wc.cell? ⟨SB, 0, none⟩ = some (.int .i64 a)) (t1 : wc.cell? ⟨SB, 1, none⟩ = some (.int .i64 b)) (t2 : wc.cell? ⟨SB, 2, none⟩ = some (.int .i64 c)) (t3 : wc.cell? ⟨SB, 3, none⟩ = some (.int .i64 d)) (tf : ∀ o, wc.frozen? ⟨SB, o, none⟩ = false) :
    Mul w (((((wc.setCell ⟨SB, 0, none⟩ (.int .i64 x)).setCell ⟨SB, 1, none⟩ (.int .i64 y)).setCell ⟨SB, 2, none⟩ (.int .i64 z)).setCell ⟨SB, 3, none⟩ (.int .i64 u)).drew) SB x y z u := by
  refine ⟨hB.os, hB.tape, hB.output, by simpa [World.setCell] using hB.size, fun k hk hne => ?_, by simp [go_sem, t0], by simp [go_sem, t1], by simp [go_sem, t2], by simp [go_sem, t3], fun o => by simp [tf]⟩
  show (((((wc.setCell ⟨SB, 0, none⟩ (.int .i64 x)).setCell ⟨SB, 1, none⟩ (.int .i64 y)).setCell ⟨SB, 2, none⟩ (.int .i64 z)).setCell ⟨SB, 3, none⟩ (.int .i64 u))).heap[k]? = w.heap[k]?
  rw [Below.heap_setCell _ _ _ _ hne, Below.heap_setCell _ _ _ _ hne, Below.heap_setCell _ _ _ _ hne, Below.heap_setCell _ _ _ _ hne]
  exact hB.block k hk

theorem hold_of {P Q : Prop} (h : P ∧ Q) : P := h.1

theorem below_alloc_drew (X : World) (o : Obj) : Below X.drew.heap.size X.drew ((X.alloc o).drew) :=
  show Below X.drew.heap.size X.drew (X.drew.alloc o) from (Below.refl _ _).alloc (Nat.le_refl _) o
theorem below_alloc (X : World) (o : Obj) : Below X.heap.size X (X.alloc o) := (Below.refl _ _).alloc (Nat.le_refl _) o
theorem hold8_re {k SB BB : Nat} {W0 W : World} {o o' : Obj} {v0 v1 v2 v3 u0 u1 u2 u3 : Option Value} (q1 : SB < k) (q2 : BB < k) (hk : k ≤ W.heap.size)
    (h : Hold k W0 (W.alloc o) ∧ (W.alloc o).cell? ⟨SB, 0, none⟩ = v0 ∧ (W.alloc o).cell? ⟨SB, 1, none⟩ = v1 ∧ (W.alloc o).cell? ⟨SB, 2, none⟩ = v2 ∧ (W.alloc o).cell? ⟨SB, 3, none⟩ = v3 ∧ (W.alloc o).cell? ⟨BB, 0, none⟩ = u0 ∧ (W.alloc o).cell? ⟨BB, 1, none⟩ = u1 ∧ (W.alloc o).cell? ⟨BB, 2, none⟩ = u2 ∧ (W.alloc o).cell? ⟨BB, 3, none⟩ = u3) :
    Hold k W0 (W.alloc o') ∧ (W.alloc o').cell? ⟨SB, 0, none⟩ = v0 ∧ (W.alloc o').cell? ⟨SB, 1, none⟩ = v1 ∧ (W.alloc o').cell? ⟨SB, 2, none⟩ = v2 ∧ (W.alloc o').cell? ⟨SB, 3, none⟩ = v3 ∧ (W.alloc o').cell? ⟨BB, 0, none⟩ = u0 ∧ (W.alloc o').cell? ⟨BB, 1, none⟩ = u1 ∧ (W.alloc o').cell? ⟨BB, 2, none⟩ = u2 ∧ (W.alloc o').cell? ⟨BB, 3, none⟩ = u3 := by
  obtain ⟨hh, h0, h1, h2, h3, g0, g1, g2, g3⟩ := h
  have hb : Below k (W.alloc o) (W.alloc o') := ⟨rfl, rfl, rfl, by simp, fun i hi => (Below.heap_alloc W o' i (by omega)).trans (Below.heap_alloc W o i (by omega)).symm⟩
  have c1 : ∀ j, (W.alloc o').cell? ⟨SB, j, none⟩ = (W.alloc o).cell? ⟨SB, j, none⟩ := fun j => hb.cell q1
  have c2 : ∀ j, (W.alloc o').cell? ⟨BB, j, none⟩ = (W.alloc o).cell? ⟨BB, j, none⟩ := fun j => hb.cell q2
  exact ⟨⟨Nat.le_trans hh.1 hb.size, hh.2.trans hb⟩, (c1 _).trans h0, (c1 _).trans h1, (c1 _).trans h2, (c1 _).trans h3, (c2 _).trans g0, (c2 _).trans g1, (c2 _).trans g2, (c2 _).trans g3⟩

theorem hold8_set2 {k SB BB : Nat} {W0 W : World} {p r : Addr} {x y : Value} {v0 v1 v2 v3 u0 u1 u2 u3 : Option Value} (q1 : SB < k) (q2 : BB < k) (hp : k ≤ p.block) (hr : k ≤ r.block)
    (h : Hold k W0 W ∧ W.cell? ⟨SB, 0, none⟩ = v0 ∧ W.cell? ⟨SB, 1, none⟩ = v1 ∧ W.cell? ⟨SB, 2, none⟩ = v2 ∧ W.cell? ⟨SB, 3, none⟩ = v3 ∧ W.cell? ⟨BB, 0, none⟩ = u0 ∧ W.cell? ⟨BB, 1, none⟩ = u1 ∧ W.cell? ⟨BB, 2, none⟩ = u2 ∧ W.cell? ⟨BB, 3, none⟩ = u3) :
    Hold k W0 ((W.setCell p x).setCell r y) ∧ ((W.setCell p x).setCell r y).cell? ⟨SB, 0, none⟩ = v0 ∧ ((W.setCell p x).setCell r y).cell? ⟨SB, 1, none⟩ = v1 ∧ ((W.setCell p x).setCell r y).cell? ⟨SB, 2, none⟩ = v2 ∧ ((W.setCell p x).setCell r y).cell? ⟨SB, 3, none⟩ = v3 ∧ ((W.setCell p x).setCell r y).cell? ⟨BB, 0, none⟩ = u0 ∧ ((W.setCell p x).setCell r y).cell? ⟨BB, 1, none⟩ = u1 ∧ ((W.setCell p x).setCell r y).cell? ⟨BB, 2, none⟩ = u2 ∧ ((W.setCell p x).setCell r y).cell? ⟨BB, 3, none⟩ = u3 := by
  obtain ⟨hh, h0, h1, h2, h3, g0, g1, g2, g3⟩ := h
  have hb : Below k W ((W.setCell p x).setCell r y) := ((Below.refl _ _).setCell hp _).setCell hr _
  have c1 : ∀ o, ((W.setCell p x).setCell r y).cell? ⟨SB, o, none⟩ = W.cell? ⟨SB, o, none⟩ := fun o => hb.cell q1
  have c2 : ∀ o, ((W.setCell p x).setCell r y).cell? ⟨BB, o, none⟩ = W.cell? ⟨BB, o, none⟩ := fun o => hb.cell q2
  exact ⟨⟨Nat.le_trans hh.1 hb.size, hh.2.trans hb⟩, (c1 _).trans h0, (c1 _).trans h1, (c1 _).trans h2, (c1 _).trans h3, (c2 _).trans g0, (c2 _).trans g1, (c2 _).trans g2, (c2 _).trans g3⟩

set_option maxHeartbeats 4000000 in
theorem multiply_any (a b c d e f g h X1 Y1 X2 Y2 : Int) (f1 f2 : Bool) (SB : Nat) (P1 : PR a b e f X1 Y1 f1) (P2 : PR c d g h X2 Y2 f2) (w : World) (h0 : w.cell? ⟨SB, 0, none⟩ = some (.int .i64 a)) (h1 : w.cell? ⟨SB, 1, none⟩ = some (.int .i64 b)) (h2 : w.cell? ⟨SB, 2, none⟩ = some (.int .i64 c)) (h3 : w.cell? ⟨SB, 3, none⟩ = some (.int .i64 d)) (hf : ∀ o, w.frozen? ⟨SB, o, none⟩ = false) :
    Calls Try.prog 59 #[.pointer (some ⟨SB, 0, none⟩), .agg #[.int .i64 e, .int .i64 f, .int .i64 g, .int .i64 h]] w fun e w' => e = .returned (.bool (f1 && f2)) ∧ ((f1 && f2) = true → Mul w w' SB X1 Y1 X2 Y2) ∧ ((f1 && f2) = false → Below w.heap.size w w') := by
  have q1 := lt_of_cell0 h0
  have ne0 : SB ≠ w.heap.size := by omega
  have H1 := Lib.hid P1
  have H2 := Lib.hid P2
  clear P1 P2
  go_enter Try.func59, Try.ntmps59
  go_upto_region 1 with fail
  go_cut [5, 6] (fun s5 s6 wx => ∃ L : Nat, s5 = .pointer (some ⟨L, 0, none⟩) ∧ s6 = .bool f1 ∧ Hold (w.heap.size + 1) (w.alloc (Obj.cells #[.int .i64 e, .int .i64 f, .int .i64 g, .int .i64 h] 25)) wx ∧ w.heap.size < L ∧ L < wx.heap.size ∧ wx.cell? ⟨L, 0, none⟩ = some (.int .i64 X1) ∧ wx.cell? ⟨L, 1, none⟩ = some (.int .i64 Y1))
  case first =>
    go_region_held3 (fun w' => Hold (w.heap.size + 1) (w.alloc (Obj.cells #[.int .i64 e, .int .i64 f, .int .i64 g, .int .i64 h] 25)) w' ∧ w'.cell? ⟨SB, 0, none⟩ = some (.int .i64 a) ∧ w'.cell? ⟨SB, 1, none⟩ = some (.int .i64 b) ∧ w'.cell? ⟨SB, 2, none⟩ = some (.int .i64 c) ∧ w'.cell? ⟨SB, 3, none⟩ = some (.int .i64 d) ∧ w'.cell? ⟨w.heap.size, 0, none⟩ = some (.int .i64 e) ∧ w'.cell? ⟨w.heap.size, 1, none⟩ = some (.int .i64 f) ∧ w'.cell? ⟨w.heap.size, 2, none⟩ = some (.int .i64 g) ∧ w'.cell? ⟨w.heap.size, 3, none⟩ = some (.int .i64 h)) (first | exact ⟨⟨by simp, (Below.refl _ _).drew⟩, by go_keep⟩ | exact hold8 (by omega) (by omega) (by assumption) hb1 | exact hold8 (by omega) (by omega) (by assumption) (below_alloc_drew _ _) | exact hold8 (by omega) (by omega) (by assumption) (below_alloc _ _) | exact hold8_re (by omega) (by omega) (by have := hb1.size; simp at this; omega) (by assumption) | exact hold8_set2 (by omega) (by omega) (by first | (simp; done) | (simp; omega)) (by first | (simp; done) | (simp; omega)) (by assumption)) (first
      | (go_at_call 71; refine (product_any _ _ _ _ _ _ _ _ H1.out _ (by simp [*, go_sem]) (by simp [*, go_sem]) (by simp [*, go_sem]) (by simp [*, go_sem])).mono ?_; rintro e w1 ⟨rfl, hb1⟩; obtain ⟨hc1, hf1⟩ := bcell hb1))
    all_goals go_wp2_with fail
    all_goals go_meet
    all_goals have hz1 := hb1.size
    all_goals simp at hz1
    all_goals exact ⟨_, rfl, rfl, hold_of (by assumption), by first | omega | (simp; done) | (simp; omega), by first | omega | (simp; done) | (simp; omega), by first | (simp [go_sem, hc1]; done) | exact set2_c0 ((hc1 _ _ (by first | (simp; done) | (simp; omega))).trans (by simp [go_sem]; rfl)), by first | (simp [go_sem, hc1]; done) | exact set2_c1 ((hc1 _ _ (by first | (simp; done) | (simp; omega))).trans (by simp [go_sem]; rfl))⟩
  case rest =>
    obtain ⟨L, rfl, rfl, hH, hL1, hL2, l0, l1⟩ := hcut
    have hk := hH.1
    have b0 : wc.cell? ⟨w.heap.size, 0, none⟩ = some (.int .i64 e) := (hH.cell (by omega)).trans (by simp [go_sem])
    have b1 : wc.cell? ⟨w.heap.size, 1, none⟩ = some (.int .i64 f) := (hH.cell (by omega)).trans (by simp [go_sem])
    have b2 : wc.cell? ⟨w.heap.size, 2, none⟩ = some (.int .i64 g) := (hH.cell (by omega)).trans (by simp [go_sem])
    have b3 : wc.cell? ⟨w.heap.size, 3, none⟩ = some (.int .i64 h) := (hH.cell (by omega)).trans (by simp [go_sem])
    have hBl : Below w.heap.size w wc := ((Below.refl _ _).alloc (Nat.le_refl _) _).trans (hH.2.mono (by omega))
    have s0 := (hBl.cell (p := ⟨SB, 0, none⟩) q1).trans h0
    have s1 := (hBl.cell (p := ⟨SB, 1, none⟩) q1).trans h1
    have s2 := (hBl.cell (p := ⟨SB, 2, none⟩) q1).trans h2
    have s3 := (hBl.cell (p := ⟨SB, 3, none⟩) q1).trans h3
    have sf : ∀ o, wc.frozen? ⟨SB, o, none⟩ = false := fun o => (hBl.frozen (p := ⟨SB, o, none⟩) q1).trans (hf o)
    have HB := Lib.hid hBl
    clear h0 h1 h2 h3 hf hH hBl
    obtain ⟨wc1, hwc1⟩ : ∃ x, x = wc := ⟨_, rfl⟩
    subst hwc1
    go_upto_region 2 with fail
    go_cut [7, 8] (fun s7 s8 wx => ∃ L2 : Nat, s7 = .pointer (some ⟨L2, 0, none⟩) ∧ s8 = .bool f2 ∧ Hold wc1.heap.size wc1 wx ∧ wc1.heap.size ≤ L2 ∧ L2 < wx.heap.size ∧ wx.cell? ⟨L2, 0, none⟩ = some (.int .i64 X2) ∧ wx.cell? ⟨L2, 1, none⟩ = some (.int .i64 Y2))
    case first =>
      go_region_held3 (fun w' => Hold wc1.heap.size wc1 w' ∧ w'.cell? ⟨SB, 0, none⟩ = some (.int .i64 a) ∧ w'.cell? ⟨SB, 1, none⟩ = some (.int .i64 b) ∧ w'.cell? ⟨SB, 2, none⟩ = some (.int .i64 c) ∧ w'.cell? ⟨SB, 3, none⟩ = some (.int .i64 d) ∧ w'.cell? ⟨w.heap.size, 0, none⟩ = some (.int .i64 e) ∧ w'.cell? ⟨w.heap.size, 1, none⟩ = some (.int .i64 f) ∧ w'.cell? ⟨w.heap.size, 2, none⟩ = some (.int .i64 g) ∧ w'.cell? ⟨w.heap.size, 3, none⟩ = some (.int .i64 h)) (first | exact ⟨⟨by simp, (Below.refl _ _).drew⟩, by go_keep⟩ | exact hold8 (by omega) (by omega) (by assumption) hb2 | exact hold8 (by omega) (by omega) (by assumption) (below_alloc_drew _ _) | exact hold8 (by omega) (by omega) (by assumption) (below_alloc _ _) | exact hold8_re (by omega) (by omega) (by have := hb2.size; simp at this; omega) (by assumption) | exact hold8_set2 (by omega) (by omega) (by first | (simp; done) | (simp; omega)) (by first | (simp; done) | (simp; omega)) (by assumption)) (first
        | (go_at_call 71; refine (product_any _ _ _ _ _ _ _ _ H2.out _ (by simp [*, go_sem]) (by simp [*, go_sem]) (by simp [*, go_sem]) (by simp [*, go_sem])).mono ?_; rintro e w2 ⟨rfl, hb2⟩; obtain ⟨hc2, hf2⟩ := bcell hb2))
      all_goals go_wp2_with fail
      all_goals go_meet
      all_goals have hz2 := hb2.size
      all_goals simp at hz2
      all_goals exact ⟨_, rfl, rfl, hold_of (by assumption), by first | omega | (simp; done) | (simp; omega), by first | omega | (simp; done) | (simp; omega), by first | (simp [go_sem, hc2]; done) | exact set2_c0 ((hc2 _ _ (by first | (simp; done) | (simp; omega))).trans (by simp [go_sem]; rfl)), by first | (simp [go_sem, hc2]; done) | exact set2_c1 ((hc2 _ _ (by first | (simp; done) | (simp; omega))).trans (by simp [go_sem]; rfl))⟩
    case rest =>
      obtain ⟨L2, rfl, rfl, hH2, g1, g2, r0, r1⟩ := hcut
      have q2 : SB < wc1.heap.size := by omega
      have t0 := (hH2.cell q2).trans s0
      have t1 := (hH2.cell q2).trans s1
      have t2 := (hH2.cell q2).trans s2
      have t3 := (hH2.cell q2).trans s3
      have tf : ∀ o, wc.frozen? ⟨SB, o, none⟩ = false := fun o => (hH2.2.frozen (p := ⟨SB, o, none⟩) q2).trans (sf o)
      have k0 := (hH2.cell hL2).trans l0
      have k1 := (hH2.cell hL2).trans l1
      have HB2 := Lib.hid (HB.out.trans (hH2.2.mono (by omega)))
      have HT := Lib.hid tf
      have n1 : SB ≠ L := by omega
      have n2 : SB ≠ L2 := by omega
      have n3 : L ≠ SB := by omega
      have n4 : L2 ≠ SB := by omega
      clear s0 s1 s2 s3 sf l0 l1 b0 b1 b2 b3 hH2 HB
      cases f1
      · go_wp2_with fail
        go_ret
        exact ⟨rfl, fun h => by simp at h, fun _ => HB2.out⟩
      · cases f2
        · go_wp2_with fail
          go_ret
          exact ⟨rfl, fun h => by simp at h, fun _ => HB2.out⟩
        · go_wp2_with fail
          go_region
          all_goals go_wp2_with fail
          go_ret
          exact ⟨rfl, fun _ => mul_of HB2.out q1 t0 t1 t2 t3 HT.out, fun h => by simp at h⟩

end Go.Proofs.Ytbdjllgngblfoaa
