import Derived.Test.YtbdjllgngblfoaaUe
namespace Go.Proofs.Ytbdjllgngblfoaa
set_option linter.unusedVariables false
set_option linter.unusedSimpArgs false
open Go.RowKit

/-- The world in a round of a product. -/
structure QW (w wr : World) (x y : Int) : Prop where
  bel : Below w.heap.size w wr
  sz : w.heap.size + 1 < wr.heap.size
  r0 : wr.cell? ⟨w.heap.size, 0, none⟩ = some (.int .i64 0)
  r1 : wr.cell? ⟨w.heap.size, 1, none⟩ = some (.int .i64 0)
  rf : ∀ o, wr.frozen? ⟨w.heap.size, o, none⟩ = false
  p0 : wr.cell? ⟨w.heap.size + 1, 0, none⟩ = some (.int .i64 x)
  p1 : wr.cell? ⟨w.heap.size + 1, 1, none⟩ = some (.int .i64 y)
  pf : ∀ o, wr.frozen? ⟨w.heap.size + 1, o, none⟩ = false

theorem lt_of_cell0 {w : World} {B o : Nat} {v : Value} (h : w.cell? ⟨B, o, none⟩ = some v) : B < w.heap.size := by
  unfold World.cell? at h
  split at h
  · rename_i hh
    exact (Array.getElem?_eq_some_iff.1 hh).1
  · cases h

theorem QW.next {w wr w' : World} {x y : Int} (h : QW w wr x y) (hb : Below wr.heap.size wr w') : QW w w' x y := by
  have h1 := h.sz
  have k : ∀ B, B ≤ w.heap.size + 1 → ∀ o, w'.cell? ⟨B, o, none⟩ = wr.cell? ⟨B, o, none⟩ := fun B hB o => hb.cell (Nat.lt_of_le_of_lt hB h1)
  have kf : ∀ B, B ≤ w.heap.size + 1 → ∀ o, w'.frozen? ⟨B, o, none⟩ = wr.frozen? ⟨B, o, none⟩ := fun B hB o => hb.frozen (Nat.lt_of_le_of_lt hB h1)
  exact ⟨h.bel.trans (hb.mono (by omega)), Nat.lt_of_lt_of_le h1 hb.size, (k _ (by omega) _).trans h.r0, (k _ (by omega) _).trans h.r1, fun o => (kf _ (by omega) _).trans (h.rf o), (k _ (by omega) _).trans h.p0, (k _ (by omega) _).trans h.p1, fun o => (kf _ (by omega) _).trans (h.pf o)⟩

theorem QW.set {w wr : World} {x y u v : Int} (h : QW w wr x y) : QW w ((wr.setCell ⟨w.heap.size + 1, 0, none⟩ (.int .i64 u)).setCell ⟨w.heap.size + 1, 1, none⟩ (.int .i64 v)) u v := by
  have e1 : ∀ (o o' : Nat), (⟨w.heap.size + 1, o, none⟩ : Addr) ≠ ⟨w.heap.size, o', none⟩ := fun o o' e => by injection e; omega
  exact ⟨(h.bel.setCell (by simp) _).setCell (by simp) _, by simpa [World.setCell] using h.sz, by simp [World.cell?_setCell_other, e1, h.r0], by simp [World.cell?_setCell_other, e1, h.r1], fun o => by simp [h.rf], by simp [go_sem, h.p0], by simp [go_sem, h.p1], fun o => by simp [h.pf]⟩

theorem QW.start (w : World) (T1 T2 : TypeId) : QW w ((w.alloc (.cells #[.int .i64 0, .int .i64 0] T1)).alloc (.cells #[.int .i64 1, .int .i64 1] T2)) 1 1 :=
  ⟨((Below.refl _ _).alloc (Nat.le_refl _) _).alloc (by simp) _, by simp, by simp [go_sem], by simp [go_sem], fun o => by simp [go_sem], by simp [go_sem], by simp [go_sem], fun o => by simp [go_sem]⟩

set_option maxHeartbeats 1000000 in
theorem product_ok (a b c d x y : Int) (g : Nat) (hA : Fr a b) (hC : Fr c d) (hR : Red (a * c) (b * d) x y) (hWn : Wn x y) (w : World) (h0 : w.cell? ⟨g, 0, none⟩ = some (.int .i64 a)) (h1 : w.cell? ⟨g, 1, none⟩ = some (.int .i64 b)) (h2 : w.cell? ⟨g, 2, none⟩ = some (.int .i64 c)) (h3 : w.cell? ⟨g, 3, none⟩ = some (.int .i64 d)) :
    Calls Try.prog 71 #[.slice (some ⟨g, 0, none⟩) 2 2] w fun e w' => e = .returned (.tuple #[.agg #[.int .i64 x, .int .i64 y], .bool true]) ∧ Below w.heap.size w w' := by
  have HWn := Lib.hid (decide_eq_true hWn)
  have HA := Lib.hid (Red.self hA)
  have HR := Lib.hid hR
  have hxy := hR.bd (by have := @mul_le 1 1 a c (by omega) (by omega) hA.1 hC.1; omega) (by have := @mul_le 1 1 b d (by omega) (by omega) hA.2.2.1 hC.2.2.1; omega)
  clear hWn hR
  obtain ⟨a1, a2, a3, a4, _⟩ := hA
  obtain ⟨c1, c2, c3, c4, _⟩ := hC
  have m1 := @mul_le a c 1000000000 1000000000 (by omega) (by omega) (by omega) (by omega)
  have m2 := @mul_le 1 1 a c (by omega) (by omega) (by omega) (by omega)
  have m3 := @mul_le b d 1000000000 1000000000 (by omega) (by omega) (by omega) (by omega)
  have m4 := @mul_le 1 1 b d (by omega) (by omega) (by omega) (by omega)
  have q1 := lt_of_cell0 h0
  have q2 := lt_of_cell0 h2
  have G0 := Lib.hid h0
  have G1 := Lib.hid h1
  have G2 := Lib.hid h2
  have G3 := Lib.hid h3
  clear h0 h1 h2 h3
  go_enter Try.func71, Try.ntmps71
  go_wp2_with fail
  go_loopw [10] (fun v wr => ∃ (k : Nat) (u v' : Int), v = .int .i64 k ∧ QW w wr u v' ∧ ((k = 0 ∧ u = 1 ∧ v' = 1) ∨ (k = 1 ∧ u = a ∧ v' = b) ∨ (k = 2 ∧ u = x ∧ v' = y ∧ Hid (Wn x y)))) (fun v _ => (2 - intOf v).toNat)
  case atStart => exact ⟨0, 1, 1, rfl, QW.start w _ _, .inl ⟨rfl, rfl, rfl⟩⟩
  case round =>
    obtain ⟨k, u, v, rfl, hW, ⟨rfl, rfl, rfl⟩ | ⟨rfl, rfl, rfl⟩ | ⟨rfl, rfl, rfl, hwn⟩⟩ := hrel
    · have y0 := hW.p0
      have y1 := hW.p1
      have yf := hW.pf
      have z0 := hW.sz
      have x0 : wr.cell? ⟨g, 0, none⟩ = some (.int .i64 a) := (hW.bel.cell (by exact q1)).trans G0.out
      have x1 : wr.cell? ⟨g, 1, none⟩ = some (.int .i64 b) := (hW.bel.cell (by exact q1)).trans G1.out
      have n1 : g ≠ wr.heap.size := by have := hW.bel.size; omega
      have n2 : g < wr.heap.size := by have := hW.bel.size; omega
      have HW := Lib.hid hW
      clear hW
      go_wp2_with fail
      refine (reduce_any _ _ a b (HA.out) (by omega) (by omega) (by omega) (by omega) _).mono ?_
      rintro e w1 ⟨rfl, hb1⟩
      have hW1 := HW.out.next (((Below.refl _ _).alloc (Nat.le_refl _) _).trans (hb1.mono (by simp)))
      have u0 := hW1.p0
      have u1 := hW1.p1
      have uf := hW1.pf
      have HW1 := Lib.hid hW1
      have zz : w.heap.size + 1 < w1.heap.size := hW1.sz
      clear hW1
      go_wp2_with fail
      refine (isWithin_any _ _ true (by first | exact HWn.out | exact decide_eq_true (by unfold Wn; omega)) _).mono ?_
      rintro e w2 ⟨rfl, hb2⟩
      have hW2 := HW1.out.set.next hb2
      have HW2 := Lib.hid hW2
      clear hW2 y0 y1 yf u0 u1 uf
      go_wp2_with fail
      go_roundw
      case rel => exact ⟨1, a, b, rfl, HW2.out, .inr (.inl ⟨rfl, rfl, rfl⟩)⟩
      case measure => simp [intOf]
    · have y0 := hW.p0
      have y1 := hW.p1
      have yf := hW.pf
      have z0 := hW.sz
      have x0 : wr.cell? ⟨g, 2, none⟩ = some (.int .i64 c) := (hW.bel.cell (by exact q1)).trans G2.out
      have x1 : wr.cell? ⟨g, 3, none⟩ = some (.int .i64 d) := (hW.bel.cell (by exact q1)).trans G3.out
      have n1 : g ≠ wr.heap.size := by have := hW.bel.size; omega
      have n2 : g < wr.heap.size := by have := hW.bel.size; omega
      have HW := Lib.hid hW
      clear hW
      go_wp2_with fail
      refine (reduce_any _ _ x y (HR.out) (by omega) (by omega) (by omega) (by omega) _).mono ?_
      rintro e w1 ⟨rfl, hb1⟩
      have hW1 := HW.out.next (((Below.refl _ _).alloc (Nat.le_refl _) _).trans (hb1.mono (by simp)))
      have u0 := hW1.p0
      have u1 := hW1.p1
      have uf := hW1.pf
      have HW1 := Lib.hid hW1
      have zz : w.heap.size + 1 < w1.heap.size := hW1.sz
      clear hW1
      go_wp2_with fail
      refine (isWithin_any _ _ true (by first | exact HWn.out | exact decide_eq_true (by unfold Wn; omega)) _).mono ?_
      rintro e w2 ⟨rfl, hb2⟩
      have hW2 := HW1.out.set.next hb2
      have HW2 := Lib.hid hW2
      clear hW2 y0 y1 yf u0 u1 uf
      go_wp2_with fail
      go_roundw
      case rel => exact ⟨2, x, y, rfl, HW2.out, .inr (.inr ⟨rfl, rfl, rfl, Lib.hid (of_decide_eq_true HWn.out)⟩)⟩
      case measure => simp [intOf]
    · have v0 := hW.r0
      have v1 := hW.r1
      have vf := hW.rf
      have t0 := hW.p0
      have t1 := hW.p1
      have HW := Lib.hid hW
      clear hW
      go_wp2_with fail
      exact bodyPost_ret (v := .tuple #[.agg #[.int .i64 u, .int .i64 v], .bool true]) (by simp [results, Try.results71, go_sem, v0, v1]) rfl ⟨rfl, (HW.out.bel.setCell (by simp) _).setCell (by simp) _⟩

set_option maxHeartbeats 1000000 in
theorem product_over (a b c d x y : Int) (g : Nat) (hA : Fr a b) (hC : Fr c d) (hR : Red (a * c) (b * d) x y) (hWn : ¬ Wn x y) (w : World) (h0 : w.cell? ⟨g, 0, none⟩ = some (.int .i64 a)) (h1 : w.cell? ⟨g, 1, none⟩ = some (.int .i64 b)) (h2 : w.cell? ⟨g, 2, none⟩ = some (.int .i64 c)) (h3 : w.cell? ⟨g, 3, none⟩ = some (.int .i64 d)) :
    Calls Try.prog 71 #[.slice (some ⟨g, 0, none⟩) 2 2] w fun e w' => e = .returned (.tuple #[.agg #[.int .i64 0, .int .i64 0], .bool false]) ∧ Below w.heap.size w w' := by
  have HWn := Lib.hid (decide_eq_false hWn)
  have HA := Lib.hid (Red.self hA)
  have HR := Lib.hid hR
  have hxy := hR.bd (by have := @mul_le 1 1 a c (by omega) (by omega) hA.1 hC.1; omega) (by have := @mul_le 1 1 b d (by omega) (by omega) hA.2.2.1 hC.2.2.1; omega)
  clear hWn hR
  obtain ⟨a1, a2, a3, a4, _⟩ := hA
  obtain ⟨c1, c2, c3, c4, _⟩ := hC
  have m1 := @mul_le a c 1000000000 1000000000 (by omega) (by omega) (by omega) (by omega)
  have m2 := @mul_le 1 1 a c (by omega) (by omega) (by omega) (by omega)
  have m3 := @mul_le b d 1000000000 1000000000 (by omega) (by omega) (by omega) (by omega)
  have m4 := @mul_le 1 1 b d (by omega) (by omega) (by omega) (by omega)
  have q1 := lt_of_cell0 h0
  have q2 := lt_of_cell0 h2
  have G0 := Lib.hid h0
  have G1 := Lib.hid h1
  have G2 := Lib.hid h2
  have G3 := Lib.hid h3
  clear h0 h1 h2 h3
  go_enter Try.func71, Try.ntmps71
  go_wp2_with fail
  go_loopw [10] (fun v wr => ∃ (k : Nat) (u v' : Int), v = .int .i64 k ∧ QW w wr u v' ∧ ((k = 0 ∧ u = 1 ∧ v' = 1) ∨ (k = 1 ∧ u = a ∧ v' = b) ∨ (k = 2 ∧ u = x ∧ v' = y ∧ Hid (Wn x y)))) (fun v _ => (2 - intOf v).toNat)
  case atStart => exact ⟨0, 1, 1, rfl, QW.start w _ _, .inl ⟨rfl, rfl, rfl⟩⟩
  case round =>
    obtain ⟨k, u, v, rfl, hW, ⟨rfl, rfl, rfl⟩ | ⟨rfl, rfl, rfl⟩ | ⟨rfl, rfl, rfl, hwn⟩⟩ := hrel
    · have y0 := hW.p0
      have y1 := hW.p1
      have yf := hW.pf
      have z0 := hW.sz
      have x0 : wr.cell? ⟨g, 0, none⟩ = some (.int .i64 a) := (hW.bel.cell (by exact q1)).trans G0.out
      have x1 : wr.cell? ⟨g, 1, none⟩ = some (.int .i64 b) := (hW.bel.cell (by exact q1)).trans G1.out
      have n1 : g ≠ wr.heap.size := by have := hW.bel.size; omega
      have n2 : g < wr.heap.size := by have := hW.bel.size; omega
      have HW := Lib.hid hW
      clear hW
      go_wp2_with fail
      refine (reduce_any _ _ a b (HA.out) (by omega) (by omega) (by omega) (by omega) _).mono ?_
      rintro e w1 ⟨rfl, hb1⟩
      have hW1 := HW.out.next (((Below.refl _ _).alloc (Nat.le_refl _) _).trans (hb1.mono (by simp)))
      have u0 := hW1.p0
      have u1 := hW1.p1
      have uf := hW1.pf
      have HW1 := Lib.hid hW1
      have zz : w.heap.size + 1 < w1.heap.size := hW1.sz
      clear hW1
      go_wp2_with fail
      refine (isWithin_any _ _ true (by first | exact HWn.out | exact decide_eq_true (by unfold Wn; omega)) _).mono ?_
      rintro e w2 ⟨rfl, hb2⟩
      have hW2 := HW1.out.set.next hb2
      have HW2 := Lib.hid hW2
      clear hW2 y0 y1 yf u0 u1 uf
      go_wp2_with fail
      go_roundw
      case rel => exact ⟨1, a, b, rfl, HW2.out, .inr (.inl ⟨rfl, rfl, rfl⟩)⟩
      case measure => simp [intOf]
    · have y0 := hW.p0
      have y1 := hW.p1
      have yf := hW.pf
      have z0 := hW.sz
      have x0 : wr.cell? ⟨g, 2, none⟩ = some (.int .i64 c) := (hW.bel.cell (by exact q1)).trans G2.out
      have x1 : wr.cell? ⟨g, 3, none⟩ = some (.int .i64 d) := (hW.bel.cell (by exact q1)).trans G3.out
      have n1 : g ≠ wr.heap.size := by have := hW.bel.size; omega
      have n2 : g < wr.heap.size := by have := hW.bel.size; omega
      have HW := Lib.hid hW
      clear hW
      go_wp2_with fail
      refine (reduce_any _ _ x y (HR.out) (by omega) (by omega) (by omega) (by omega) _).mono ?_
      rintro e w1 ⟨rfl, hb1⟩
      have hW1 := HW.out.next (((Below.refl _ _).alloc (Nat.le_refl _) _).trans (hb1.mono (by simp)))
      have u0 := hW1.p0
      have u1 := hW1.p1
      have uf := hW1.pf
      have HW1 := Lib.hid hW1
      have zz : w.heap.size + 1 < w1.heap.size := hW1.sz
      clear hW1
      go_wp2_with fail
      refine (isWithin_any _ _ false (by first | exact HWn.out | exact decide_eq_true (by unfold Wn; omega)) _).mono ?_
      rintro e w2 ⟨rfl, hb2⟩
      have hW2 := HW1.out.set.next hb2
      have HW2 := Lib.hid hW2
      have v0 := hW2.r0
      have v1 := hW2.r1
      have vf := hW2.rf
      clear hW2
      go_wp2_with fail
      exact bodyPost_ret (v := .tuple #[.agg #[.int .i64 0, .int .i64 0], .bool false]) (by simp [results, Try.results71, go_sem, v0, v1]) rfl ⟨rfl, (HW2.out.bel.setCell (by simp) _).setCell (by simp) _⟩
    · exact absurd hwn.out (of_decide_eq_false HWn.out)

end Go.Proofs.Ytbdjllgngblfoaa
