/- Blocks of one's own: what they hold, and what leaves them as they are. -/
import Derived.Test.YtbdjllgngblfoaaUg
namespace Go.Proofs.Ytbdjllgngblfoaa
set_option linter.unusedVariables false
set_option linter.unusedSimpArgs false
open Go.RowKit

/-- Block B holds these cells, and may be written. -/
structure Has (w : World) (B : Nat) (vs : List Value) : Prop where
  lt : B < w.heap.size
  cell : ∀ (i : Nat) (v : Value), vs[i]? = some v → w.cell? ⟨B, i, none⟩ = some v
  free : ∀ o, w.frozen? ⟨B, o, none⟩ = false

theorem Has.next {w w' : World} {B : Nat} {vs : List Value} (h : Has w B vs) {k : Nat} (hb : Below k w w') (hk : B < k) : Has w' B vs :=
  ⟨Nat.lt_of_lt_of_le h.lt hb.size, fun i v hi => (hb.cell (p := ⟨B, i, none⟩) hk).trans (h.cell i v hi), fun o => (hb.frozen (p := ⟨B, o, none⟩) hk).trans (h.free o)⟩
theorem Has.below {w w' : World} {B : Nat} {vs : List Value} (h : Has w B vs) (hb : Below w.heap.size w w') : Has w' B vs := h.next hb h.lt
theorem Has.drew {w : World} {B : Nat} {vs : List Value} (h : Has w B vs) : Has w.drew B vs := h.next ((Below.refl w.heap.size w).drew) h.lt
theorem Has.drewN {w : World} {B : Nat} {vs : List Value} (h : Has w B vs) (n : Nat) : Has (w.drewN n) B vs :=
  h.next (k := w.heap.size) ⟨(Below.refl w.heap.size w).os, (Below.refl w.heap.size w).tape, (Below.refl w.heap.size w).output, (Below.refl w.heap.size w).size, (Below.refl w.heap.size w).block⟩ h.lt
theorem Has.alloc {w : World} {B : Nat} {vs : List Value} (h : Has w B vs) (o : Obj) : Has (w.alloc o) B vs := h.below ((Below.refl _ _).alloc (Nat.le_refl _) o)
theorem Has.other {w : World} {B : Nat} {vs : List Value} (h : Has w B vs) {p : Addr} (hp : p.block ≠ B) (v : Value) : Has (w.setCell p v) B vs := by
  refine ⟨by simpa [World.setCell] using h.lt, fun i u hi => ?_, fun o => by simp [h.free]⟩
  have e : p ≠ ⟨B, i, none⟩ := fun e => hp (by rw [e])
  rw [World.cell?_setCell_other _ _ _ _ e]
  exact h.cell i u hi
theorem Has.set {w : World} {B : Nat} {vs : List Value} (h : Has w B vs) {i : Nat} (hi : i < vs.length) (v : Value) : Has (w.setCell ⟨B, i, none⟩ v) B (vs.set i v) := by
  refine ⟨by simpa [World.setCell] using h.lt, fun j u hj => ?_, fun o => by simp [h.free]⟩
  by_cases e : i = j
  · subst e
    rw [List.getElem?_set_self hi] at hj
    cases hj
    refine World.cell?_setCell_same' _ _ _ ?_
    rw [h.cell i vs[i] (List.getElem?_eq_getElem hi)]
    rfl
  · rw [List.getElem?_set_ne e] at hj
    have e' : (⟨B, i, none⟩ : Addr) ≠ ⟨B, j, none⟩ := fun q => e (by injection q)
    rw [World.cell?_setCell_other _ _ _ _ e']
    exact h.cell j u hj
theorem Has.new (w : World) (vs : List Value) (T : TypeId) : Has (w.alloc (.cells vs.toArray T)) w.heap.size vs := by
  refine ⟨by simp, fun i v hi => ?_, fun o => by simp [go_sem]⟩
  obtain ⟨h1, h2⟩ := List.getElem?_eq_some_iff.1 hi
  simp [go_sem, h1, h2]
theorem Has.new1 (w : World) (a : Value) (T : TypeId) : Has (w.alloc (.cells #[a] T)) w.heap.size [a] := Has.new w [a] T
theorem Has.new2 (w : World) (a b : Value) (T : TypeId) : Has (w.alloc (.cells #[a, b] T)) w.heap.size [a, b] := Has.new w [a, b] T
theorem Has.new3 (w : World) (a b c : Value) (T : TypeId) : Has (w.alloc (.cells #[a, b, c] T)) w.heap.size [a, b, c] := Has.new w [a, b, c] T
theorem Has.new4 (w : World) (a b c d : Value) (T : TypeId) : Has (w.alloc (.cells #[a, b, c, d] T)) w.heap.size [a, b, c, d] := Has.new w [a, b, c, d] T
theorem Has.c0 {w : World} {B : Nat} {a : Value} {l : List Value} (h : Has w B (a :: l)) : w.cell? ⟨B, 0, none⟩ = some a := h.cell 0 a rfl
theorem Has.c1 {w : World} {B : Nat} {a b : Value} {l : List Value} (h : Has w B (a :: b :: l)) : w.cell? ⟨B, 1, none⟩ = some b := h.cell 1 b rfl
theorem Has.c2 {w : World} {B : Nat} {a b c : Value} {l : List Value} (h : Has w B (a :: b :: c :: l)) : w.cell? ⟨B, 2, none⟩ = some c := h.cell 2 c rfl
theorem Has.c3 {w : World} {B : Nat} {a b c d : Value} {l : List Value} (h : Has w B (a :: b :: c :: d :: l)) : w.cell? ⟨B, 3, none⟩ = some d := h.cell 3 d rfl
/-- A struct of two numbers is written anew. -/
theorem Has.put2 {w : World} {B : Nat} {a b : Value} (h : Has w B [a, b]) (x y : Value) : Has ((w.setCell ⟨B, 0, none⟩ x).setCell ⟨B, 1, none⟩ y) B [x, y] :=
  (h.set (i := 0) (by simp) x).set (i := 1) (by simp) y
theorem Has.put4 {w : World} {B : Nat} {a b c d : Value} (h : Has w B [a, b, c, d]) (x y z u : Value) : Has ((((w.setCell ⟨B, 0, none⟩ x).setCell ⟨B, 1, none⟩ y).setCell ⟨B, 2, none⟩ z).setCell ⟨B, 3, none⟩ u) B [x, y, z, u] :=
  (((h.set (i := 0) (by simp) x).set (i := 1) (by simp) y).set (i := 2) (by simp) z).set (i := 3) (by simp) u
theorem below_drewN {B : Nat} {a w : World} (h : Below B a w) (n : Nat) : Below B a (w.drewN n) := ⟨h.os, h.tape, h.output, h.size, h.block⟩
end Go.Proofs.Ytbdjllgngblfoaa
