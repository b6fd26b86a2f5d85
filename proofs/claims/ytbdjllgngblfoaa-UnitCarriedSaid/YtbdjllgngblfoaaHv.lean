/- Blocks of one's own: what they hold, and what leaves them as they are. -/
import Derived.Test.YtbdjllgngblfoaaUg
import Derived.Test.YtbdjllgngblfoaaUp
import Derived.Test.YtbdjllgngblfoaaUv
import Derived.OwnWalk
import Derived.Maps.AppendAt
namespace Go.Proofs.Ytbdjllgngblfoaa
set_option linter.unusedVariables false
set_option linter.unusedSimpArgs false
open Go.RowKit

/-- Block B holds these cells, and may be written. -/
structure Has (w : World) (B : Nat) (vs : List Value) : Prop where
  lt : B < w.heap.size
  cell : ∀ (i : Nat) (v : Value), vs[i]? = some v → w.cell? ⟨B, i, none⟩ = some v
  free : ∀ o, w.frozen? ⟨B, o, none⟩ = false

theorem Has.next {w w' : World} {B : Nat} {vs : List Value} (h : Has w B vs) {k : Nat} (hb : Below k w w') (hk : B < k) : Has w' B vs :=
  ⟨Nat.lt_of_lt_of_le h.lt hb.size, fun i v hi => (hb.cell (p := ⟨B, i, none⟩) hk).trans (h.cell i v hi), fun o => (hb.frozen (p := ⟨B, o, none⟩) hk).trans (h.free o)⟩
theorem Has.below {w w' : World} {B : Nat} {vs : List Value} (h : Has w B vs) (hb : Below w.heap.size w w') : Has w' B vs := h.next hb h.lt
theorem Has.drew {w : World} {B : Nat} {vs : List Value} (h : Has w B vs) : Has w.drew B vs := h.next ((Below.refl w.heap.size w).drew) h.lt
theorem Has.drewN {w : World} {B : Nat} {vs : List Value} (h : Has w B vs) (n : Nat) : Has (w.drewN n) B vs :=
  h.next (k := w.heap.size) ⟨(Below.refl w.heap.size w).os, (Below.refl w.heap.size w).tape, (Below.refl w.heap.size w).output, (Below.refl w.heap.size w).size, (Below.refl w.heap.size w).block⟩ h.lt
theorem Has.alloc {w : World} {B : Nat} {vs : List Value} (h : Has w B vs) (o : Obj) : Has (w.alloc o) B vs := h.below ((Below.refl _ _).alloc (Nat.le_refl _) o)
theorem Has.other {w : World} {B : Nat} {vs : List Value} (h : Has w B vs) {p : Addr} (hp : p.block ≠ B) (v : Value) : Has (w.setCell p v) B vs := by
  refine ⟨by simpa [World.setCell] using h.lt, fun i u hi => ?_, fun o => by simp [h.free]⟩
  have e : p ≠ ⟨B, i, none⟩ := fun e => hp (by rw [e])
  rw [World.cell?_setCell_other _ _ _ _ e]
  exact h.cell i u hi
theorem Has.set {w : World} {B : Nat} {vs : List Value} (h : Has w B vs) {i : Nat} (hi : i < vs.length) (v : Value) : Has (w.setCell ⟨B, i, none⟩ v) B (vs.set i v) := by
  refine ⟨by simpa [World.setCell] using h.lt, fun j u hj => ?_, fun o => by simp [h.free]⟩
  by_cases e : i = j
  · subst e
    rw [List.getElem?_set_self hi] at hj
    cases hj
    refine World.cell?_setCell_same' _ _ _ ?_
    rw [h.cell i vs[i] (List.getElem?_eq_getElem hi)]
    rfl
  · rw [List.getElem?_set_ne e] at hj
    have e' : (⟨B, i, none⟩ : Addr) ≠ ⟨B, j, none⟩ := fun q => e (by injection q)
    rw [World.cell?_setCell_other _ _ _ _ e']
    exact h.cell j u hj
theorem Has.new (w : World) (vs : List Value) (T : TypeId) : Has (w.alloc (.cells vs.toArray T)) w.heap.size vs := by
  refine ⟨by simp, fun i v hi => ?_, fun o => by simp [go_sem]⟩
  obtain ⟨h1, h2⟩ := List.getElem?_eq_some_iff.1 hi
  simp [go_sem, h1, h2]
theorem Has.new1 (w : World) (a : Value) (T : TypeId) : Has (w.alloc (.cells #[a] T)) w.heap.size [a] := Has.new w [a] T
theorem Has.new2 (w : World) (a b : Value) (T : TypeId) : Has (w.alloc (.cells #[a, b] T)) w.heap.size [a, b] := Has.new w [a, b] T
theorem Has.new3 (w : World) (a b c : Value) (T : TypeId) : Has (w.alloc (.cells #[a, b, c] T)) w.heap.size [a, b, c] := Has.new w [a, b, c] T
theorem Has.new4 (w : World) (a b c d : Value) (T : TypeId) : Has (w.alloc (.cells #[a, b, c, d] T)) w.heap.size [a, b, c, d] := Has.new w [a, b, c, d] T
theorem Has.c0 {w : World} {B : Nat} {a : Value} {l : List Value} (h : Has w B (a :: l)) : w.cell? ⟨B, 0, none⟩ = some a := h.cell 0 a rfl
theorem Has.c1 {w : World} {B : Nat} {a b : Value} {l : List Value} (h : Has w B (a :: b :: l)) : w.cell? ⟨B, 1, none⟩ = some b := h.cell 1 b rfl
theorem Has.c2 {w : World} {B : Nat} {a b c : Value} {l : List Value} (h : Has w B (a :: b :: c :: l)) : w.cell? ⟨B, 2, none⟩ = some c := h.cell 2 c rfl
theorem Has.c3 {w : World} {B : Nat} {a b c d : Value} {l : List Value} (h : Has w B (a :: b :: c :: d :: l)) : w.cell? ⟨B, 3, none⟩ = some d := h.cell 3 d rfl
/-- A struct of two numbers is written anew. -/
theorem Has.put2 {w : World} {B : Nat} {a b : Value} (h : Has w B [a, b]) (x y : Value) : Has ((w.setCell ⟨B, 0, none⟩ x).setCell ⟨B, 1, none⟩ y) B [x, y] :=
  (h.set (i := 0) (by simp) x).set (i := 1) (by simp) y
theorem Has.put4 {w : World} {B : Nat} {a b c d : Value} (h : Has w B [a, b, c, d]) (x y z u : Value) : Has ((((w.setCell ⟨B, 0, none⟩ x).setCell ⟨B, 1, none⟩ y).setCell ⟨B, 2, none⟩ z).setCell ⟨B, 3, none⟩ u) B [x, y, z, u] :=
  (((h.set (i := 0) (by simp) x).set (i := 1) (by simp) y).set (i := 2) (by simp) z).set (i := 3) (by simp) u
theorem below_drewN {B : Nat} {a w : World} (h : Below B a w) (n : Nat) : Below B a (w.drewN n) := ⟨h.os, h.tape, h.output, h.size, h.block⟩
theorem Has.grown {w w' : World} {B : Nat} {vs : List Value} {row : Option Nat} (h : Has w B vs) (hg : w.grownBy w' row) (hne : row ≠ some B) : Has w' B vs := by
  have e := hg.block B h.lt (fun q => hne q.symm)
  exact ⟨Nat.lt_of_lt_of_le h.lt hg.size, fun i v hi => (World.cell?_of_block (w := w) (a := ⟨B, i, none⟩) e).trans (h.cell i v hi), fun o => (World.frozen?_of_block (w := w) (a := ⟨B, o, none⟩) e).trans (h.free o)⟩
theorem Below.grown {m : Nat} {A w w' : World} {row : Option Nat} (h : Below m A w) (hm : m ≤ A.heap.size) (hg : w.grownBy w' row) (hr : ∀ k, row = some k → m ≤ k) : Below m A w' :=
  h.trans ⟨hg.os, hg.tape, hg.output, hg.size, fun i hi => hg.block i (Nat.lt_of_lt_of_le (Nat.lt_of_lt_of_le hi hm) h.size) (fun e => by have := hr i e.symm; omega)⟩
theorem grown_of_below {w w' : World} (h : Below w.heap.size w w') : w.grownBy w' none := ⟨h.os, h.tape, h.output, h.size, fun i hi _ => h.block i hi⟩
theorem own_below {w w' : World} {base : Nat} {E : TypeId} {sz : Nat} {v : Value} {n : Nat} {xs : List Value} (h : w.ownsRow base E sz v n xs) (hb : Below w.heap.size w w') : w'.ownsRow base E sz v n xs := by
  refine h.kept (grown_of_below hb) ?_
  cases hv : v.ownBlock with
  | none => exact .inl rfl
  | some k => exact .inr (by simp)
theorem own_other {w : World} {base : Nat} {E : TypeId} {sz : Nat} {v : Value} {n : Nat} {xs : List Value} (h : w.ownsRow base E sz v n xs) {p : Addr} (hp : p.block < base) (x : Value) : (w.setCell p x).ownsRow base E sz v n xs := by
  obtain ⟨h1, h2 | ⟨g, cap, cur, e1, e2, e3, e4⟩⟩ := h
  · exact ⟨h1, .inl h2⟩
  · refine ⟨h1, .inr ⟨g, cap, cur, e1, e2, ?_, e4⟩⟩
    have hb : Leaves (fun k => k = p.block) w (w.setCell p x) := (Leaves.refl (fun k => k = p.block) w).setCell (p := p) rfl x
    have hg : g < w.heap.size := (Array.getElem?_eq_some_iff.1 e3).1
    rw [hb.block g hg (by omega)]
    exact e3
theorem own_drew {w : World} {base : Nat} {E : TypeId} {sz : Nat} {v : Value} {n : Nat} {xs : List Value} (h : w.ownsRow base E sz v n xs) : w.drew.ownsRow base E sz v n xs := own_below h ((Below.refl _ _).drew)
/-- A row of numbers of one's own reads as a list. -/
theorem sl_of_own {w : World} {base : Nat} {E : TypeId} {v : Value} {L : List Int} (h : w.ownsRow base E 1 v L.length (L.map (Value.int .i64))) : Sl w v L := by
  have hh := h
  obtain ⟨h1, ⟨rfl, hn⟩ | ⟨g, cap, cur, rfl, e2, e3, e4, e5⟩⟩ := h
  · exact .inl ⟨rfl, List.length_eq_zero_iff.1 hn⟩
  · refine .inr ⟨g, 0, cap, rfl, e4, fun i hi => ?_⟩
    have := hh.cells (g := g) rfl i (.int .i64 (L.getD i 0)) (by simp [List.getD_eq_getElem?_getD, hi])
    have e : (⟨g, 0, none⟩ : Addr).add i = ⟨g, 0 + i, none⟩ := by simp [Addr.add]; exact fun h => h.symm
    rw [← e]
    exact this
theorem own_free {w : World} {base : Nat} {E : TypeId} {sz : Nat} {v : Value} {n : Nat} {xs : List Value} (h : w.ownsRow base E sz v n xs) {m : Nat} (hm : m ≤ base) : ∀ k, v.ownBlock = some k → m ≤ k := fun k hk => Nat.le_trans hm (h.lt k hk).1
theorem own_ne {w : World} {base : Nat} {E : TypeId} {sz : Nat} {v : Value} {n : Nat} {xs : List Value} (h : w.ownsRow base E sz v n xs) {B : Nat} (hB : B < base) : v.ownBlock ≠ some B := fun e => by have := (h.lt B e).1; omega
end Go.Proofs.Ytbdjllgngblfoaa
