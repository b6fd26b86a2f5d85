import Derived.RangeFuncNested
import Derived.RangeFuncBound
import Derived.RangeFuncCalls
import Derived.RangeFuncLeaves
import Derived.Shelf.Abstract
import Derived.Shelf.RegionOpen
import Derived.WalkKit
import Derived.OwnWalkIn
import Derived.TacticsInMore
import Derived.LoopNIn
import Derived.LoopIn
namespace Go.Proofs.Ytbdjllgngblfoaa
set_option linter.unusedVariables false
set_option linter.unusedSimpArgs false
open Go.RowKit

/-- A step leaves all blocks as they lay, but for those of X. -/
structure Leaves (X : Nat → Prop) (W W' : World) : Prop where
  os : W'.os = W.os
  tape : W'.tape = W.tape
  output : W'.output = W.output
  size : W.heap.size ≤ W'.heap.size
  block : ∀ k, k < W.heap.size → ¬ X k → W'.heap[k]? = W.heap[k]?

theorem Leaves.refl (X : Nat → Prop) (W : World) : Leaves X W W := ⟨rfl, rfl, rfl, Nat.le_refl _, fun _ _ _ => rfl⟩
theorem Leaves.trans {X : Nat → Prop} {A B C : World} (h : Leaves X A B) (k : Leaves X B C) : Leaves X A C :=
  ⟨k.os.trans h.os, k.tape.trans h.tape, k.output.trans h.output, Nat.le_trans h.size k.size, fun i hi hx => (k.block i (Nat.lt_of_lt_of_le hi h.size) hx).trans (h.block i hi hx)⟩
theorem Leaves.mono {X Y : Nat → Prop} {A B : World} (h : Leaves X A B) (hxy : ∀ k, X k → Y k) : Leaves Y A B :=
  ⟨h.os, h.tape, h.output, h.size, fun i hi hx => h.block i hi (fun hX => hx (hxy i hX))⟩
theorem Leaves.of_below {X : Nat → Prop} {A B : World} (h : Below A.heap.size A B) : Leaves X A B :=
  ⟨h.os, h.tape, h.output, h.size, fun i hi _ => h.block i hi⟩
theorem Leaves.below {X : Nat → Prop} {A B : World} {m : Nat} (h : Leaves X A B) (hm : m ≤ A.heap.size) (hx : ∀ k, k < m → ¬ X k) : Below m A B :=
  ⟨h.os, h.tape, h.output, h.size, fun i hi => h.block i (by omega) (hx i hi)⟩
theorem Leaves.cell {X : Nat → Prop} {A B : World} (h : Leaves X A B) {k : Nat} (hk : k < A.heap.size) (hx : ¬ X k) (o : Nat) : B.cell? ⟨k, o, none⟩ = A.cell? ⟨k, o, none⟩ := World.cell?_of_block (w := A) (h.block k hk hx)
theorem Leaves.frozen {X : Nat → Prop} {A B : World} (h : Leaves X A B) {k : Nat} (hk : k < A.heap.size) (hx : ¬ X k) (o : Nat) : B.frozen? ⟨k, o, none⟩ = A.frozen? ⟨k, o, none⟩ := World.frozen?_of_block (w := A) (h.block k hk hx)
theorem Leaves.setCell {X : Nat → Prop} {A B : World} (h : Leaves X A B) {p : Addr} (hp : X p.block) (v : Value) : Leaves X A (B.setCell p v) :=
  h.trans ⟨rfl, rfl, rfl, by simp [World.setCell], fun k hk hx => Below.heap_setCell _ _ _ k (fun e => hx (e ▸ hp))⟩
theorem Leaves.alloc {X : Nat → Prop} {A B : World} (h : Leaves X A B) (o : Obj) : Leaves X A (B.alloc o) := h.trans (Leaves.of_below ((Below.refl _ _).alloc (Nat.le_refl _) _))
theorem Leaves.put {A : World} {l : Nat} {o' : Obj} (hl : l < A.heap.size) : Leaves (fun k => k = l) A (A.putObj l o') := by
  have hg := grownBy_putObj' A l o'
  have h := (Below.refl l A).grown hg (Nat.le_of_lt hl) (fun k e => by cases e; omega)
  exact ⟨h.os, h.tape, h.output, hg.size, fun k hk hx => hg.block k hk (fun e => hx (by cases e; rfl))⟩

variable {F : Fence} {n : Nat} {P : Program}

/-- How the body of a round may be left. -/
def postC {α : Type} (B E : Nat) (I : List α → World → Prop) (Ix : Code → List α → World → Prop) (xs : List α) (W : World) : Exit → Act → World → Prop
  | .normal, _, W' => Leaves (fun k => k = E) W W' ∧ I xs W'
  | .ret, _, W' => Leaves (fun k => k < B) W W' ∧ Ix .ret xs W'
  | .exit id, _, W' => Leaves (fun k => k < B) W W' ∧ Ix (.exit id) xs W'
  | .goto t, _, W' => Leaves (fun k => k < B) W W' ∧ Ix (.goto t) xs W'
  | .panic _, _, _ => False
  | .outgrown, _, _ => False

/-- A range over a function whose iterator keeps a variable of its own in cells; the body writes one block E that lay ahead of the loop. -/
theorem wpIn_rangeFunc_cells {α : Type} {g : Operand} {ps : Array Tmp} {assign body : Code} {Q : Exit → Act → World → Prop} {a : Act} {w : World}
    (hro : F.round = none) (h1 : 1 ≤ n) {gf : Nat} {lb : Array Value} (hg : a.eval g = .func (.func gf) #[] lb) (hFg : F.fn gf) (eg : ∀ args w, (callFunc gf args).run P w = .ok (.enter gf args) w)
    {encs : α → Array Value} {S Sp : List α → Prop} (hps : ∀ x, (encs x).size = ps.size) (E : Nat) (hE : E < w.heap.size)
    (hseq : ∀ (J Jx : List α → World → Prop) (W : World), Below w.heap.size w W → W.heap.size = w.heap.size + 2 →
      (∀ s A B, J s A → Below (w.heap.size + 2) A B → J s B) → (∀ s A B, Jx s A → Below (w.heap.size + 2) A B → Jx s B) →
      (∀ pre x W1, J pre W1 → YieldAt F (n - 1 - 1) P (w.heap.size + 1) (encs x) W1 fun e W' =>
        (e = .returned (.bool true) ∧ J (pre ++ [x]) W' ∧ Leaves (fun k => k = E ∨ k = w.heap.size ∨ k = w.heap.size + 1) W1 W') ∨ (e = .returned (.bool false) ∧ Jx (pre ++ [x]) W')) →
      J [] W →
      CallsIn F (n - 1) P gf (#[.func (.yield (w.heap.size + 1)) #[] #[]] ++ lb) W fun e W' => (∃ v, e = .returned v) ∧ ((∃ xs, S xs ∧ J xs W') ∨ (∃ pre, Sp pre ∧ Jx pre W')))
    (I : List α → World → Prop) (Ix : Code → List α → World → Prop)
    (hI : ∀ s A B, I s A → Below w.heap.size A B → I s B) (hIx : ∀ c s A B, Ix c s A → Below w.heap.size A B → Ix c s B) (h0 : I [] w)
    (hround : ∀ pre x W (K : Act → World → Prop), I pre W → w.heap.size + 2 ≤ W.heap.size →
      (∀ a1 W1, Below W.heap.size W W1 → (∀ W2, Leaves (fun k => k = w.heap.size + 1) W1 W2 → W2.heap.size = W1.heap.size → I pre W2 →
        body.wpIn (F.inRound (w.heap.size + 1)) (n - 1 - 1) P (postC w.heap.size E I Ix (pre ++ [x]) W2) a1 W2) → K a1 W1) →
      assign.wpIn (F.inRound (w.heap.size + 1)) (n - 1 - 1) P (Exit.then K (fun _ _ _ => False)) { tmps := (ps.zip (encs x)).foldl (fun t (p, v) => t.setIfInBounds p v) a.tmps, defers := [] } W)
    (hdone : ∀ xs W, S xs → I xs W → w.heap.size + 2 ≤ W.heap.size → W.heap[w.heap.size]? = some (.deferred (some [])) → Q .normal { a with defers := { target := .collected w.heap.size, args := #[] } :: a.defers } W)
    (hstop : ∀ c pre W, Sp pre → Ix c pre W → w.heap.size + 2 ≤ W.heap.size → W.heap[w.heap.size]? = some (.deferred (some [])) → c.wpIn F n P Q { a with defers := { target := .collected w.heap.size, args := #[] } :: a.defers } W) :
    (Code.rangeFunc g ps assign body).wpIn F n P Q a w := by
  refine wpIn_rangeFunc ?_
  intro fn hfn
  rw [hro]
  obtain ⟨R, hR⟩ : ∃ R : LoopState → Option Code → Loop, R = fun st pe => { state := st, pending := pe, fn, tmps := a.tmps, params := ps, assign, body, defers := w.heap.size } := ⟨_, rfl⟩
  obtain ⟨V, hV⟩ : ∃ V, (w.alloc (.deferred (some []))).alloc (.loop (R .ready none)) = V := ⟨_, rfl⟩
  have hVl : V.heap[w.heap.size + 1]? = some (.loop (R .ready none)) := by
    rw [← hV]
    have := World.alloc_heap_new (w.alloc (.deferred (some []))) (.loop (R .ready none))
    rwa [World.size_alloc] at this
  have hVd : V.heap[w.heap.size]? = some (.deferred (some [])) := by
    rw [← hV]
    exact (Below.heap_alloc _ _ _ (by simp)).trans (World.alloc_heap_new w _)
  have hVb : Below w.heap.size w V := by
    rw [← hV]
    exact ((Below.refl _ w).alloc (Nat.le_refl _) _).alloc (by simp) _
  have hVs : V.heap.size = w.heap.size + 2 := by rw [← hV]; simp
  have lt : ∀ {W : World} {k : Nat} {o : Obj}, W.heap[k]? = some o → k < W.heap.size := fun h => (Array.getElem?_eq_some_iff.1 h).1
  refine ⟨w.heap.size + 1, [{ target := .collected w.heap.size, args := #[] }], V, { target := .fn (.func gf) lb, args := #[.func (.yield (w.heap.size + 1)) #[] #[]] }, V, gf,
    #[.func (.yield (w.heap.size + 1)) #[] #[]] ++ lb, V, ?_, ?_, ?_, ?_, fun _ => h1, ?_⟩
  · rw [← hV, hR]
    exact run_enterLoop_outer _ _ _ _ _
  · simp only [resolve, hg]
    simp [go_sem]
  · intro f' hf'
    simp [Target.leads] at hf'
    subst hf'
    exact hFg
  · simp [invoke, go_sem, eg]
  · have slot : ∀ {A B : World} {k : Nat} {o : Obj}, k < w.heap.size + 2 → A.heap[k]? = some o → Below (w.heap.size + 2) A B → B.heap[k]? = some o := fun hk h hb => (hb.block _ hk).trans h
    refine (hseq
      (fun pre W => I pre W ∧ W.heap[w.heap.size + 1]? = some (.loop (R .ready none)) ∧ W.heap[w.heap.size]? = some (.deferred (some [])))
      (fun pre W => ∃ c, Ix c pre W ∧ W.heap[w.heap.size + 1]? = some (.loop (R .done (some c))) ∧ W.heap[w.heap.size]? = some (.deferred (some [])))
      V hVb hVs
      (fun s A B hs hb => ⟨hI s A B hs.1 (hb.mono (by omega)), slot (by omega) hs.2.1 hb, slot (by omega) hs.2.2 hb⟩)
      (fun s A B hs hb => by
        obtain ⟨c, hc, hl, hk⟩ := hs
        exact ⟨c, hIx c s A B hc (hb.mono (by omega)), slot (by omega) hl hb, slot (by omega) hk hb⟩)
      ?_ ⟨hI _ _ _ h0 hVb, hVl, hVd⟩).mono ?_
    · -- a round
      rintro pre x W ⟨hi, hl, hk⟩
      have hy := run_yield (P := P) (args := encs x) hl (by rw [hR]; exact hps x)
      rw [hR] at hy
      refine ⟨fn, _, assign, body, hy, roundIn_of_wpIn hfn (wpIn_mono (hround pre x W (fun a1 W1 => Below W.heap.size W W1 ∧ ∀ W2, Leaves (fun k => k = w.heap.size + 1) W1 W2 → W2.heap.size = W1.heap.size → I pre W2 →
        body.wpIn (F.inRound (w.heap.size + 1)) (n - 1 - 1) P (postC w.heap.size E I Ix (pre ++ [x]) W2) a1 W2) hi (lt hl) (fun _ _ h1 h2 => ⟨h1, h2⟩)) ?_)⟩
      rintro e a1 W1 h
      cases e with
      | normal =>
        obtain ⟨hb, hbody⟩ := h
        have hl1 : W1.heap[w.heap.size + 1]? = some (.loop (R .ready none)) := (hb.block _ (lt hl)).trans hl
        have hk1 : W1.heap[w.heap.size]? = some (.deferred (some [])) := (hb.block _ (lt hk)).trans hk
        refine ⟨_, run_beginRound hl1 (by rw [hR]), ?_⟩
        have hp : Leaves (fun k => k = w.heap.size + 1) W1 (W1.putObj (w.heap.size + 1) (.loop { R .ready none with state := .busy })) := Leaves.put (lt hl1)
        have hl2 : (W1.putObj (w.heap.size + 1) (.loop { R .ready none with state := .busy })).heap[w.heap.size + 1]? = some (.loop { R .ready none with state := .busy }) := World.putObj_heap_same (lt hl1)
        have hk2 : (W1.putObj (w.heap.size + 1) (.loop { R .ready none with state := .busy })).heap[w.heap.size]? = some (.deferred (some [])) := (World.putObj_heap_other (by omega)).trans hk1
        have hs2 : (W1.putObj (w.heap.size + 1) (.loop { R .ready none with state := .busy })).heap.size = W1.heap.size := by simp [World.putObj]
        have hi2 : I pre (W1.putObj (w.heap.size + 1) (.loop { R .ready none with state := .busy })) := hI _ _ _ (hI _ _ _ hi (hb.mono (by have := lt hl; omega))) (hp.below (by have := lt hl1; omega) (fun k hk => by omega))
        refine wpIn_mono (hbody _ hp hs2 hi2) ?_
        have fin : ∀ (jump : Option Code) (W3 : World), Leaves (fun k => k < w.heap.size) (W1.putObj (w.heap.size + 1) (.loop { R .ready none with state := .busy })) W3 →
            (Instr.endRound (w.heap.size + 1) jump).run P W3 = .ok (.bool jump.isNone) (W3.putObj (w.heap.size + 1) (.loop (R (if jump.isNone then .ready else .done) jump))) ∧
            (W3.putObj (w.heap.size + 1) (.loop (R (if jump.isNone then .ready else .done) jump))).heap[w.heap.size + 1]? = some (.loop (R (if jump.isNone then .ready else .done) jump)) ∧
            (W3.putObj (w.heap.size + 1) (.loop (R (if jump.isNone then .ready else .done) jump))).heap[w.heap.size]? = some (.deferred (some [])) ∧
            Leaves (fun k => k = w.heap.size + 1) W3 (W3.putObj (w.heap.size + 1) (.loop (R (if jump.isNone then .ready else .done) jump))) ∧ w.heap.size + 1 < W3.heap.size := fun jump W3 h3 => by
          have hl3 := (h3.block _ (lt hl2) (by omega)).trans hl2
          have hk3 := (h3.block _ (lt hk2) (by omega)).trans hk2
          have := run_endRound (P := P) jump hl3
          rw [hR] at this ⊢
          exact ⟨this, World.putObj_heap_same (lt hl3), (World.putObj_heap_other (by omega)).trans hk3, Leaves.put (lt hl3), lt hl3⟩
        have bel : ∀ {W3 W4 : World}, Leaves (fun k => k = w.heap.size + 1) W3 W4 → w.heap.size + 1 < W3.heap.size → Below w.heap.size W3 W4 := fun h hs => h.below (by omega) (fun k hk => by omega)
        rintro e a3 W3 h3
        cases e with
        | normal =>
          obtain ⟨h3, hi3⟩ := h3
          obtain ⟨hr, hl4, hk4, hp4, hs4⟩ := fin none W3 (h3.mono (fun k hk => by omega))
          refine ⟨_, _, hr, .inl ⟨rfl, ⟨hI _ _ _ hi3 (bel hp4 hs4), hl4, hk4⟩, ?_⟩⟩
          exact ((((Leaves.of_below hb : Leaves (fun k => k = E ∨ k = w.heap.size ∨ k = w.heap.size + 1) W W1).trans (hp.mono (by omega))).trans (h3.mono (by omega))).trans (hp4.mono (by omega)))
        | ret =>
          obtain ⟨h3, hi3⟩ := h3
          obtain ⟨hr, hl4, hk4, hp4, hs4⟩ := fin (some .ret) W3 h3
          exact ⟨_, _, hr, .inr ⟨rfl, .ret, hIx _ _ _ _ hi3 (bel hp4 hs4), hl4, hk4⟩⟩
        | exit id =>
          obtain ⟨h3, hi3⟩ := h3
          obtain ⟨hr, hl4, hk4, hp4, hs4⟩ := fin (some (.exit id)) W3 h3
          exact ⟨_, _, hr, .inr ⟨rfl, .exit id, hIx _ _ _ _ hi3 (bel hp4 hs4), hl4, hk4⟩⟩
        | goto t =>
          obtain ⟨h3, hi3⟩ := h3
          obtain ⟨hr, hl4, hk4, hp4, hs4⟩ := fin (some (.goto t)) W3 h3
          exact ⟨_, _, hr, .inr ⟨rfl, .goto t, hIx _ _ _ _ hi3 (bel hp4 hs4), hl4, hk4⟩⟩
        | panic ch => exact h3.elim
        | outgrown => exact h3.elim
      | ret => exact h.elim
      | exit id => exact h.elim
      | goto t => exact h.elim
      | panic ch => exact h.elim
      | outgrown => exact h.elim
    · -- behind the iterator
      rintro e W2 ⟨⟨v, rfl⟩, (⟨xs, hS, hi, hl, hk⟩ | ⟨pre, hSp, c, hi, hl, hk⟩)⟩
      · have hp : Leaves (fun k => k = w.heap.size + 1) W2 (W2.putObj (w.heap.size + 1) (.loop { R .ready none with state := .exhausted })) := Leaves.put (lt hl)
        refine ⟨none, W2.putObj (w.heap.size + 1) (.loop { R .ready none with state := .exhausted }), by have := run_endLoop (P := P) hl (by rw [hR]; simp); rw [this, hR], ?_⟩
        have hs := lt hl
        exact hdone xs _ hS (hI _ _ _ hi (hp.below (by omega) (fun k hk => by omega))) (by have := hp.size; omega) ((hp.block _ (lt hk) (by omega)).trans hk)
      · have hp : Leaves (fun k => k = w.heap.size + 1) W2 (W2.putObj (w.heap.size + 1) (.loop { R .done (some c) with state := .exhausted })) := Leaves.put (lt hl)
        refine ⟨some c, W2.putObj (w.heap.size + 1) (.loop { R .done (some c) with state := .exhausted }), by have := run_endLoop (P := P) hl (by rw [hR]; simp); rw [this, hR], ?_⟩
        have hs := lt hl
        exact hstop c pre _ hSp (hIx _ _ _ _ hi (hp.below (by omega) (fun k hk => by omega))) (by have := hp.size; omega) ((hp.block _ (lt hk) (by omega)).trans hk)

end Go.Proofs.Ytbdjllgngblfoaa
