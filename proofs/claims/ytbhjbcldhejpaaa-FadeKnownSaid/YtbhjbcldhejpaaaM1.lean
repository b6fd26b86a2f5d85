/- Closed calls are run by computation: texts Ea Eb Ec Ed Ee Ef Eg in one. -/
import Derived.Test.YtbhjbcldhejpaaaRows
import Derived.RangeFuncLeaves
import Derived.OrdersIn
import Derived.LoopNIn
import Derived.OwnWalkIn
import Derived.Laws.Sem
import Derived.Laws.StructEq
import Derived.ChangeKeysEq
import Derived.IntWalk
/- Closed calls are run by computation: values with named blocks, heaps of named blocks, and what it means that a world has them. -/
namespace Go.Proofs.Ytbhjbcldhejpaaa.Ev
set_option linter.unusedVariables false
set_option linter.unusedSimpArgs false
open Go
noncomputable section

/-! ### A map from numbers -/
inductive Tr (α : Type) where
  | leaf
  | node (l : Tr α) (v : Option α) (r : Tr α)
variable {α : Type}
/-- What lies at a key. (By the recursors: the kernel is quicker so.) -/
def Tr.get (t : Tr α) : Nat → Option α :=
  Tr.rec (motive := fun _ => Nat → Option α) (fun _ => none)
    (fun _ v _ ihl ihr n => Nat.rec (motive := fun _ => Option α) v (fun k _ => Bool.rec (motive := fun _ => Option α) (ihr (Nat.div k 2)) (ihl (Nat.div k 2)) (Nat.beq (Nat.mod k 2) 0)) n) t
theorem Tr.get_leaf (n : Nat) : (Tr.leaf : Tr α).get n = none := rfl
theorem Tr.get_zero (l : Tr α) (v : Option α) (r : Tr α) : (Tr.node l v r).get 0 = v := rfl
theorem Tr.get_true (l : Tr α) (v : Option α) (r : Tr α) (k : Nat) (h : Nat.beq (Nat.mod k 2) 0 = true) : (Tr.node l v r).get (k + 1) = l.get (Nat.div k 2) := by
  show Bool.rec (motive := fun _ => Option α) (r.get (Nat.div k 2)) (l.get (Nat.div k 2)) (Nat.beq (Nat.mod k 2) 0) = _
  rw [h]
theorem Tr.get_false (l : Tr α) (v : Option α) (r : Tr α) (k : Nat) (h : Nat.beq (Nat.mod k 2) 0 = false) : (Tr.node l v r).get (k + 1) = r.get (Nat.div k 2) := by
  show Bool.rec (motive := fun _ => Option α) (r.get (Nat.div k 2)) (l.get (Nat.div k 2)) (Nat.beq (Nat.mod k 2) 0) = _
  rw [h]
/-- What lies at a key is put in the place of what lay there (nothing, where nothing lay on the way). -/
def Tr.upd (t : Tr α) : Nat → Option α → Tr α :=
  Tr.rec (motive := fun _ => Nat → Option α → Tr α) (fun _ _ => .leaf)
    (fun l v r ihl ihr n x => Nat.rec (motive := fun _ => Tr α) (.node l x r) (fun k _ => Bool.rec (motive := fun _ => Tr α) (.node l v (ihr (Nat.div k 2) x)) (.node (ihl (Nat.div k 2) x) v r) (Nat.beq (Nat.mod k 2) 0)) n) t
theorem Tr.upd_zero (l : Tr α) (v : Option α) (r : Tr α) (x : Option α) : (Tr.node l v r).upd 0 x = .node l x r := rfl
theorem Tr.upd_true (l : Tr α) (v : Option α) (r : Tr α) (k : Nat) (x : Option α) (h : Nat.beq (Nat.mod k 2) 0 = true) : (Tr.node l v r).upd (k + 1) x = .node (l.upd (Nat.div k 2) x) v r := by
  show Bool.rec (motive := fun _ => Tr α) (.node l v (r.upd (Nat.div k 2) x)) (.node (l.upd (Nat.div k 2) x) v r) (Nat.beq (Nat.mod k 2) 0) = _
  rw [h]
theorem Tr.upd_false (l : Tr α) (v : Option α) (r : Tr α) (k : Nat) (x : Option α) (h : Nat.beq (Nat.mod k 2) 0 = false) : (Tr.node l v r).upd (k + 1) x = .node l v (r.upd (Nat.div k 2) x) := by
  show Bool.rec (motive := fun _ => Tr α) (.node l v (r.upd (Nat.div k 2) x)) (.node (l.upd (Nat.div k 2) x) v r) (Nat.beq (Nat.mod k 2) 0) = _
  rw [h]
def Tr.set (f : Nat) : Tr α → Nat → α → Tr α :=
  Nat.rec (motive := fun _ => Tr α → Nat → α → Tr α) (fun t _ _ => t)
    (fun _ ih t n x => Tr.rec (motive := fun _ => Tr α)
      (Nat.rec (motive := fun _ => Tr α) (.node .leaf (some x) .leaf) (fun k _ => Bool.rec (motive := fun _ => Tr α) (.node .leaf none (ih .leaf (Nat.div k 2) x)) (.node (ih .leaf (Nat.div k 2) x) none .leaf) (Nat.beq (Nat.mod k 2) 0)) n)
      (fun l v r _ _ => Nat.rec (motive := fun _ => Tr α) (.node l (some x) r) (fun k _ => Bool.rec (motive := fun _ => Tr α) (.node l v (ih r (Nat.div k 2) x)) (.node (ih l (Nat.div k 2) x) v r) (Nat.beq (Nat.mod k 2) 0)) n) t) f
theorem Tr.set_none (t : Tr α) (n : Nat) (x : α) : Tr.set 0 t n x = t := rfl
theorem Tr.set_leaf_zero (f : Nat) (x : α) : Tr.set (f + 1) .leaf 0 x = .node .leaf (some x) .leaf := rfl
theorem Tr.set_node_zero (f : Nat) (l : Tr α) (v : Option α) (r : Tr α) (x : α) : Tr.set (f + 1) (.node l v r) 0 x = .node l (some x) r := rfl
theorem Tr.set_leaf_true (f : Nat) (k : Nat) (x : α) (h : Nat.beq (Nat.mod k 2) 0 = true) : Tr.set (f + 1) .leaf (k + 1) x = .node (Tr.set f .leaf (Nat.div k 2) x) none .leaf := by
  show Bool.rec (motive := fun _ => Tr α) (.node .leaf none (Tr.set f .leaf (Nat.div k 2) x)) (.node (Tr.set f .leaf (Nat.div k 2) x) none .leaf) (Nat.beq (Nat.mod k 2) 0) = _
  rw [h]
theorem Tr.set_leaf_false (f : Nat) (k : Nat) (x : α) (h : Nat.beq (Nat.mod k 2) 0 = false) : Tr.set (f + 1) .leaf (k + 1) x = .node .leaf none (Tr.set f .leaf (Nat.div k 2) x) := by
  show Bool.rec (motive := fun _ => Tr α) (.node .leaf none (Tr.set f .leaf (Nat.div k 2) x)) (.node (Tr.set f .leaf (Nat.div k 2) x) none .leaf) (Nat.beq (Nat.mod k 2) 0) = _
  rw [h]
theorem Tr.set_node_true (f : Nat) (l : Tr α) (v : Option α) (r : Tr α) (k : Nat) (x : α) (h : Nat.beq (Nat.mod k 2) 0 = true) : Tr.set (f + 1) (.node l v r) (k + 1) x = .node (Tr.set f l (Nat.div k 2) x) v r := by
  show Bool.rec (motive := fun _ => Tr α) (.node l v (Tr.set f r (Nat.div k 2) x)) (.node (Tr.set f l (Nat.div k 2) x) v r) (Nat.beq (Nat.mod k 2) 0) = _
  rw [h]
theorem Tr.set_node_false (f : Nat) (l : Tr α) (v : Option α) (r : Tr α) (k : Nat) (x : α) (h : Nat.beq (Nat.mod k 2) 0 = false) : Tr.set (f + 1) (.node l v r) (k + 1) x = .node l v (Tr.set f r (Nat.div k 2) x) := by
  show Bool.rec (motive := fun _ => Tr α) (.node l v (Tr.set f r (Nat.div k 2) x)) (.node (Tr.set f l (Nat.div k 2) x) v r) (Nat.beq (Nat.mod k 2) 0) = _
  rw [h]

theorem half_lt (k : Nat) : k / 2 < k + 1 := by omega
theorem beq_half {k j : Nat} (h : k ≠ j) (e : Nat.beq (Nat.mod k 2) 0 = Nat.beq (Nat.mod j 2) 0) : Nat.div k 2 ≠ Nat.div j 2 := by
  have a : (Nat.beq (Nat.mod k 2) 0 = true) ↔ k % 2 = 0 := by rw [Nat.beq_eq]; rfl
  have b : (Nat.beq (Nat.mod j 2) 0 = true) ↔ j % 2 = 0 := by rw [Nat.beq_eq]; rfl
  have c : k % 2 = 0 ↔ j % 2 = 0 := by rw [← a, ← b, e]
  show k / 2 ≠ j / 2
  omega
theorem Tr.get_upd_same : ∀ (t : Tr α) (n : Nat) (x : Option α), t.get n ≠ none → (t.upd n x).get n = x
  | .leaf, n, x, h => absurd rfl h
  | .node l v r, 0, x, h => rfl
  | .node l v r, k + 1, x, h => by
    cases hb : Nat.beq (Nat.mod k 2) 0 with
    | true =>
      rw [Tr.get_true _ _ _ _ hb] at h
      rw [Tr.upd_true _ _ _ _ _ hb, Tr.get_true _ _ _ _ hb]
      exact l.get_upd_same _ _ h
    | false =>
      rw [Tr.get_false _ _ _ _ hb] at h
      rw [Tr.upd_false _ _ _ _ _ hb, Tr.get_false _ _ _ _ hb]
      exact r.get_upd_same _ _ h
theorem Tr.get_upd_other : ∀ (t : Tr α) (n m : Nat) (x : Option α), n ≠ m → (t.upd n x).get m = t.get m
  | .leaf, n, m, x, h => rfl
  | .node l v r, 0, 0, x, h => absurd rfl h
  | .node l v r, 0, j + 1, x, h => by
    rw [Tr.upd_zero]
    cases hj : Nat.beq (Nat.mod j 2) 0
    · rw [Tr.get_false _ _ _ _ hj, Tr.get_false _ _ _ _ hj]
    · rw [Tr.get_true _ _ _ _ hj, Tr.get_true _ _ _ _ hj]
  | .node l v r, k + 1, 0, x, h => by
    cases hb : Nat.beq (Nat.mod k 2) 0
    · rw [Tr.upd_false _ _ _ _ _ hb]; rfl
    · rw [Tr.upd_true _ _ _ _ _ hb]; rfl
  | .node l v r, k + 1, j + 1, x, h => by
    cases hb : Nat.beq (Nat.mod k 2) 0 <;> cases hj : Nat.beq (Nat.mod j 2) 0
    · rw [Tr.upd_false _ _ _ _ _ hb, Tr.get_false _ _ _ _ hj, Tr.get_false _ _ _ _ hj]
      exact r.get_upd_other _ _ _ (beq_half (by omega) (hb.trans hj.symm))
    · rw [Tr.upd_false _ _ _ _ _ hb, Tr.get_true _ _ _ _ hj, Tr.get_true _ _ _ _ hj]
    · rw [Tr.upd_true _ _ _ _ _ hb, Tr.get_false _ _ _ _ hj, Tr.get_false _ _ _ _ hj]
    · rw [Tr.upd_true _ _ _ _ _ hb, Tr.get_true _ _ _ _ hj, Tr.get_true _ _ _ _ hj]
      exact l.get_upd_other _ _ _ (beq_half (by omega) (hb.trans hj.symm))
theorem Tr.get_set_same : ∀ (f : Nat) (t : Tr α) (n : Nat) (x : α), n + 1 < 2 ^ f → (Tr.set f t n x).get n = some x
  | 0, t, n, x, h => by simp at h
  | f + 1, t, n, x, h => by
    have hh : ∀ k, n = k + 1 → Nat.div k 2 + 1 < 2 ^ f := fun k e => by
      show k / 2 + 1 < 2 ^ f
      rw [Nat.pow_succ] at h
      omega
    cases n with
    | zero => cases t <;> rfl
    | succ k =>
      cases hb : Nat.beq (Nat.mod k 2) 0 <;> cases t
      · rw [Tr.set_leaf_false _ _ _ hb, Tr.get_false _ _ _ _ hb]; exact Tr.get_set_same f _ _ _ (hh k rfl)
      · rw [Tr.set_node_false _ _ _ _ _ _ hb, Tr.get_false _ _ _ _ hb]; exact Tr.get_set_same f _ _ _ (hh k rfl)
      · rw [Tr.set_leaf_true _ _ _ hb, Tr.get_true _ _ _ _ hb]; exact Tr.get_set_same f _ _ _ (hh k rfl)
      · rw [Tr.set_node_true _ _ _ _ _ _ hb, Tr.get_true _ _ _ _ hb]; exact Tr.get_set_same f _ _ _ (hh k rfl)
theorem Tr.get_set_other : ∀ (f : Nat) (t : Tr α) (n m : Nat) (x : α), n ≠ m → (Tr.set f t n x).get m = t.get m
  | 0, t, n, m, x, h => rfl
  | f + 1, t, 0, 0, x, h => absurd rfl h
  | f + 1, .leaf, 0, j + 1, x, h => by
    rw [Tr.set_leaf_zero]
    cases hj : Nat.beq (Nat.mod j 2) 0
    · rw [Tr.get_false _ _ _ _ hj]; rfl
    · rw [Tr.get_true _ _ _ _ hj]; rfl
  | f + 1, .node l v r, 0, j + 1, x, h => by
    rw [Tr.set_node_zero]
    cases hj : Nat.beq (Nat.mod j 2) 0
    · rw [Tr.get_false _ _ _ _ hj, Tr.get_false _ _ _ _ hj]
    · rw [Tr.get_true _ _ _ _ hj, Tr.get_true _ _ _ _ hj]
  | f + 1, .leaf, k + 1, 0, x, h => by
    cases hb : Nat.beq (Nat.mod k 2) 0
    · rw [Tr.set_leaf_false _ _ _ hb]; rfl
    · rw [Tr.set_leaf_true _ _ _ hb]; rfl
  | f + 1, .node l v r, k + 1, 0, x, h => by
    cases hb : Nat.beq (Nat.mod k 2) 0
    · rw [Tr.set_node_false _ _ _ _ _ _ hb]; rfl
    · rw [Tr.set_node_true _ _ _ _ _ _ hb]; rfl
  | f + 1, .leaf, k + 1, j + 1, x, h => by
    cases hb : Nat.beq (Nat.mod k 2) 0 <;> cases hj : Nat.beq (Nat.mod j 2) 0
    · rw [Tr.set_leaf_false _ _ _ hb, Tr.get_false _ _ _ _ hj]; exact Tr.get_set_other f .leaf _ _ _ (beq_half (by omega) (hb.trans hj.symm))
    · rw [Tr.set_leaf_false _ _ _ hb, Tr.get_true _ _ _ _ hj]; rfl
    · rw [Tr.set_leaf_true _ _ _ hb, Tr.get_false _ _ _ _ hj]; rfl
    · rw [Tr.set_leaf_true _ _ _ hb, Tr.get_true _ _ _ _ hj]; exact Tr.get_set_other f .leaf _ _ _ (beq_half (by omega) (hb.trans hj.symm))
  | f + 1, .node l v r, k + 1, j + 1, x, h => by
    cases hb : Nat.beq (Nat.mod k 2) 0 <;> cases hj : Nat.beq (Nat.mod j 2) 0
    · rw [Tr.set_node_false _ _ _ _ _ _ hb, Tr.get_false _ _ _ _ hj, Tr.get_false _ _ _ _ hj]; exact Tr.get_set_other f r _ _ _ (beq_half (by omega) (hb.trans hj.symm))
    · rw [Tr.set_node_false _ _ _ _ _ _ hb, Tr.get_true _ _ _ _ hj, Tr.get_true _ _ _ _ hj]
    · rw [Tr.set_node_true _ _ _ _ _ _ hb, Tr.get_false _ _ _ _ hj, Tr.get_false _ _ _ _ hj]
    · rw [Tr.set_node_true _ _ _ _ _ _ hb, Tr.get_true _ _ _ _ hj, Tr.get_true _ _ _ _ hj]; exact Tr.get_set_other f l _ _ _ (beq_half (by omega) (hb.trans hj.symm))
/-- Whatever the fuel: what lies there afterwards is the new one or the old one. -/
theorem Tr.get_set_or : ∀ (f : Nat) (t : Tr α) (n : Nat) (x : α), (Tr.set f t n x).get n = some x ∨ (Tr.set f t n x).get n = t.get n
  | 0, t, n, x => .inr rfl
  | f + 1, .leaf, 0, x => .inl rfl
  | f + 1, .node l v r, 0, x => .inl rfl
  | f + 1, .leaf, k + 1, x => by
    cases hb : Nat.beq (Nat.mod k 2) 0
    · rw [Tr.set_leaf_false _ _ _ hb, Tr.get_false _ _ _ _ hb]; exact Tr.get_set_or f .leaf _ _
    · rw [Tr.set_leaf_true _ _ _ hb, Tr.get_true _ _ _ _ hb]; exact Tr.get_set_or f .leaf _ _
  | f + 1, .node l v r, k + 1, x => by
    cases hb : Nat.beq (Nat.mod k 2) 0
    · rw [Tr.set_node_false _ _ _ _ _ _ hb, Tr.get_false _ _ _ _ hb, Tr.get_false _ _ _ _ hb]; exact Tr.get_set_or f r _ _
    · rw [Tr.set_node_true _ _ _ _ _ _ hb, Tr.get_true _ _ _ _ hb, Tr.get_true _ _ _ _ hb]; exact Tr.get_set_or f l _ _

/-! ### Values -/
inductive AV where
  | v (x : Value)
  | ptr (b o : Nat)
  | sl (b o n c : Nat)
  | slu (b o n d : Nat)
  | sle (b o l d sz : Nat)
  | xl (x : Value) (n k : Nat) (c : List AV)
  | xp (x : Value) (n k : Nat) (c : List AV) (i : Nat)
  | agg (l : List AV)
  | tup (l : List AV)
  | fn (f : Fn) (first cap : List AV)
  | yld (b : Nat)
  | mp (b : Nat)
/-- Named blocks, the room of rows, and the world in which the run began: of it nothing is written. -/
structure Env where
  blk : Nat → Option Nat
  cap : Nat → Nat
  base : World
/-- A slice of n elements of k cells, as it lies in a world: these are its cells. -/
def XOk (w : World) (x : Value) (n k : Nat) (cs : List Value) : Prop :=
  ∃ base cap, x = .slice base n cap ∧ n ≤ cap ∧ cs.length = n * k ∧ (0 < cs.length → ∃ g off, base = some ⟨g, off, none⟩ ∧ ∀ i, i < cs.length → w.cell? ⟨g, off + i, none⟩ = cs[i]?)
/-- The pointer to a cell of a slice. -/
def xptr (x : Value) (i : Nat) : Value :=
  match x with
  | .slice (some a) _ _ => .pointer (some ⟨a.block, a.off + i, a.spot⟩)
  | _ => undef
open Classical in
mutual
def den (σ : Env) : AV → Option Value
  | .v x => some x
  | .ptr b o => (σ.blk b).map fun B => .pointer (some ⟨B, o, none⟩)
  | .sl b o n c => (σ.blk b).map fun B => .slice (some ⟨B, o, none⟩) n c
  | .slu b o n d => (σ.blk b).bind fun B => if n ≤ σ.cap b - d then some (.slice (some ⟨B, o, none⟩) n (σ.cap b - d)) else none
  | .sle b o l d sz => (σ.blk b).map fun B => .slice (some ⟨B, if σ.cap b - d = l then o else o + l * sz, none⟩) 0 (σ.cap b - d - l)
  | .xl x n k c => match denL σ c with
    | some cs => if XOk σ.base x n k cs then some x else none
    | none => none
  | .xp x n k c i => match denL σ c with
    | some cs => if XOk σ.base x n k cs ∧ i < cs.length then some (xptr x i) else none
    | none => none
  | .agg l => (denL σ l).map fun vs => .agg vs.toArray
  | .tup l => (denL σ l).map fun vs => .tuple vs.toArray
  | .fn f l c => match denL σ l, denL σ c with
    | some x, some y => some (.func f x.toArray y.toArray)
    | _, _ => none
  | .yld b => (σ.blk b).map fun B => .func (.yield B) #[] #[]
  | .mp b => (σ.blk b).map fun B => .map (some B)
def denL (σ : Env) : List AV → Option (List Value)
  | [] => some []
  | a :: l => match den σ a, denL σ l with
    | some x, some y => some (x :: y)
    | _, _ => none
end
/-- The one environment knows all that the other one knows. -/
structure Env.le (σ τ : Env) : Prop where
  kn : ∀ b B, σ.blk b = some B → τ.blk b = some B ∧ τ.cap b = σ.cap b
  base : τ.base = σ.base
instance {σ τ : Env} : CoeFun (Env.le σ τ) (fun _ => ∀ b B, σ.blk b = some B → τ.blk b = some B ∧ τ.cap b = σ.cap b) := ⟨Env.le.kn⟩
theorem Env.le.refl (σ : Env) : σ.le σ := ⟨fun _ _ h => ⟨h, rfl⟩, rfl⟩
theorem Env.le.trans {σ τ ρ : Env} (h : σ.le τ) (k : τ.le ρ) : σ.le ρ := ⟨fun b B e => by
  obtain ⟨h1, h2⟩ := h b B e
  obtain ⟨k1, k2⟩ := k b B h1
  exact ⟨k1, k2.trans h2⟩, k.base.trans h.base⟩
mutual
theorem den_le {σ τ : Env} (h : σ.le τ) : ∀ (a : AV) (x : Value), den σ a = some x → den τ a = some x
  | .v y, x, e => e
  | .ptr b o, x, e => by
    simp only [den, Option.map_eq_some_iff] at e ⊢
    obtain ⟨B, e1, e2⟩ := e
    exact ⟨B, (h b B e1).1, e2⟩
  | .sl b o n c, x, e => by
    simp only [den, Option.map_eq_some_iff] at e ⊢
    obtain ⟨B, e1, e2⟩ := e
    exact ⟨B, (h b B e1).1, e2⟩
  | .slu b o n d, x, e => by
    simp only [den, Option.bind_eq_some_iff] at e ⊢
    obtain ⟨B, e1, e2⟩ := e
    exact ⟨B, (h b B e1).1, by rw [(h b B e1).2]; exact e2⟩
  | .sle b o l d sz, x, e => by
    simp only [den, Option.map_eq_some_iff] at e ⊢
    obtain ⟨B, e1, e2⟩ := e
    exact ⟨B, (h b B e1).1, by rw [(h b B e1).2]; exact e2⟩
  | .yld b, x, e => by
    simp only [den, Option.map_eq_some_iff] at e ⊢
    obtain ⟨B, e1, e2⟩ := e
    exact ⟨B, (h b B e1).1, e2⟩
  | .mp b, x, e => by
    simp only [den, Option.map_eq_some_iff] at e ⊢
    obtain ⟨B, e1, e2⟩ := e
    exact ⟨B, (h b B e1).1, e2⟩
  | .xl y n k c, x, e => by
    simp only [den] at e ⊢
    cases h1 : denL σ c with
    | none => rw [h1] at e; cases e
    | some cs =>
      rw [h1] at e
      rw [denL_le h c cs h1, h.base]
      exact e
  | .xp y n k c i, x, e => by
    simp only [den] at e ⊢
    cases h1 : denL σ c with
    | none => rw [h1] at e; cases e
    | some cs =>
      rw [h1] at e
      rw [denL_le h c cs h1, h.base]
      exact e
  | .agg l, x, e => by
    simp only [den, Option.map_eq_some_iff] at e ⊢
    obtain ⟨B, e1, e2⟩ := e
    exact ⟨B, denL_le h l B e1, e2⟩
  | .tup l, x, e => by
    simp only [den, Option.map_eq_some_iff] at e ⊢
    obtain ⟨B, e1, e2⟩ := e
    exact ⟨B, denL_le h l B e1, e2⟩
  | .fn f l c, x, e => by
    simp only [den] at e ⊢
    cases h1 : denL σ l with
    | none => rw [h1] at e; cases e
    | some u => cases h2 : denL σ c with
      | none => rw [h1, h2] at e; cases e
      | some z =>
        rw [h1, h2] at e
        rw [denL_le h l u h1, denL_le h c z h2]
        exact e
theorem denL_le {σ τ : Env} (h : σ.le τ) : ∀ (l : List AV) (xs : List Value), denL σ l = some xs → denL τ l = some xs
  | [], xs, e => e
  | a :: l, xs, e => by
    simp only [denL] at e ⊢
    cases h1 : den σ a with
    | none => rw [h1] at e; cases e
    | some u => cases h2 : denL σ l with
      | none => rw [h1, h2] at e; cases e
      | some z =>
        rw [h1, h2] at e
        rw [den_le h a u h1, denL_le h l z h2]
        exact e
end

theorem den_slu {σ : Env} {b o n d : Nat} {x : Value} (h : den σ (.slu b o n d) = some x) : ∃ B, σ.blk b = some B ∧ x = .slice (some ⟨B, o, none⟩) n (σ.cap b - d) ∧ n ≤ σ.cap b - d := by
  simp only [den, Option.bind_eq_some_iff] at h
  obtain ⟨B, h1, h2⟩ := h
  split at h2
  · cases h2; exact ⟨B, h1, rfl, ‹_›⟩
  · cases h2
theorem den_xl {σ : Env} {y x : Value} {n k : Nat} {c : List AV} (h : den σ (.xl y n k c) = some x) : ∃ cs, denL σ c = some cs ∧ XOk σ.base y n k cs ∧ x = y := by
  simp only [den] at h
  cases h1 : denL σ c with
  | none => rw [h1] at h; cases h
  | some cs =>
    rw [h1] at h
    simp only at h
    split at h
    · cases h; exact ⟨cs, rfl, ‹_›, rfl⟩
    · cases h
theorem den_xl_mk {σ : Env} {y : Value} {n k : Nat} {c : List AV} {cs : List Value} (h : denL σ c = some cs) (hx : XOk σ.base y n k cs) : den σ (.xl y n k c) = some y := by
  simp only [den, h, if_pos hx]
theorem den_xp {σ : Env} {y x : Value} {n k i : Nat} {c : List AV} (h : den σ (.xp y n k c i) = some x) : ∃ cs, denL σ c = some cs ∧ XOk σ.base y n k cs ∧ i < cs.length ∧ x = xptr y i := by
  simp only [den] at h
  cases h1 : denL σ c with
  | none => rw [h1] at h; cases h
  | some cs =>
    rw [h1] at h
    simp only at h
    split at h
    · rename_i hh
      cases h; exact ⟨cs, rfl, hh.1, hh.2, rfl⟩
    · cases h
theorem den_xp_mk {σ : Env} {y : Value} {n k i : Nat} {c : List AV} {cs : List Value} (h : denL σ c = some cs) (hx : XOk σ.base y n k cs) (hi : i < cs.length) : den σ (.xp y n k c i) = some (xptr y i) := by
  simp only [den, h, if_pos (And.intro hx hi)]
theorem den_slu_mk {σ : Env} {b o n d B : Nat} (h : σ.blk b = some B) (hn : n ≤ σ.cap b - d) : den σ (.slu b o n d) = some (.slice (some ⟨B, o, none⟩) n (σ.cap b - d)) := by
  simp only [den, h, Option.bind_some, if_pos hn]

/-! ### Blocks -/
inductive AB where
  | cells (l : List AV) (t : TypeId)
  | row (l : List AV) (t : TypeId) (sz : Nat)
  | loop (st : LoopState) (pend : Option Code) (tm : Tr AV) (sz : Nat) (params : Array Tmp) (assign body : Code) (df : Nat)
  | defd (opened : Bool)
  | map (es : List (Value × AV × Nat)) (clock : Nat)
  | iter (m since : Nat) (seen : List Nat) (last : Nat)
/-- The entries of a map: keys and birth as known, with these values. -/
def entriesOf : List (Value × AV × Nat) → List Value → List MapEntry
  | e :: es, v :: vs => { key := e.1, val := v, born := e.2.2 } :: entriesOf es vs
  | _, _ => []
/-- The temporaries are as they are known. -/
def Tm (σ : Env) (tm : Tr AV) (sz : Nat) (tmps : Array Value) : Prop :=
  tmps.size = sz ∧ ∀ t a, tm.get t = some a → ∃ x, den σ a = some x ∧ t < sz ∧ tmps.getD t undef = x
def Blk (σ : Env) (b : Nat) : AB → Obj → Prop
  | .cells l t, o => ∃ vs, denL σ l = some vs ∧ o = .cells vs.toArray t (0, 0)
  | .row l t sz, o => ∃ vs rest, denL σ l = some vs ∧ o = .cells (vs ++ rest).toArray t (0, 0) ∧ (vs ++ rest).length = σ.cap b * sz
  | .loop st pend tm sz params assign body df, o => ∃ fn tmps D, Tm σ tm sz tmps ∧ σ.blk df = some D ∧ o = .loop { state := st, pending := pend, fn := fn, tmps := tmps, params := params, assign := assign, body := body, defers := D }
  | .defd true, o => o = .deferred (some [])
  | .defd false, o => o = .deferred none
  | .map es clock, o => ∃ vs, denL σ (es.map (·.2.1)) = some vs ∧ o = .map (entriesOf es vs).toArray clock
  | .iter m since seen last, o => ∃ M, σ.blk m = some M ∧ o = .mapIter (some M) since seen.toArray last
theorem Tm.le {σ τ : Env} (h : σ.le τ) {tm : Tr AV} {sz : Nat} {tmps : Array Value} (k : Tm σ tm sz tmps) : Tm τ tm sz tmps :=
  ⟨k.1, fun t a e => by obtain ⟨x, h1, h2⟩ := k.2 t a e; exact ⟨x, den_le h a x h1, h2⟩⟩
theorem Blk.le {σ τ : Env} (h : σ.le τ) {b : Nat} (hb : σ.blk b ≠ none) : ∀ {x : AB} {o : Obj}, Blk σ b x o → Blk τ b x o
  | .cells l t, o, k => by obtain ⟨vs, h1, h2⟩ := k; exact ⟨vs, denL_le h l vs h1, h2⟩
  | .row l t sz, o, k => by
    obtain ⟨vs, rest, h1, h2, h3⟩ := k
    cases e : σ.blk b with
    | none => exact absurd e hb
    | some B => exact ⟨vs, rest, denL_le h l vs h1, h2, by rw [(h b B e).2]; exact h3⟩
  | .loop st pend tm sz params assign body df, o, k => by
    obtain ⟨fn, tmps, D, h1, h2, h3⟩ := k
    exact ⟨fn, tmps, D, h1.le h, (h df D h2).1, h3⟩
  | .defd true, o, k => k
  | .defd false, o, k => k
  | .map es clock, o, k => by obtain ⟨vs, h1, h2⟩ := k; exact ⟨vs, denL_le h _ vs h1, h2⟩
  | .iter m since seen last, o, k => by obtain ⟨M, h1, h2⟩ := k; exact ⟨M, (h m M h1).1, h2⟩

/-! ### States -/
structure HS where
  n : Nat
  m : Nat
  H : Tr AB
def Sim (H : Tr AB) (σ : Env) (w : World) : Prop :=
  (∀ b x, H.get b = some x → ∃ B o, σ.blk b = some B ∧ w.heap[B]? = some o ∧ Blk σ b x o) ∧
  (∀ b c B, H.get b ≠ none → H.get c ≠ none → σ.blk b = some B → σ.blk c = some B → b = c) ∧
  (σ.base.heap.size ≤ w.heap.size ∧ ∀ B, B < σ.base.heap.size → w.heap[B]? = σ.base.heap[B]?) ∧
  (∀ b B, H.get b ≠ none → σ.blk b = some B → σ.base.heap.size ≤ B)
structure Good (s : HS) : Prop where
  top : ∀ b, s.n ≤ b → s.H.get b = none
  low : s.m ≤ s.n
/-- What a part of a run has made of a world, in names from s.n up to s'.n; blocks with names from s'.m on may have been written. -/
structure Moved (s : HS) (σ : Env) (w : World) (s' : HS) (σ' : Env) (w' : World) : Prop where
  le : s.n ≤ s'.n
  mono : s'.m ≤ s.m
  env : ∀ b, ¬ (s.n ≤ b ∧ b < s'.n) → σ'.blk b = σ.blk b ∧ σ'.cap b = σ.cap b
  base : σ'.base = σ.base
  sim : Sim s'.H σ' w'
  top : ∀ b, s'.n ≤ b → s'.H.get b = none
  keep : ∀ b, b < s.n → b < s'.m → s'.H.get b = s.H.get b
  dom : ∀ b, b < s.n → s'.H.get b ≠ none → s.H.get b ≠ none
  frame : ∀ B, B < w.heap.size → (∀ b, s'.m ≤ b → s.H.get b ≠ none → σ.blk b ≠ some B) → w'.heap[B]? = w.heap[B]?
  size : w.heap.size ≤ w'.heap.size
  fresh : ∀ b B, s'.H.get b ≠ none → s'.m ≤ b → σ'.blk b = some B → B < w.heap.size → ∃ c, s'.m ≤ c ∧ s.H.get c ≠ none ∧ σ.blk c = some B
  os : w'.os = w.os
  tape : w'.tape = w.tape
  output : w'.output = w.output
theorem Moved.good {s s' : HS} {σ σ' : Env} {w w' : World} (h : Moved s σ w s' σ' w') (g : Good s) : Good s' :=
  ⟨h.top, Nat.le_trans h.mono (Nat.le_trans g.low h.le)⟩
theorem Moved.refl {s : HS} {σ : Env} {w : World} (g : Good s) (hs : Sim s.H σ w) : Moved s σ w s σ w :=
  { le := Nat.le_refl _, mono := Nat.le_refl _, env := fun _ _ => ⟨rfl, rfl⟩, base := rfl, sim := hs, top := g.top, keep := fun _ _ _ => rfl, dom := fun _ _ h => h, frame := fun _ _ _ => rfl, size := Nat.le_refl _,
    fresh := fun b B h1 h2 h3 _ => ⟨b, h2, h1, h3⟩, os := rfl, tape := rfl, output := rfl }
/-- Where no name of the new ones was known, all that was known stays. -/
theorem Moved.env_le {s s' : HS} {σ σ' : Env} {w w' : World} (h : Moved s σ w s' σ' w') (hf : ∀ b, s.n ≤ b → b < s'.n → σ.blk b = none) : σ.le σ' := ⟨fun b B e => by
  by_cases hb : s.n ≤ b ∧ b < s'.n
  · rw [hf b hb.1 hb.2] at e; cases e
  · exact ⟨(h.env b hb).1.trans e, (h.env b hb).2⟩, h.base⟩
theorem Moved.trans {s s1 s2 : HS} {σ σ1 σ2 : Env} {w w1 w2 : World} (g : Good s) (h : Moved s σ w s1 σ1 w1) (k : Moved s1 σ1 w1 s2 σ2 w2) : Moved s σ w s2 σ2 w2 := by
  have hlow : s1.m ≤ s.n := Nat.le_trans h.mono g.low
  have old : ∀ b, b < s1.m → s1.H.get b ≠ none → s.H.get b ≠ none ∧ σ1.blk b = σ.blk b := fun b hb hd =>
    ⟨by rw [← h.keep b (by omega) hb]; exact hd, (h.env b (by omega)).1⟩
  refine { le := Nat.le_trans h.le k.le, mono := Nat.le_trans k.mono h.mono, env := ?_, base := k.base.trans h.base, sim := k.sim, top := k.top, keep := ?_, dom := ?_, frame := ?_, size := Nat.le_trans h.size k.size, fresh := ?_, os := k.os.trans h.os, tape := k.tape.trans h.tape, output := k.output.trans h.output }
  · intro b hb
    have hl := h.le
    have kl := k.le
    have e1 := h.env b (by omega)
    have e2 := k.env b (by omega)
    exact ⟨e2.1.trans e1.1, e2.2.trans e1.2⟩
  · intro b h1 h2
    have hl := h.le
    have km := k.mono
    rw [k.keep b (by omega) h2, h.keep b h1 (by omega)]
  · intro b h1 h2
    have hl := h.le
    exact h.dom b h1 (k.dom b (by omega) h2)
  · intro B hB hn
    have km := k.mono
    have e1 := h.frame B hB (fun b hb => hn b (by omega))
    rw [← e1]
    refine k.frame B (Nat.lt_of_lt_of_le hB h.size) (fun b hb hd he => ?_)
    by_cases hbm : s1.m ≤ b
    · obtain ⟨c, c1, c2, c3⟩ := h.fresh b B hd hbm he hB
      exact hn c (by omega) c2 c3
    · obtain ⟨o1, o2⟩ := old b (by omega) hd
      exact hn b hb o1 (o2 ▸ he)
  · intro b B h1 h2 h3 hB
    have km := k.mono
    obtain ⟨c, c1, c2, c3⟩ := k.fresh b B h1 h2 h3 (Nat.lt_of_lt_of_le hB h.size)
    by_cases hcm : s1.m ≤ c
    · obtain ⟨d, d1, d2, d3⟩ := h.fresh c B c2 hcm c3 hB
      exact ⟨d, by omega, d2, d3⟩
    · obtain ⟨o1, o2⟩ := old c (by omega) c2
      exact ⟨c, c1, o1, o2 ▸ c3⟩
end
end Go.Proofs.Ytbhjbcldhejpaaa.Ev

/- What a single operation makes of the heap of named blocks: laws of worlds. -/
namespace Go.Proofs.Ytbhjbcldhejpaaa.Ev
set_option linter.unusedVariables false
set_option linter.unusedSimpArgs false
open Go
noncomputable section

def Env.put (σ : Env) (n B c : Nat) : Env := ⟨fun b => if b = n then some B else σ.blk b, fun b => if b = n then c else σ.cap b, σ.base⟩
theorem Env.put_le {σ : Env} {n B c : Nat} (h : σ.blk n = none) : σ.le (σ.put n B c) := ⟨fun b B' e => by
  have hb : b ≠ n := fun q => by rw [q, h] at e; cases e
  simp [Env.put, hb, e], rfl⟩
theorem Env.put_at (σ : Env) (n B c : Nat) : (σ.put n B c).blk n = some B := by simp [Env.put]
theorem Env.put_cap (σ : Env) (n B c : Nat) : (σ.put n B c).cap n = c := by simp [Env.put]
theorem Env.put_ne (σ : Env) {n b : Nat} (B c : Nat) (h : b ≠ n) : (σ.put n B c).blk b = σ.blk b ∧ (σ.put n B c).cap b = σ.cap b := by simp [Env.put, h]

def HS.new (s : HS) (x : AB) : HS :=
  match s with
  | ⟨n, m, H⟩ => ⟨n + 1, m, Tr.set 30 H n x⟩
def HS.low (m b : Nat) : Nat := match Nat.ble m b with | true => m | false => b
theorem HS.low_le (m b : Nat) : HS.low m b ≤ m ∧ HS.low m b ≤ b := by
  unfold HS.low
  cases h : Nat.ble m b with
  | true => exact ⟨Nat.le_refl _, Nat.le_of_ble_eq_true h⟩
  | false =>
    have : ¬ m ≤ b := fun q => by rw [Nat.ble_eq_true_of_le q] at h; cases h
    exact ⟨by show b ≤ m; omega, Nat.le_refl _⟩
/-- Forced: no bound is kept as a term that is not yet computed. -/
def HS.mkLow (n m b : Nat) (H : Tr AB) : HS :=
  match Nat.ble m b with
  | true => ⟨n, m, H⟩
  | false => ⟨n, b, H⟩
def HS.upd (s : HS) (b : Nat) (x : AB) : HS :=
  match s with
  | ⟨n, m, H⟩ => HS.mkLow n m b (H.upd b (some x))
/-- The block b is named anew, by the next name. -/
def HS.swap (s : HS) (b : Nat) (x : AB) : HS :=
  match s with
  | ⟨n, m, H⟩ => HS.mkLow (n + 1) m b (Tr.set 30 (H.upd b none) n x)
theorem HS.mkLow_eq (n m b : Nat) (H : Tr AB) : HS.mkLow n m b H = ⟨n, HS.low m b, H⟩ := by
  unfold HS.mkLow HS.low
  cases Nat.ble m b <;> rfl
theorem HS.upd_eq (s : HS) (b : Nat) (x : AB) : s.upd b x = ⟨s.n, HS.low s.m b, s.H.upd b (some x)⟩ := HS.mkLow_eq _ _ _ _
theorem HS.swap_eq (s : HS) (b : Nat) (x : AB) : s.swap b x = ⟨s.n + 1, HS.low s.m b, Tr.set 30 (s.H.upd b none) s.n x⟩ := HS.mkLow_eq _ _ _ _
theorem heap_alloc (w : World) (o : Obj) : (w.alloc o).heap = w.heap.push o := rfl
def setBlock (w : World) (B : Nat) (o : Obj) : World := { w with heap := w.heap.setIfInBounds B o }

theorem Moved.same {s s' : HS} {σ σ' : Env} {w w' w2 : World} (h : Moved s σ w s' σ' w') (h1 : w2.heap = w'.heap) (h2 : w2.os = w'.os) (h3 : w2.tape = w'.tape) (h4 : w2.output = w'.output) : Moved s σ w s' σ' w2 :=
  { le := h.le, mono := h.mono, env := h.env, base := h.base, sim := ⟨fun b x e => by rw [h1]; exact h.sim.1 b x e, h.sim.2.1, by rw [h1]; exact h.sim.2.2.1, h.sim.2.2.2⟩, top := h.top, keep := h.keep, dom := h.dom, frame := fun B a b => by rw [h1]; exact h.frame B a b, size := by rw [h1]; exact h.size, fresh := h.fresh, os := h2.trans h.os, tape := h3.trans h.tape, output := h4.trans h.output }
theorem Moved.same0 {s s' : HS} {σ σ' : Env} {w w' w0 : World} (h : Moved s σ w s' σ' w') (h1 : w.heap = w0.heap) (h2 : w.os = w0.os) (h3 : w.tape = w0.tape) (h4 : w.output = w0.output) : Moved s σ w0 s' σ' w' :=
  { le := h.le, mono := h.mono, env := h.env, base := h.base, sim := h.sim, top := h.top, keep := h.keep, dom := h.dom, frame := fun B a b => by rw [← h1]; exact h.frame B (h1 ▸ a) b, size := by rw [← h1]; exact h.size, fresh := fun b B a1 a2 a3 a4 => h.fresh b B a1 a2 a3 (h1 ▸ a4), os := h.os.trans h2, tape := h.tape.trans h3, output := h.output.trans h4 }
theorem Sim.lt {H : Tr AB} {σ : Env} {w : World} (h : Sim H σ w) {b B : Nat} (hb : H.get b ≠ none) (e : σ.blk b = some B) : B < w.heap.size := by
  cases hx : H.get b with
  | none => exact absurd hx hb
  | some x =>
    obtain ⟨B', o, e1, e2, _⟩ := h.1 b x hx
    rw [e] at e1
    cases e1
    exact (Array.getElem?_eq_some_iff.1 e2).1
theorem Sim.same {H : Tr AB} {σ : Env} {w w2 : World} (h : Sim H σ w) (h1 : w2.heap = w.heap) : Sim H σ w2 := ⟨fun b x e => by rw [h1]; exact h.1 b x e, h.2.1, by rw [h1]; exact h.2.2.1, h.2.2.2⟩

/-- A new block. -/
theorem moved_new {s : HS} {σ : Env} {w : World} (g : Good s) (hs : Sim s.H σ w) (hf : σ.blk s.n = none) (x : AB) (o : Obj) (c : Nat)
    (hx : Blk (σ.put s.n w.heap.size c) s.n x o) : Moved s σ w (s.new x) (σ.put s.n w.heap.size c) (w.alloc o) := by
  have hle : σ.le (σ.put s.n w.heap.size c) := Env.put_le hf
  have hget : ∀ b, b ≠ s.n → (s.new x).H.get b = s.H.get b := fun b hb => Tr.get_set_other 30 _ _ _ _ (Ne.symm hb)
  have htop := g.top s.n (Nat.le_refl _)
  have hn : ∀ y, (s.new x).H.get s.n = some y → y = x := fun y hy => by
    rcases Tr.get_set_or 30 s.H s.n x with e | e
    · have : (s.new x).H.get s.n = some x := e
      rw [this] at hy; cases hy; rfl
    · have : (s.new x).H.get s.n = s.H.get s.n := e
      rw [this, htop] at hy; cases hy
  have hold : ∀ b, b ≠ s.n → (s.new x).H.get b ≠ none → s.H.get b ≠ none := fun b hb h => by rwa [hget b hb] at h
  have hlt : ∀ b B, b ≠ s.n → (s.new x).H.get b ≠ none → (σ.put s.n w.heap.size c).blk b = some B → B < w.heap.size := fun b B hb h e =>
    hs.lt (hold b hb h) ((Env.put_ne σ w.heap.size c hb).1 ▸ e)
  have hat : ∀ B, (σ.put s.n w.heap.size c).blk s.n = some B → B = w.heap.size := fun B e => by rw [Env.put_at] at e; cases e; rfl
  refine { le := Nat.le_succ _, mono := Nat.le_refl _, env := ?_, base := rfl, sim := ⟨?_, ?_, ⟨?_, ?_⟩, ?_⟩, top := ?_, keep := ?_, dom := ?_, frame := ?_, size := by rw [heap_alloc]; simp, fresh := ?_, os := rfl, tape := rfl, output := rfl }
  · intro b hb
    refine Env.put_ne σ _ _ (fun e => hb ⟨by omega, ?_⟩)
    show b < s.n + 1
    omega
  · intro b y hy
    by_cases hb : b = s.n
    · subst hb
      rw [hn y hy]
      exact ⟨w.heap.size, o, Env.put_at _ _ _ _, by rw [heap_alloc]; exact Array.getElem?_push_size, hx⟩
    · rw [hget b hb] at hy
      obtain ⟨B, o', h1, h2, h3⟩ := hs.1 b y hy
      refine ⟨B, o', (hle b B h1).1, ?_, h3.le hle (by rw [h1]; simp)⟩
      have hB := (Array.getElem?_eq_some_iff.1 h2).1
      rw [heap_alloc, Array.getElem?_push_lt hB]
      exact Array.getElem?_eq_getElem hB ▸ h2
  · intro b d B hb hd eb ed
    by_cases h1 : b = s.n <;> by_cases h2 : d = s.n
    · rw [h1, h2]
    · subst h1
      have := hlt d B h2 hd ed
      rw [hat B eb] at this
      omega
    · subst h2
      have := hlt b B h1 hb eb
      rw [hat B ed] at this
      omega
    · exact hs.2.1 b d B (hold b h1 hb) (hold d h2 hd) ((Env.put_ne σ _ _ h1).1 ▸ eb) ((Env.put_ne σ _ _ h2).1 ▸ ed)
  · rw [heap_alloc]
    simp only [Array.size_push]
    exact Nat.le_succ_of_le hs.2.2.1.1
  · intro B hB
    have hB' : B < σ.base.heap.size := hB
    have := hs.2.2.1.1
    rw [heap_alloc, Array.getElem?_push_lt (by omega), ← Array.getElem?_eq_getElem (by omega)]
    exact hs.2.2.1.2 B hB'
  · intro b B hb e
    by_cases h1 : b = s.n
    · subst h1
      rw [hat B e]
      exact hs.2.2.1.1
    · exact hs.2.2.2 b B (hold b h1 hb) ((Env.put_ne σ _ _ h1).1 ▸ e)
  · intro b hb
    have hb' : s.n + 1 ≤ b := hb
    rw [hget b (by omega)]
    exact g.top b (by omega)
  · intro b hb _
    exact hget b (by omega)
  · intro b hb h
    exact hold b (by omega) h
  · intro B hB _
    rw [heap_alloc, Array.getElem?_push_lt hB, Array.getElem?_eq_getElem hB]
  · intro b B hb hm e hB
    by_cases h1 : b = s.n
    · subst h1
      rw [hat B e] at hB
      exact absurd hB (Nat.lt_irrefl _)
    · exact ⟨b, hm, hold b h1 hb, (Env.put_ne σ _ _ h1).1 ▸ e⟩
theorem get_setBlock {w : World} {B C : Nat} {o : Obj} (h : C ≠ B) : (setBlock w B o).heap[C]? = w.heap[C]? := by
  simp only [setBlock]
  rw [Array.getElem?_setIfInBounds_ne (Ne.symm h)]
theorem get_setBlock_same {w : World} {B : Nat} {o : Obj} (h : B < w.heap.size) : (setBlock w B o).heap[B]? = some o := by
  simp only [setBlock]
  rw [Array.getElem?_setIfInBounds_self_of_lt h]
/-- A block that is written. -/
theorem moved_upd {s : HS} {σ : Env} {w : World} (g : Good s) (hs : Sim s.H σ w) {b B : Nat} (hb : s.H.get b ≠ none) (hB : σ.blk b = some B) (x : AB) (o : Obj)
    (hx : Blk σ b x o) : Moved s σ w (s.upd b x) σ (setBlock w B o) := by
  rw [HS.upd_eq]
  have hBl := hs.lt hb hB
  have hlow := HS.low_le s.m b
  have hget : ∀ d, d ≠ b → (s.H.upd b (some x)).get d = s.H.get d := fun d hd => Tr.get_upd_other _ _ _ _ (Ne.symm hd)
  have hat : (s.H.upd b (some x)).get b = some x := Tr.get_upd_same _ _ _ hb
  have hold : ∀ d, (s.H.upd b (some x)).get d ≠ none → s.H.get d ≠ none := fun d h => by
    by_cases e : d = b
    · rw [e]; exact hb
    · rwa [hget d e] at h
  have hbn : b < s.n := by
    by_cases e : b < s.n
    · exact e
    · exact absurd (g.top b (by omega)) hb
  refine { le := Nat.le_refl _, mono := hlow.1, env := fun _ _ => ⟨rfl, rfl⟩, base := rfl, sim := ⟨?_, ?_, ⟨?_, ?_⟩, ?_⟩, top := ?_, keep := ?_, dom := fun d _ h => hold d h, frame := ?_, size := by simp [setBlock], fresh := ?_, os := rfl, tape := rfl, output := rfl }
  · intro d y hy
    by_cases e : d = b
    · subst e
      rw [hat] at hy
      cases hy
      exact ⟨B, o, hB, get_setBlock_same hBl, hx⟩
    · rw [hget d e] at hy
      obtain ⟨D, o', h1, h2, h3⟩ := hs.1 d y hy
      refine ⟨D, o', h1, ?_, h3⟩
      rw [get_setBlock (fun q => e (hs.2.1 d b D (by rw [hy]; simp) hb h1 (by rw [q]; exact hB)))]
      exact h2
  · intro d c D h1 h2 h3 h4
    exact hs.2.1 d c D (hold d h1) (hold c h2) h3 h4
  · show σ.base.heap.size ≤ (setBlock w B o).heap.size
    simpa [setBlock] using hs.2.2.1.1
  · intro C hC
    have := hs.2.2.2 b B hb hB
    rw [get_setBlock (by omega)]
    exact hs.2.2.1.2 C hC
  · intro d D h1 h2
    exact hs.2.2.2 d D (hold d h1) h2
  · intro d hd
    have hd' : s.n ≤ d := hd
    rw [hget d (by omega)]
    exact g.top d hd'
  · intro d h1 h2
    have h2' : d < HS.low s.m b := h2
    exact hget d (by omega)
  · intro C hC hn
    have : C ≠ B := fun e => hn b hlow.2 hb (e ▸ hB)
    exact get_setBlock this
  · intro d D h1 h2 h3 _
    exact ⟨d, h2, hold d h1, h3⟩
/-- A block that is written, and named anew. -/
theorem moved_swap {s : HS} {σ : Env} {w : World} (g : Good s) (hs : Sim s.H σ w) (hf : σ.blk s.n = none) {b B : Nat} (hb : s.H.get b ≠ none) (hB : σ.blk b = some B) (x : AB) (o : Obj) (c : Nat)
    (hx : Blk (σ.put s.n B c) s.n x o) : Moved s σ w (s.swap b x) (σ.put s.n B c) (setBlock w B o) := by
  rw [HS.swap_eq]
  have hle : σ.le (σ.put s.n B c) := Env.put_le hf
  have hBl := hs.lt hb hB
  have hlow := HS.low_le s.m b
  have hbn : b < s.n := by
    by_cases e : b < s.n
    · exact e
    · exact absurd (g.top b (by omega)) hb
  have hg1 : ∀ d, d ≠ s.n → (Tr.set 30 (s.H.upd b none) s.n x).get d = (s.H.upd b none).get d := fun d hd => Tr.get_set_other 30 _ _ _ _ (Ne.symm hd)
  have hg2 : (s.H.upd b none).get b = none := Tr.get_upd_same _ _ _ hb
  have hg3 : ∀ d, d ≠ b → (s.H.upd b none).get d = s.H.get d := fun d hd => Tr.get_upd_other _ _ _ _ (Ne.symm hd)
  have htop := g.top s.n (Nat.le_refl _)
  have hn : ∀ y, (Tr.set 30 (s.H.upd b none) s.n x).get s.n = some y → y = x := fun y hy => by
    rcases Tr.get_set_or 30 (s.H.upd b none) s.n x with e | e
    · have : (Tr.set 30 (s.H.upd b none) s.n x).get s.n = some x := e
      rw [this] at hy; cases hy; rfl
    · have : (Tr.set 30 (s.H.upd b none) s.n x).get s.n = (s.H.upd b none).get s.n := e
      rw [this, hg3 _ (by omega), htop] at hy; cases hy
  have hold : ∀ d, d ≠ s.n → (Tr.set 30 (s.H.upd b none) s.n x).get d ≠ none → d ≠ b ∧ s.H.get d ≠ none := fun d hd h => by
    rw [hg1 d hd] at h
    by_cases e : d = b
    · rw [e, hg2] at h; exact absurd rfl h
    · exact ⟨e, by rwa [hg3 d e] at h⟩
  have hat : ∀ C, (σ.put s.n B c).blk s.n = some C → C = B := fun C e => by rw [Env.put_at] at e; cases e; rfl
  refine { le := Nat.le_succ _, mono := hlow.1, env := ?_, base := rfl, sim := ⟨?_, ?_, ⟨?_, ?_⟩, ?_⟩, top := ?_, keep := ?_, dom := ?_, frame := ?_, size := by simp [setBlock], fresh := ?_, os := rfl, tape := rfl, output := rfl }
  · intro d hd
    refine Env.put_ne σ _ _ (fun e => hd ⟨by omega, ?_⟩)
    show d < s.n + 1
    omega
  · intro d y hy
    by_cases hd : d = s.n
    · subst hd
      rw [hn y hy]
      exact ⟨B, o, Env.put_at _ _ _ _, get_setBlock_same hBl, hx⟩
    · obtain ⟨e1, e2⟩ := hold d hd (by rw [hy]; simp)
      rw [hg1 d hd, hg3 d e1] at hy
      obtain ⟨D, o', h1, h2, h3⟩ := hs.1 d y hy
      refine ⟨D, o', (hle d D h1).1, ?_, h3.le hle (by rw [h1]; simp)⟩
      rw [get_setBlock (fun q => e1 (hs.2.1 d b D e2 hb h1 (by rw [q]; exact hB)))]
      exact h2
  · intro d e D h1 h2 h3 h4
    by_cases k1 : d = s.n <;> by_cases k2 : e = s.n
    · rw [k1, k2]
    · subst k1
      obtain ⟨q1, q2⟩ := hold e k2 h2
      rw [hat D h3] at h4
      exact absurd (hs.2.1 e b B q2 hb ((Env.put_ne σ _ _ k2).1 ▸ h4) hB) q1
    · subst k2
      obtain ⟨q1, q2⟩ := hold d k1 h1
      rw [hat D h4] at h3
      exact absurd (hs.2.1 d b B q2 hb ((Env.put_ne σ _ _ k1).1 ▸ h3) hB) q1
    · exact hs.2.1 d e D (hold d k1 h1).2 (hold e k2 h2).2 ((Env.put_ne σ _ _ k1).1 ▸ h3) ((Env.put_ne σ _ _ k2).1 ▸ h4)
  · show σ.base.heap.size ≤ (setBlock w B o).heap.size
    simpa [setBlock] using hs.2.2.1.1
  · intro C hC
    have hC' : C < σ.base.heap.size := hC
    have := hs.2.2.2 b B hb hB
    rw [get_setBlock (by omega)]
    exact hs.2.2.1.2 C hC'
  · intro d D h1 h2
    by_cases k1 : d = s.n
    · subst k1
      rw [hat D h2]
      exact hs.2.2.2 b B hb hB
    · exact hs.2.2.2 d D (hold d k1 h1).2 ((Env.put_ne σ _ _ k1).1 ▸ h2)
  · intro d hd
    have hd' : s.n + 1 ≤ d := hd
    rw [hg1 d (by omega), hg3 d (by omega)]
    exact g.top d (by omega)
  · intro d h1 h2
    have h2' : d < HS.low s.m b := h2
    rw [hg1 d (by omega), hg3 d (by omega)]
  · intro d h1 h2
    exact (hold d (by omega) h2).2
  · intro C hC hn'
    have : C ≠ B := fun e => hn' b hlow.2 hb (e ▸ hB)
    exact get_setBlock this
  · intro d D h1 h2 h3 hD
    by_cases k : d = s.n
    · subst k
      rw [hat D h3] at hD ⊢
      exact ⟨b, hlow.2, hb, hB⟩
    · exact ⟨d, h2, (hold d k h1).2, (Env.put_ne σ _ _ k).1 ▸ h3⟩
end
end Go.Proofs.Ytbhjbcldhejpaaa.Ev

/- Runs of the small parts that operations are made of. -/
namespace Go.Proofs.Ytbhjbcldhejpaaa.Ev
set_option linter.unusedVariables false
set_option linter.unusedSimpArgs false
open Go
noncomputable section
variable {σ : Env} {P : Program} {w : World}

theorem denL_append : ∀ {l m : List AV} {a b : List Value}, denL σ l = some a → denL σ m = some b → denL σ (l ++ m) = some (a ++ b)
  | [], m, a, b, h, k => by simp [denL] at h; subst h; exact k
  | x :: l, m, a, b, h, k => by
    simp only [denL] at h
    cases h1 : den σ x with
    | none => rw [h1] at h; cases h
    | some u => cases h2 : denL σ l with
      | none => rw [h1, h2] at h; cases h
      | some z =>
        rw [h1, h2] at h
        cases h
        simp only [List.cons_append, denL, h1, denL_append h2 k]
theorem denL_take : ∀ {l : List AV} {a : List Value} (k : Nat), denL σ l = some a → denL σ (l.take k) = some (a.take k)
  | [], a, k, h => by simp [denL] at h; subst h; simp [denL]
  | x :: l, a, 0, h => by simp [denL]
  | x :: l, a, k + 1, h => by
    simp only [denL] at h
    cases h1 : den σ x with
    | none => rw [h1] at h; cases h
    | some u => cases h2 : denL σ l with
      | none => rw [h1, h2] at h; cases h
      | some z =>
        rw [h1, h2] at h
        cases h
        simp only [List.take_succ_cons, denL, h1, denL_take k h2]
theorem denL_drop : ∀ {l : List AV} {a : List Value} (k : Nat), denL σ l = some a → denL σ (l.drop k) = some (a.drop k)
  | [], a, k, h => by simp [denL] at h; subst h; simp [denL]
  | x :: l, a, 0, h => by simpa using h
  | x :: l, a, k + 1, h => by
    simp only [denL] at h
    cases h1 : den σ x with
    | none => rw [h1] at h; cases h
    | some u => cases h2 : denL σ l with
      | none => rw [h1, h2] at h; cases h
      | some z =>
        rw [h1, h2] at h
        cases h
        simpa using denL_drop k h2
theorem denL_len : ∀ {l : List AV} {a : List Value}, denL σ l = some a → a.length = l.length
  | [], a, h => by simp [denL] at h; subst h; rfl
  | x :: l, a, h => by
    simp only [denL] at h
    cases h1 : den σ x with
    | none => rw [h1] at h; cases h
    | some u => cases h2 : denL σ l with
      | none => rw [h1, h2] at h; cases h
      | some z =>
        rw [h1, h2] at h
        cases h
        simp [denL_len h2]
theorem denL_get : ∀ {l : List AV} {a : List Value} {i : Nat} {x : AV}, denL σ l = some a → l[i]? = some x → ∃ v, a[i]? = some v ∧ den σ x = some v
  | [], a, i, x, h, k => by simp at k
  | y :: l, a, i, x, h, k => by
    simp only [denL] at h
    cases h1 : den σ y with
    | none => rw [h1] at h; cases h
    | some u => cases h2 : denL σ l with
      | none => rw [h1, h2] at h; cases h
      | some z =>
        rw [h1, h2] at h
        cases h
        cases i with
        | zero => simp at k; subst k; exact ⟨u, rfl, h1⟩
        | succ i => simpa using denL_get h2 (by simpa using k)
/-- What stands at a place of a list. -/
def getL {α : Type} (l : List α) : Nat → Option α :=
  List.rec (motive := fun _ => Nat → Option α) (fun _ => none) (fun x _ ih n => Nat.rec (motive := fun _ => Option α) (some x) (fun k _ => ih k) n) l
theorem getL_eq {α : Type} : ∀ (l : List α) (n : Nat), getL l n = l[n]?
  | [], n => by
    show (none : Option α) = _
    simp
  | x :: l, 0 => by
    show some x = _
    simp
  | x :: l, k + 1 => by
    show getL l k = _
    simp only [getL_eq l k, List.getElem?_cons_succ]
theorem denL_getL {l : List AV} {a : List Value} {i : Nat} {x : AV} (h : denL σ l = some a) (k : getL l i = some x) : ∃ v, a[i]? = some v ∧ den σ x = some v := denL_get h (getL_eq l i ▸ k)
theorem denL_v : ∀ xs : List Value, denL σ (xs.map .v) = some xs
  | [] => rfl
  | x :: xs => by simp only [List.map_cons, denL, den, denL_v xs]
def splice {α : Type} (l : List α) (k : Nat) (vs : List α) : List α := l.take k ++ (vs ++ l.drop (k + vs.length))
theorem denL_splice {l vs : List AV} {a us : List Value} (k : Nat) (h : denL σ l = some a) (h2 : denL σ vs = some us) : denL σ (splice l k vs) = some (splice a k us) := by
  unfold splice
  rw [← denL_len h2]
  exact denL_append (denL_take k h) (denL_append h2 (denL_drop _ h))
theorem splice_len {α : Type} {l vs : List α} {k : Nat} (h : k + vs.length ≤ l.length) : (splice l k vs).length = l.length := by
  unfold splice
  simp
  omega
theorem splice_nil {α : Type} (l : List α) (k : Nat) : splice l k [] = l := by simp [splice]
theorem splice_cons {α : Type} {l vs : List α} {v : α} {k : Nat} (h : k < l.length) : splice (l.set k v) (k + 1) vs = splice l k (v :: vs) := by
  unfold splice
  rw [List.take_set, List.drop_set]
  have e1 : (List.take (k + 1) l).set k v = List.take k l ++ [v] := by
    rw [List.take_succ_eq_append_getElem h, List.set_append_right _ _ (by simp; omega)]
    have : k - (List.take k l).length = 0 := by simp; omega
    rw [this]
    rfl
  rw [e1, if_pos (by omega)]
  simp [Nat.add_assoc, Nat.add_comm 1]

theorem add_at (g off j : Nat) : (⟨g, off, none⟩ : Addr).add j = ⟨g, off + j, none⟩ := by unfold Addr.add; split <;> simp_all
theorem cell_of {B o : Nat} {L : List Value} {t : TypeId} {fz : Nat × Nat} (h : w.heap[B]? = some (.cells L.toArray t fz)) : w.cell? ⟨B, o, none⟩ = L[o]? := by
  simp [World.cell?, h]
theorem free_of {B o : Nat} {L : List Value} {t : TypeId} (h : w.heap[B]? = some (.cells L.toArray t (0, 0))) : w.frozen? ⟨B, o, none⟩ = false := by
  simp [World.frozen?, h]
theorem run_load_at {B o : Nat} {L : List Value} {t : TypeId} {fz : Nat × Nat} {v : Value} (h : w.heap[B]? = some (.cells L.toArray t fz)) (hv : L[o]? = some v) : (load ⟨B, o, none⟩).run P w = .ok v w := by
  rw [run_load, cell_of h, hv]
theorem run_loadCellsFrom {B o : Nat} {L : List Value} {t : TypeId} {fz : Nat × Nat} (h : w.heap[B]? = some (.cells L.toArray t fz)) :
    ∀ (n i : Nat) (acc : Array Value), o + i + n ≤ L.length → (loadCellsFrom ⟨B, o, none⟩ i n acc).run P w = .ok (acc ++ ((L.drop (o + i)).take n).toArray) w
  | 0, i, acc, hn => by simp [loadCellsFrom]
  | n + 1, i, acc, hn => by
    have hlt : o + i < L.length := by omega
    simp only [loadCellsFrom, Sem.run_bind, add_at]
    rw [run_load_at h (List.getElem?_eq_getElem hlt)]
    simp only [Result.andThen_ok]
    rw [run_loadCellsFrom h n (i + 1) _ (by omega), List.drop_eq_getElem_cons hlt]
    congr 1
    simp [Nat.add_assoc]
theorem run_loadCells {B o n : Nat} {L : List Value} {t : TypeId} {fz : Nat × Nat} (h : w.heap[B]? = some (.cells L.toArray t fz)) (hn : o + n ≤ L.length) : (loadCells ⟨B, o, none⟩ n).run P w = .ok ((L.drop o).take n).toArray w := by
  unfold loadCells
  rw [run_loadCellsFrom h n 0 #[] (by omega)]
  simp
theorem setBlock_same {B : Nat} {o : Obj} (h : w.heap[B]? = some o) : setBlock w B o = w := by
  obtain ⟨h1, h2⟩ := Array.getElem?_eq_some_iff.1 h
  simp only [setBlock]
  have : w.heap.setIfInBounds B o = w.heap := by
    apply Array.ext_getElem?
    intro i
    by_cases e : B = i
    · subst e
      rw [Array.getElem?_setIfInBounds_self_of_lt h1, h]
    · rw [Array.getElem?_setIfInBounds_ne e]
  rw [this]
theorem setBlock_twice {B : Nat} {o p : Obj} : setBlock (setBlock w B o) B p = setBlock w B p := by
  simp only [setBlock]
  have : (w.heap.setIfInBounds B o).setIfInBounds B p = w.heap.setIfInBounds B p := by
    apply Array.ext_getElem?
    intro i
    by_cases e : B = i
    · subst e
      simp [Array.getElem?_setIfInBounds]
    · rw [Array.getElem?_setIfInBounds_ne e, Array.getElem?_setIfInBounds_ne e, Array.getElem?_setIfInBounds_ne e]
  rw [this]
theorem setCell_eq {B o : Nat} {L : List Value} {t : TypeId} {v : Value} (h : w.heap[B]? = some (.cells L.toArray t (0, 0))) : w.setCell ⟨B, o, none⟩ v = setBlock w B (.cells (L.set o v).toArray t (0, 0)) := by
  obtain ⟨h1, h2⟩ := Array.getElem?_eq_some_iff.1 h
  simp only [World.setCell, setBlock]
  congr 1
  apply Array.ext_getElem?
  intro i
  by_cases e : B = i
  · subst e
    rw [Array.getElem?_setIfInBounds_self_of_lt h1, Array.getElem?_modify]
    simp [h]
  · rw [Array.getElem?_setIfInBounds_ne e, Array.getElem?_modify]
    simp [e]
theorem run_storeCells {B o : Nat} {t : TypeId} : ∀ (vs : List Value) (i : Nat) (w : World) (L : List Value), w.heap[B]? = some (.cells L.toArray t (0, 0)) → o + i + vs.length ≤ L.length →
    (∀ v ∈ vs, v.oneCell' = true) → (storeCells ⟨B, o, none⟩ vs i).run P w = .ok () (setBlock w B (.cells (splice L (o + i) vs).toArray t (0, 0)))
  | [], i, w, L, h, hl, h1 => by
    rw [splice_nil, setBlock_same h]
    rfl
  | v :: vs, i, w, L, h, hl, h1 => by
    have hl' : o + i + (vs.length + 1) ≤ L.length := by simpa using hl
    have hlt : o + i < L.length := by omega
    simp only [storeCells, Sem.run_bind, add_at]
    rw [run_store _ _ _ _ _ (h1 v (by simp)), cell_of h, List.getElem?_eq_getElem hlt]
    simp only [free_of h, Bool.false_eq_true, if_false, Result.andThen_ok]
    rw [setCell_eq h]
    have hB := (Array.getElem?_eq_some_iff.1 h).1
    rw [run_storeCells vs (i + 1) _ (L.set (o + i) v) (get_setBlock_same hB) (by simp; omega) (fun u hu => h1 u (by simp [hu])), setBlock_twice, ← Nat.add_assoc, splice_cons hlt]
theorem run_typeInfo {t : TypeId} {i : TypeInfo} (h : P.info? t = some i) : (typeInfo t).run P w = .ok i w := by simp [typeInfo, h]
theorem run_sizeOf {t : TypeId} {i : TypeInfo} (h : P.info? t = some i) : (sizeOf t).run P w = .ok i.size w := by simp [sizeOf, run_typeInfo h]
theorem run_under {t : TypeId} {d : TypeDesc} (h : P.underlying t = some d) : (underlying t).run P w = .ok d w := by simp [underlying, h]
theorem run_zero {t : TypeId} {i : TypeInfo} {z : Value} (h : P.info? t = some i) (hz : i.zero = some z) : (zeroValue t).run P w = .ok z w := by simp [zeroValue, run_typeInfo h, hz]
def aggD : TypeDesc → Bool
  | .struct _ => true
  | .array _ _ => true
  | _ => false
theorem run_isAgg {t : TypeId} {d : TypeDesc} (h : P.underlying t = some d) : (isAgg t).run P w = .ok (aggD d) w := by
  unfold isAgg
  rw [Sem.run_bind, run_under h]
  cases d <;> rfl
theorem run_newRow (t : TypeId) (cs : Array Value) : (newRow t cs).run P w = .ok ⟨w.heap.size, 0, none⟩ (w.alloc (.cells cs t)) := by
  simp [newRow]
/-- A part of a run that asks nothing of the world. -/
def pureV (P : Program) {α : Type} : Sem α → Option α
  | .pure a => some a
  | .program k => pureV P (k P)
  | .mark _ k => pureV P k
  | _ => none
theorem run_pureV {α : Type} {x : Sem α} {a : α} (h : pureV P x = some a) : ∀ w, x.run P w = .ok a w := by
  induction x with
  | pure b => intro w; simp [pureV] at h; subst h; rfl
  | program k ih => intro w; exact ih P h w
  | mark m k ih => intro w; exact ih h w
  | _ => simp [pureV] at h
end
end Go.Proofs.Ytbhjbcldhejpaaa.Ev

/- Operations on known values, and that a world does likewise: cells, loads, stores, new blocks. -/
namespace Go.Proofs.Ytbhjbcldhejpaaa.Ev
set_option linter.unusedVariables false
set_option linter.unusedSimpArgs false
open Go
noncomputable section
variable {σ : Env} {P : Program} {w : World} {s s' : HS}

def AV.cells : AV → List AV
  | .agg l => l
  | .v x => match x with
    | .agg a => a.toList.map .v
    | y => [.v y]
  | x => [x]
theorem cells_den {a : AV} {x : Value} (h : den σ a = some x) : denL σ a.cells = some x.cells.toList := by
  have one : ∀ {a : AV} {x : Value}, den σ a = some x → x.cells = #[x] → denL σ [a] = some x.cells.toList := fun h e => by
    simp only [denL, h, e]
  cases a with
  | agg l =>
    simp only [den, Option.map_eq_some_iff] at h
    obtain ⟨vs, h1, rfl⟩ := h
    simpa [AV.cells, Value.cells] using h1
  | v y =>
    simp only [den] at h
    cases h
    cases x <;> first
      | exact denL_v _
      | exact one rfl rfl
  | ptr b o =>
    have h' := h
    simp only [den, Option.map_eq_some_iff] at h'
    obtain ⟨B, _, rfl⟩ := h'
    exact one h rfl
  | sl b o n c =>
    have h' := h
    simp only [den, Option.map_eq_some_iff] at h'
    obtain ⟨B, _, rfl⟩ := h'
    exact one h rfl
  | slu b o n d =>
    obtain ⟨B, _, rfl, _⟩ := den_slu h
    exact one h rfl
  | xl y n k c =>
    obtain ⟨cs, _, ⟨ba, cp, rfl, _⟩, rfl⟩ := den_xl h
    exact one h rfl
  | xp y n k c i =>
    obtain ⟨cs, _, ⟨ba, cp, rfl, _⟩, _, rfl⟩ := den_xp h
    exact one h (by cases ba <;> rfl)
  | sle b o l d sz =>
    have h' := h
    simp only [den, Option.map_eq_some_iff] at h'
    obtain ⟨B, _, rfl⟩ := h'
    exact one h rfl
  | yld b =>
    have h' := h
    simp only [den, Option.map_eq_some_iff] at h'
    obtain ⟨B, _, rfl⟩ := h'
    exact one h rfl
  | mp b =>
    have h' := h
    simp only [den, Option.map_eq_some_iff] at h'
    obtain ⟨B, _, rfl⟩ := h'
    exact one h rfl
  | tup l =>
    have h' := h
    simp only [den, Option.map_eq_some_iff] at h'
    obtain ⟨B, _, rfl⟩ := h'
    exact one h rfl
  | fn f l c =>
    have h' := h
    simp only [den] at h'
    split at h'
    · cases h'
      exact one h rfl
    · cases h'
def AV.one : AV → Bool
  | .v x => x.oneCell'
  | .agg _ => false
  | .tup _ => false
  | _ => true
theorem one_den {a : AV} {x : Value} (h : den σ a = some x) (h1 : a.one = true) : x.oneCell' = true := by
  cases a with
  | v y => simp only [den] at h; cases h; exact h1
  | agg l => cases h1
  | tup l => cases h1
  | fn f l c =>
    simp only [den] at h
    split at h
    · cases h; rfl
    · cases h
  | slu b o n d =>
    obtain ⟨B, _, rfl, _⟩ := den_slu h
    rfl
  | xl y n k c =>
    obtain ⟨cs, _, ⟨ba, cp, rfl, _⟩, rfl⟩ := den_xl h
    rfl
  | xp y n k c i =>
    obtain ⟨cs, _, ⟨ba, cp, rfl, hcl, hcs, hb⟩, hi, rfl⟩ := den_xp h
    obtain ⟨g, off, rfl, _⟩ := hb (by omega)
    rfl
  | _ =>
    simp only [den, Option.map_eq_some_iff] at h
    obtain ⟨B, _, rfl⟩ := h
    rfl
def allOne : List AV → Bool
  | [] => true
  | a :: l => match a.one with
    | true => allOne l
    | false => false
theorem allOne_den : ∀ {l : List AV} {xs : List Value}, denL σ l = some xs → allOne l = true → ∀ v ∈ xs, v.oneCell' = true
  | [], xs, h, _, v, hv => by simp [denL] at h; subst h; cases hv
  | a :: l, xs, h, h1, v, hv => by
    simp only [denL] at h
    cases e1 : den σ a with
    | none => rw [e1] at h; cases h
    | some u => cases e2 : denL σ l with
      | none => rw [e1, e2] at h; cases h
      | some z =>
        rw [e1, e2] at h
        cases h
        simp only [allOne] at h1
        cases ho : a.one with
        | false => rw [ho] at h1; cases h1
        | true =>
          rw [ho] at h1
          rcases List.mem_cons.1 hv with rfl | hv
          · exact one_den e1 ho
          · exact allOne_den e2 h1 v hv
mutual
def plain : AV → Option Value
  | .v x => some x
  | .agg l => (plainL l).map fun vs => .agg vs.toArray
  | .tup l => (plainL l).map fun vs => .tuple vs.toArray
  | _ => none
def plainL : List AV → Option (List Value)
  | [] => some []
  | a :: l => match plain a, plainL l with
    | some x, some y => some (x :: y)
    | _, _ => none
end
mutual
theorem plain_den : ∀ {a : AV} {x : Value}, plain a = some x → den σ a = some x
  | .v y, x, h => h
  | .agg l, x, h => by
    simp only [plain, Option.map_eq_some_iff] at h
    obtain ⟨vs, h1, rfl⟩ := h
    simp only [den, plainL_den h1, Option.map_some]
  | .tup l, x, h => by
    simp only [plain, Option.map_eq_some_iff] at h
    obtain ⟨vs, h1, rfl⟩ := h
    simp only [den, plainL_den h1, Option.map_some]
  | .ptr b o, x, h => by simp [plain] at h
  | .sl b o n c, x, h => by simp [plain] at h
  | .slu b o n d, x, h => by simp [plain] at h
  | .sle b o l d sz, x, h => by simp [plain] at h
  | .xl y n k c, x, h => by simp [plain] at h
  | .xp y n k c i, x, h => by simp [plain] at h
  | .fn f l c, x, h => by simp [plain] at h
  | .yld b, x, h => by simp [plain] at h
  | .mp b, x, h => by simp [plain] at h
theorem plainL_den : ∀ {l : List AV} {xs : List Value}, plainL l = some xs → denL σ l = some xs
  | [], xs, h => h
  | a :: l, xs, h => by
    simp only [plainL] at h
    cases e1 : plain a with
    | none => rw [e1] at h; cases h
    | some u => cases e2 : plainL l with
      | none => rw [e1, e2] at h; cases h
      | some z =>
        rw [e1, e2] at h
        cases h
        simp only [denL, plain_den e1, plainL_den e2]
end

/-! ### Operands -/
def opd (tm : Tr AV) : Operand → Option AV
  | .tmp t => tm.get t
  | .const v => some (.v v)
  | .func f => some (.v (.func (.func f) #[] #[]))
  | .global _ => none
theorem opd_den {tm : Tr AV} {sz : Nat} {a : Act} (h : Tm σ tm sz a.tmps) {x : Operand} {v : AV} (e : opd tm x = some v) : den σ v = some (a.eval x) := by
  cases x with
  | tmp t =>
    obtain ⟨r, h1, _, h3⟩ := h.2 t v e
    rw [h1]
    exact congrArg some h3.symm
  | const c => simp [opd] at e; subst e; rfl
  | func f => simp [opd] at e; subst e; rfl
  | global g => simp [opd] at e
def opds (tm : Tr AV) : List Operand → Option (List AV)
  | [] => some []
  | x :: l => match opd tm x, opds tm l with
    | some a, some b => some (a :: b)
    | _, _ => none
theorem opds_den {tm : Tr AV} {sz : Nat} {a : Act} (h : Tm σ tm sz a.tmps) : ∀ {xs : List Operand} {l : List AV}, opds tm xs = some l → denL σ l = some (xs.map a.eval)
  | [], l, e => by simp [opds] at e; subst e; rfl
  | x :: xs, l, e => by
    simp only [opds] at e
    cases e1 : opd tm x with
    | none => rw [e1] at e; cases e
    | some u => cases e2 : opds tm xs with
      | none => rw [e1, e2] at e; cases e
      | some z =>
        rw [e1, e2] at e
        cases e
        simp only [denL, opd_den h e1, opds_den h e2, List.map_cons]

/-! ### Cells -/
def HS.cells (s : HS) (b : Nat) : Option (List AV) :=
  match s.H.get b with
  | some (.cells l _) => some l
  | some (.row l _ _) => some l
  | _ => none
theorem cells_real (hs : Sim s.H σ w) {b : Nat} {l : List AV} (h : s.cells b = some l) :
    ∃ B vs rest t, σ.blk b = some B ∧ denL σ l = some vs ∧ w.heap[B]? = some (.cells (vs ++ rest).toArray t (0, 0)) := by
  unfold HS.cells at h
  split at h
  · rename_i l' t e
    cases h
    obtain ⟨B, o, h1, h2, h3⟩ := hs.1 b _ e
    obtain ⟨vs, h4, rfl⟩ := h3
    exact ⟨B, vs, [], t, h1, h4, by simpa using h2⟩
  · rename_i l' t sz e
    cases h
    obtain ⟨B, o, h1, h2, h3⟩ := hs.1 b _ e
    obtain ⟨vs, rest, h4, rfl, _⟩ := h3
    exact ⟨B, vs, rest, t, h1, h4, h2⟩
  · cases h
def sub (l : List AV) (o n : Nat) : Option (List AV) :=
  match Nat.ble (o + n) l.length with
  | true => some ((l.drop o).take n)
  | false => none
theorem sub_den {l r : List AV} {vs : List Value} {o n : Nat} (h : denL σ l = some vs) (e : sub l o n = some r) : denL σ r = some ((vs.drop o).take n) ∧ o + n ≤ vs.length := by
  unfold sub at e
  split at e
  · rename_i hb
    cases e
    exact ⟨denL_take n (denL_drop o h), by rw [denL_len h]; exact Nat.le_of_ble_eq_true hb⟩
  · cases e
theorem drop_take_append {α : Type} {vs rest : List α} {o n : Nat} (h : o + n ≤ vs.length) : ((vs ++ rest).drop o).take n = (vs.drop o).take n := by
  rw [List.drop_append_of_le_length (by omega), List.take_append_of_le_length (by simp; omega)]
def loadL (P : Program) (l : List AV) (o : Nat) (t : TypeId) : Option AV :=
  match P.underlying t with
  | none => none
  | some d => match aggD d with
    | true => match P.info? t with
      | none => none
      | some i => match sub l o i.size with
        | some r => some (.agg r)
        | none => none
    | false => getL l o
def HS.load (P : Program) (s : HS) (b o : Nat) (t : TypeId) : Option AV :=
  match s.cells b with
  | none => none
  | some l => loadL P l o t
theorem loadL_sound {B o : Nat} {t tt : TypeId} {v : AV} {l : List AV} {vs rest : List Value} (h2 : denL σ l = some vs) (h3 : w.heap[B]? = some (.cells (vs ++ rest).toArray tt (0, 0))) (h : loadL P l o t = some v) :
    ∃ r, (loadVar t ⟨B, o, none⟩).run P w = .ok r w ∧ den σ v = some r := by
  unfold loadL at h
  split at h
  · cases h
  · rename_i d hd
    split at h
    · rename_i ha
      split at h
      · cases h
      · rename_i i hi
        split at h
        · rename_i r hr
          cases h
          obtain ⟨e1, e2⟩ := sub_den h2 hr
          refine ⟨.agg ((vs.drop o).take i.size).toArray, ?_, by simp only [den, e1, Option.map_some]⟩
          simp only [loadVar, Sem.run_bind, run_isAgg hd, ha, Result.andThen_ok, if_true, run_sizeOf hi]
          rw [run_loadCells h3 (by simp; omega), drop_take_append e2]
          rfl
        · cases h
    · rename_i ha
      obtain ⟨x, e1, e2⟩ := denL_getL h2 h
      refine ⟨x, ?_, e2⟩
      simp only [loadVar, Sem.run_bind, run_isAgg hd, ha, Result.andThen_ok, Bool.false_eq_true, if_false]
      exact run_load_at h3 (by rw [List.getElem?_append_left (List.getElem?_eq_some_iff.1 e1).1]; exact e1)
theorem load_sound (hs : Sim s.H σ w) {b o : Nat} {t : TypeId} {v : AV} (h : s.load P b o t = some v) :
    ∃ B r, σ.blk b = some B ∧ (loadVar t ⟨B, o, none⟩).run P w = .ok r w ∧ den σ v = some r := by
  unfold HS.load at h
  split at h
  · cases h
  · rename_i l hl
    obtain ⟨B, vs, rest, tt, h1, h2, h3⟩ := cells_real hs hl
    obtain ⟨r, q1, q2⟩ := loadL_sound (P := P) h2 h3 h
    exact ⟨B, r, h1, q1, q2⟩
def HS.store (s : HS) (b o : Nat) (cs : List AV) : Option HS :=
  match s.H.get b with
  | some (.cells l t) => match Nat.ble (o + cs.length) l.length with
    | true => some (s.upd b (.cells (splice l o cs) t))
    | false => none
  | some (.row l t sz) => match Nat.ble (o + cs.length) l.length with
    | true => some (s.upd b (.row (splice l o cs) t sz))
    | false => none
  | _ => none
theorem splice_append {α : Type} {l rest vs : List α} {k : Nat} (h : k + vs.length ≤ l.length) : splice (l ++ rest) k vs = splice l k vs ++ rest := by
  unfold splice
  rw [List.take_append_of_le_length (by omega), List.drop_append_of_le_length (by omega)]
  simp
theorem store_sound (g : Good s) (hs : Sim s.H σ w) {b o : Nat} {cs : List AV} {us : List Value} (h : s.store b o cs = some s') (hu : denL σ cs = some us) (h1 : allOne cs = true) :
    ∃ B w', σ.blk b = some B ∧ (storeCells ⟨B, o, none⟩ us).run P w = .ok () w' ∧ Moved s σ w s' σ w' := by
  have hlen := denL_len hu
  have hone := allOne_den hu h1
  unfold HS.store at h
  split at h
  · rename_i l t e
    split at h
    · rename_i hb
      cases h
      have hb' := Nat.le_of_ble_eq_true hb
      obtain ⟨B, ob, h2, h3, h4⟩ := hs.1 b _ e
      obtain ⟨vs, h5, rfl⟩ := h4
      have hl5 := denL_len h5
      refine ⟨B, _, h2, run_storeCells us 0 w vs h3 (by omega) hone, moved_upd g hs (by rw [e]; simp) h2 _ _ ⟨_, denL_splice o h5 hu, rfl⟩⟩
    · cases h
  · rename_i l t sz e
    split at h
    · rename_i hb
      cases h
      have hb' := Nat.le_of_ble_eq_true hb
      obtain ⟨B, ob, h2, h3, h4⟩ := hs.1 b _ e
      obtain ⟨vs, rest, h5, rfl, h6⟩ := h4
      have hl5 := denL_len h5
      refine ⟨B, _, h2, run_storeCells us 0 w (vs ++ rest) h3 (by simp; omega) hone, moved_upd g hs (by rw [e]; simp) h2 _ _ ⟨_, rest, denL_splice o h5 hu, ?_, ?_⟩⟩
      · rw [Nat.add_zero, splice_append (by omega)]
      · rw [← h6]
        simp [splice_len (show o + us.length ≤ vs.length by omega)]
    · cases h
  · cases h

/-! ### What lies in the base world -/
theorem run_load_of {a : Addr} {v : Value} (h : w.cell? a = some v) : (load a).run P w = .ok v w := by rw [run_load, h]
theorem run_loadCellsFrom_of {g o : Nat} : ∀ (vs : List Value) (i : Nat) (acc : Array Value), (∀ j, j < vs.length → w.cell? ⟨g, o + (i + j), none⟩ = vs[j]?) → (loadCellsFrom ⟨g, o, none⟩ i vs.length acc).run P w = .ok (acc ++ vs.toArray) w
  | [], i, acc, h => by simp [loadCellsFrom]
  | v :: vs, i, acc, h => by
    show (loadCellsFrom ⟨g, o, none⟩ i (vs.length + 1) acc).run P w = _
    simp only [loadCellsFrom, Sem.run_bind, add_at]
    have h0 : w.cell? ⟨g, o + i, none⟩ = some v := by simpa using h 0 (by simp)
    rw [run_load_of h0]
    simp only [Result.andThen_ok]
    rw [run_loadCellsFrom_of vs (i + 1) _ (fun j hj => by
      have := h (j + 1) (by simpa using hj)
      rw [show o + (i + 1 + j) = o + (i + (j + 1)) by omega]
      simpa using this)]
    congr 1
    simp
theorem run_loadCells_of {g o n : Nat} {vs : List Value} (hn : vs.length = n) (h : ∀ j, j < n → w.cell? ⟨g, o + j, none⟩ = vs[j]?) : (loadCells ⟨g, o, none⟩ n).run P w = .ok vs.toArray w := by
  subst hn
  unfold loadCells
  rw [run_loadCellsFrom_of vs 0 #[] (fun j hj => by rw [Nat.zero_add]; exact h j hj)]
  simp
/-- What lies in the base world lies there still. -/
theorem Sim.cell {H : Tr AB} (hs : Sim H σ w) {g o : Nat} {v : Value} (h : σ.base.cell? ⟨g, o, none⟩ = some v) : w.cell? ⟨g, o, none⟩ = some v := by
  have hg : g < σ.base.heap.size := by
    unfold World.cell? at h
    split at h
    · rename_i hh
      exact (Array.getElem?_eq_some_iff.1 hh).1
    · cases h
  have := hs.2.2.1.2 g hg
  unfold World.cell? at h ⊢
  rw [this]
  exact h
theorem xcell (hs : Sim s.H σ w) {y : Value} {n k : Nat} {cs : List Value} (hx : XOk σ.base y n k cs) (h0 : 0 < cs.length) :
    ∃ g off cap, y = .slice (some ⟨g, off, none⟩) n cap ∧ ∀ i, i < cs.length → w.cell? ⟨g, off + i, none⟩ = cs[i]? := by
  obtain ⟨ba, cap, rfl, h1, h2, h3⟩ := hx
  obtain ⟨g, off, rfl, h4⟩ := h3 h0
  refine ⟨g, off, cap, rfl, fun i hi => ?_⟩
  have := h4 i hi
  rw [List.getElem?_eq_getElem hi] at this ⊢
  exact hs.cell this
theorem loadx_sound (hs : Sim s.H σ w) {y x : Value} {n k i : Nat} {c : List AV} {t : TypeId} {v : AV} (h : loadL P c i t = some v) (hx : den σ (.xp y n k c i) = some x) :
    ∃ a r, x = .pointer (some a) ∧ (loadVar t a).run P w = .ok r w ∧ den σ v = some r := by
  obtain ⟨cs, hc, hok, hi, rfl⟩ := den_xp hx
  obtain ⟨g, off, cap, rfl, hcell⟩ := xcell hs hok (by omega)
  refine ⟨⟨g, off + i, none⟩, ?_⟩
  unfold loadL at h
  split at h
  · cases h
  · rename_i d hd
    split at h
    · rename_i ha
      split at h
      · cases h
      · rename_i inf hi'
        split at h
        · rename_i r hr
          cases h
          obtain ⟨e1, e2⟩ := sub_den hc hr
          refine ⟨.agg ((cs.drop i).take inf.size).toArray, rfl, ?_, by simp only [den, e1, Option.map_some]⟩
          simp only [loadVar, Sem.run_bind, run_isAgg hd, ha, Result.andThen_ok, if_true, run_sizeOf hi']
          rw [run_loadCells_of (vs := (cs.drop i).take inf.size) (by simp; omega) (fun j hj => ?_)]
          · rfl
          · rw [Nat.add_assoc, hcell (i + j) (by omega), List.getElem?_take_of_lt hj, List.getElem?_drop]
        · cases h
    · rename_i ha
      obtain ⟨u, e1, e2⟩ := denL_getL hc h
      refine ⟨u, rfl, ?_, e2⟩
      simp only [loadVar, Sem.run_bind, run_isAgg hd, ha, Result.andThen_ok, Bool.false_eq_true, if_false]
      exact run_load_of (by rw [hcell i hi]; exact e1)
end
end Go.Proofs.Ytbhjbcldhejpaaa.Ev

/- Operations on known values: parts, addresses, slices, loads and stores, new blocks. -/
namespace Go.Proofs.Ytbhjbcldhejpaaa.Ev
set_option linter.unusedVariables false
set_option linter.unusedSimpArgs false
open Go
noncomputable section
variable {σ : Env} {P : Program} {w : World} {s s' : HS}

/-- A piece of a run yields a known value, and the world goes on as known. -/
def Res (P : Program) (s : HS) (σ : Env) (w : World) (x : Sem Next) (v : AV) (s' : HS) : Prop :=
  ∃ σ' w' r, (x.run P w = .ok (.value r) w' ∨ (x.run P w = .ok .skip w' ∧ r = undef)) ∧ den σ' v = some r ∧ Moved s σ w s' σ' w'
theorem run_val {x : Sem Value} {r : Value} {w' : World} (h : x.run P w = .ok r w') : (x >>= fun a => pure (Next.value a) : Sem Next).run P w = .ok (.value r) w' := by
  rw [Sem.run_bind, h]; rfl
theorem run_unit {x : Sem Unit} {w' : World} (h : x.run P w = .ok () w') : (x >>= fun _ => pure Next.skip : Sem Next).run P w = .ok .skip w' := by
  rw [Sem.run_bind, h]; rfl
theorem res_same (g : Good s) (hs : Sim s.H σ w) {x : Sem Value} {r : Value} {v : AV} (h : x.run P w = .ok r w) (hv : den σ v = some r) : Res P s σ w (x >>= fun a => pure (Next.value a)) v s :=
  ⟨σ, w, r, .inl (run_val h), hv, Moved.refl g hs⟩

/-! ### Parts of values -/
def aggCells : AV → Option (List AV)
  | .agg l => some l
  | .v x => match x with
    | .agg a => some (a.toList.map .v)
    | _ => none
  | _ => none
theorem aggCells_den {a : AV} {l : List AV} {x : Value} (h : aggCells a = some l) (hx : den σ a = some x) : ∃ vs, denL σ l = some vs ∧ x = .agg vs.toArray := by
  cases a with
  | agg l' =>
    simp only [aggCells] at h
    cases h
    simp only [den, Option.map_eq_some_iff] at hx
    obtain ⟨vs, h1, rfl⟩ := hx
    exact ⟨vs, h1, rfl⟩
  | v y =>
    simp only [den] at hx
    cases hx
    cases x <;> simp only [aggCells] at h <;> first
      | (cases h; done)
      | (cases h; exact ⟨_, denL_v _, by simp⟩)
  | _ => simp [aggCells] at h
def partA (P : Program) (t : TypeId) (l : List AV) (off : Nat) : Option AV :=
  match P.underlying t with
  | none => none
  | some d => match aggD d with
    | true => match P.info? t with
      | none => none
      | some i => some (.agg ((l.drop off).take i.size))
    | false => getL l off
theorem part_sound {t : TypeId} {l : List AV} {off : Nat} {v : AV} {vs : List Value} (h : partA P t l off = some v) (hl : denL σ l = some vs) :
    ∃ r, (part t vs.toArray off).run P w = .ok r w ∧ den σ v = some r := by
  unfold partA at h
  split at h
  · cases h
  · rename_i d hd
    split at h
    · rename_i ha
      split at h
      · cases h
      · rename_i i hi
        cases h
        refine ⟨.agg ((vs.drop off).take i.size).toArray, ?_, by simp only [den, denL_take _ (denL_drop _ hl), Option.map_some]⟩
        simp only [part, Sem.run_bind, run_isAgg hd, ha, Result.andThen_ok, if_true, run_sizeOf hi]
        simp
    · rename_i ha
      obtain ⟨x, e1, e2⟩ := denL_getL hl h
      refine ⟨x, ?_, e2⟩
      simp only [part, Sem.run_bind, run_isAgg hd, ha, Result.andThen_ok, Bool.false_eq_true, if_false]
      simp [e1]
def fieldA (P : Program) (t : TypeId) (a : AV) (f : Nat) : Option AV :=
  match aggCells a with
  | none => none
  | some l => match P.underlying t with
    | some (.struct fs) => match fs[f]? with
      | some fd => partA P fd.type l fd.offset
      | none => none
    | _ => none
theorem field_sound {t : TypeId} {a : AV} {f : Nat} {v : AV} {x : Value} (h : fieldA P t a f = some v) (hx : den σ a = some x) :
    ∃ r, (Instr.field t x f).run P w = .ok r w ∧ den σ v = some r := by
  unfold fieldA at h
  split at h
  · cases h
  · rename_i l hl
    obtain ⟨vs, h1, rfl⟩ := aggCells_den hl hx
    split at h
    · rename_i fs hd
      split at h
      · rename_i fd hf
        obtain ⟨r, h2, h3⟩ := part_sound (w := w) h h1
        refine ⟨r, ?_, h3⟩
        simp only [Instr.field, Sem.run_bind, run_under hd, Result.andThen_ok, hf, asAgg, Sem.run_pure]
        exact h2
      · cases h
    · cases h
/-- A number that is not below 0. -/
def natOf : AV → Option Nat
  | .v x => match x with
    | .int _ n => match n with
      | .ofNat j => some j
      | _ => none
    | _ => none
  | _ => none
theorem natOf_den {a : AV} {j : Nat} {x : Value} (h : natOf a = some j) (hx : den σ a = some x) : ∃ k, x = .int k j := by
  cases a with
  | v y =>
    simp only [den] at hx
    cases hx
    cases x with
    | int k n =>
      simp only [natOf] at h
      cases n with
      | ofNat m => cases h; exact ⟨k, rfl⟩
      | negSucc m => cases h
    | _ => simp [natOf] at h
  | _ => simp [natOf] at h
def indexA (P : Program) (t : TypeId) (a ix : AV) : Option AV :=
  match aggCells a with
  | none => none
  | some l => match natOf ix with
    | none => none
    | some j => match P.underlying t with
      | some (.array len e) => match Nat.blt j len with
        | true => match P.info? e with
          | some i => partA P e l (j * i.size)
          | none => none
        | false => none
      | _ => none
theorem index_sound {t : TypeId} {a ix : AV} {v : AV} {x y : Value} (h : indexA P t a ix = some v) (hx : den σ a = some x) (hy : den σ ix = some y) :
    ∃ r, (Instr.index t x y).run P w = .ok r w ∧ den σ v = some r := by
  unfold indexA at h
  split at h
  · cases h
  · rename_i l hl
    obtain ⟨vs, h1, rfl⟩ := aggCells_den hl hx
    split at h
    · cases h
    · rename_i j hj
      obtain ⟨k, rfl⟩ := natOf_den hj hy
      split at h
      · rename_i len e hd
        split at h
        · rename_i hb
          have hb' : j < len := by simpa using hb
          split at h
          · rename_i i hi
            obtain ⟨r, h2, h3⟩ := part_sound (w := w) h h1
            refine ⟨r, ?_, h3⟩
            have hc : (0 : Int) ≤ (j : Int) ∧ (j : Int) < (len : Int) := by omega
            simp only [Instr.index, asIntOf, Sem.run_bind, Sem.run_pure, run_under hd, Result.andThen_ok]
            rw [if_pos hc]
            simp only [Sem.run_bind, run_sizeOf hi, Result.andThen_ok]
            exact h2
          · cases h
        · cases h
      · cases h

/-! ### Addresses and slices -/
def fieldAddrA (P : Program) (t : TypeId) (a : AV) (f : Nat) : Option AV :=
  match a with
  | .ptr b o => match P.underlying t with
    | some (.struct fs) => match fs[f]? with
      | some fd => match P.info? fd.type with
        | some i => match i.size with
          | 0 => none
          | _ => some (.ptr b (o + fd.offset))
        | none => none
      | none => none
    | _ => none
  | .xp y n k c o => match P.underlying t with
    | some (.struct fs) => match fs[f]? with
      | some fd => match P.info? fd.type with
        | some i => match i.size with
          | 0 => none
          | _ => match Nat.blt (o + fd.offset) c.length with
            | true => some (.xp y n k c (o + fd.offset))
            | false => none
        | none => none
      | none => none
    | _ => none
  | _ => none
theorem fieldAddr_sound {t : TypeId} {a : AV} {f : Nat} {v : AV} {x : Value} (h : fieldAddrA P t a f = some v) (hx : den σ a = some x) :
    ∃ r, (Instr.fieldAt t x f).run P w = .ok r w ∧ den σ v = some r := by
  unfold fieldAddrA at h
  split at h
  · rename_i b o
    simp only [den, Option.map_eq_some_iff] at hx
    obtain ⟨B, hB, rfl⟩ := hx
    split at h
    · rename_i fs hd
      split at h
      · rename_i fd hf
        split at h
        · rename_i i hi
          split at h
          · cases h
          · rename_i hz
            cases h
            refine ⟨.pointer (some ⟨B, o + fd.offset, none⟩), ?_, by simp only [den, hB, Option.map_some]⟩
            have hz' : ¬ i.size = 0 := hz
            simp only [Instr.fieldAt, Sem.run_bind, run_under hd, Result.andThen_ok, hf, Instr.sureAddr, Sem.run_pure, fieldPlace, run_sizeOf hi]
            rw [if_neg hz']
            simp only [Sem.run_pure, Result.andThen_ok, add_at]
        · cases h
      · cases h
    · cases h
  · rename_i y n k c o
    obtain ⟨cs, hc, hok, hi0, rfl⟩ := den_xp hx
    split at h
    · rename_i fs hd
      split at h
      · rename_i fd hf
        split at h
        · rename_i i hi
          split at h
          · cases h
          · rename_i hz
            split at h
            · rename_i hlt
              cases h
              have hlt' : o + fd.offset < cs.length := by rw [denL_len hc]; simpa using hlt
              have hok' := hok
              obtain ⟨ba, cp, rfl, _, _, hb⟩ := hok
              obtain ⟨g, off, rfl, _⟩ := hb (by omega)
              refine ⟨xptr (.slice (some ⟨g, off, none⟩) n cp) (o + fd.offset), ?_, den_xp_mk hc hok' hlt'⟩
              have hz' : ¬ i.size = 0 := hz
              simp only [xptr, Instr.fieldAt, Sem.run_bind, run_under hd, Result.andThen_ok, hf, Instr.sureAddr, Sem.run_pure, fieldPlace, run_sizeOf hi]
              rw [if_neg hz']
              simp only [Sem.run_pure, Result.andThen_ok, add_at, Nat.add_assoc]
            · cases h
        · cases h
      · cases h
    · cases h
  · cases h
def indexAddrA (P : Program) (t : TypeId) (a ix : AV) : Option AV :=
  match natOf ix with
  | none => none
  | some j => match P.underlying t with
    | some (.array len e) => match a with
      | .ptr b o => match Nat.blt j len with
        | true => match P.info? e with
          | some i => some (.ptr b (o + j * i.size))
          | none => none
        | false => none
      | _ => none
    | some (.slice e) => match P.info? e with
      | none => none
      | some i => match a with
        | .sl b o n c => match Nat.blt j n with
          | true => some (.ptr b (o + j * i.size))
          | false => none
        | .slu b o n d => match Nat.blt j n with
          | true => some (.ptr b (o + j * i.size))
          | false => none
        | .xl y n k c => match Nat.blt j n, Nat.beq i.size k, Nat.blt 0 k with
          | true, true, true => some (.xp y n k c (j * k))
          | _, _, _ => none
        | _ => none
    | _ => none
theorem indexAddr_sound {t : TypeId} {a ix : AV} {v : AV} {x y : Value} (h : indexAddrA P t a ix = some v) (hx : den σ a = some x) (hy : den σ ix = some y) :
    ∃ r, (Instr.indexAt t x y).run P w = .ok r w ∧ den σ v = some r := by
  unfold indexAddrA at h
  split at h
  · cases h
  · rename_i j hj
    obtain ⟨k, rfl⟩ := natOf_den hj hy
    split at h
    · rename_i len e hd
      split at h
      · rename_i b o
        simp only [den, Option.map_eq_some_iff] at hx
        obtain ⟨B, hB, rfl⟩ := hx
        split at h
        · rename_i hb
          have hb' : j < len := by simpa using hb
          split at h
          · rename_i i hi
            cases h
            refine ⟨.pointer (some ⟨B, o + j * i.size, none⟩), ?_, by simp only [den, hB, Option.map_some]⟩
            have hc : (0 : Int) ≤ (j : Int) ∧ (j : Int) < (len : Int) := by omega
            simp only [Instr.indexAt, asIntOf, Sem.run_bind, Sem.run_pure, run_under hd, Result.andThen_ok, Instr.sureAddr]
            rw [if_pos hc]
            simp only [Sem.run_bind, run_sizeOf hi, Result.andThen_ok, add_at, Sem.run_pure, Int.toNat_natCast]
          · cases h
        · cases h
      · cases h
    · rename_i e hd
      split at h
      · cases h
      · rename_i i hi
        split at h
        · rename_i b o n c
          simp only [den, Option.map_eq_some_iff] at hx
          obtain ⟨B, hB, rfl⟩ := hx
          split at h
          · rename_i hb
            have hb' : j < n := by simpa using hb
            cases h
            refine ⟨.pointer (some ⟨B, o + j * i.size, none⟩), ?_, by simp only [den, hB, Option.map_some]⟩
            have hc : (0 : Int) ≤ (j : Int) ∧ (j : Int) < (n : Int) := by omega
            simp only [Instr.indexAt, asIntOf, Sem.run_bind, Sem.run_pure, run_under hd, Result.andThen_ok, Instr.sureAddr]
            rw [if_pos hc]
            simp only [Sem.run_bind, run_sizeOf hi, Result.andThen_ok, add_at, Sem.run_pure, Int.toNat_natCast]
          · cases h
        · rename_i b o n c
          obtain ⟨B, hB, rfl, _⟩ := den_slu hx
          split at h
          · rename_i hb
            have hb' : j < n := by simpa using hb
            cases h
            refine ⟨.pointer (some ⟨B, o + j * i.size, none⟩), ?_, by simp only [den, hB, Option.map_some]⟩
            have hc : (0 : Int) ≤ (j : Int) ∧ (j : Int) < (n : Int) := by omega
            simp only [Instr.indexAt, asIntOf, Sem.run_bind, Sem.run_pure, run_under hd, Result.andThen_ok, Instr.sureAddr]
            rw [if_pos hc]
            simp only [Sem.run_bind, run_sizeOf hi, Result.andThen_ok, add_at, Sem.run_pure, Int.toNat_natCast]
          · cases h
        · rename_i y n k c
          obtain ⟨cs, hc1, hok, rfl⟩ := den_xl hx
          split at h
          · rename_i hb1 hb2 hb3
            cases h
            have b1 : j < n := by simpa using hb1
            have b2 : i.size = k := Nat.eq_of_beq_eq_true hb2
            have b3 : 0 < k := by simpa using hb3
            have hok' := hok
            obtain ⟨ba, cap, rfl, q1, q2, q3⟩ := hok
            have hlt : j * k < cs.length := by
              rw [q2]
              exact Nat.mul_lt_mul_of_pos_right b1 b3
            obtain ⟨g, off, rfl, _⟩ := q3 (by omega)
            refine ⟨xptr (.slice (some ⟨g, off, none⟩) n cap) (j * k), ?_, den_xp_mk hc1 hok' hlt⟩
            have hc : (0 : Int) ≤ (j : Int) ∧ (j : Int) < (n : Int) := by omega
            simp only [Instr.indexAt, asIntOf, Sem.run_bind, Sem.run_pure, run_under hd, Result.andThen_ok, Instr.sureAddr]
            rw [if_pos hc]
            simp only [Sem.run_bind, run_sizeOf hi, Result.andThen_ok, add_at, Sem.run_pure, Int.toNat_natCast, b2, xptr]
          · cases h
        · cases h
    · cases h
def sb1 (x : AV) (y : Nat) : Option Nat :=
  match natOf x with
  | none => none
  | some j => match Nat.ble j y with
    | true => some j
    | false => none
theorem sb1_sound {x : AV} {y j : Nat} {v : Value} {c : BoundsCode} (h : sb1 x y = some j) (hx : den σ x = some v) : (Instr.sliceBound v y c).run P w = .ok j w := by
  unfold sb1 at h
  split at h
  · cases h
  · rename_i i hi
    obtain ⟨k, rfl⟩ := natOf_den hi hx
    split at h
    · rename_i hb
      cases h
      have := Nat.le_of_ble_eq_true hb
      simp only [Instr.sliceBound, asIntOf, Sem.run_bind, Sem.run_pure, Result.andThen_ok]
      rw [if_pos (by omega)]
      simp
    · cases h
def opdO (tm : Tr AV) : Option Operand → Option (Option AV)
  | none => some none
  | some x => match opd tm x with
    | some v => some (some v)
    | none => none
/-- Both are there, and known, or neither is. -/
def denO (σ : Env) : Option AV → Option Value → Prop
  | none, none => True
  | some a, some x => den σ a = some x
  | _, _ => False
theorem opdO_den {tm : Tr AV} {sz : Nat} {a : Act} (h : Tm σ tm sz a.tmps) {x : Option Operand} {v : Option AV} (e : opdO tm x = some v) : denO σ v (x.map a.eval) := by
  cases x with
  | none => simp [opdO] at e; subst e; trivial
  | some x =>
    simp only [opdO] at e
    split at e
    · rename_i u hu
      cases e
      exact opd_den h hu
    · cases e
def sbA (len cap : Nat) (lo hi mx : Option AV) : Option (Nat × Nat × Nat) :=
  match (match mx with | none => some cap | some v => sb1 v cap) with
  | none => none
  | some m => match (match hi with | none => (match mx with | none => some len | some _ => none) | some v => sb1 v m) with
    | none => none
    | some h => match (match lo with | none => some 0 | some v => sb1 v h) with
      | none => none
      | some l => some (l, h, m)
theorem sbA_sound {isS : Bool} {len cap : Nat} {lo hi mx : Option AV} {lo' hi' mx' : Option Value} {r : Nat × Nat × Nat} (h : sbA len cap lo hi mx = some r)
    (h1 : denO σ lo lo') (h2 : denO σ hi hi') (h3 : denO σ mx mx') : (Instr.sliceBounds isS len cap lo' hi' mx').run P w = .ok r w := by
  cases lo <;> cases lo' <;> simp only [denO] at h1 <;> cases hi <;> cases hi' <;> simp only [denO] at h2 <;> cases mx <;> cases mx' <;> simp only [denO] at h3 <;> simp only [sbA] at h <;>
    first
      | (cases h; done)
      | (repeat' (split at h)
         all_goals first
           | (cases h; done)
           | (cases h
              simp only [Instr.sliceBounds, Sem.run_bind, Sem.run_pure, Result.andThen_ok]
              repeat (first
                | (rw [sb1_sound (by assumption) (by assumption)]; simp only [Result.andThen_ok])
                | rfl)))
/-- Where a greatest end is passed that is not above the length, the room does not matter. -/
theorem sbA_max {n c : Nat} {lo hi : Option AV} {x : AV} {r : Nat × Nat × Nat} (e : sbA n n lo hi (some x) = some r) (hc : n ≤ c) : sbA n c lo hi (some x) = some r := by
  have s1 : ∀ {j : Nat}, sb1 x n = some j → sb1 x c = some j := fun {j} q => by
    unfold sb1 at q
    split at q
    · cases q
    · rename_i i hi
      split at q
      · rename_i hb
        cases q
        unfold sb1
        rw [hi]
        simp only [Nat.ble_eq_true_of_le (Nat.le_trans (Nat.le_of_ble_eq_true hb) hc)]
      · cases q
  unfold sbA at e ⊢
  simp only at e ⊢
  cases q : sb1 x n with
  | none => rw [q] at e; cases e
  | some j =>
    rw [q] at e
    rw [s1 q]
    exact e
/-- Where no end but the length's is passed, the room does not matter. -/
theorem sbA_room {n c : Nat} {lo hi : Option AV} {l h m : Nat} (e : sbA n n lo hi none = some (l, h, m)) (hc : n ≤ c) : sbA n c lo hi none = some (l, h, c) ∧ l ≤ h ∧ h ≤ n := by
  have s1 : ∀ {x : AV} {y j : Nat}, sb1 x y = some j → j ≤ y ∧ ∀ z, j ≤ z → sb1 x z = some j := fun {x y j} q => by
    unfold sb1 at q
    split at q
    · cases q
    · rename_i i hi
      split at q
      · rename_i hb
        cases q
        refine ⟨Nat.le_of_ble_eq_true hb, fun z hz => ?_⟩
        unfold sb1
        rw [hi]
        simp only [Nat.ble_eq_true_of_le hz]
      · cases q
  unfold sbA at e ⊢
  simp only at e ⊢
  cases hi with
  | none =>
    simp only at e ⊢
    cases lo with
    | none => simp only [Option.some.injEq, Prod.mk.injEq] at e; obtain ⟨rfl, rfl, _⟩ := e; exact ⟨rfl, Nat.zero_le _, Nat.le_refl _⟩
    | some v =>
      simp only at e ⊢
      cases q : sb1 v n with
      | none => rw [q] at e; cases e
      | some j =>
        rw [q] at e
        simp only [Option.some.injEq, Prod.mk.injEq] at e
        obtain ⟨rfl, rfl, _⟩ := e
        exact ⟨rfl, (s1 q).1, Nat.le_refl _⟩
  | some x =>
    simp only at e ⊢
    cases p : sb1 x n with
    | none => rw [p] at e; cases e
    | some k =>
      rw [p] at e
      obtain ⟨p1, p2⟩ := s1 p
      rw [p2 c (by omega)]
      simp only at e ⊢
      cases lo with
      | none => simp only [Option.some.injEq, Prod.mk.injEq] at e; obtain ⟨rfl, rfl, _⟩ := e; exact ⟨rfl, Nat.zero_le _, p1⟩
      | some v =>
        simp only at e ⊢
        cases q : sb1 v k with
        | none => rw [q] at e; cases e
        | some j =>
          rw [q] at e
          simp only [Option.some.injEq, Prod.mk.injEq] at e
          obtain ⟨rfl, rfl, _⟩ := e
          exact ⟨rfl, (s1 q).1, p1⟩
end
end Go.Proofs.Ytbhjbcldhejpaaa.Ev

/- Operations on known values: slicing, making, building, storing. -/
namespace Go.Proofs.Ytbhjbcldhejpaaa.Ev
set_option linter.unusedVariables false
set_option linter.unusedSimpArgs false
open Go
noncomputable section
variable {σ : Env} {P : Program} {w : World} {s s' : HS}

def offOf (m l o size : Nat) : Nat := match Nat.beq m l with | true => o | false => o + l * size
theorem offOf_den (B m l o size : Nat) : (if m = l then (⟨B, o, none⟩ : Addr) else (⟨B, o, none⟩ : Addr).add (l * size)) = ⟨B, offOf m l o size, none⟩ := by
  unfold offOf
  cases h : Nat.beq m l with
  | true => rw [if_pos (Nat.eq_of_beq_eq_true h)]
  | false => rw [if_neg (fun e => by rw [e, Nat.beq_refl] at h; cases h), add_at]
/-- A slice of an external slice. -/
def xsl (y : Value) (l h k : Nat) : Value :=
  match y with
  | .slice base _ cap => .slice (if cap = l then base else base.map (·.add (l * k))) (h - l) (cap - l)
  | _ => undef
theorem xsl_ok {w : World} {y : Value} {n k l h : Nat} {cs : List Value} (hx : XOk w y n k cs) (h1 : l ≤ h) (h2 : h ≤ n) : XOk w (xsl y l h k) (h - l) k ((cs.drop (l * k)).take ((h - l) * k)) := by
  obtain ⟨ba, cap, rfl, q1, q2, q3⟩ := hx
  have hle : h * k ≤ n * k := Nat.mul_le_mul_right _ h2
  have hsub : (h - l) * k = h * k - l * k := Nat.sub_mul _ _ _
  have hlk : l * k ≤ h * k := Nat.mul_le_mul_right _ h1
  have hlen : ((cs.drop (l * k)).take ((h - l) * k)).length = (h - l) * k := by simp; omega
  refine ⟨_, cap - l, rfl, by omega, hlen, fun h0 => ?_⟩
  rw [hlen] at h0
  obtain ⟨g, off, rfl, hc⟩ := q3 (by omega)
  have hne : cap ≠ l := fun e => by
    have : h - l = 0 := by omega
    rw [this, Nat.zero_mul] at h0
    omega
  rw [if_neg hne]
  refine ⟨g, off + l * k, by simp only [Option.map_some, add_at], fun i hi => ?_⟩
  rw [hlen] at hi
  rw [Nat.add_assoc, hc (l * k + i) (by omega), List.getElem?_take_of_lt hi, List.getElem?_drop]
def sliceA (P : Program) (t : TypeId) (a : AV) (lo hi mx : Option AV) : Option AV :=
  match P.underlying t with
  | some (.array n e) => match a with
    | .ptr b o => match sbA n n lo hi mx with
      | some (l, h, m) => match P.info? e with
        | some i => some (.sl b (offOf m l o i.size) (h - l) (m - l))
        | none => none
      | none => none
    | _ => none
  | some (.slice e) => match a with
    | .sl b o n c => match sbA n c lo hi mx with
      | some (l, h, m) => match P.info? e with
        | some i => some (.sl b (offOf m l o i.size) (h - l) (m - l))
        | none => none
      | none => none
    | .slu b o n d => match mx with
      | none => match sbA n n lo hi none with
        | some (l, h, m) => match P.info? e with
          | some i => match Nat.blt l n with
            | true => some (.slu b (o + l * i.size) (h - l) (d + l))
            | false => some (.sle b o l d i.size)
          | none => none
        | none => none
      | some x => match sbA n n lo hi (some x) with
        | some (l, h, m) => match P.info? e with
          | some i => some (.sl b (offOf m l o i.size) (h - l) (m - l))
          | none => none
        | none => none
    | .xl y n k c => match mx with
      | none => match sbA n n lo hi none with
        | some (l, h, m) => match P.info? e with
          | some i => match Nat.beq i.size k with
            | true => some (.xl (xsl y l h k) (h - l) k ((c.drop (l * k)).take ((h - l) * k)))
            | false => none
          | none => none
        | none => none
      | some _ => none
    | _ => none
  | some (.pointer arr) => match a with
    | .ptr b o => match P.underlying arr with
      | some (.array n e) => match sbA n n lo hi mx with
        | some (l, h, m) => match P.info? e with
          | some i => some (.sl b (offOf m l o i.size) (h - l) (m - l))
          | none => none
        | none => none
      | _ => none
    | _ => none
  | _ => none
theorem slice_sound {t : TypeId} {a : AV} {lo hi mx : Option AV} {x : Value} {lo' hi' mx' : Option Value} {v : AV} (h : sliceA P t a lo hi mx = some v) (hx : den σ a = some x)
    (h1 : denO σ lo lo') (h2 : denO σ hi hi') (h3 : denO σ mx mx') : ∃ r, (Instr.sliceAt t x lo' hi' mx').run P w = .ok r w ∧ den σ v = some r := by
  unfold sliceA at h
  split at h
  · rename_i n e hd
    split at h
    · rename_i b o
      simp only [den, Option.map_eq_some_iff] at hx
      obtain ⟨B, hB, rfl⟩ := hx
      split at h
      · rename_i l hh m hr
        split at h
        · rename_i i hi'
          cases h
          refine ⟨.slice (some ⟨B, offOf m l o i.size, none⟩) (hh - l) (m - l), ?_, by simp only [den, hB, Option.map_some]⟩
          simp only [Instr.sliceAt, Sem.run_bind, run_under hd, Result.andThen_ok, Instr.sureAddr, Sem.run_pure]
          rw [sbA_sound hr h1 h2 h3]
          simp only [Result.andThen_ok, Sem.run_bind, run_sizeOf hi', Sem.run_pure]
          rw [offOf_den]
        · cases h
      · cases h
    · cases h
  · rename_i e hd
    split at h
    · rename_i b o n c
      simp only [den, Option.map_eq_some_iff] at hx
      obtain ⟨B, hB, rfl⟩ := hx
      split at h
      · rename_i l hh m hr
        split at h
        · rename_i i hi'
          cases h
          refine ⟨.slice (some ⟨B, offOf m l o i.size, none⟩) (hh - l) (m - l), ?_, by simp only [den, hB, Option.map_some]⟩
          simp only [Instr.sliceAt, Instr.slice, Sem.run_bind, run_under hd, Result.andThen_ok, Sem.run_pure]
          rw [sbA_sound hr h1 h2 h3]
          simp only [Result.andThen_ok, Sem.run_bind, run_sizeOf hi', Sem.run_pure, Option.map_some]
          rw [← offOf_den]
          split <;> rfl
        · cases h
      · cases h
    · rename_i b o n d
      obtain ⟨B, hB, rfl, hcap⟩ := den_slu hx
      split at h
      · split at h
        · rename_i l hh m hr
          obtain ⟨hr2, hlh, hhn⟩ := sbA_room hr hcap
          split at h
          · rename_i i hinf
            have run : ∀ {r : Value}, (Value.slice (if σ.cap b - d = l then some ⟨B, o, none⟩ else (some ⟨B, o, none⟩ : Option Addr).map (·.add (l * i.size))) (hh - l) (σ.cap b - d - l)) = r →
                (Instr.sliceAt t (.slice (some ⟨B, o, none⟩) n (σ.cap b - d)) lo' hi' mx').run P w = .ok r w := by
              intro r e
              simp only [Instr.sliceAt, Instr.slice, Sem.run_bind, run_under hd, Result.andThen_ok, Sem.run_pure]
              rw [sbA_sound hr2 h1 h2 h3]
              simp only [Result.andThen_ok, Sem.run_bind, run_sizeOf hinf, Sem.run_pure]
              rw [← e]
            split at h
            · rename_i hb
              have hb' : l < n := by simpa using hb
              cases h
              refine ⟨.slice (some ⟨B, o + l * i.size, none⟩) (hh - l) (σ.cap b - d - l), run ?_, ?_⟩
              · rw [if_neg (by omega)]
                simp only [Option.map_some, add_at]
              · rw [den_slu_mk hB (by omega), Nat.sub_add_eq]
            · rename_i hb
              have hb' : ¬ l < n := fun q => by
                have : Nat.blt l n = true := by simpa using q
                rw [this] at hb
                cases hb
              cases h
              refine ⟨.slice (some ⟨B, if σ.cap b - d = l then o else o + l * i.size, none⟩) 0 (σ.cap b - d - l), run ?_, by simp only [den, hB, Option.map_some]⟩
              have hz : hh - l = 0 := by omega
              rw [hz]
              by_cases hc : σ.cap b - d = l <;> simp [hc, add_at]
          · cases h
        · cases h
      · split at h
        · rename_i l hh m hr
          split at h
          · rename_i i hinf
            cases h
            refine ⟨.slice (some ⟨B, offOf m l o i.size, none⟩) (hh - l) (m - l), ?_, by simp only [den, hB, Option.map_some]⟩
            simp only [Instr.sliceAt, Instr.slice, Sem.run_bind, run_under hd, Result.andThen_ok, Sem.run_pure]
            rw [sbA_sound (sbA_max hr hcap) h1 h2 h3]
            simp only [Result.andThen_ok, Sem.run_bind, run_sizeOf hinf, Sem.run_pure, Option.map_some]
            rw [← offOf_den]
            split <;> rfl
          · cases h
        · cases h
    · rename_i y n k c
      obtain ⟨cs, hc1, hok, rfl⟩ := den_xl hx
      have hok' := hok
      obtain ⟨ba, cap, rfl, q1, q2, q3⟩ := hok
      split at h
      · split at h
        · rename_i l hh m hr
          obtain ⟨hr2, hlh, hhn⟩ := sbA_room hr q1
          split at h
          · rename_i i hinf
            split at h
            · rename_i hb
              have hb' : i.size = k := Nat.eq_of_beq_eq_true hb
              cases h
              refine ⟨xsl (.slice ba n cap) l hh k, ?_, den_xl_mk (denL_take _ (denL_drop _ hc1)) (xsl_ok hok' hlh hhn)⟩
              simp only [Instr.sliceAt, Instr.slice, Sem.run_bind, run_under hd, Result.andThen_ok, Sem.run_pure]
              rw [sbA_sound hr2 h1 h2 h3]
              simp only [Result.andThen_ok, Sem.run_bind, run_sizeOf hinf, Sem.run_pure, hb', xsl]
            · cases h
          · cases h
        · cases h
      · cases h
    · cases h
  · rename_i arr hd
    split at h
    · rename_i b o
      simp only [den, Option.map_eq_some_iff] at hx
      obtain ⟨B, hB, rfl⟩ := hx
      split at h
      · rename_i n e hd2
        split at h
        · rename_i l hh m hr
          split at h
          · rename_i i hi'
            cases h
            refine ⟨.slice (some ⟨B, offOf m l o i.size, none⟩) (hh - l) (m - l), ?_, by simp only [den, hB, Option.map_some]⟩
            simp only [Instr.sliceAt, Instr.slice, Sem.run_bind, run_under hd, run_under hd2, Result.andThen_ok, Sem.run_pure, asAddr]
            rw [sbA_sound hr h1 h2 h3]
            simp only [Result.andThen_ok, Sem.run_bind, run_sizeOf hi', Sem.run_pure]
            rw [offOf_den]
          · cases h
        · cases h
      · cases h
    · cases h
  · cases h

/-! ### New blocks -/
theorem new_sound (g : Good s) (hs : Sim s.H σ w) (hf : σ.blk s.n = none) {l : List AV} {vs : List Value} (t : TypeId) (hl : denL σ l = some vs) :
    Moved s σ w (s.new (.cells l t)) (σ.put s.n w.heap.size 0) (w.alloc (.cells vs.toArray t)) :=
  moved_new g hs hf (.cells l t) _ 0 ⟨vs, denL_le (Env.put_le hf) l vs hl, rfl⟩
def zeroOf (P : Program) (t : TypeId) : Option (List AV) :=
  match P.info? t with
  | none => none
  | some i => match i.zero with
    | none => none
    | some z => some (z.cells.toList.map .v)
theorem zeroOf_run {t : TypeId} {l : List AV} (h : zeroOf P t = some l) : ∃ z, (zeroValue t).run P w = .ok z w ∧ l = z.cells.toList.map .v := by
  unfold zeroOf at h
  split at h
  · cases h
  · rename_i i hi
    split at h
    · cases h
    · rename_i z hz
      cases h
      exact ⟨z, run_zero hi hz, rfl⟩
theorem put_ptr {n B c : Nat} : den (σ.put n B c) (.ptr n 0) = some (.pointer (some ⟨B, 0, none⟩)) := by simp only [den, Env.put_at, Option.map_some]
theorem alloc_sound (g : Good s) (hs : Sim s.H σ w) (hf : σ.blk s.n = none) {t : TypeId} {l : List AV} (h : zeroOf P t = some l) (old : Value) :
    Res P s σ w (Instr.alloc t true old >>= fun a => pure (Next.value a)) (.ptr s.n 0) (s.new (.cells l t)) := by
  obtain ⟨z, h1, rfl⟩ := zeroOf_run (w := w) h
  refine ⟨_, _, _, .inl (run_val ?_), put_ptr, new_sound g hs hf t (denL_v _)⟩
  simp only [Instr.alloc, Sem.run_bind, h1, Result.andThen_ok]
  simp only [newVar, Sem.run_bind, run_newRow, Result.andThen_ok, Sem.run_pure, Array.toArray_toList]
theorem box_sound (g : Good s) (hs : Sim s.H σ w) (hf : σ.blk s.n = none) {t : TypeId} {a : AV} {x : Value} (hx : den σ a = some x) :
    Res P s σ w (Instr.box t x >>= fun a => pure (Next.value a)) (.ptr s.n 0) (s.new (.cells a.cells t)) := by
  refine ⟨_, _, _, .inl (run_val ?_), put_ptr, new_sound g hs hf t (cells_den hx)⟩
  simp only [Instr.box, newVar, Sem.run_bind, run_newRow, Result.andThen_ok, Sem.run_pure, Array.toArray_toList]

/-! ### Building -/
theorem foldl_set {α : Type} : ∀ (vs : List α) (off j : Nat) (cs : Array α), off + j + vs.length ≤ cs.size →
    (vs.zipIdx j).foldl (fun (cs : Array α) (p : α × Nat) => cs.setIfInBounds (off + p.2) p.1) cs = (splice cs.toList (off + j) vs).toArray
  | [], off, j, cs, h => by simp [splice_nil]
  | v :: vs, off, j, cs, h => by
    have h' : off + j + (vs.length + 1) ≤ cs.size := by simpa using h
    simp only [List.zipIdx_cons, List.foldl_cons]
    rw [foldl_set vs off (j + 1) _ (by simp; omega)]
    simp only [Array.toList_setIfInBounds]
    rw [← Nat.add_assoc, splice_cons (by simp; omega)]
def fillA (place : Nat → Option (Nat × Nat)) (cells : List AV) : List (Nat × AV) → Option (List AV)
  | [] => some cells
  | (i, v) :: rest => match place i with
    | none => none
    | some (off, size) =>
      let cs := v.cells
      match Nat.beq cs.length size with
      | false => none
      | true => match Nat.ble (off + cs.length) cells.length with
        | true => fillA place (splice cells off cs) rest
        | false => none
theorem fill_sound {place : Nat → Option (Nat × Nat)} : ∀ {parts : List (Nat × AV)} {parts' : List (Nat × Value)} {cells r : List AV} {vs : List Value},
    fillA place cells parts = some r → denL σ cells = some vs → parts.map (·.1) = parts'.map (·.1) → denL σ (parts.map (·.2)) = some (parts'.map (·.2)) →
    ∃ rs, denL σ r = some rs ∧ Instr.fill place vs.toArray parts' = some rs.toArray
  | [], [], cells, r, vs, h, hc, _, _ => by
    simp only [fillA] at h
    cases h
    exact ⟨vs, hc, rfl⟩
  | [], _ :: _, cells, r, vs, h, hc, e, _ => by simp at e
  | _ :: _, [], cells, r, vs, h, hc, e, _ => by simp at e
  | (i, v) :: rest, (i', x) :: rest', cells, r, vs, h, hc, e, hd => by
    simp only [List.map_cons, List.cons.injEq] at e
    obtain ⟨rfl, e⟩ := e
    simp only [List.map_cons, denL] at hd
    cases h1 : den σ v with
    | none => rw [h1] at hd; cases hd
    | some u => cases h2 : denL σ (rest.map (·.2)) with
      | none => rw [h1, h2] at hd; cases hd
      | some z =>
        rw [h1, h2] at hd
        injection hd with hd
        injection hd with hd1 hd2
        subst hd1
        simp only [fillA] at h
        split at h
        · cases h
        · rename_i off size hp
          split at h
          · cases h
          · rename_i hb
            split at h
            · rename_i hl
              have hb' := Nat.eq_of_beq_eq_true hb
              have hl' := Nat.le_of_ble_eq_true hl
              have hcs := cells_den h1
              have hlen := denL_len hcs
              have hlen2 := denL_len hc
              obtain ⟨rs, h3, h4⟩ := fill_sound h (denL_splice off hc hcs) e (by rw [h2, hd2])
              refine ⟨rs, h3, ?_⟩
              simp only [Instr.fill, hp]
              have e1 : u.cells.size = size := by rw [← hb', ← hlen]; simp
              have e2 : off + u.cells.size ≤ vs.toArray.size := by
                have : u.cells.size = v.cells.length := by rw [← hlen]; simp
                rw [this]
                simp
                omega
              rw [if_neg (by simp [e1]; simp at e2; omega)]
              have e3 := foldl_set u.cells.toList off 0 vs.toArray (by simpa using e2)
              have e4 : (u.cells.zipIdx.foldl (fun cs (c, j) => cs.setIfInBounds (off + j) c) vs.toArray) = (splice vs off u.cells.toList).toArray := by
                rw [← Array.foldl_toList]
                simpa using e3
              rw [← h4, ← e4]
            · cases h
theorem fill_congr {p q : Nat → Option (Nat × Nat)} (h : ∀ i, p i = q i) : p = q := funext h
def placesOf (P : Program) : List Field → Option (List (Nat × Nat))
  | [] => some []
  | f :: l => match P.info? f.type, placesOf P l with
    | some i, some r => some ((f.offset, i.size) :: r)
    | _, _ => none
theorem places_run : ∀ {l : List Field} {r : List (Nat × Nat)}, placesOf P l = some r → (l.mapM (fun f => (do pure (f.offset, ← sizeOf f.type) : Sem (Nat × Nat)))).run P w = .ok r w
  | [], r, h => by simp [placesOf] at h; subst h; rfl
  | f :: l, r, h => by
    simp only [placesOf] at h
    split at h
    · rename_i i rr h1 h2
      cases h
      rw [List.mapM_cons]
      simp only [Sem.run_bind, run_sizeOf h1, Result.andThen_ok, Sem.run_pure, places_run h2]
    · cases h
def buildA (P : Program) (t : TypeId) (parts : List (Nat × AV)) : Option AV :=
  match zeroOf P t with
  | none => none
  | some z => match P.underlying t with
    | some (.struct fs) => match placesOf P fs.toList with
      | none => none
      | some pl => match fillA (fun i => pl[i]?) z parts with
        | some l => some (.agg l)
        | none => none
    | some (.array _ e) => match P.info? e with
      | none => none
      | some ie => match fillA (fun i => some (i * ie.size, ie.size)) z parts with
        | some l => some (.agg l)
        | none => none
    | _ => none
theorem build_sound {t : TypeId} {parts : List (Nat × AV)} {parts' : Array (Nat × Value)} {v : AV} (h : buildA P t parts = some v) (h1 : parts.map (·.1) = parts'.toList.map (·.1))
    (h2 : denL σ (parts.map (·.2)) = some (parts'.toList.map (·.2))) : ∃ r, (Instr.build t parts').run P w = .ok r w ∧ den σ v = some r := by
  unfold buildA at h
  split at h
  · cases h
  · rename_i z hz
    obtain ⟨zv, hz1, rfl⟩ := zeroOf_run (w := w) hz
    split at h
    · rename_i fs hd
      split at h
      · cases h
      · rename_i pl hpl
        split at h
        · rename_i l hl
          cases h
          obtain ⟨rs, e1, e2⟩ := fill_sound hl (denL_v _) h1 h2
          refine ⟨.agg rs.toArray, ?_, by simp only [den, e1, Option.map_some]⟩
          simp only [Instr.build, Sem.run_bind, hz1, Result.andThen_ok, run_under hd]
          have hm : (fs.mapM (fun f => (do pure (f.offset, ← sizeOf f.type) : Sem (Nat × Nat)))).run P w = .ok pl.toArray w := by
            rw [Array.mapM_eq_mapM_toList, Sem.run_map, places_run hpl]
            rfl
          rw [hm]
          simp only [Result.andThen_ok]
          have e3 : Instr.fill (fun x => pl.toArray[x]?) zv.cells parts'.toList = some rs.toArray := by
            rw [← e2]
            simp
          rw [e3]
          rfl
        · cases h
    · rename_i n e hd
      split at h
      · cases h
      · rename_i ie hie
        split at h
        · rename_i l hl
          cases h
          obtain ⟨rs, e1, e2⟩ := fill_sound hl (denL_v _) h1 h2
          refine ⟨.agg rs.toArray, ?_, by simp only [den, e1, Option.map_some]⟩
          simp only [Instr.build, Sem.run_bind, hz1, Result.andThen_ok, run_under hd, run_sizeOf hie]
          have e3 : Instr.fill (fun i => some (i * ie.size, ie.size)) zv.cells parts'.toList = some rs.toArray := by
            rw [← e2]
          rw [e3]
          rfl
        · cases h
    · cases h
end
end Go.Proofs.Ytbhjbcldhejpaaa.Ev

/- Operations on known values: rows made, copied, cleared, appended to. -/
namespace Go.Proofs.Ytbhjbcldhejpaaa.Ev
set_option linter.unusedVariables false
set_option linter.unusedSimpArgs false
open Go
noncomputable section
variable {σ : Env} {P : Program} {w : World} {s s' : HS}

def repL {α : Type} : Nat → List α → List α
  | 0, _ => []
  | k + 1, l => l ++ repL k l
theorem repL_len {α : Type} (l : List α) : ∀ k, (repL k l).length = k * l.length
  | 0 => by simp [repL]
  | k + 1 => by simp only [repL, List.length_append, repL_len l k, Nat.succ_mul]; omega
theorem repL_get {α : Type} (l : List α) : ∀ (k i : Nat), i < k * l.length → (repL k l)[i]? = l[i % l.length]?
  | 0, i, h => by simp at h
  | k + 1, i, h => by
    simp only [repL]
    by_cases hi : i < l.length
    · rw [List.getElem?_append_left hi, Nat.mod_eq_of_lt hi]
    · rw [List.getElem?_append_right (by omega), repL_get l k _ (by rw [Nat.succ_mul] at h; omega), ← Nat.mod_eq_sub_mod (by omega)]
theorem repL_map {α β : Type} (f : α → β) (l : List α) : ∀ k, (repL k l).map f = repL k (l.map f)
  | 0 => rfl
  | k + 1 => by simp only [repL, List.map_append, repL_map f l k]
theorem rep_range (z : Array Value) (k : Nat) : ((Array.range (k * z.size)).map fun j => z[j % z.size]!) = (repL k z.toList).toArray := by
  apply Array.ext_getElem?
  intro i
  by_cases hi : i < k * z.size
  · have hz : 0 < z.size := by
      rcases Nat.eq_zero_or_pos z.size with e | e
      · rw [e] at hi; simp at hi
      · exact e
    have hm : i % z.size < z.size := Nat.mod_lt _ hz
    have e := repL_get z.toList k i (by simpa using hi)
    simp only [List.getElem?_toArray, e, Array.length_toList, Array.getElem?_toList]
    simp [hi, hm]
  · rw [Array.getElem?_eq_none (by simpa using hi), Array.getElem?_eq_none (by simp [repL_len]; omega)]
/-- So many zero values, cell by cell. -/
def zerosOf (P : Program) (t : TypeId) (size k : Nat) : Option (List AV) :=
  match zeroOf P t with
  | none => none
  | some z => match Nat.beq z.length size with
    | true => some (repL k z)
    | false => none
theorem zerosOf_run {t : TypeId} {size k : Nat} {l : List AV} (h : zerosOf P t size k = some l) : ∃ z, (zeroValue t).run P w = .ok z w ∧ z.cells.size = size ∧ l = (repL k z.cells.toList).map .v := by
  unfold zerosOf at h
  split at h
  · cases h
  · rename_i zl hz
    obtain ⟨z, h1, rfl⟩ := zeroOf_run (w := w) hz
    split at h
    · rename_i hb
      cases h
      have := Nat.eq_of_beq_eq_true hb
      exact ⟨z, h1, by simpa using this, by rw [repL_map]⟩
    · cases h
def buildSliceA (P : Program) (s : HS) (t : TypeId) (len : Nat) (parts : List (Nat × AV)) : Option (AV × HS) :=
  match P.underlying t with
  | some (.slice e) => match P.info? e with
    | none => none
    | some i => match Nat.ble (len * i.size) 16777216 with
      | false => none
      | true => match zerosOf P e i.size len with
        | none => none
        | some z => match fillA (fun j => some (j * i.size, i.size)) z parts with
          | some l => some (.sl s.n 0 len len, s.new (.cells l e))
          | none => none
  | _ => none
theorem put_sl {n B c o k m : Nat} : den (σ.put n B c) (.sl n o k m) = some (.slice (some ⟨B, o, none⟩) k m) := by simp only [den, Env.put_at, Option.map_some]
theorem zero_rows {z : Value} {n k size : Nat} (h2 : z.cells.size = size) (hn : n = k * size) : ((Array.range n).map fun j => z.cells[j % z.cells.size]!) = (repL k z.cells.toList).toArray := by
  subst h2
  rw [hn, rep_range]
theorem zero_none {z : Value} {n k size : Nat} (h2 : z.cells.size = size) (hn : n = k * size) (h0 : n = 0) : ((Array.range n).map fun j => (#[] : Array Value)[j % (#[] : Array Value).size]!) = (repL k z.cells.toList).toArray := by
  subst h2
  have e : (repL k z.cells.toList) = [] := List.length_eq_zero_iff.1 (by rw [repL_len]; simpa using hn ▸ h0)
  rw [e, h0]
  simp
theorem buildSlice_sound (g : Good s) (hs : Sim s.H σ w) (hf : σ.blk s.n = none) {t : TypeId} {len : Nat} {parts : List (Nat × AV)} {parts' : Array (Nat × Value)} {v : AV}
    (h : buildSliceA P s t len parts = some (v, s')) (h1 : parts.map (·.1) = parts'.toList.map (·.1)) (h2 : denL σ (parts.map (·.2)) = some (parts'.toList.map (·.2))) :
    Res P s σ w (Instr.buildSlice t len parts' >>= fun a => pure (Next.value a)) v s' := by
  unfold buildSliceA at h
  split at h
  · rename_i e hd
    split at h
    · cases h
    · rename_i i hi
      split at h
      · cases h
      · rename_i hb
        have hb' := Nat.le_of_ble_eq_true hb
        split at h
        · cases h
        · rename_i zl hz
          obtain ⟨z, z1, z2, rfl⟩ := zerosOf_run (w := w) hz
          split at h
          · rename_i l hl
            cases h
            obtain ⟨rs, e1, e2⟩ := fill_sound hl (denL_v _) h1 h2
            refine ⟨_, _, _, .inl (run_val ?_), put_sl, new_sound g hs hf e e1⟩
            simp only [Instr.buildSlice, Sem.run_bind, run_under hd, Result.andThen_ok, run_sizeOf hi]
            rw [if_neg (by omega)]
            by_cases h0 : len * i.size = 0
            · rw [if_pos h0]
              simp only [Sem.run_bind, Sem.run_pure, Result.andThen_ok]
              rw [zero_none z2 rfl h0, e2]
              simp only [Sem.run_bind, run_newRow, Result.andThen_ok, Sem.run_pure]
            · rw [if_neg h0]
              simp only [Sem.run_bind, z1, Sem.run_pure, Result.andThen_ok]
              rw [zero_rows z2 rfl, e2]
              simp only [Sem.run_bind, run_newRow, Result.andThen_ok, Sem.run_pure]
          · cases h
  · cases h
def makeSliceA (P : Program) (s : HS) (t : TypeId) (l c : AV) : Option (AV × HS) :=
  match P.underlying t with
  | some (.slice e) => match P.info? e with
    | none => none
    | some i => match natOf l, natOf c with
      | some l, some c => match Nat.ble l c with
        | false => none
        | true => match Nat.ble c 1000000 with
          | false => none
          | true => match Nat.ble (i.bytes * c) 281474976710656 with
            | false => none
            | true => match zerosOf P e i.size c with
              | none => none
              | some z => some (.sl s.n 0 l c, s.new (.cells z e))
      | _, _ => none
  | _ => none
theorem wrap_small {j : Nat} (h : j ≤ 1000000) : IntKind.i64.wrap (j : Int) = j := IntWalk.i64_in _ (by omega)
theorem makeSlice_sound (g : Good s) (hs : Sim s.H σ w) (hf : σ.blk s.n = none) {t : TypeId} {l c : AV} {x y : Value} {v : AV}
    (h : makeSliceA P s t l c = some (v, s')) (hx : den σ l = some x) (hy : den σ c = some y) : Res P s σ w (Instr.makeSlice t x y >>= fun a => pure (Next.value a)) v s' := by
  unfold makeSliceA at h
  split at h
  · rename_i e hd
    split at h
    · cases h
    · rename_i i hi
      split at h
      · rename_i l' c' hl hc
        obtain ⟨k1, rfl⟩ := natOf_den hl hx
        obtain ⟨k2, rfl⟩ := natOf_den hc hy
        split at h
        · cases h
        · rename_i hb1
          split at h
          · cases h
          · rename_i hb2
            split at h
            · cases h
            · rename_i hb3
              split at h
              · cases h
              · rename_i zl hz
                cases h
                obtain ⟨z, z1, z2, rfl⟩ := zerosOf_run (w := w) hz
                have a1 := Nat.le_of_ble_eq_true hb1
                have a2 := Nat.le_of_ble_eq_true hb2
                have a3 := Nat.le_of_ble_eq_true hb3
                have b1 : IntKind.i64.wrap (l' : Int) = l' := wrap_small (by omega)
                have b2 : IntKind.i64.wrap (c' : Int) = c' := wrap_small a2
                have hcond : ¬ ((decide ((c' : Int) < 0) || decide ((i.bytes : Int) * (c' : Int) > 2 ^ 48) || decide ((l' : Int) < 0) || decide ((l' : Int) > (c' : Int))) = true) := by
                  have a3' : (i.bytes : Int) * (c' : Int) ≤ 281474976710656 := by
                    have q := Int.ofNat_le.2 a3
                    rw [Int.natCast_mul] at q
                    omega
                  simp only [Bool.or_eq_true, decide_eq_true_eq]
                  omega
                refine ⟨_, _, _, .inl (run_val ?_), put_sl, new_sound g hs hf e (denL_v _)⟩
                simp only [Instr.makeSlice, Sem.run_bind, run_under hd, Result.andThen_ok, asInt, asIntOf, Sem.run_pure, run_typeInfo hi, b1, b2]
                rw [if_neg hcond]
                simp only [Sem.run_bind, Sem.run_pure, run_askRoom, Result.andThen_ok, run_sizeOf hi, Int.toNat_natCast]
                by_cases h0 : c' * i.size = 0
                · rw [if_pos h0]
                  simp only [Sem.run_bind, Sem.run_pure, Result.andThen_ok]
                  rw [zero_none z2 rfl h0]
                  simp only [Sem.run_bind, run_newRow, Result.andThen_ok, Sem.run_pure]
                · rw [if_neg h0]
                  simp only [Sem.run_bind, z1, Sem.run_pure, Result.andThen_ok]
                  rw [zero_rows z2 rfl]
                  simp only [Sem.run_bind, run_newRow, Result.andThen_ok, Sem.run_pure]
      · cases h
  · cases h
end
end Go.Proofs.Ytbhjbcldhejpaaa.Ev
