/- Closed calls are run by computation: values with named blocks, heaps of named blocks, and what it means that a world has them. -/
import Derived.Test.YtchlehpjpgeejaaRows
import Derived.RangeFuncLeaves
import Derived.OrdersIn
import Derived.LoopNIn
import Derived.OwnWalkIn
import Derived.Laws.Sem
namespace Go.Proofs.Ytchlehpjpgeejaa.Ev
set_option linter.unusedVariables false
set_option linter.unusedSimpArgs false
open Go
noncomputable section

/-! ### A map from numbers -/
inductive Tr (α : Type) where
  | leaf
  | node (l : Tr α) (v : Option α) (r : Tr α)
variable {α : Type}
/-- What lies at a key. (By the recursors: the kernel is quicker so.) -/
def Tr.get (t : Tr α) : Nat → Option α :=
  Tr.rec (motive := fun _ => Nat → Option α) (fun _ => none)
    (fun _ v _ ihl ihr n => Nat.rec (motive := fun _ => Option α) v (fun k _ => Bool.rec (motive := fun _ => Option α) (ihr (Nat.div k 2)) (ihl (Nat.div k 2)) (Nat.beq (Nat.mod k 2) 0)) n) t
theorem Tr.get_leaf (n : Nat) : (Tr.leaf : Tr α).get n = none := rfl
theorem Tr.get_zero (l : Tr α) (v : Option α) (r : Tr α) : (Tr.node l v r).get 0 = v := rfl
theorem Tr.get_true (l : Tr α) (v : Option α) (r : Tr α) (k : Nat) (h : Nat.beq (Nat.mod k 2) 0 = true) : (Tr.node l v r).get (k + 1) = l.get (Nat.div k 2) := by
  show Bool.rec (motive := fun _ => Option α) (r.get (Nat.div k 2)) (l.get (Nat.div k 2)) (Nat.beq (Nat.mod k 2) 0) = _
  rw [h]
theorem Tr.get_false (l : Tr α) (v : Option α) (r : Tr α) (k : Nat) (h : Nat.beq (Nat.mod k 2) 0 = false) : (Tr.node l v r).get (k + 1) = r.get (Nat.div k 2) := by
  show Bool.rec (motive := fun _ => Option α) (r.get (Nat.div k 2)) (l.get (Nat.div k 2)) (Nat.beq (Nat.mod k 2) 0) = _
  rw [h]
/-- What lies at a key is put in the place of what lay there (nothing, where nothing lay on the way). -/
def Tr.upd (t : Tr α) : Nat → Option α → Tr α :=
  Tr.rec (motive := fun _ => Nat → Option α → Tr α) (fun _ _ => .leaf)
    (fun l v r ihl ihr n x => Nat.rec (motive := fun _ => Tr α) (.node l x r) (fun k _ => Bool.rec (motive := fun _ => Tr α) (.node l v (ihr (Nat.div k 2) x)) (.node (ihl (Nat.div k 2) x) v r) (Nat.beq (Nat.mod k 2) 0)) n) t
theorem Tr.upd_zero (l : Tr α) (v : Option α) (r : Tr α) (x : Option α) : (Tr.node l v r).upd 0 x = .node l x r := rfl
theorem Tr.upd_true (l : Tr α) (v : Option α) (r : Tr α) (k : Nat) (x : Option α) (h : Nat.beq (Nat.mod k 2) 0 = true) : (Tr.node l v r).upd (k + 1) x = .node (l.upd (Nat.div k 2) x) v r := by
  show Bool.rec (motive := fun _ => Tr α) (.node l v (r.upd (Nat.div k 2) x)) (.node (l.upd (Nat.div k 2) x) v r) (Nat.beq (Nat.mod k 2) 0) = _
  rw [h]
theorem Tr.upd_false (l : Tr α) (v : Option α) (r : Tr α) (k : Nat) (x : Option α) (h : Nat.beq (Nat.mod k 2) 0 = false) : (Tr.node l v r).upd (k + 1) x = .node l v (r.upd (Nat.div k 2) x) := by
  show Bool.rec (motive := fun _ => Tr α) (.node l v (r.upd (Nat.div k 2) x)) (.node (l.upd (Nat.div k 2) x) v r) (Nat.beq (Nat.mod k 2) 0) = _
  rw [h]
def Tr.set (f : Nat) : Tr α → Nat → α → Tr α :=
  Nat.rec (motive := fun _ => Tr α → Nat → α → Tr α) (fun t _ _ => t)
    (fun _ ih t n x => Tr.rec (motive := fun _ => Tr α)
      (Nat.rec (motive := fun _ => Tr α) (.node .leaf (some x) .leaf) (fun k _ => Bool.rec (motive := fun _ => Tr α) (.node .leaf none (ih .leaf (Nat.div k 2) x)) (.node (ih .leaf (Nat.div k 2) x) none .leaf) (Nat.beq (Nat.mod k 2) 0)) n)
      (fun l v r _ _ => Nat.rec (motive := fun _ => Tr α) (.node l (some x) r) (fun k _ => Bool.rec (motive := fun _ => Tr α) (.node l v (ih r (Nat.div k 2) x)) (.node (ih l (Nat.div k 2) x) v r) (Nat.beq (Nat.mod k 2) 0)) n) t) f
theorem Tr.set_none (t : Tr α) (n : Nat) (x : α) : Tr.set 0 t n x = t := rfl
theorem Tr.set_leaf_zero (f : Nat) (x : α) : Tr.set (f + 1) .leaf 0 x = .node .leaf (some x) .leaf := rfl
theorem Tr.set_node_zero (f : Nat) (l : Tr α) (v : Option α) (r : Tr α) (x : α) : Tr.set (f + 1) (.node l v r) 0 x = .node l (some x) r := rfl
theorem Tr.set_leaf_true (f : Nat) (k : Nat) (x : α) (h : Nat.beq (Nat.mod k 2) 0 = true) : Tr.set (f + 1) .leaf (k + 1) x = .node (Tr.set f .leaf (Nat.div k 2) x) none .leaf := by
  show Bool.rec (motive := fun _ => Tr α) (.node .leaf none (Tr.set f .leaf (Nat.div k 2) x)) (.node (Tr.set f .leaf (Nat.div k 2) x) none .leaf) (Nat.beq (Nat.mod k 2) 0) = _
  rw [h]
theorem Tr.set_leaf_false (f : Nat) (k : Nat) (x : α) (h : Nat.beq (Nat.mod k 2) 0 = false) : Tr.set (f + 1) .leaf (k + 1) x = .node .leaf none (Tr.set f .leaf (Nat.div k 2) x) := by
  show Bool.rec (motive := fun _ => Tr α) (.node .leaf none (Tr.set f .leaf (Nat.div k 2) x)) (.node (Tr.set f .leaf (Nat.div k 2) x) none .leaf) (Nat.beq (Nat.mod k 2) 0) = _
  rw [h]
theorem Tr.set_node_true (f : Nat) (l : Tr α) (v : Option α) (r : Tr α) (k : Nat) (x : α) (h : Nat.beq (Nat.mod k 2) 0 = true) : Tr.set (f + 1) (.node l v r) (k + 1) x = .node (Tr.set f l (Nat.div k 2) x) v r := by
  show Bool.rec (motive := fun _ => Tr α) (.node l v (Tr.set f r (Nat.div k 2) x)) (.node (Tr.set f l (Nat.div k 2) x) v r) (Nat.beq (Nat.mod k 2) 0) = _
  rw [h]
theorem Tr.set_node_false (f : Nat) (l : Tr α) (v : Option α) (r : Tr α) (k : Nat) (x : α) (h : Nat.beq (Nat.mod k 2) 0 = false) : Tr.set (f + 1) (.node l v r) (k + 1) x = .node l v (Tr.set f r (Nat.div k 2) x) := by
  show Bool.rec (motive := fun _ => Tr α) (.node l v (Tr.set f r (Nat.div k 2) x)) (.node (Tr.set f l (Nat.div k 2) x) v r) (Nat.beq (Nat.mod k 2) 0) = _
  rw [h]

theorem half_lt (k : Nat) : k / 2 < k + 1 := by omega
theorem beq_half {k j : Nat} (h : k ≠ j) (e : Nat.beq (Nat.mod k 2) 0 = Nat.beq (Nat.mod j 2) 0) : Nat.div k 2 ≠ Nat.div j 2 := by
  have a : (Nat.beq (Nat.mod k 2) 0 = true) ↔ k % 2 = 0 := by rw [Nat.beq_eq]; rfl
  have b : (Nat.beq (Nat.mod j 2) 0 = true) ↔ j % 2 = 0 := by rw [Nat.beq_eq]; rfl
  have c : k % 2 = 0 ↔ j % 2 = 0 := by rw [← a, ← b, e]
  show k / 2 ≠ j / 2
  omega
theorem Tr.get_upd_same : ∀ (t : Tr α) (n : Nat) (x : Option α), t.get n ≠ none → (t.upd n x).get n = x
  | .leaf, n, x, h => absurd rfl h
  | .node l v r, 0, x, h => rfl
  | .node l v r, k + 1, x, h => by
    cases hb : Nat.beq (Nat.mod k 2) 0 with
    | true =>
      rw [Tr.get_true _ _ _ _ hb] at h
      rw [Tr.upd_true _ _ _ _ _ hb, Tr.get_true _ _ _ _ hb]
      exact l.get_upd_same _ _ h
    | false =>
      rw [Tr.get_false _ _ _ _ hb] at h
      rw [Tr.upd_false _ _ _ _ _ hb, Tr.get_false _ _ _ _ hb]
      exact r.get_upd_same _ _ h
theorem Tr.get_upd_other : ∀ (t : Tr α) (n m : Nat) (x : Option α), n ≠ m → (t.upd n x).get m = t.get m
  | .leaf, n, m, x, h => rfl
  | .node l v r, 0, 0, x, h => absurd rfl h
  | .node l v r, 0, j + 1, x, h => by
    rw [Tr.upd_zero]
    cases hj : Nat.beq (Nat.mod j 2) 0
    · rw [Tr.get_false _ _ _ _ hj, Tr.get_false _ _ _ _ hj]
    · rw [Tr.get_true _ _ _ _ hj, Tr.get_true _ _ _ _ hj]
  | .node l v r, k + 1, 0, x, h => by
    cases hb : Nat.beq (Nat.mod k 2) 0
    · rw [Tr.upd_false _ _ _ _ _ hb]; rfl
    · rw [Tr.upd_true _ _ _ _ _ hb]; rfl
  | .node l v r, k + 1, j + 1, x, h => by
    cases hb : Nat.beq (Nat.mod k 2) 0 <;> cases hj : Nat.beq (Nat.mod j 2) 0
    · rw [Tr.upd_false _ _ _ _ _ hb, Tr.get_false _ _ _ _ hj, Tr.get_false _ _ _ _ hj]
      exact r.get_upd_other _ _ _ (beq_half (by omega) (hb.trans hj.symm))
    · rw [Tr.upd_false _ _ _ _ _ hb, Tr.get_true _ _ _ _ hj, Tr.get_true _ _ _ _ hj]
    · rw [Tr.upd_true _ _ _ _ _ hb, Tr.get_false _ _ _ _ hj, Tr.get_false _ _ _ _ hj]
    · rw [Tr.upd_true _ _ _ _ _ hb, Tr.get_true _ _ _ _ hj, Tr.get_true _ _ _ _ hj]
      exact l.get_upd_other _ _ _ (beq_half (by omega) (hb.trans hj.symm))
theorem Tr.get_set_same : ∀ (f : Nat) (t : Tr α) (n : Nat) (x : α), n + 1 < 2 ^ f → (Tr.set f t n x).get n = some x
  | 0, t, n, x, h => by simp at h
  | f + 1, t, n, x, h => by
    have hh : ∀ k, n = k + 1 → Nat.div k 2 + 1 < 2 ^ f := fun k e => by
      show k / 2 + 1 < 2 ^ f
      rw [Nat.pow_succ] at h
      omega
    cases n with
    | zero => cases t <;> rfl
    | succ k =>
      cases hb : Nat.beq (Nat.mod k 2) 0 <;> cases t
      · rw [Tr.set_leaf_false _ _ _ hb, Tr.get_false _ _ _ _ hb]; exact Tr.get_set_same f _ _ _ (hh k rfl)
      · rw [Tr.set_node_false _ _ _ _ _ _ hb, Tr.get_false _ _ _ _ hb]; exact Tr.get_set_same f _ _ _ (hh k rfl)
      · rw [Tr.set_leaf_true _ _ _ hb, Tr.get_true _ _ _ _ hb]; exact Tr.get_set_same f _ _ _ (hh k rfl)
      · rw [Tr.set_node_true _ _ _ _ _ _ hb, Tr.get_true _ _ _ _ hb]; exact Tr.get_set_same f _ _ _ (hh k rfl)
theorem Tr.get_set_other : ∀ (f : Nat) (t : Tr α) (n m : Nat) (x : α), n ≠ m → (Tr.set f t n x).get m = t.get m
  | 0, t, n, m, x, h => rfl
  | f + 1, t, 0, 0, x, h => absurd rfl h
  | f + 1, .leaf, 0, j + 1, x, h => by
    rw [Tr.set_leaf_zero]
    cases hj : Nat.beq (Nat.mod j 2) 0
    · rw [Tr.get_false _ _ _ _ hj]; rfl
    · rw [Tr.get_true _ _ _ _ hj]; rfl
  | f + 1, .node l v r, 0, j + 1, x, h => by
    rw [Tr.set_node_zero]
    cases hj : Nat.beq (Nat.mod j 2) 0
    · rw [Tr.get_false _ _ _ _ hj, Tr.get_false _ _ _ _ hj]
    · rw [Tr.get_true _ _ _ _ hj, Tr.get_true _ _ _ _ hj]
  | f + 1, .leaf, k + 1, 0, x, h => by
    cases hb : Nat.beq (Nat.mod k 2) 0
    · rw [Tr.set_leaf_false _ _ _ hb]; rfl
    · rw [Tr.set_leaf_true _ _ _ hb]; rfl
  | f + 1, .node l v r, k + 1, 0, x, h => by
    cases hb : Nat.beq (Nat.mod k 2) 0
    · rw [Tr.set_node_false _ _ _ _ _ _ hb]; rfl
    · rw [Tr.set_node_true _ _ _ _ _ _ hb]; rfl
  | f + 1, .leaf, k + 1, j + 1, x, h => by
    cases hb : Nat.beq (Nat.mod k 2) 0 <;> cases hj : Nat.beq (Nat.mod j 2) 0
    · rw [Tr.set_leaf_false _ _ _ hb, Tr.get_false _ _ _ _ hj]; exact Tr.get_set_other f .leaf _ _ _ (beq_half (by omega) (hb.trans hj.symm))
    · rw [Tr.set_leaf_false _ _ _ hb, Tr.get_true _ _ _ _ hj]; rfl
    · rw [Tr.set_leaf_true _ _ _ hb, Tr.get_false _ _ _ _ hj]; rfl
    · rw [Tr.set_leaf_true _ _ _ hb, Tr.get_true _ _ _ _ hj]; exact Tr.get_set_other f .leaf _ _ _ (beq_half (by omega) (hb.trans hj.symm))
  | f + 1, .node l v r, k + 1, j + 1, x, h => by
    cases hb : Nat.beq (Nat.mod k 2) 0 <;> cases hj : Nat.beq (Nat.mod j 2) 0
    · rw [Tr.set_node_false _ _ _ _ _ _ hb, Tr.get_false _ _ _ _ hj, Tr.get_false _ _ _ _ hj]; exact Tr.get_set_other f r _ _ _ (beq_half (by omega) (hb.trans hj.symm))
    · rw [Tr.set_node_false _ _ _ _ _ _ hb, Tr.get_true _ _ _ _ hj, Tr.get_true _ _ _ _ hj]
    · rw [Tr.set_node_true _ _ _ _ _ _ hb, Tr.get_false _ _ _ _ hj, Tr.get_false _ _ _ _ hj]
    · rw [Tr.set_node_true _ _ _ _ _ _ hb, Tr.get_true _ _ _ _ hj, Tr.get_true _ _ _ _ hj]; exact Tr.get_set_other f l _ _ _ (beq_half (by omega) (hb.trans hj.symm))
/-- Whatever the fuel: what lies there afterwards is the new one or the old one. -/
theorem Tr.get_set_or : ∀ (f : Nat) (t : Tr α) (n : Nat) (x : α), (Tr.set f t n x).get n = some x ∨ (Tr.set f t n x).get n = t.get n
  | 0, t, n, x => .inr rfl
  | f + 1, .leaf, 0, x => .inl rfl
  | f + 1, .node l v r, 0, x => .inl rfl
  | f + 1, .leaf, k + 1, x => by
    cases hb : Nat.beq (Nat.mod k 2) 0
    · rw [Tr.set_leaf_false _ _ _ hb, Tr.get_false _ _ _ _ hb]; exact Tr.get_set_or f .leaf _ _
    · rw [Tr.set_leaf_true _ _ _ hb, Tr.get_true _ _ _ _ hb]; exact Tr.get_set_or f .leaf _ _
  | f + 1, .node l v r, k + 1, x => by
    cases hb : Nat.beq (Nat.mod k 2) 0
    · rw [Tr.set_node_false _ _ _ _ _ _ hb, Tr.get_false _ _ _ _ hb, Tr.get_false _ _ _ _ hb]; exact Tr.get_set_or f r _ _
    · rw [Tr.set_node_true _ _ _ _ _ _ hb, Tr.get_true _ _ _ _ hb, Tr.get_true _ _ _ _ hb]; exact Tr.get_set_or f l _ _

/-! ### Values -/
inductive AV where
  | v (x : Value)
  | ptr (b o : Nat)
  | sl (b o n c : Nat)
  | slu (b o n d : Nat)
  | agg (l : List AV)
  | tup (l : List AV)
  | fn (f : Fn) (first cap : List AV)
  | yld (b : Nat)
  | mp (b : Nat)
structure Env where
  blk : Nat → Option Nat
  cap : Nat → Nat
mutual
def den (σ : Env) : AV → Option Value
  | .v x => some x
  | .ptr b o => (σ.blk b).map fun B => .pointer (some ⟨B, o, none⟩)
  | .sl b o n c => (σ.blk b).map fun B => .slice (some ⟨B, o, none⟩) n c
  | .slu b o n d => (σ.blk b).map fun B => .slice (some ⟨B, o, none⟩) n (σ.cap b - d)
  | .agg l => (denL σ l).map fun vs => .agg vs.toArray
  | .tup l => (denL σ l).map fun vs => .tuple vs.toArray
  | .fn f l c => match denL σ l, denL σ c with
    | some x, some y => some (.func f x.toArray y.toArray)
    | _, _ => none
  | .yld b => (σ.blk b).map fun B => .func (.yield B) #[] #[]
  | .mp b => (σ.blk b).map fun B => .map (some B)
def denL (σ : Env) : List AV → Option (List Value)
  | [] => some []
  | a :: l => match den σ a, denL σ l with
    | some x, some y => some (x :: y)
    | _, _ => none
end
/-- The one environment knows all that the other one knows. -/
def Env.le (σ τ : Env) : Prop := ∀ b B, σ.blk b = some B → τ.blk b = some B ∧ τ.cap b = σ.cap b
theorem Env.le.refl (σ : Env) : σ.le σ := fun _ _ h => ⟨h, rfl⟩
theorem Env.le.trans {σ τ ρ : Env} (h : σ.le τ) (k : τ.le ρ) : σ.le ρ := fun b B e => by
  obtain ⟨h1, h2⟩ := h b B e
  obtain ⟨k1, k2⟩ := k b B h1
  exact ⟨k1, k2.trans h2⟩
mutual
theorem den_le {σ τ : Env} (h : σ.le τ) : ∀ (a : AV) (x : Value), den σ a = some x → den τ a = some x
  | .v y, x, e => e
  | .ptr b o, x, e => by
    simp only [den, Option.map_eq_some_iff] at e ⊢
    obtain ⟨B, e1, e2⟩ := e
    exact ⟨B, (h b B e1).1, e2⟩
  | .sl b o n c, x, e => by
    simp only [den, Option.map_eq_some_iff] at e ⊢
    obtain ⟨B, e1, e2⟩ := e
    exact ⟨B, (h b B e1).1, e2⟩
  | .slu b o n d, x, e => by
    simp only [den, Option.map_eq_some_iff] at e ⊢
    obtain ⟨B, e1, e2⟩ := e
    exact ⟨B, (h b B e1).1, by rw [(h b B e1).2]; exact e2⟩
  | .yld b, x, e => by
    simp only [den, Option.map_eq_some_iff] at e ⊢
    obtain ⟨B, e1, e2⟩ := e
    exact ⟨B, (h b B e1).1, e2⟩
  | .mp b, x, e => by
    simp only [den, Option.map_eq_some_iff] at e ⊢
    obtain ⟨B, e1, e2⟩ := e
    exact ⟨B, (h b B e1).1, e2⟩
  | .agg l, x, e => by
    simp only [den, Option.map_eq_some_iff] at e ⊢
    obtain ⟨B, e1, e2⟩ := e
    exact ⟨B, denL_le h l B e1, e2⟩
  | .tup l, x, e => by
    simp only [den, Option.map_eq_some_iff] at e ⊢
    obtain ⟨B, e1, e2⟩ := e
    exact ⟨B, denL_le h l B e1, e2⟩
  | .fn f l c, x, e => by
    simp only [den] at e ⊢
    cases h1 : denL σ l with
    | none => rw [h1] at e; cases e
    | some u => cases h2 : denL σ c with
      | none => rw [h1, h2] at e; cases e
      | some z =>
        rw [h1, h2] at e
        rw [denL_le h l u h1, denL_le h c z h2]
        exact e
theorem denL_le {σ τ : Env} (h : σ.le τ) : ∀ (l : List AV) (xs : List Value), denL σ l = some xs → denL τ l = some xs
  | [], xs, e => e
  | a :: l, xs, e => by
    simp only [denL] at e ⊢
    cases h1 : den σ a with
    | none => rw [h1] at e; cases e
    | some u => cases h2 : denL σ l with
      | none => rw [h1, h2] at e; cases e
      | some z =>
        rw [h1, h2] at e
        rw [den_le h a u h1, denL_le h l z h2]
        exact e
end

/-! ### Blocks -/
inductive AB where
  | cells (l : List AV) (t : TypeId)
  | row (l : List AV) (t : TypeId) (sz : Nat)
  | loop (st : LoopState) (pend : Option Code) (tm : Tr AV) (sz : Nat) (params : Array Tmp) (assign body : Code) (df : Nat)
  | defd (opened : Bool)
  | map (es : List (Value × Value × Nat)) (clock : Nat)
/-- The temporaries are as they are known. -/
def Tm (σ : Env) (tm : Tr AV) (sz : Nat) (tmps : Array Value) : Prop :=
  tmps.size = sz ∧ ∀ t a, tm.get t = some a → ∃ x, den σ a = some x ∧ t < sz ∧ tmps.getD t undef = x
def Blk (σ : Env) (b : Nat) : AB → Obj → Prop
  | .cells l t, o => ∃ vs, denL σ l = some vs ∧ o = .cells vs.toArray t (0, 0)
  | .row l t sz, o => ∃ vs rest, denL σ l = some vs ∧ o = .cells (vs ++ rest).toArray t (0, 0) ∧ (vs ++ rest).length = σ.cap b * sz
  | .loop st pend tm sz params assign body df, o => ∃ fn tmps D, Tm σ tm sz tmps ∧ σ.blk df = some D ∧ o = .loop { state := st, pending := pend, fn := fn, tmps := tmps, params := params, assign := assign, body := body, defers := D }
  | .defd true, o => o = .deferred (some [])
  | .defd false, o => o = .deferred none
  | .map es clock, o => o = .map (es.map fun e => { key := e.1, val := e.2.1, born := e.2.2 : MapEntry }).toArray clock
theorem Tm.le {σ τ : Env} (h : σ.le τ) {tm : Tr AV} {sz : Nat} {tmps : Array Value} (k : Tm σ tm sz tmps) : Tm τ tm sz tmps :=
  ⟨k.1, fun t a e => by obtain ⟨x, h1, h2⟩ := k.2 t a e; exact ⟨x, den_le h a x h1, h2⟩⟩
theorem Blk.le {σ τ : Env} (h : σ.le τ) {b : Nat} (hb : σ.blk b ≠ none) : ∀ {x : AB} {o : Obj}, Blk σ b x o → Blk τ b x o
  | .cells l t, o, k => by obtain ⟨vs, h1, h2⟩ := k; exact ⟨vs, denL_le h l vs h1, h2⟩
  | .row l t sz, o, k => by
    obtain ⟨vs, rest, h1, h2, h3⟩ := k
    cases e : σ.blk b with
    | none => exact absurd e hb
    | some B => exact ⟨vs, rest, denL_le h l vs h1, h2, by rw [(h b B e).2]; exact h3⟩
  | .loop st pend tm sz params assign body df, o, k => by
    obtain ⟨fn, tmps, D, h1, h2, h3⟩ := k
    exact ⟨fn, tmps, D, h1.le h, (h df D h2).1, h3⟩
  | .defd true, o, k => k
  | .defd false, o, k => k
  | .map es clock, o, k => k

/-! ### States -/
structure HS where
  n : Nat
  m : Nat
  H : Tr AB
def Sim (H : Tr AB) (σ : Env) (w : World) : Prop :=
  (∀ b x, H.get b = some x → ∃ B o, σ.blk b = some B ∧ w.heap[B]? = some o ∧ Blk σ b x o) ∧
  (∀ b c B, H.get b ≠ none → H.get c ≠ none → σ.blk b = some B → σ.blk c = some B → b = c)
structure Good (s : HS) : Prop where
  top : ∀ b, s.n ≤ b → s.H.get b = none
  low : s.m ≤ s.n
/-- What a part of a run has made of a world, in names from s.n up to s'.n; blocks with names from s'.m on may have been written. -/
structure Moved (s : HS) (σ : Env) (w : World) (s' : HS) (σ' : Env) (w' : World) : Prop where
  le : s.n ≤ s'.n
  mono : s'.m ≤ s.m
  env : ∀ b, ¬ (s.n ≤ b ∧ b < s'.n) → σ'.blk b = σ.blk b ∧ σ'.cap b = σ.cap b
  sim : Sim s'.H σ' w'
  top : ∀ b, s'.n ≤ b → s'.H.get b = none
  keep : ∀ b, b < s.n → b < s'.m → s'.H.get b = s.H.get b
  dom : ∀ b, b < s.n → s'.H.get b ≠ none → s.H.get b ≠ none
  frame : ∀ B, B < w.heap.size → (∀ b, s'.m ≤ b → s.H.get b ≠ none → σ.blk b ≠ some B) → w'.heap[B]? = w.heap[B]?
  size : w.heap.size ≤ w'.heap.size
  fresh : ∀ b B, s'.H.get b ≠ none → s'.m ≤ b → σ'.blk b = some B → B < w.heap.size → ∃ c, s'.m ≤ c ∧ s.H.get c ≠ none ∧ σ.blk c = some B
  os : w'.os = w.os
  tape : w'.tape = w.tape
  output : w'.output = w.output
theorem Moved.good {s s' : HS} {σ σ' : Env} {w w' : World} (h : Moved s σ w s' σ' w') (g : Good s) : Good s' :=
  ⟨h.top, Nat.le_trans h.mono (Nat.le_trans g.low h.le)⟩
theorem Moved.refl {s : HS} {σ : Env} {w : World} (g : Good s) (hs : Sim s.H σ w) : Moved s σ w s σ w :=
  { le := Nat.le_refl _, mono := Nat.le_refl _, env := fun _ _ => ⟨rfl, rfl⟩, sim := hs, top := g.top, keep := fun _ _ _ => rfl, dom := fun _ _ h => h, frame := fun _ _ _ => rfl, size := Nat.le_refl _,
    fresh := fun b B h1 h2 h3 _ => ⟨b, h2, h1, h3⟩, os := rfl, tape := rfl, output := rfl }
/-- Where no name of the new ones was known, all that was known stays. -/
theorem Moved.env_le {s s' : HS} {σ σ' : Env} {w w' : World} (h : Moved s σ w s' σ' w') (hf : ∀ b, s.n ≤ b → b < s'.n → σ.blk b = none) : σ.le σ' := fun b B e => by
  by_cases hb : s.n ≤ b ∧ b < s'.n
  · rw [hf b hb.1 hb.2] at e; cases e
  · exact ⟨(h.env b hb).1.trans e, (h.env b hb).2⟩
theorem Moved.trans {s s1 s2 : HS} {σ σ1 σ2 : Env} {w w1 w2 : World} (g : Good s) (h : Moved s σ w s1 σ1 w1) (k : Moved s1 σ1 w1 s2 σ2 w2) : Moved s σ w s2 σ2 w2 := by
  have hlow : s1.m ≤ s.n := Nat.le_trans h.mono g.low
  have old : ∀ b, b < s1.m → s1.H.get b ≠ none → s.H.get b ≠ none ∧ σ1.blk b = σ.blk b := fun b hb hd =>
    ⟨by rw [← h.keep b (by omega) hb]; exact hd, (h.env b (by omega)).1⟩
  refine { le := Nat.le_trans h.le k.le, mono := Nat.le_trans k.mono h.mono, env := ?_, sim := k.sim, top := k.top, keep := ?_, dom := ?_, frame := ?_, size := Nat.le_trans h.size k.size, fresh := ?_, os := k.os.trans h.os, tape := k.tape.trans h.tape, output := k.output.trans h.output }
  · intro b hb
    have hl := h.le
    have kl := k.le
    have e1 := h.env b (by omega)
    have e2 := k.env b (by omega)
    exact ⟨e2.1.trans e1.1, e2.2.trans e1.2⟩
  · intro b h1 h2
    have hl := h.le
    have km := k.mono
    rw [k.keep b (by omega) h2, h.keep b h1 (by omega)]
  · intro b h1 h2
    have hl := h.le
    exact h.dom b h1 (k.dom b (by omega) h2)
  · intro B hB hn
    have km := k.mono
    have e1 := h.frame B hB (fun b hb => hn b (by omega))
    rw [← e1]
    refine k.frame B (Nat.lt_of_lt_of_le hB h.size) (fun b hb hd he => ?_)
    by_cases hbm : s1.m ≤ b
    · obtain ⟨c, c1, c2, c3⟩ := h.fresh b B hd hbm he hB
      exact hn c (by omega) c2 c3
    · obtain ⟨o1, o2⟩ := old b (by omega) hd
      exact hn b hb o1 (o2 ▸ he)
  · intro b B h1 h2 h3 hB
    have km := k.mono
    obtain ⟨c, c1, c2, c3⟩ := k.fresh b B h1 h2 h3 (Nat.lt_of_lt_of_le hB h.size)
    by_cases hcm : s1.m ≤ c
    · obtain ⟨d, d1, d2, d3⟩ := h.fresh c B c2 hcm c3 hB
      exact ⟨d, by omega, d2, d3⟩
    · obtain ⟨o1, o2⟩ := old c (by omega) c2
      exact ⟨c, c1, o1, o2 ▸ c3⟩
end
end Go.Proofs.Ytchlehpjpgeejaa.Ev
