/- Runs of the small parts that operations are made of. -/
import Derived.Test.YtchlehpjpgeejaaEb
namespace Go.Proofs.Ytchlehpjpgeejaa.Ev
set_option linter.unusedVariables false
set_option linter.unusedSimpArgs false
open Go
noncomputable section
variable {σ : Env} {P : Program} {w : World}

theorem denL_append : ∀ {l m : List AV} {a b : List Value}, denL σ l = some a → denL σ m = some b → denL σ (l ++ m) = some (a ++ b)
  | [], m, a, b, h, k => by simp [denL] at h; subst h; exact k
  | x :: l, m, a, b, h, k => by
    simp only [denL] at h
    cases h1 : den σ x with
    | none => rw [h1] at h; cases h
    | some u => cases h2 : denL σ l with
      | none => rw [h1, h2] at h; cases h
      | some z =>
        rw [h1, h2] at h
        cases h
        simp only [List.cons_append, denL, h1, denL_append h2 k]
theorem denL_take : ∀ {l : List AV} {a : List Value} (k : Nat), denL σ l = some a → denL σ (l.take k) = some (a.take k)
  | [], a, k, h => by simp [denL] at h; subst h; simp [denL]
  | x :: l, a, 0, h => by simp [denL]
  | x :: l, a, k + 1, h => by
    simp only [denL] at h
    cases h1 : den σ x with
    | none => rw [h1] at h; cases h
    | some u => cases h2 : denL σ l with
      | none => rw [h1, h2] at h; cases h
      | some z =>
        rw [h1, h2] at h
        cases h
        simp only [List.take_succ_cons, denL, h1, denL_take k h2]
theorem denL_drop : ∀ {l : List AV} {a : List Value} (k : Nat), denL σ l = some a → denL σ (l.drop k) = some (a.drop k)
  | [], a, k, h => by simp [denL] at h; subst h; simp [denL]
  | x :: l, a, 0, h => by simpa using h
  | x :: l, a, k + 1, h => by
    simp only [denL] at h
    cases h1 : den σ x with
    | none => rw [h1] at h; cases h
    | some u => cases h2 : denL σ l with
      | none => rw [h1, h2] at h; cases h
      | some z =>
        rw [h1, h2] at h
        cases h
        simpa using denL_drop k h2
theorem denL_len : ∀ {l : List AV} {a : List Value}, denL σ l = some a → a.length = l.length
  | [], a, h => by simp [denL] at h; subst h; rfl
  | x :: l, a, h => by
    simp only [denL] at h
    cases h1 : den σ x with
    | none => rw [h1] at h; cases h
    | some u => cases h2 : denL σ l with
      | none => rw [h1, h2] at h; cases h
      | some z =>
        rw [h1, h2] at h
        cases h
        simp [denL_len h2]
theorem denL_get : ∀ {l : List AV} {a : List Value} {i : Nat} {x : AV}, denL σ l = some a → l[i]? = some x → ∃ v, a[i]? = some v ∧ den σ x = some v
  | [], a, i, x, h, k => by simp at k
  | y :: l, a, i, x, h, k => by
    simp only [denL] at h
    cases h1 : den σ y with
    | none => rw [h1] at h; cases h
    | some u => cases h2 : denL σ l with
      | none => rw [h1, h2] at h; cases h
      | some z =>
        rw [h1, h2] at h
        cases h
        cases i with
        | zero => simp at k; subst k; exact ⟨u, rfl, h1⟩
        | succ i => simpa using denL_get h2 (by simpa using k)
/-- What stands at a place of a list. -/
def getL {α : Type} (l : List α) : Nat → Option α :=
  List.rec (motive := fun _ => Nat → Option α) (fun _ => none) (fun x _ ih n => Nat.rec (motive := fun _ => Option α) (some x) (fun k _ => ih k) n) l
theorem getL_eq {α : Type} : ∀ (l : List α) (n : Nat), getL l n = l[n]?
  | [], n => by
    show (none : Option α) = _
    simp
  | x :: l, 0 => by
    show some x = _
    simp
  | x :: l, k + 1 => by
    show getL l k = _
    simp only [getL_eq l k, List.getElem?_cons_succ]
theorem denL_getL {l : List AV} {a : List Value} {i : Nat} {x : AV} (h : denL σ l = some a) (k : getL l i = some x) : ∃ v, a[i]? = some v ∧ den σ x = some v := denL_get h (getL_eq l i ▸ k)
theorem denL_v : ∀ xs : List Value, denL σ (xs.map .v) = some xs
  | [] => rfl
  | x :: xs => by simp only [List.map_cons, denL, den, denL_v xs]
def splice {α : Type} (l : List α) (k : Nat) (vs : List α) : List α := l.take k ++ (vs ++ l.drop (k + vs.length))
theorem denL_splice {l vs : List AV} {a us : List Value} (k : Nat) (h : denL σ l = some a) (h2 : denL σ vs = some us) : denL σ (splice l k vs) = some (splice a k us) := by
  unfold splice
  rw [← denL_len h2]
  exact denL_append (denL_take k h) (denL_append h2 (denL_drop _ h))
theorem splice_len {α : Type} {l vs : List α} {k : Nat} (h : k + vs.length ≤ l.length) : (splice l k vs).length = l.length := by
  unfold splice
  simp
  omega
theorem splice_nil {α : Type} (l : List α) (k : Nat) : splice l k [] = l := by simp [splice]
theorem splice_cons {α : Type} {l vs : List α} {v : α} {k : Nat} (h : k < l.length) : splice (l.set k v) (k + 1) vs = splice l k (v :: vs) := by
  unfold splice
  rw [List.take_set, List.drop_set]
  have e1 : (List.take (k + 1) l).set k v = List.take k l ++ [v] := by
    rw [List.take_succ_eq_append_getElem h, List.set_append_right _ _ (by simp; omega)]
    have : k - (List.take k l).length = 0 := by simp; omega
    rw [this]
    rfl
  rw [e1, if_pos (by omega)]
  simp [Nat.add_assoc, Nat.add_comm 1]

theorem add_at (g off j : Nat) : (⟨g, off, none⟩ : Addr).add j = ⟨g, off + j, none⟩ := by unfold Addr.add; split <;> simp_all
theorem cell_of {B o : Nat} {L : List Value} {t : TypeId} {fz : Nat × Nat} (h : w.heap[B]? = some (.cells L.toArray t fz)) : w.cell? ⟨B, o, none⟩ = L[o]? := by
  simp [World.cell?, h]
theorem free_of {B o : Nat} {L : List Value} {t : TypeId} (h : w.heap[B]? = some (.cells L.toArray t (0, 0))) : w.frozen? ⟨B, o, none⟩ = false := by
  simp [World.frozen?, h]
theorem run_load_at {B o : Nat} {L : List Value} {t : TypeId} {fz : Nat × Nat} {v : Value} (h : w.heap[B]? = some (.cells L.toArray t fz)) (hv : L[o]? = some v) : (load ⟨B, o, none⟩).run P w = .ok v w := by
  rw [run_load, cell_of h, hv]
theorem run_loadCellsFrom {B o : Nat} {L : List Value} {t : TypeId} {fz : Nat × Nat} (h : w.heap[B]? = some (.cells L.toArray t fz)) :
    ∀ (n i : Nat) (acc : Array Value), o + i + n ≤ L.length → (loadCellsFrom ⟨B, o, none⟩ i n acc).run P w = .ok (acc ++ ((L.drop (o + i)).take n).toArray) w
  | 0, i, acc, hn => by simp [loadCellsFrom]
  | n + 1, i, acc, hn => by
    have hlt : o + i < L.length := by omega
    simp only [loadCellsFrom, Sem.run_bind, add_at]
    rw [run_load_at h (List.getElem?_eq_getElem hlt)]
    simp only [Result.andThen_ok]
    rw [run_loadCellsFrom h n (i + 1) _ (by omega), List.drop_eq_getElem_cons hlt]
    congr 1
    simp [Nat.add_assoc]
theorem run_loadCells {B o n : Nat} {L : List Value} {t : TypeId} {fz : Nat × Nat} (h : w.heap[B]? = some (.cells L.toArray t fz)) (hn : o + n ≤ L.length) : (loadCells ⟨B, o, none⟩ n).run P w = .ok ((L.drop o).take n).toArray w := by
  unfold loadCells
  rw [run_loadCellsFrom h n 0 #[] (by omega)]
  simp
theorem setBlock_same {B : Nat} {o : Obj} (h : w.heap[B]? = some o) : setBlock w B o = w := by
  obtain ⟨h1, h2⟩ := Array.getElem?_eq_some_iff.1 h
  simp only [setBlock]
  have : w.heap.setIfInBounds B o = w.heap := by
    apply Array.ext_getElem?
    intro i
    by_cases e : B = i
    · subst e
      rw [Array.getElem?_setIfInBounds_self_of_lt h1, h]
    · rw [Array.getElem?_setIfInBounds_ne e]
  rw [this]
theorem setBlock_twice {B : Nat} {o p : Obj} : setBlock (setBlock w B o) B p = setBlock w B p := by
  simp only [setBlock]
  have : (w.heap.setIfInBounds B o).setIfInBounds B p = w.heap.setIfInBounds B p := by
    apply Array.ext_getElem?
    intro i
    by_cases e : B = i
    · subst e
      simp [Array.getElem?_setIfInBounds]
    · rw [Array.getElem?_setIfInBounds_ne e, Array.getElem?_setIfInBounds_ne e, Array.getElem?_setIfInBounds_ne e]
  rw [this]
theorem setCell_eq {B o : Nat} {L : List Value} {t : TypeId} {v : Value} (h : w.heap[B]? = some (.cells L.toArray t (0, 0))) : w.setCell ⟨B, o, none⟩ v = setBlock w B (.cells (L.set o v).toArray t (0, 0)) := by
  obtain ⟨h1, h2⟩ := Array.getElem?_eq_some_iff.1 h
  simp only [World.setCell, setBlock]
  congr 1
  apply Array.ext_getElem?
  intro i
  by_cases e : B = i
  · subst e
    rw [Array.getElem?_setIfInBounds_self_of_lt h1, Array.getElem?_modify]
    simp [h]
  · rw [Array.getElem?_setIfInBounds_ne e, Array.getElem?_modify]
    simp [e]
theorem run_storeCells {B o : Nat} {t : TypeId} : ∀ (vs : List Value) (i : Nat) (w : World) (L : List Value), w.heap[B]? = some (.cells L.toArray t (0, 0)) → o + i + vs.length ≤ L.length →
    (∀ v ∈ vs, v.oneCell' = true) → (storeCells ⟨B, o, none⟩ vs i).run P w = .ok () (setBlock w B (.cells (splice L (o + i) vs).toArray t (0, 0)))
  | [], i, w, L, h, hl, h1 => by
    rw [splice_nil, setBlock_same h]
    rfl
  | v :: vs, i, w, L, h, hl, h1 => by
    have hl' : o + i + (vs.length + 1) ≤ L.length := by simpa using hl
    have hlt : o + i < L.length := by omega
    simp only [storeCells, Sem.run_bind, add_at]
    rw [run_store _ _ _ _ _ (h1 v (by simp)), cell_of h, List.getElem?_eq_getElem hlt]
    simp only [free_of h, Bool.false_eq_true, if_false, Result.andThen_ok]
    rw [setCell_eq h]
    have hB := (Array.getElem?_eq_some_iff.1 h).1
    rw [run_storeCells vs (i + 1) _ (L.set (o + i) v) (get_setBlock_same hB) (by simp; omega) (fun u hu => h1 u (by simp [hu])), setBlock_twice, ← Nat.add_assoc, splice_cons hlt]
theorem run_typeInfo {t : TypeId} {i : TypeInfo} (h : P.info? t = some i) : (typeInfo t).run P w = .ok i w := by simp [typeInfo, h]
theorem run_sizeOf {t : TypeId} {i : TypeInfo} (h : P.info? t = some i) : (sizeOf t).run P w = .ok i.size w := by simp [sizeOf, run_typeInfo h]
theorem run_under {t : TypeId} {d : TypeDesc} (h : P.underlying t = some d) : (underlying t).run P w = .ok d w := by simp [underlying, h]
theorem run_zero {t : TypeId} {i : TypeInfo} {z : Value} (h : P.info? t = some i) (hz : i.zero = some z) : (zeroValue t).run P w = .ok z w := by simp [zeroValue, run_typeInfo h, hz]
def aggD : TypeDesc → Bool
  | .struct _ => true
  | .array _ _ => true
  | _ => false
theorem run_isAgg {t : TypeId} {d : TypeDesc} (h : P.underlying t = some d) : (isAgg t).run P w = .ok (aggD d) w := by
  unfold isAgg
  rw [Sem.run_bind, run_under h]
  cases d <;> rfl
theorem run_newRow (t : TypeId) (cs : Array Value) : (newRow t cs).run P w = .ok ⟨w.heap.size, 0, none⟩ (w.alloc (.cells cs t)) := by
  simp [newRow]
/-- A part of a run that asks nothing of the world. -/
def pureV (P : Program) {α : Type} : Sem α → Option α
  | .pure a => some a
  | .program k => pureV P (k P)
  | .mark _ k => pureV P k
  | _ => none
theorem run_pureV {α : Type} {x : Sem α} {a : α} (h : pureV P x = some a) : ∀ w, x.run P w = .ok a w := by
  induction x with
  | pure b => intro w; simp [pureV] at h; subst h; rfl
  | program k ih => intro w; exact ih P h w
  | mark m k ih => intro w; exact ih h w
  | _ => simp [pureV] at h
end
end Go.Proofs.Ytchlehpjpgeejaa.Ev
