/- Operations on known values, and that a world does likewise: cells, loads, stores, new blocks. -/
import Derived.Test.YtchlehpjpgeejaaEc
namespace Go.Proofs.Ytchlehpjpgeejaa.Ev
set_option linter.unusedVariables false
set_option linter.unusedSimpArgs false
open Go
noncomputable section
variable {σ : Env} {P : Program} {w : World} {s s' : HS}

def AV.cells : AV → List AV
  | .agg l => l
  | .v x => match x with
    | .agg a => a.toList.map .v
    | y => [.v y]
  | x => [x]
theorem cells_den {a : AV} {x : Value} (h : den σ a = some x) : denL σ a.cells = some x.cells.toList := by
  have one : ∀ {a : AV} {x : Value}, den σ a = some x → x.cells = #[x] → denL σ [a] = some x.cells.toList := fun h e => by
    simp only [denL, h, e]
  cases a with
  | agg l =>
    simp only [den, Option.map_eq_some_iff] at h
    obtain ⟨vs, h1, rfl⟩ := h
    simpa [AV.cells, Value.cells] using h1
  | v y =>
    simp only [den] at h
    cases h
    cases x <;> first
      | exact denL_v _
      | exact one rfl rfl
  | ptr b o =>
    have h' := h
    simp only [den, Option.map_eq_some_iff] at h'
    obtain ⟨B, _, rfl⟩ := h'
    exact one h rfl
  | sl b o n c =>
    have h' := h
    simp only [den, Option.map_eq_some_iff] at h'
    obtain ⟨B, _, rfl⟩ := h'
    exact one h rfl
  | slu b o n d =>
    have h' := h
    simp only [den, Option.map_eq_some_iff] at h'
    obtain ⟨B, _, rfl⟩ := h'
    exact one h rfl
  | yld b =>
    have h' := h
    simp only [den, Option.map_eq_some_iff] at h'
    obtain ⟨B, _, rfl⟩ := h'
    exact one h rfl
  | mp b =>
    have h' := h
    simp only [den, Option.map_eq_some_iff] at h'
    obtain ⟨B, _, rfl⟩ := h'
    exact one h rfl
  | tup l =>
    have h' := h
    simp only [den, Option.map_eq_some_iff] at h'
    obtain ⟨B, _, rfl⟩ := h'
    exact one h rfl
  | fn f l c =>
    have h' := h
    simp only [den] at h'
    split at h'
    · cases h'
      exact one h rfl
    · cases h'
def AV.one : AV → Bool
  | .v x => x.oneCell'
  | .agg _ => false
  | .tup _ => false
  | _ => true
theorem one_den {a : AV} {x : Value} (h : den σ a = some x) (h1 : a.one = true) : x.oneCell' = true := by
  cases a with
  | v y => simp only [den] at h; cases h; exact h1
  | agg l => cases h1
  | tup l => cases h1
  | fn f l c =>
    simp only [den] at h
    split at h
    · cases h; rfl
    · cases h
  | _ =>
    simp only [den, Option.map_eq_some_iff] at h
    obtain ⟨B, _, rfl⟩ := h
    rfl
def allOne : List AV → Bool
  | [] => true
  | a :: l => match a.one with
    | true => allOne l
    | false => false
theorem allOne_den : ∀ {l : List AV} {xs : List Value}, denL σ l = some xs → allOne l = true → ∀ v ∈ xs, v.oneCell' = true
  | [], xs, h, _, v, hv => by simp [denL] at h; subst h; cases hv
  | a :: l, xs, h, h1, v, hv => by
    simp only [denL] at h
    cases e1 : den σ a with
    | none => rw [e1] at h; cases h
    | some u => cases e2 : denL σ l with
      | none => rw [e1, e2] at h; cases h
      | some z =>
        rw [e1, e2] at h
        cases h
        simp only [allOne] at h1
        cases ho : a.one with
        | false => rw [ho] at h1; cases h1
        | true =>
          rw [ho] at h1
          rcases List.mem_cons.1 hv with rfl | hv
          · exact one_den e1 ho
          · exact allOne_den e2 h1 v hv
mutual
def plain : AV → Option Value
  | .v x => some x
  | .agg l => (plainL l).map fun vs => .agg vs.toArray
  | .tup l => (plainL l).map fun vs => .tuple vs.toArray
  | _ => none
def plainL : List AV → Option (List Value)
  | [] => some []
  | a :: l => match plain a, plainL l with
    | some x, some y => some (x :: y)
    | _, _ => none
end
mutual
theorem plain_den : ∀ {a : AV} {x : Value}, plain a = some x → den σ a = some x
  | .v y, x, h => h
  | .agg l, x, h => by
    simp only [plain, Option.map_eq_some_iff] at h
    obtain ⟨vs, h1, rfl⟩ := h
    simp only [den, plainL_den h1, Option.map_some]
  | .tup l, x, h => by
    simp only [plain, Option.map_eq_some_iff] at h
    obtain ⟨vs, h1, rfl⟩ := h
    simp only [den, plainL_den h1, Option.map_some]
  | .ptr b o, x, h => by simp [plain] at h
  | .sl b o n c, x, h => by simp [plain] at h
  | .slu b o n d, x, h => by simp [plain] at h
  | .fn f l c, x, h => by simp [plain] at h
  | .yld b, x, h => by simp [plain] at h
  | .mp b, x, h => by simp [plain] at h
theorem plainL_den : ∀ {l : List AV} {xs : List Value}, plainL l = some xs → denL σ l = some xs
  | [], xs, h => h
  | a :: l, xs, h => by
    simp only [plainL] at h
    cases e1 : plain a with
    | none => rw [e1] at h; cases h
    | some u => cases e2 : plainL l with
      | none => rw [e1, e2] at h; cases h
      | some z =>
        rw [e1, e2] at h
        cases h
        simp only [denL, plain_den e1, plainL_den e2]
end

/-! ### Operands -/
def opd (tm : Tr AV) : Operand → Option AV
  | .tmp t => tm.get t
  | .const v => some (.v v)
  | .func f => some (.v (.func (.func f) #[] #[]))
  | .global _ => none
theorem opd_den {tm : Tr AV} {sz : Nat} {a : Act} (h : Tm σ tm sz a.tmps) {x : Operand} {v : AV} (e : opd tm x = some v) : den σ v = some (a.eval x) := by
  cases x with
  | tmp t =>
    obtain ⟨r, h1, _, h3⟩ := h.2 t v e
    rw [h1]
    exact congrArg some h3.symm
  | const c => simp [opd] at e; subst e; rfl
  | func f => simp [opd] at e; subst e; rfl
  | global g => simp [opd] at e
def opds (tm : Tr AV) : List Operand → Option (List AV)
  | [] => some []
  | x :: l => match opd tm x, opds tm l with
    | some a, some b => some (a :: b)
    | _, _ => none
theorem opds_den {tm : Tr AV} {sz : Nat} {a : Act} (h : Tm σ tm sz a.tmps) : ∀ {xs : List Operand} {l : List AV}, opds tm xs = some l → denL σ l = some (xs.map a.eval)
  | [], l, e => by simp [opds] at e; subst e; rfl
  | x :: xs, l, e => by
    simp only [opds] at e
    cases e1 : opd tm x with
    | none => rw [e1] at e; cases e
    | some u => cases e2 : opds tm xs with
      | none => rw [e1, e2] at e; cases e
      | some z =>
        rw [e1, e2] at e
        cases e
        simp only [denL, opd_den h e1, opds_den h e2, List.map_cons]

/-! ### Cells -/
def HS.cells (s : HS) (b : Nat) : Option (List AV) :=
  match s.H.get b with
  | some (.cells l _) => some l
  | some (.row l _ _) => some l
  | _ => none
theorem cells_real (hs : Sim s.H σ w) {b : Nat} {l : List AV} (h : s.cells b = some l) :
    ∃ B vs rest t, σ.blk b = some B ∧ denL σ l = some vs ∧ w.heap[B]? = some (.cells (vs ++ rest).toArray t (0, 0)) := by
  unfold HS.cells at h
  split at h
  · rename_i l' t e
    cases h
    obtain ⟨B, o, h1, h2, h3⟩ := hs.1 b _ e
    obtain ⟨vs, h4, rfl⟩ := h3
    exact ⟨B, vs, [], t, h1, h4, by simpa using h2⟩
  · rename_i l' t sz e
    cases h
    obtain ⟨B, o, h1, h2, h3⟩ := hs.1 b _ e
    obtain ⟨vs, rest, h4, rfl, _⟩ := h3
    exact ⟨B, vs, rest, t, h1, h4, h2⟩
  · cases h
def sub (l : List AV) (o n : Nat) : Option (List AV) :=
  match Nat.ble (o + n) l.length with
  | true => some ((l.drop o).take n)
  | false => none
theorem sub_den {l r : List AV} {vs : List Value} {o n : Nat} (h : denL σ l = some vs) (e : sub l o n = some r) : denL σ r = some ((vs.drop o).take n) ∧ o + n ≤ vs.length := by
  unfold sub at e
  split at e
  · rename_i hb
    cases e
    exact ⟨denL_take n (denL_drop o h), by rw [denL_len h]; exact Nat.le_of_ble_eq_true hb⟩
  · cases e
theorem drop_take_append {α : Type} {vs rest : List α} {o n : Nat} (h : o + n ≤ vs.length) : ((vs ++ rest).drop o).take n = (vs.drop o).take n := by
  rw [List.drop_append_of_le_length (by omega), List.take_append_of_le_length (by simp; omega)]
def loadL (P : Program) (l : List AV) (o : Nat) (t : TypeId) : Option AV :=
  match P.underlying t with
  | none => none
  | some d => match aggD d with
    | true => match P.info? t with
      | none => none
      | some i => match sub l o i.size with
        | some r => some (.agg r)
        | none => none
    | false => getL l o
def HS.load (P : Program) (s : HS) (b o : Nat) (t : TypeId) : Option AV :=
  match s.cells b with
  | none => none
  | some l => loadL P l o t
theorem loadL_sound {B o : Nat} {t tt : TypeId} {v : AV} {l : List AV} {vs rest : List Value} (h2 : denL σ l = some vs) (h3 : w.heap[B]? = some (.cells (vs ++ rest).toArray tt (0, 0))) (h : loadL P l o t = some v) :
    ∃ r, (loadVar t ⟨B, o, none⟩).run P w = .ok r w ∧ den σ v = some r := by
  unfold loadL at h
  split at h
  · cases h
  · rename_i d hd
    split at h
    · rename_i ha
      split at h
      · cases h
      · rename_i i hi
        split at h
        · rename_i r hr
          cases h
          obtain ⟨e1, e2⟩ := sub_den h2 hr
          refine ⟨.agg ((vs.drop o).take i.size).toArray, ?_, by simp only [den, e1, Option.map_some]⟩
          simp only [loadVar, Sem.run_bind, run_isAgg hd, ha, Result.andThen_ok, if_true, run_sizeOf hi]
          rw [run_loadCells h3 (by simp; omega), drop_take_append e2]
          rfl
        · cases h
    · rename_i ha
      obtain ⟨x, e1, e2⟩ := denL_getL h2 h
      refine ⟨x, ?_, e2⟩
      simp only [loadVar, Sem.run_bind, run_isAgg hd, ha, Result.andThen_ok, Bool.false_eq_true, if_false]
      exact run_load_at h3 (by rw [List.getElem?_append_left (List.getElem?_eq_some_iff.1 e1).1]; exact e1)
theorem load_sound (hs : Sim s.H σ w) {b o : Nat} {t : TypeId} {v : AV} (h : s.load P b o t = some v) :
    ∃ B r, σ.blk b = some B ∧ (loadVar t ⟨B, o, none⟩).run P w = .ok r w ∧ den σ v = some r := by
  unfold HS.load at h
  split at h
  · cases h
  · rename_i l hl
    obtain ⟨B, vs, rest, tt, h1, h2, h3⟩ := cells_real hs hl
    obtain ⟨r, q1, q2⟩ := loadL_sound (P := P) h2 h3 h
    exact ⟨B, r, h1, q1, q2⟩
def HS.store (s : HS) (b o : Nat) (cs : List AV) : Option HS :=
  match s.H.get b with
  | some (.cells l t) => match Nat.ble (o + cs.length) l.length with
    | true => some (s.upd b (.cells (splice l o cs) t))
    | false => none
  | some (.row l t sz) => match Nat.ble (o + cs.length) l.length with
    | true => some (s.upd b (.row (splice l o cs) t sz))
    | false => none
  | _ => none
theorem splice_append {α : Type} {l rest vs : List α} {k : Nat} (h : k + vs.length ≤ l.length) : splice (l ++ rest) k vs = splice l k vs ++ rest := by
  unfold splice
  rw [List.take_append_of_le_length (by omega), List.drop_append_of_le_length (by omega)]
  simp
theorem store_sound (g : Good s) (hs : Sim s.H σ w) {b o : Nat} {cs : List AV} {us : List Value} (h : s.store b o cs = some s') (hu : denL σ cs = some us) (h1 : allOne cs = true) :
    ∃ B w', σ.blk b = some B ∧ (storeCells ⟨B, o, none⟩ us).run P w = .ok () w' ∧ Moved s σ w s' σ w' := by
  have hlen := denL_len hu
  have hone := allOne_den hu h1
  unfold HS.store at h
  split at h
  · rename_i l t e
    split at h
    · rename_i hb
      cases h
      have hb' := Nat.le_of_ble_eq_true hb
      obtain ⟨B, ob, h2, h3, h4⟩ := hs.1 b _ e
      obtain ⟨vs, h5, rfl⟩ := h4
      have hl5 := denL_len h5
      refine ⟨B, _, h2, run_storeCells us 0 w vs h3 (by omega) hone, moved_upd g hs (by rw [e]; simp) h2 _ _ ⟨_, denL_splice o h5 hu, rfl⟩⟩
    · cases h
  · rename_i l t sz e
    split at h
    · rename_i hb
      cases h
      have hb' := Nat.le_of_ble_eq_true hb
      obtain ⟨B, ob, h2, h3, h4⟩ := hs.1 b _ e
      obtain ⟨vs, rest, h5, rfl, h6⟩ := h4
      have hl5 := denL_len h5
      refine ⟨B, _, h2, run_storeCells us 0 w (vs ++ rest) h3 (by simp; omega) hone, moved_upd g hs (by rw [e]; simp) h2 _ _ ⟨_, rest, denL_splice o h5 hu, ?_, ?_⟩⟩
      · rw [Nat.add_zero, splice_append (by omega)]
      · rw [← h6]
        simp [splice_len (show o + us.length ≤ vs.length by omega)]
    · cases h
  · cases h
end
end Go.Proofs.Ytchlehpjpgeejaa.Ev
