/- A region whose order is open: each step is of one kind. -/
import Derived.Test.YtchlehpjpgeejaaEt
namespace Go.Proofs.Ytchlehpjpgeejaa.Ev
set_option linter.unusedVariables false
set_option linter.unusedSimpArgs false
open Go
noncomputable section
variable {P : Program} {s s' s1 s2 : HS} {rec : Rec}

/-- The operation says the same over each heap. -/
def Indep (P : Program) (o : Oper) : Prop := (∀ c, o.op ≠ .defer c) ∧ ∀ (tm : Tr AV) (s s' : HS) (v : AV), evO P tm s o = some (v, s') → ∀ s2, evO P tm s2 o = some (v, s2)
theorem indep_gen {o : Oper} (hd : ∀ c, o.op ≠ .defer c) (h : evD o.op = eGen) : Indep P o := ⟨hd, fun tm s s' v q s2 => by unfold evO at q ⊢; rw [h] at q ⊢; exact gen_any q s2⟩
theorem indep_of {o : Oper} {op : Op} (ho : o.op = op) (hd : ∀ c, op ≠ .defer c) (h : ∀ (tm : Tr AV) (s s' : HS) (v : AV), evD op P tm s o = some (v, s') → ∀ s2, evD op P tm s2 o = some (v, s2)) : Indep P o :=
  ⟨fun c => ho ▸ hd c, fun tm s s' v q s2 => by unfold evO at q ⊢; rw [ho] at q ⊢; exact h tm s s' v q s2⟩
theorem opt_none {x : Option AV} {y y2 : AV → Option (AV × HS)} : (match x with | some a => y a | none => none) = none → (∀ a, y a = none → y2 a = none) → (match x with | some a => y2 a | none => none) = none := fun h k => by
  cases x with
  | none => rfl
  | some a => exact k a h
theorem fin_none {x : Option AV} (h : fin s x = none) (s2 : HS) : fin s2 x = none := by
  cases x with
  | none => rfl
  | some a => cases h
def quietB : Builtin → Bool
  | .len => true
  | .min => true
  | .max => true
  | _ => false
def isQuiet : Op → Bool
  | .move _ => true
  | .assign _ => true
  | .pick _ _ _ => true
  | .fieldAddr _ _ _ => true
  | .indexAddr _ _ _ => true
  | .field _ _ _ => true
  | .index _ _ _ => true
  | .nilCheck _ => true
  | .extract _ _ => true
  | .binOp _ _ _ _ _ => true
  | .unOp _ _ _ => true
  | .convert _ _ _ => true
  | .makeFunc _ _ _ => true
  | .build _ _ => true
  | .slice _ _ _ _ _ => true
  | .call c => match c.callee with
    | .builtin b => quietB b
    | _ => false
  | _ => false
theorem quiet_ok {o : Oper} (h : isQuiet o.op = true) : Indep P o := by
  cases ho : o.op with
  | move x => exact indep_of ho (fun c q => by cases q) (fun tm s s' v q s2 => fin_any q s2)
  | assign x => exact indep_of ho (fun c q => by cases q) (fun tm s s' v q s2 => fin_any q s2)
  | pick c a b => exact indep_of ho (fun c q => by cases q) (fun tm s s' v q s2 => by
      simp only [evD, ePick] at q ⊢
      split at q
      · exact fin_any q s2
      · exact fin_any q s2
      · cases q)
  | fieldAddr t x f => exact indep_of ho (fun c q => by cases q) (fun tm s s' v q s2 => by
      simp only [evD, eFieldAddr] at q ⊢
      split at q
      · exact fin_any q s2
      · cases q)
  | indexAddr t x ix => exact indep_of ho (fun c q => by cases q) (fun tm s s' v q s2 => by
      simp only [evD, eIndexAddr] at q ⊢
      split at q
      · exact fin_any q s2
      · cases q)
  | field t x f => exact indep_of ho (fun c q => by cases q) (fun tm s s' v q s2 => by
      simp only [evD, eField] at q ⊢
      split at q
      · exact fin_any q s2
      · cases q)
  | index t x ix => exact indep_of ho (fun c q => by cases q) (fun tm s s' v q s2 => by
      simp only [evD, eIndex] at q ⊢
      cases hx : opd tm x with
      | none => rw [hx] at q; exact orGen_any q (fun _ => rfl) (fun _ _ e => by cases e) (fun _ _ e => gen_any e s2)
      | some a => cases hy : opd tm ix with
        | none => rw [hx, hy] at q; exact orGen_any q (fun _ => rfl) (fun _ _ e => by cases e) (fun _ _ e => gen_any e s2)
        | some b => rw [hx, hy] at q; exact orGen_any q (fun e => fin_none e s2) (fun _ _ e => fin_any e s2) (fun _ _ e => gen_any e s2))
  | nilCheck x => exact indep_of ho (fun c q => by cases q) (fun tm s s' v q s2 => by
      simp only [evD, eNil] at q ⊢
      split at q
      · split at q
        · cases q; rfl
        · cases q
      · cases q)
  | extract x i => exact indep_of ho (fun c q => by cases q) (fun tm s s' v q s2 => by
      simp only [evD, eExtract] at q ⊢
      cases hx : opd tm x with
      | none => rw [hx] at q; exact orGen_any q (fun _ => rfl) (fun _ _ e => by cases e) (fun _ _ e => gen_any e s2)
      | some a => rw [hx] at q; exact orGen_any q (fun e => fin_none e s2) (fun _ _ e => fin_any e s2) (fun _ _ e => gen_any e s2))
  | binOp op t x y yt => exact indep_of ho (fun c q => by cases q) (fun tm s s' v q s2 => by
      simp only [evD, eBin] at q ⊢
      have hv : ∀ {x : Option Value}, finV s x = none → finV s2 x = none := fun {x} e => by cases x with | none => rfl | some a => cases e
      have hw : ∀ {x : Option Value} {v : AV} {s' : HS}, finV s x = some (v, s') → finV s2 x = some (v, s2) := fun {x} {v} {s'} e => by cases x with | none => cases e | some a => cases e; rfl
      refine orGen_any q (fun e => ?_) (fun _ _ e => ?_) (fun _ _ e => gen_any e s2)
      · split at e
        · split at e
          · split at e
            · exact hv e
            · rfl
          · rfl
        · rfl
      · split at e
        · split at e
          · split at e
            · exact hw e
            · cases e
          · cases e
        · cases e)
  | unOp op t x => exact indep_gen (fun c q => by rw [ho] at q; cases q) (by rw [ho]; rfl)
  | convert a b x => exact indep_gen (fun c q => by rw [ho] at q; cases q) (by rw [ho]; rfl)
  | makeFunc f l c => exact indep_of ho (fun c q => by cases q) (fun tm s s' v q s2 => by
      simp only [evD, eFunc] at q ⊢
      split at q
      · cases q; rfl
      · cases q)
  | build t ps => exact indep_of ho (fun c q => by cases q) (fun tm s s' v q s2 => by
      simp only [evD, eBuild] at q ⊢
      have gn : gen P tm s o = none → gen P tm s2 o = none := fun e => by
        cases hg : gen P tm s2 o with
        | none => rfl
        | some r => obtain ⟨v', s''⟩ := r; rw [gen_any hg s] at e; cases e
      refine orGen_any q gn (fun _ _ e => gen_any e s2) (fun _ _ e => ?_)
      split at e
      · exact fin_any e s2
      · cases e)
  | slice t x lo hi mx => exact indep_of ho (fun c q => by cases q) (fun tm s s' v q s2 => by
      simp only [evD, eSlice] at q ⊢
      refine orGen_any q (fun e => ?_) (fun _ _ e => ?_) (fun _ _ e => gen_any e s2)
      · split at e
        · exact fin_none e s2
        · rfl
      · split at e
        · exact fin_any e s2
        · cases e)
  | call c =>
    rw [ho] at h
    simp only [isQuiet] at h
    cases hc : c.callee with
    | value f => rw [hc] at h; cases h
    | invoke r m => rw [hc] at h; cases h
    | builtin b =>
      rw [hc] at h
      simp only at h
      have none_of : ∀ {b : Builtin} {ts : List TypeId} {l : List AV} {s s2 : HS}, quietB b = true → evBlt P s b ts l = none → evBlt P s2 b ts l = none := fun {b} {ts} {l} {s} {s2} hb e => by
        cases b <;> first | (cases hb; done) | skip
        all_goals first
          | rfl
          | (simp only [evBlt] at e ⊢
             split at e
             · split at e
               · exact fin_none e s2
               · rfl
             · rfl)
      have some_of : ∀ {b : Builtin} {ts : List TypeId} {l : List AV} {s s' s2 : HS} {v : AV}, quietB b = true → evBlt P s b ts l = some (v, s') → evBlt P s2 b ts l = some (v, s2) := fun {b} {ts} {l} {s} {s'} {s2} {v} hb e => by
        cases b <;> first | (cases hb; done) | skip
        all_goals first
          | (cases e; done)
          | (simp only [evBlt] at e ⊢
             split at e
             · split at e
               · exact fin_any e s2
               · cases e
             · cases e)
      exact indep_of ho (fun c q => by cases q) (fun tm s s' v q s2 => by
        simp only [evD, eCall, hc] at q ⊢
        refine orGen_any q (fun e => ?_) (fun _ _ e => ?_) (fun _ _ e => gen_any e s2)
        · split at e
          · exact none_of h e
          · rfl
        · split at e
          · exact some_of h e
          · cases e)
  | _ => rw [ho] at h; cases h
end
end Go.Proofs.Ytchlehpjpgeejaa.Ev
