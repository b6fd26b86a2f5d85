import Derived.Test.YtldekgkjofgacaaGh
/- Calls of functions whose arguments name the caller's own blocks, told. -/
namespace Go.Proofs.Ytldekgkjofgacaa.Ev
set_option linter.unusedVariables false
set_option linter.unusedSimpArgs false
open Go
noncomputable section
variable {P : Program} {w0 : BaseW} {sz : Nat}
def callIs (D : List Oper) (T : Lit) (k szk nt : Nat) : Bool :=
  match callTo D T.fs.tm with
  | some (k', args) => andB (Nat.beq k k') (Nat.beq (args.length + (nt - args.length)) szk)
  | none => false
def callInit (D : List Oper) (T : Lit) : Option (Exit × FS) :=
  match callTo D T.fs.tm with
  | some (_, args) => some (.normal, ⟨initT 0 args .leaf, [], T.fs.s⟩)
  | none => none
def callRes (P : Program) (D : List Oper) (sz : Nat) (fn : Func) (T T2 : Lit) : Option (Exit × FS) :=
  match leaveF P fn T2.fs with
  | some (v, s2) => match putT T.fs.tm sz (dstO D) v with
    | some tm3 => some (.normal, ⟨tm3, T.df, s2⟩)
    | none => none
  | none => none
theorem goesL_callT {ι : Type} {D : List Oper} {T T1 : Lit} {T2 T3 : ι → Lit} {R : ι → Prop} {k szk : Nat} {fn : Func} {Q : Exit → Act → World → Prop} (hsz : Nat.ble sz 16000 = true)
    (hf : P.funcs[k]? = some fn) (hc : hasBody fn = true) (hnn : (fn.name == "runtime.NumGoroutine") = false) (h0 : callIs D T k szk fn.ntmps = true)
    (h1 : viewE (callInit D T) (T1.tms.map (·.1)) (T1.bs.map (·.1)) = some (.normal, T1.n, T1.df, T1.tms.map (fun q => some q.2), T1.bs.map (fun q => some q.2)))
    (hcall : ∀ (v : BaseW) (eb : Nat → Option Nat) (ec : Nat → Nat), Goes P szk (bodyC fn) T1 (bw v T.n eb ec) (BackQ szk T2 R (bw v T.n eb ec)))
    (h2 : ∀ i, R i → viewE (callRes P D sz fn T (T2 i)) ((T3 i).tms.map (·.1)) ((T3 i).bs.map (·.1)) = some (.normal, (T3 i).n, (T3 i).df, (T3 i).tms.map (fun q => some q.2), (T3 i).bs.map (fun q => some q.2)))
    (h3 : ∀ i, R i → GoesL P sz (D.drop 1) (T3 i) w0 Q) : GoesL P sz D T w0 Q := by
  obtain ⟨fs1, e1, q2, q3, q4, q5⟩ := viewE_some h1
  have hres : ∀ i, R i → ∃ v s2 tm3, leaveF P fn (T2 i).fs = some (v, s2) ∧ putT T.fs.tm sz (dstO D) v = some tm3 ∧ HoldsW ⟨tm3, T.df, s2⟩ (T3 i) := fun i hi => by
    obtain ⟨fs3, e3, p2, p3, p4, p5⟩ := viewE_some (h2 i hi)
    unfold callRes at e3
    split at e3
    · rename_i v s2 hv
      split at e3
      · rename_i tm3 hp
        cases e3
        exact ⟨v, s2, tm3, hv, hp, holdsW_P (holds_view p2 p3 p4 p5)⟩
      · cases e3
    · cases e3
  unfold callIs at h0
  unfold callInit at e1
  split at h0
  · rename_i k' args hto
    rw [hto] at e1
    simp only at e1
    cases e1
    unfold callTo at hto
    split at hto
    · rename_i o c g hop
      obtain ⟨eD, a1, a2, a3, a4⟩ := callOp_some hop
      split at hto
      · rename_i l hl
        split at hto
        · rename_i gv hg
          split at hto
          · rename_i k2 first cap ht
            cases hto
            obtain ⟨b1, b2⟩ := andB_eq h0
            have := Nat.eq_of_beq_eq_true b1
            subst this
            rw [a4] at hres
            rw [eD]
            haveI : DecidablePred R := fun i => Classical.propDecidable _
            refine goesL_call (T1 := T1) (T2 := T2) (T3 := T3) (R := R) (v := fun i => if h : R i then (hres i h).choose else .v undef) (s2 := fun i => if h : R i then (hres i h).choose_spec.choose else T.fs.s) (tm3 := fun i => if h : R i then (hres i h).choose_spec.choose_spec.choose else .leaf)
              hsz a2 a3 a1 hg ht hl hf hc hnn (Nat.eq_of_beq_eq_true b2) (holdsW_P (holds_view q2 q3 q4 q5)) hcall (fun i hi => ?_) (fun i hi => ?_) (fun i hi => ?_) h3
            · simp only [dif_pos hi]
              exact (hres i hi).choose_spec.choose_spec.choose_spec.1
            · simp only [dif_pos hi]
              exact (hres i hi).choose_spec.choose_spec.choose_spec.2.1
            · simp only [dif_pos hi]
              exact (hres i hi).choose_spec.choose_spec.choose_spec.2.2
          · cases hto
        · cases hto
      · cases hto
    · cases hto
  · cases h0
theorem goesL_toldC (hm : P.follows .mixedOrders = true) {O : OrcH} (hO : Known P (clsO O)) (k m : Nat) {D : List Oper} {T T1 : Lit} {e : Exit} {Q : Exit → Act → World → Prop} (hs : List Hint) {ps : List Prop} (hsz : Nat.ble sz 16000 = true) (hg : noG (D.take m) = true)
    (h : viewR (evH P O k w0.rd sz (regC (D.take m)) T.fs hs) (T1.tms.map (·.1)) (T1.bs.map (·.1)) = some (e, T1.n, T1.df, T1.tms.map (fun q => some q.2), T1.bs.map (fun q => some q.2), ps)) (hp : All ps) (h2 : GoesL P sz (D.drop m) T1 w0 Q) : GoesL P sz D T w0 Q :=
  goesL_app (List.take_append_drop m D).symm (goesL_told hm hO k hs hsz hg h hp h2)
theorem goesL_endQ {ι : Type} {D : List Oper} {T : Lit} {S : ι → Lit} {R : ι → Prop} {Q : Exit → Act → World → Prop} (i : ι) (hR : R i) (hn : isNilO D = true) (h : HoldsP T.fs (S i)) : GoesL P sz D T w0 (LandQ sz S R w0 Q) := by
  cases D with
  | nil => exact fun ops F n σ a w hW hro hN => .inl ⟨rfl, i, hR, σ, hN.litP h⟩
  | cons o l => cases hn
end
end Go.Proofs.Ytldekgkjofgacaa.Ev
