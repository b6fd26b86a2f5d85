/- The computing program, made quicker: its dispatches by the recursors, with closed arms. Made by gfast.py. -/
import Derived.Test.YtchlehpjpgeejaaFg
import Derived.CheckFast
namespace Go.Proofs.Ytchlehpjpgeejaa.Ev
set_option linter.unusedVariables false
set_option linter.unusedSimpArgs false
open Go
noncomputable section
variable {P : Program}

def vInt : Value → Option (IntKind × Int) := @Value.rec (fun _ => Option (IntKind × Int)) (fun _ => PUnit) (fun _ => PUnit)
  (fun _ => none) (fun a0 a1 => some (a0, a1)) (fun _ _ => none) (fun _ _ _ => none) (fun _ => none) (fun _ => none) (fun _ _ _ => none) (fun _ => none) (fun _ => none) (fun _ _ _ _ _ => none) (none) (fun _ _ _ => none) (none) (fun _ _ => none) (fun _ _ => none)
  (fun _ _ => PUnit.unit) PUnit.unit (fun _ _ _ _ => PUnit.unit)
def vBool : Value → Option Bool := @Value.rec (fun _ => Option Bool) (fun _ => PUnit) (fun _ => PUnit)
  (fun a0 => some a0) (fun _ _ => none) (fun _ _ => none) (fun _ _ _ => none) (fun _ => none) (fun _ => none) (fun _ _ _ => none) (fun _ => none) (fun _ => none) (fun _ _ _ _ _ => none) (none) (fun _ _ _ => none) (none) (fun _ _ => none) (fun _ _ => none)
  (fun _ _ => PUnit.unit) PUnit.unit (fun _ _ _ _ => PUnit.unit)
def aInt : AV → Option (IntKind × Int) := @AV.rec (fun _ => Option (IntKind × Int)) (fun _ => PUnit)
  (fun a0 => vInt a0) (fun _ _ => none) (fun _ _ _ _ => none) (fun _ _ _ _ => none) (fun _ _ => none) (fun _ _ => none) (fun _ _ _ _ _ => none) (fun _ => none) (fun _ => none)
  PUnit.unit (fun _ _ _ _ => PUnit.unit)
def aBool : AV → Option Bool := @AV.rec (fun _ => Option Bool) (fun _ => PUnit)
  (fun a0 => vBool a0) (fun _ _ => none) (fun _ _ _ _ => none) (fun _ _ _ _ => none) (fun _ _ => none) (fun _ _ => none) (fun _ _ _ _ _ => none) (fun _ => none) (fun _ => none)
  PUnit.unit (fun _ _ _ _ => PUnit.unit)
def aPtr : AV → Option (Nat × Nat) := @AV.rec (fun _ => Option (Nat × Nat)) (fun _ => PUnit)
  (fun _ => none) (fun a0 a1 => some (a0, a1)) (fun _ _ _ _ => none) (fun _ _ _ _ => none) (fun _ _ => none) (fun _ _ => none) (fun _ _ _ _ _ => none) (fun _ => none) (fun _ => none)
  PUnit.unit (fun _ _ _ _ => PUnit.unit)
def binIR : BinOp → IntKind → Int → Int → Option Value := @BinOp.rec (fun _ => IntKind → Int → Int → Option Value)
  (fun k a b => some (.int k (wrapI k (Int.add a b))))
  (fun k a b => some (.int k (wrapI k (Int.sub a b))))
  (fun k a b => some (.int k (wrapI k (Int.mul a b))))
  (fun _ _ _ => none)
  (fun _ _ _ => none)
  (fun _ _ _ => none)
  (fun _ _ _ => none)
  (fun _ _ _ => none)
  (fun _ _ _ => none)
  (fun _ _ _ => none)
  (fun _ _ _ => none)
  (fun k a b => some (.bool (eqI a b)))
  (fun k a b => some (.bool (not (eqI a b))))
  (fun k a b => some (.bool (ltI a b)))
  (fun k a b => some (.bool (not (ltI b a))))
  (fun k a b => some (.bool (ltI b a)))
  (fun k a b => some (.bool (not (ltI a b))))
theorem binIR_eq (op : BinOp) (k : IntKind) (a b : Int) : binIR op k a b = binI op k a b := by cases op <;> rfl
def sameKindR : IntKind → IntKind → Bool := @IntKind.rec (fun _ => IntKind → Bool) (fun _ => false) (fun _ => false) (fun k => @IntKind.rec (fun _ => Bool) false false true false false false false false k) (fun k => @IntKind.rec (fun _ => Bool) false false false true false false false false k) (fun k => @IntKind.rec (fun _ => Bool) false false false false true false false false k) (fun _ => false) (fun _ => false) (fun k => @IntKind.rec (fun _ => Bool) false false false false false false false true k)
theorem sameKindR_eq (k k2 : IntKind) : sameKindR k k2 = sameKind k k2 := by cases k <;> cases k2 <;> rfl
def orGenR (x y : Option (AV × HS)) : Option (AV × HS) := Option.rec (motive := fun _ => Option (AV × HS)) y (fun r => some r) x
theorem orGenR_eq (x y : Option (AV × HS)) : orGenR x y = orGen x y := by cases x <;> rfl
def bin4 (s : HS) (v : Option Value) : Option (AV × HS) := Option.rec (motive := fun _ => Option (AV × HS)) none (fun v => some (.v v, s)) v
def bin3 (op : BinOp) (s : HS) (k : IntKind) (a : Int) (q : IntKind × Int) : Option (AV × HS) :=
  Prod.rec (motive := fun _ => Option (AV × HS)) (fun k2 b => Bool.rec (motive := fun _ => Option (AV × HS)) none (bin4 s (binIR op k a b)) (sameKindR k k2)) q
def bin2 (op : BinOp) (s : HS) (y : Option AV) (q : IntKind × Int) : Option (AV × HS) :=
  Prod.rec (motive := fun _ => Option (AV × HS)) (fun k a => Option.rec (motive := fun _ => Option (AV × HS)) none (bin3 op s k a) (Option.rec (motive := fun _ => Option (IntKind × Int)) none aInt y)) q
def eBinR (op : BinOp) (t : TypeId) (x y : Operand) : EvT := fun P tm s o =>
  orGenR (Option.rec (motive := fun _ => Option (AV × HS)) none (bin2 op s (opd tm y)) (Option.rec (motive := fun _ => Option (IntKind × Int)) none aInt (opd tm x))) (gen P tm s o)
theorem eBinR_eq (op : BinOp) (t : TypeId) (x y : Operand) : eBinR op t x y = eBin op t x y := by
  funext P tm s o
  unfold eBinR eBin
  rw [orGenR_eq]
  congr 1
  cases hx : opd tm x with
  | none => rfl
  | some a =>
    cases a with
    | v u =>
      cases u with
      | int k n =>
        cases hy : opd tm y with
        | none => rfl
        | some b =>
          cases b with
          | v u2 =>
            cases u2 with
            | int k2 n2 =>
              show Bool.rec (motive := fun _ => Option (AV × HS)) none (bin4 s (binIR op k n n2)) (sameKindR k k2) = _
              rw [sameKindR_eq, binIR_eq]
              simp only
              cases sameKind k k2 with
              | false => rfl
              | true =>
                simp only
                cases binI op k n n2 <;> rfl
            | _ => rfl
          | _ => rfl
      | _ => rfl
    | _ => rfl
def ePickR (c a b : Operand) : EvT := fun _ tm s _ =>
  Option.rec (motive := fun _ => Option (AV × HS)) none (fun q => Bool.rec (motive := fun _ => Option (AV × HS)) (fin s (opd tm b)) (fin s (opd tm a)) q) (Option.rec (motive := fun _ => Option Bool) none aBool (opd tm c))
theorem ePickR_eq (c a b : Operand) : ePickR c a b = ePick c a b := by
  funext P tm s o
  unfold ePickR ePick
  cases hx : opd tm c with
  | none => rfl
  | some x =>
    cases x with
    | v u =>
      cases u with
      | bool q => cases q <;> rfl
      | _ => rfl
    | _ => rfl
def eLoadR (t : TypeId) (x : Operand) : EvT := fun P tm s _ =>
  Option.rec (motive := fun _ => Option (AV × HS)) none (fun q => Prod.rec (motive := fun _ => Option (AV × HS)) (fun b off => fin s (s.load P b off t)) q) (Option.rec (motive := fun _ => Option (Nat × Nat)) none aPtr (opd tm x))
theorem eLoadR_eq (t : TypeId) (x : Operand) : eLoadR t x = eLoad t x := by
  funext P tm s o
  unfold eLoadR eLoad
  cases hx : opd tm x with
  | none => rfl
  | some a => cases a <;> rfl
def evDR : Op → EvT := @Op.rec (fun _ => EvT)
  (fun a0 => eMove a0)
  (fun a0 => eMove a0)
  (fun a0 a1 a2 => ePickR a0 a1 a2)
  (fun a0 => eAlloc a0)
  (fun a0 a1 => eBox a0 a1)
  (fun a0 a1 => eBuild a0 a1)
  (fun a0 a1 a2 => eBuildSlice a0 a1 a2)
  (fun _ _ _ _ => eGen)
  (fun a0 a1 => eLoadR a0 a1)
  (fun a0 a1 a2 => eStore a0 a1 a2)
  (fun _ => eGen)
  (fun _ => eGen)
  (fun a0 => eNil a0)
  (fun a0 a1 a2 a3 _ => eBinR a0 a1 a2 a3)
  (fun _ _ _ => eGen)
  (fun _ _ _ => eGen)
  (fun _ _ => eGen)
  (fun _ _ => eGen)
  (fun a0 a1 a2 => eFunc a0 a1 a2)
  (fun _ _ => eGen)
  (fun _ _ => eGen)
  (fun a0 a1 a2 => eMakeSlice a0 a1 a2)
  (fun a0 a1 a2 a3 a4 => eSlice a0 a1 a2 a3 a4)
  (fun a0 a1 a2 => eFieldAddr a0 a1 a2)
  (fun a0 a1 a2 => eField a0 a1 a2)
  (fun a0 a1 a2 => eIndexAddr a0 a1 a2)
  (fun a0 a1 a2 => eIndex a0 a1 a2)
  (fun _ _ _ _ => eGen)
  (fun _ _ _ _ => eGen)
  (fun _ _ _ => eGen)
  (fun _ _ _ _ => eGen)
  (fun _ _ => eGen)
  (fun _ _ => eGen)
  (fun _ => eGen)
  (fun _ _ _ _ => eGen)
  (fun a0 a1 => eExtract a0 a1)
  (fun a0 => eCall a0)
  (fun _ => eGen)
  (fun _ => eGen)
  (fun _ => eGen)
  (fun _ _ => eGen)
  (fun _ _ _ => eGen)
  (fun _ _ => eGen)
theorem evDR_eq : evDR = evD := by
  funext op
  cases op with
  | pick c a b => exact ePickR_eq c a b
  | load t x => exact eLoadR_eq t x
  | binOp op t x y u => exact eBinR_eq op t x y
  | _ => rfl
def evOR (P : Program) (tm : Tr AV) (s : HS) (o : Oper) : Option (AV × HS) := evDR o.op P tm s o
theorem evOR_eq : evOR = evO := by
  funext P tm s o
  unfold evOR evO
  rw [evDR_eq]
def wantOfR (want : Bool) (x : Option AV) : Option Bool := Option.rec (motive := fun _ => Option Bool) (wantOf want x) (fun q => some (wantB q want)) (Option.rec (motive := fun _ => Option Bool) none aBool x)
theorem wantOfR_eq : wantOfR = wantOf := by
  funext want x
  cases x with
  | none => rfl
  | some a =>
    cases a with
    | v u => cases u <;> rfl
    | _ => rfl
def wantG (tm : Tr AV) (ops : List Oper) (g : Nat × Bool) : Option Bool := Prod.rec (motive := fun _ => Option Bool) (fun j want => Option.rec (motive := fun _ => Option Bool) (some false) (fun t => wantOfR want (tm.get t)) (dstAt ops j)) g
def wantedR (tm : Tr AV) (ops : List Oper) (o : Oper) : Option Bool := Option.rec (motive := fun _ => Option Bool) (some true) (wantG tm ops) o.guard
theorem wantedR_eq : wantedR = wantedA := by
  funext tm ops o
  unfold wantedR wantedA
  cases o.guard with
  | none => rfl
  | some q =>
    obtain ⟨j, w⟩ := q
    show Option.rec (motive := fun _ => Option Bool) (some false) (fun t => wantOfR w (tm.get t)) (dstAt ops j) = _
    rw [wantOfR_eq]
    simp only
    cases dstAt ops j <;> rfl
def putTR (tm : Tr AV) (sz : Nat) (d : Option Nat) (v : AV) : Option (Tr AV) :=
  Option.rec (motive := fun _ => Option (Tr AV)) (some tm) (fun t => Bool.rec (motive := fun _ => Option (Tr AV)) (some (Tr.set 14 tm t v)) none (Nat.ble sz t)) d
theorem putTR_eq : putTR = putT := by
  funext tm sz d v
  unfold putTR putT
  cases d with
  | none => rfl
  | some t =>
    simp only
    cases Nat.ble sz t <;> rfl
def e1PlainR : EvR := fun _ P tm s o => evOR P tm s o
theorem e1PlainR_eq : e1PlainR = e1Plain := by
  funext r P tm s o
  unfold e1PlainR e1Plain
  rw [evOR_eq]
def e1CallR (c : Call) : EvR := fun rec P tm s o => Callee.rec (motive := fun _ => Option (AV × HS)) (fun f => e1Go (opd tm f) (opds tm c.args.toList) rec P s) (fun _ _ => none) (fun _ => evOR P tm s o) c.callee
theorem e1CallR_eq (c : Call) : e1CallR c = e1Call c := by
  funext r P tm s o
  unfold e1CallR e1Call
  rw [evOR_eq]
  cases c.callee <;> rfl
def e1DR : Op → EvR := @Op.rec (fun _ => EvR)
  (fun _ => e1PlainR)
  (fun _ => e1PlainR)
  (fun _ _ _ => e1PlainR)
  (fun _ => e1PlainR)
  (fun _ _ => e1PlainR)
  (fun _ _ => e1PlainR)
  (fun _ _ _ => e1PlainR)
  (fun _ _ _ _ => e1PlainR)
  (fun _ _ => e1PlainR)
  (fun _ _ _ => e1PlainR)
  (fun _ => e1PlainR)
  (fun _ => e1PlainR)
  (fun _ => e1PlainR)
  (fun _ _ _ _ _ => e1PlainR)
  (fun _ _ _ => e1PlainR)
  (fun _ _ _ => e1PlainR)
  (fun _ _ => e1PlainR)
  (fun _ _ => e1PlainR)
  (fun _ _ _ => e1PlainR)
  (fun _ _ => e1PlainR)
  (fun _ _ => e1PlainR)
  (fun _ _ _ => e1PlainR)
  (fun _ _ _ _ _ => e1PlainR)
  (fun _ _ _ => e1PlainR)
  (fun _ _ _ => e1PlainR)
  (fun _ _ _ => e1PlainR)
  (fun _ _ _ => e1PlainR)
  (fun _ _ _ _ => e1PlainR)
  (fun _ _ _ _ => e1PlainR)
  (fun _ _ _ => e1PlainR)
  (fun _ _ _ _ => e1PlainR)
  (fun _ _ => e1PlainR)
  (fun _ _ => e1PlainR)
  (fun _ => e1PlainR)
  (fun _ _ _ _ => e1PlainR)
  (fun _ _ => e1PlainR)
  (fun a0 => e1CallR a0)
  (fun _ => e1Not)
  (fun _ => e1Not)
  (fun _ => e1PlainR)
  (fun _ _ => e1PlainR)
  (fun _ _ _ => e1PlainR)
  (fun _ _ => e1PlainR)
theorem e1DR_eq : e1DR = e1D := by
  funext op
  cases op with
  | call c => exact e1CallR_eq c
  | defer c => rfl
  | go c => rfl
  | _ => exact e1PlainR_eq
def ev1R (rec : Rec) (P : Program) (tm : Tr AV) (s : HS) (o : Oper) : Option (AV × HS) := e1DR o.op rec P tm s o
theorem ev1R_eq : ev1R = ev1 := by
  funext r P tm s o
  unfold ev1R ev1
  rw [e1DR_eq]
def evOpsR (rec : Rec) (P : Program) (sz : Nat) (ops l : List Oper) : Tr AV → HS → Option (Tr AV × HS) :=
  List.rec (motive := fun _ => Tr AV → HS → Option (Tr AV × HS)) (fun tm s => some (tm, s)) (fun o _ ih tm s =>
    Option.rec (motive := fun _ => Option (Tr AV × HS)) none (fun b => Bool.rec (motive := fun _ => Option (Tr AV × HS))
      (Option.rec (motive := fun _ => Option (Tr AV × HS)) none (fun tm' => ih tm' s) (putTR tm sz o.dst (.v undef)))
      (Option.rec (motive := fun _ => Option (Tr AV × HS)) none (fun r => Prod.rec (motive := fun _ => Option (Tr AV × HS)) (fun v s' => Option.rec (motive := fun _ => Option (Tr AV × HS)) none (fun tm' => ih tm' s') (putTR tm sz o.dst v)) r) (ev1R rec P tm s o)) b)
      (wantedR tm ops o)) l
theorem evOpsR_eq {rec : Rec} {sz : Nat} {ops : List Oper} : ∀ (l : List Oper) (tm : Tr AV) (s : HS), evOpsR rec P sz ops l tm s = evOps rec P sz ops l tm s
  | [], tm, s => rfl
  | o :: l, tm, s => by
    show Option.rec (motive := fun _ => Option (Tr AV × HS)) none (fun b => Bool.rec (motive := fun _ => Option (Tr AV × HS))
      (Option.rec (motive := fun _ => Option (Tr AV × HS)) none (fun tm' => evOpsR rec P sz ops l tm' s) (putTR tm sz o.dst (.v undef)))
      (Option.rec (motive := fun _ => Option (Tr AV × HS)) none (fun r => Prod.rec (motive := fun _ => Option (Tr AV × HS)) (fun v s' => Option.rec (motive := fun _ => Option (Tr AV × HS)) none (fun tm' => evOpsR rec P sz ops l tm' s') (putTR tm sz o.dst v)) r) (ev1R rec P tm s o)) b)
      (wantedR tm ops o) = _
    unfold evOps
    rw [wantedR_eq, putTR_eq, ev1R_eq]
    cases wantedA tm ops o with
    | none => rfl
    | some b =>
      cases b with
      | false =>
        simp only
        cases putT tm sz o.dst (.v undef) with
        | none => rfl
        | some tm' => exact evOpsR_eq l tm' s
      | true =>
        simp only
        cases ev1 rec P tm s o with
        | none => rfl
        | some r =>
          obtain ⟨v, s'⟩ := r
          simp only
          cases putT tm sz o.dst v with
          | none => rfl
          | some tm' => exact evOpsR_eq l tm' s'

/-! ### Regions whose order is open -/
def putDR (sz : Nat) (o : Oper) (v : AV) (tm : Tr AV) (f : Tr AV → DS) : Option DS := Option.rec (motive := fun _ => Option DS) none (fun tm' => some (f tm')) (putTR tm sz o.dst v)
def dQuietR : DT := fun rec P sz i p d o => DS.rec (motive := fun _ => Option DS) (fun tm s base n0 cr imp calls bars loads stores =>
  Option.rec (motive := fun _ => Option DS) none (fun r => Prod.rec (motive := fun _ => Option DS) (fun v _ => putDR sz o v tm (fun tm' => ⟨tm', s, base, n0, cr, imp, calls, bars, loads, stores⟩)) r) (evOR P tm s o)) d
theorem dQuietR_eq : dQuietR = dQuiet := by
  funext rec P sz i p d o
  obtain ⟨tm, s, base, n0, cr, imp, calls, bars, loads, stores⟩ := d
  show Option.rec (motive := fun _ => Option DS) none (fun r => Prod.rec (motive := fun _ => Option DS) (fun v _ => putDR sz o v tm (fun tm' => ⟨tm', s, base, n0, cr, imp, calls, bars, loads, stores⟩)) r) (evOR P tm s o) = _
  unfold dQuiet
  rw [evOR_eq]
  simp only
  cases evO P tm s o with
  | none => rfl
  | some r =>
    obtain ⟨v, s'⟩ := r
    simp only
    unfold putDR putD
    rw [putTR_eq]
    simp only
    cases putT tm sz o.dst v <;> rfl
def dBltR : Builtin → DT := @Builtin.rec (fun _ => DT) dCall dCall dCall dCall dCall dCall dCall dCall dQuietR dCall dQuietR dQuietR dCall dCall dCall dCall dCall dCall dCall dCall dCall dCall dCall dCall dCall dCall
theorem dBltR_eq : dBltR = dBlt := by
  funext b
  cases b <;> first | rfl | exact dQuietR_eq
def dCalleeR : Callee → DT := @Callee.rec (fun _ => DT) (fun _ => dCall) (fun _ _ => dCall) dBltR
theorem dCalleeR_eq : dCalleeR = dCallee := by
  funext c
  cases c with
  | builtin b => show dBltR b = dBlt b; rw [dBltR_eq]
  | _ => rfl
def dCallR (c : Call) : DT := dCalleeR c.callee
def dDR : Op → DT := @Op.rec (fun _ => DT)
  (fun _ => dQuietR)
  (fun _ => dQuietR)
  (fun _ _ _ => dQuietR)
  (fun _ => dMake)
  (fun _ _ => dMake)
  (fun _ _ => dQuietR)
  (fun _ _ _ => dMake)
  (fun _ _ _ _ => dCall)
  (fun a0 a1 => dLoad a0 a1)
  (fun a0 a1 a2 => dStore a0 a1 a2)
  (fun _ => dCall)
  (fun _ => dCall)
  (fun _ => dQuietR)
  (fun _ _ _ _ _ => dQuietR)
  (fun _ _ _ => dQuietR)
  (fun _ _ _ => dQuietR)
  (fun _ _ => dCall)
  (fun _ _ => dCall)
  (fun _ _ _ => dQuietR)
  (fun _ _ => dCall)
  (fun _ _ => dCall)
  (fun _ _ _ => dMake)
  (fun _ _ _ _ _ => dQuietR)
  (fun _ _ _ => dQuietR)
  (fun _ _ _ => dQuietR)
  (fun _ _ _ => dQuietR)
  (fun _ _ _ => dQuietR)
  (fun _ _ _ _ => dCall)
  (fun _ _ _ _ => dCall)
  (fun _ _ _ => dCall)
  (fun _ _ _ _ => dCall)
  (fun _ _ => dCall)
  (fun _ _ => dCall)
  (fun _ => dCall)
  (fun _ _ _ _ => dCall)
  (fun _ _ => dQuietR)
  (fun a0 => dCallR a0)
  (fun _ => dCall)
  (fun _ => dCall)
  (fun _ => dCall)
  (fun _ _ => dCall)
  (fun _ _ _ => dCall)
  (fun _ _ => dCall)
theorem dDR_eq : dDR = dD := by
  funext op
  cases op with
  | call c => show dCalleeR c.callee = dCallee c.callee; rw [dCalleeR_eq]
  | _ => first | rfl | exact dQuietR_eq
def dOff (sz : Nat) (o : Oper) (d : DS) : Option DS := putD sz o (.v undef) d
def dstepR (rec : Rec) (P : Program) (sz : Nat) (ops : List Oper) (i p : Nat) (d : DS) (o : Oper) : Option DS :=
  DS.rec (motive := fun _ => Option DS) (fun tm s base n0 cr imp calls bars loads stores =>
    Option.rec (motive := fun _ => Option DS) none (fun b => Bool.rec (motive := fun _ => Option DS) (dOff sz o ⟨tm, s, base, n0, cr, imp, calls, bars, loads, stores⟩) (dDR o.op rec P sz i p ⟨tm, s, base, n0, cr, imp, calls, bars, loads, stores⟩ o) b) (wantedR tm ops o)) d
theorem dstepR_eq : dstepR = dstep := by
  funext rec P sz ops i p d o
  obtain ⟨tm, s, base, n0, cr, imp, calls, bars, loads, stores⟩ := d
  show Option.rec (motive := fun _ => Option DS) none (fun b => Bool.rec (motive := fun _ => Option DS) (dOff sz o ⟨tm, s, base, n0, cr, imp, calls, bars, loads, stores⟩) (dDR o.op rec P sz i p ⟨tm, s, base, n0, cr, imp, calls, bars, loads, stores⟩ o) b) (wantedR tm ops o) = _
  unfold dstep
  rw [wantedR_eq, dDR_eq]
  cases wantedA tm ops o with
  | none => rfl
  | some b => cases b <;> rfl
def dstepsR (rec : Rec) (P : Program) (sz : Nat) (ops : List Oper) (l : List Oper) : Nat → List Nat → DS → Option DS :=
  List.rec (motive := fun _ => Nat → List Nat → DS → Option DS) (fun _ _ d => some d)
    (fun o _ ih i ps d => List.rec (motive := fun _ => Option DS) none (fun p ps _ => Option.rec (motive := fun _ => Option DS) none (fun d' => ih (Nat.succ i) ps d') (dstepR rec P sz ops i p d o)) ps) l
theorem dstepsR_eq {rec : Rec} {sz : Nat} {ops : List Oper} : ∀ (l : List Oper) (i : Nat) (ps : List Nat) (d : DS), dstepsR rec P sz ops l i ps d = dsteps rec P sz ops i ps l d
  | [], i, ps, d => by cases ps <;> rfl
  | o :: l, i, [], d => rfl
  | o :: l, i, p :: ps, d => by
    show Option.rec (motive := fun _ => Option DS) none (fun d' => dstepsR rec P sz ops l (Nat.succ i) ps d') (dstepR rec P sz ops i p d o) = _
    unfold dsteps
    rw [dstepR_eq]
    cases dstep rec P sz ops i p d o with
    | none => rfl
    | some d' => exact dstepsR_eq l (i + 1) ps d'
def drawEnd (d : DS) : Option (Tr AV × HS) := DS.rec (motive := fun _ => Option (Tr AV × HS)) (fun tm s _ _ _ _ _ _ _ _ => some (tm, s)) d
def drawR (rec : Rec) (P : Program) (sz : Nat) (ops : List Oper) (pr : List Nat) (tm : Tr AV) (s : HS) : Option (Tr AV × HS) :=
  Bool.rec (motive := fun _ => Option (Tr AV × HS)) none (HS.rec (motive := fun _ => Option (Tr AV × HS)) (fun n m H => Option.rec (motive := fun _ => Option (Tr AV × HS)) none drawEnd (dstepsR rec P sz ops ops 0 pr ⟨tm, ⟨n, m, H⟩, H, n, 0, 0, 0, 0, [], []⟩)) s) (cleanAll ops pr 0 pr ops)
def evDrawR (rec : Rec) (P : Program) (sz : Nat) (ops : Array Oper) (tm : Tr AV) (s : HS) : Option (Tr AV × HS) := drawR rec P sz ops.toList (CheckFast.beforeF ops).toList tm s
theorem evDrawR_eq : evDrawR = evDraw := by
  funext rec P sz ops tm s
  obtain ⟨n, m, H⟩ := s
  unfold evDrawR evDraw
  rw [CheckFast.beforeF_eq]
  show Bool.rec (motive := fun _ => Option (Tr AV × HS)) none (Option.rec (motive := fun _ => Option (Tr AV × HS)) none drawEnd (dstepsR rec P sz ops.toList ops.toList 0 (Region.before ops).toList ⟨tm, ⟨n, m, H⟩, H, n, 0, 0, 0, 0, [], []⟩)) (cleanAll ops.toList (Region.before ops).toList 0 (Region.before ops).toList ops.toList) = _
  rw [dstepsR_eq]
  cases cleanAll ops.toList (Region.before ops).toList 0 (Region.before ops).toList ops.toList with
  | false => rfl
  | true =>
    simp only
    cases dsteps rec P sz ops.toList 0 (Region.before ops).toList ops.toList ⟨tm, ⟨n, m, H⟩, H, n, 0, 0, 0, 0, [], []⟩ with
    | none => rfl
    | some d => cases d; rfl

/-! ### Code -/
def finCR (df : List Nat) (r : Option (Tr AV × HS)) : Option (Exit × FS) := Option.rec (motive := fun _ => Option (Exit × FS)) none (fun q => Prod.rec (motive := fun _ => Option (Exit × FS)) (fun tm s => some (.normal, ⟨tm, df, s⟩)) q) r
def cRegionR (ops : Array Oper) (draw : Bool) : CT := fun rec P rd sz fs => FS.rec (motive := fun _ => Option (Exit × FS)) (fun tm df s => Bool.rec (motive := fun _ => Option (Exit × FS)) (finCR df (evOpsR rec P sz ops.toList ops.toList tm s)) (finCR df (evDrawR rec P sz ops tm s)) draw) fs
theorem finCR_eq : finCR = finC := by
  funext df r
  cases r <;> rfl
theorem cRegionR_eq : cRegionR = cRegion := by
  funext ops draw rec P rd sz fs
  obtain ⟨tm, df, s⟩ := fs
  cases draw with
  | false =>
    show finCR df (evOpsR rec P sz ops.toList ops.toList tm s) = finC df (evOps rec P sz ops.toList ops.toList tm s)
    rw [finCR_eq, evOpsR_eq]
  | true =>
    show finCR df (evDrawR rec P sz ops tm s) = finC df (evDraw rec P sz ops tm s)
    rw [finCR_eq, evDrawR_eq]
def afterR (f : FS → Option (Exit × FS)) (q : Exit × FS) : Option (Exit × FS) :=
  Prod.rec (motive := fun _ => Option (Exit × FS)) (fun e f1 => Exit.rec (motive := fun _ => Option (Exit × FS)) (f f1) (fun i => some (.exit i, f1)) (fun i => some (.goto i, f1)) (some (.ret, f1)) (fun c => some (.panic c, f1)) (some (.outgrown, f1)) e) q
def cSeqR (a b : Code) : CT := fun rec P rd sz fs => Option.rec (motive := fun _ => Option (Exit × FS)) none (afterR (rec rd sz b)) (rec rd sz a fs)
theorem cSeqR_eq : cSeqR = cSeq := by
  funext a b rec P rd sz fs
  unfold cSeqR cSeq
  cases rec rd sz a fs with
  | none => rfl
  | some q =>
    obtain ⟨e, f1⟩ := q
    cases e <;> rfl
def loopR (body : FS → Option (Exit × FS)) (k : Nat) : FS → Option (Exit × FS) := Nat.rec (motive := fun _ => FS → Option (Exit × FS)) (fun _ => none) (fun _ ih fs => Option.rec (motive := fun _ => Option (Exit × FS)) none (afterR ih) (body fs)) k
theorem loopR_eq {body : FS → Option (Exit × FS)} : ∀ (k : Nat) (fs : FS), loopR body k fs = evLoop body k fs
  | 0, fs => rfl
  | k + 1, fs => by
    show Option.rec (motive := fun _ => Option (Exit × FS)) none (afterR (loopR body k)) (body fs) = _
    unfold evLoop
    cases body fs with
    | none => rfl
    | some q =>
      obtain ⟨e, f1⟩ := q
      cases e with
      | normal => exact loopR_eq k f1
      | _ => rfl
def cLoopR (b : Code) : CT := fun rec P rd sz fs => loopR (rec rd sz b) 1000000 fs
theorem cLoopR_eq : cLoopR = cLoop := by
  funext b rec P rd sz fs
  exact loopR_eq _ _
def cDR : Code → CT := @Code.rec (fun _ => CT) (cEnd .normal) (fun _ ops draw => cRegionR ops draw) (fun a b _ _ => cSeqR a b) (fun x a b _ _ => cCond x a b) (fun id b _ => cBlock id b) (fun b _ => cLoopR b) (fun g ps a b _ _ => cRange g ps a b) (fun id => cEnd (.exit id)) (fun b _ => cScope b) (fun _ => cEnd .normal) (fun _ => cNot) (cEnd .ret) (fun _ => cNot)
theorem cDR_eq : cDR = cD := by
  funext c
  cases c with
  | region id ops draw => show cRegionR ops draw = cRegion ops draw; rw [cRegionR_eq]
  | seq a b => show cSeqR a b = cSeq a b; rw [cSeqR_eq]
  | loop b => show cLoopR b = cLoop b; rw [cLoopR_eq]
  | _ => rfl
def stepR (rec : Rec) (P : Program) : Rec := ⟨fun rd sz c fs => cDR c rec P rd sz fs, rec.orc⟩
theorem stepR_eq : stepR = stepC := by
  funext rec P
  unfold stepR stepC
  rw [cDR_eq]
def evR (P : Program) (O : Orc) (k : Nat) : Rec := Nat.rec (motive := fun _ => Rec) ⟨fun _ _ _ _ => none, O⟩ (fun _ ih => stepR ih P) k
theorem evR_eq (O : Orc) : ∀ k, evR P O k = evC P O k
  | 0 => rfl
  | k + 1 => by
    show stepR (evR P O k) P = stepC (evC P O k) P
    rw [stepR_eq, evR_eq O k]
/-- A call, computed the quicker way. -/
def runR (P : Program) (fuel : Nat) (f : FuncId) (args : List AV) : Option (AV × HS) := callF (evR P noOrc fuel) P f args ⟨0, 0, .leaf⟩
theorem runR_eq (fuel : Nat) (f : FuncId) (args : List AV) : runR P fuel f args = run P fuel f args := by
  unfold runR run
  rw [evR_eq]
end
end Go.Proofs.Ytchlehpjpgeejaa.Ev
