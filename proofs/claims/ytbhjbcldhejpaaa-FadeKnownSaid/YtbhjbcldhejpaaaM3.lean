/- Closed calls are run by computation: texts El Em En Eo Ep Eq Er Es in one. -/
import Derived.Test.YtbhjbcldhejpaaaM2
import Derived.Lib.Overlaps
import Derived.TacticsIn
/- Code on known values: the program that computes. -/
namespace Go.Proofs.Ytbhjbcldhejpaaa.Ev
set_option linter.unusedVariables false
set_option linter.unusedSimpArgs false
open Go
noncomputable section
variable {P : Program} {s s' : HS}

structure FS where
  tm : Tr AV
  df : List Nat
  s : HS
/-- What is run: in a round of the loop block, or in none; with so many temporaries. -/
structure Rec where
  run : Option Nat → Nat → Code → FS → Option (Exit × FS)
  orc : FuncId → List AV → HS → Option (AV × HS)
instance : CoeFun Rec (fun _ => Option Nat → Nat → Code → FS → Option (Exit × FS)) := ⟨Rec.run⟩
/-- What is known of calls beforehand: function, arguments, state: value, state behind it. -/
abbrev Orc := FuncId → List AV → HS → Option (AV × HS)
def noOrc : Orc := fun _ _ _ => none
def putT (tm : Tr AV) (sz : Nat) (d : Option Nat) (v : AV) : Option (Tr AV) :=
  match d with
  | none => some tm
  | some t => match Nat.ble sz t with
    | false => some (Tr.set 14 tm t v)
    | true => none
def dstAt (ops : List Oper) (j : Nat) : Option Nat :=
  match getL ops j with
  | some o => o.dst
  | none => none
def wantB (b want : Bool) : Bool :=
  match want with
  | true => b
  | false => match b with
    | true => false
    | false => true
def wantOf (want : Bool) (x : Option AV) : Option Bool :=
  match x with
  | some (.v (.bool b)) => some (wantB b want)
  | some (.v (.tuple _)) => some false
  | _ => none
/-- Is an operation wanted? none: not known. -/
def wantedA (tm : Tr AV) (ops : List Oper) (o : Oper) : Option Bool :=
  match o.guard with
  | none => some true
  | some (j, want) => match dstAt ops j with
    | none => some false
    | some t => wantOf want (tm.get t)
/-- The function that a value is, what it takes first, and what it captured. -/
def targetOf : AV → Option (FuncId × List AV × List AV)
  | .fn f l c => match f with
    | .func k => some (k, l, c)
    | _ => none
  | .v x => match x with
    | .func f l c => match f with
      | .func k => some (k, l.toList.map .v, c.toList.map .v)
      | _ => none
    | _ => none
  | _ => none
def initT : Nat → List AV → Tr AV → Tr AV
  | _, [], t => t
  | i, a :: l, t => initT (i + 1) l (Tr.set 14 t i a)
def leaveMarks : List Nat → HS → Option HS
  | [], s => some s
  | r :: l, s => match s.H.get r with
    | some (.defd true) => leaveMarks l (s.upd r (.defd false))
    | _ => none
def resV (P : Program) (tm : Tr AV) (s : HS) : ResultVar → Option AV
  | .tmp t => tm.get t
  | .cell a t => match tm.get a with
    | some (.ptr b o) => s.load P b o t
    | _ => none
def resL (P : Program) (tm : Tr AV) (s : HS) : List ResultVar → Option (List AV)
  | [] => some []
  | x :: l => match resV P tm s x, resL P tm s l with
    | some v, some r => some (v :: r)
    | _, _ => none
def tupOf : List AV → AV
  | [v] => v
  | l => .tup l
def leaveF (P : Program) (fn : Func) (fs : FS) : Option (AV × HS) :=
  match fs with
  | ⟨tm, df, s⟩ => match leaveMarks df s with
    | some s2 => match resL P tm s2 fn.results.toList with
      | some l => some (tupOf l, s2)
      | none => none
    | none => none
/-- No name from n on stands in it. -/
def belowN (n b : Nat) : Bool := Nat.blt b n
mutual
def below (n : Nat) : AV → Bool
  | .v _ => true
  | .ptr b _ => belowN n b
  | .sl b _ _ _ => belowN n b
  | .slu b _ _ _ => belowN n b
  | .sle b _ _ _ _ => belowN n b
  | .xl _ _ _ c => belowL n c
  | .xp _ _ _ c _ => belowL n c
  | .agg l => belowL n l
  | .tup l => belowL n l
  | .fn _ l c => match belowL n l with
    | true => belowL n c
    | false => false
  | .yld b => belowN n b
  | .mp b => belowN n b
def belowL (n : Nat) : List AV → Bool
  | [] => true
  | a :: l => match below n a with
    | true => belowL n l
    | false => false
end
/-- Behind a call that wrote no block that was there before it, and whose value holds none of its own, all is as it was. -/
def collapse (s : HS) (r : Option (AV × HS)) : Option (AV × HS) :=
  match r with
  | none => none
  | some (v, s1) => match Nat.ble s.n s1.m with
    | true => match s with
      | ⟨n, m, H⟩ => match s1 with
        | ⟨n1, _, H1⟩ => match below n v with
          | true => some (v, ⟨n1, m, H⟩)
          | false => some (v, ⟨n1, m, H1⟩)
    | false => match s1 with
      | ⟨n1, m1, H1⟩ => some (v, HS.mkLow n1 s.m m1 H1)
def exitF (P : Program) (fn : Func) (r : Option (Exit × FS)) : Option (AV × HS) :=
  match r with
  | none => none
  | some (e, fs) => match e with
    | .normal => leaveF P fn fs
    | .ret => leaveF P fn fs
    | _ => none
def callF (rec : Rec) (P : Program) (f : FuncId) (args : List AV) (s : HS) : Option (AV × HS) :=
  match P.funcs[f]? with
  | none => none
  | some fn => match fn.body with
    | none => none
    | some c => match fn.name == "runtime.NumGoroutine" with
      | true => none
      | false => match Nat.ble (args.length + fn.ntmps) 16000 with
        | false => none
        | true => match s with
          | ⟨n, m, H⟩ => collapse ⟨n, m, H⟩ (exitF P fn (rec none (args.length + (fn.ntmps - args.length)) c ⟨initT 0 args .leaf, [], ⟨n, n, H⟩⟩))
/-- A call: known beforehand, or computed. -/
def callO (rec : Rec) (P : Program) (f : FuncId) (args : List AV) (s : HS) : Option (AV × HS) :=
  match rec.orc f args s with
  | some r => some r
  | none => callF rec P f args s
def setParams : List Nat → List AV → Nat → Tr AV → Option (Tr AV)
  | [], [], _, t => some t
  | p :: ps, a :: l, sz, t => match Nat.ble sz p with
    | false => setParams ps l sz (Tr.set 14 t p a)
    | true => none
  | _, _, _, _ => none
/-- How a round that was left goes on behind the loop. -/
def jumpOf : Exit → Option (Option Code)
  | .normal => some none
  | .ret => some (some .ret)
  | .exit id => some (some (.exit id))
  | _ => none
def endRnd (b : Nat) (r : Option (Exit × FS)) : Option (AV × HS) :=
  match r with
  | some (e, ⟨tmx, dfx, sx⟩) => match jumpOf e, sx.H.get b with
    | some j, some (.loop st2 pend2 tm2 sz2 params2 assign2 body2 df2) =>
      some (.v (.bool j.isNone), sx.upd b (.loop (match j.isNone with | true => .ready | false => .done) j tm2 sz2 params2 assign2 body2 df2))
    | _, _ => none
  | none => none
def rndF (rec : Rec) (b : Nat) (args : List AV) (s : HS) : Option (AV × HS) :=
  match s.H.get b with
  | some (.loop st pend tm sz params assign body df) => match setParams params.toList args sz tm, Nat.ble sz 16000 with
    | some tm', true => match rec (some b) sz assign ⟨tm', [], s⟩ with
      | some (.normal, ⟨tmy, dfy, sy⟩) => match sy.H.get b with
        | some (.loop .ready pend1 tm1 sz1 params1 assign1 body1 df1) =>
          endRnd b (rec (some b) sz body ⟨tmy, dfy, sy.upd b (.loop .busy pend1 tm1 sz1 params1 assign1 body1 df1)⟩)
        | _ => none
      | _ => none
    | _, _ => none
  | _ => none
abbrev EvR := Rec → Program → Tr AV → HS → Oper → Option (AV × HS)
/-- slices.overlaps: it has no body. -/
def ovlFn (P : Program) (fn : Func) : Bool :=
  match fn.body, fn.name == "runtime.NumGoroutine", fn.origin == "slices.overlaps", fn.params.toList, fn.resultTypes.toList with
  | none, false, true, [t, u], [_] => match Nat.beq t u, P.underlying t with
    | true, some (.slice e) => match P.info? e with
      | some _ => match (Extern.allGenericRows.lookup fn.name).isNone, (Extern.allTypedRows.lookup fn.name).isNone, (Extern.allRows.lookup fn.name).isNone, (Extern.allNextRows.lookup fn.name).isNone with
        | true, true, true, true => true
        | _, _, _, _ => false
      | none => false
    | _, _ => false
  | _, _, _, _, _ => false
def slOf : AV → Option Nat
  | .sl b _ _ _ => some b
  | .slu b _ _ _ => some b
  | _ => none
def hasCells (H : Tr AB) (b : Nat) : Bool :=
  match H.get b with
  | some (.cells (_ :: _) _) => true
  | some (.row (_ :: _) _ _) => true
  | _ => false
/-- A call of a function without a body that is known: it changes nothing. -/
def extO (P : Program) (k : FuncId) (l : List AV) (s : HS) : Option (AV × HS) :=
  match P.funcs[k]? with
  | none => none
  | some fn => match ovlFn P fn, l with
    | true, [a, b] => match slOf a, slOf b with
      | some x, some y => match Nat.beq x y, hasCells s.H x, hasCells s.H y with
        | false, true, true => some (.v (.bool false), s)
        | _, _, _ => none
      | _, _ => none
    | _, _ => none
def orE (a b : Option (AV × HS)) : Option (AV × HS) :=
  match a with
  | some r => some r
  | none => b
def e1Go (g : Option AV) (l : Option (List AV)) (rec : Rec) (P : Program) (s : HS) : Option (AV × HS) :=
  match l with
  | none => none
  | some l => match g with
    | none => none
    | some g => match g with
      | .yld b => rndF rec b l s
      | g => match targetOf g with
        | some (k, first, cap) => orE (callO rec P k (first ++ l ++ cap) s) (extO P k (first ++ l ++ cap) s)
        | none => none
/-- The length of a map. -/
def lenM (P : Program) (b : Builtin) (ts : List TypeId) (l : Option (List AV)) (s : HS) : Option (AV × HS) :=
  match b, ts, l with
  | .len, [t], some [.mp m] => match P.underlying t, s.H.get m with
    | some (.map _ _), some (.map es _) => some (.v (.int .i64 (.ofNat es.length)), s)
    | _, _ => none
  | _, _, _ => none
def e1Call (c : Call) : EvR := fun rec P tm s o => match c.callee with
  | .value f => e1Go (opd tm f) (opds tm c.args.toList) rec P s
  | .builtin b => orE (evO P tm s o) (lenM P b c.argTypes.toList (opds tm c.args.toList) s)
  | _ => none
def e1Plain : EvR := fun _ P tm s o => evO P tm s o
def e1Not : EvR := fun _ _ _ _ _ => none
def e1D : Op → EvR
  | .call c => e1Call c
  | .defer _ => e1Not
  | .go _ => e1Not
  | _ => e1Plain
/-- One operation, calls and all. -/
def ev1 (rec : Rec) (P : Program) (tm : Tr AV) (s : HS) (o : Oper) : Option (AV × HS) := e1D o.op rec P tm s o
def evOps (rec : Rec) (P : Program) (sz : Nat) (ops : List Oper) : List Oper → Tr AV → HS → Option (Tr AV × HS)
  | [], tm, s => some (tm, s)
  | o :: rest, tm, s => match wantedA tm ops o with
    | none => none
    | some false => match putT tm sz o.dst (.v undef) with
      | some tm' => evOps rec P sz ops rest tm' s
      | none => none
    | some true => match ev1 rec P tm s o with
      | none => none
      | some (v, s') => match putT tm sz o.dst v with
        | some tm' => evOps rec P sz ops rest tm' s'
        | none => none

/-! ### A region whose order is open -/
structure DS where
  tm : Tr AV
  s : HS
  base : Tr AB
  n0 : Nat
  cr : Nat
  imp : Nat
  calls : Nat
  bars : Nat
  loads : List (Nat × Nat × Nat × Nat)
  stores : List (Nat × Nat × Nat × Nat)
  cons : List (Nat × Nat)
def within (a b : Nat) : Bool := Nat.beq (Nat.land a b) a
def bitAt (p i : Nat) : Bool := Nat.beq (Nat.mod (Nat.shiftRight p i) 2) 1
def lenT (P : Program) (t : TypeId) : Option Nat :=
  match P.underlying t with
  | none => none
  | some d => match aggD d with
    | true => match P.info? t with
      | none => none
      | some i => some i.size
    | false => some 1
def orB (a b : Bool) : Bool :=
  match a with
  | true => true
  | false => b
/-- The operation is behind each one of these, or they touch other cells. -/
def besides (p b off len : Nat) : List (Nat × Nat × Nat × Nat) → Bool
  | [] => true
  | (j, b', off', len') :: l => match orB (bitAt p j) (match Nat.beq b b' with | false => true | true => orB (Nat.ble (off + len) off') (Nat.ble (off' + len') off)) with
    | true => besides p b off len l
    | false => false
def allIn (p : Nat) : List (Nat × Nat × Nat × Nat) → Bool
  | [] => true
  | (j, _, _, _) :: l => match bitAt p j with
    | true => allIn p l
    | false => false
/-- What is written from block m on touches none of these loads: they are ahead of it, or of older blocks. -/
def freeC (p m : Nat) : List (Nat × Nat) → Bool
  | [] => true
  | (j, b) :: l => match orB (bitAt p j) (Nat.blt b m) with
    | true => freeC p m l
    | false => false
abbrev DT := Rec → Program → Nat → Nat → Nat → DS → Oper → Option DS
def putD (sz : Nat) (o : Oper) (v : AV) (d : DS) : Option DS :=
  match d with
  | ⟨tm, s, base, n0, cr, imp, calls, bars, loads, stores, cons⟩ => match putT tm sz o.dst v with
    | some tm' => some ⟨tm', s, base, n0, cr, imp, calls, bars, loads, stores, cons⟩
    | none => none
def dQuiet : DT := fun rec P sz i p d o => match d with
  | ⟨tm, s, base, n0, cr, imp, calls, bars, loads, stores, cons⟩ => match evO P tm s o with
    | some (v, s') => putD sz o v ⟨tm, s, base, n0, cr, imp, calls, bars, loads, stores, cons⟩
    | none => none
def dLoad (t : TypeId) (x : Operand) : DT := fun rec P sz i p d o => match d with
  | ⟨tm, s, base, n0, cr, imp, calls, bars, loads, stores, cons⟩ => match opd tm x with
    | some (.ptr b off) => match s.load P b off t, lenT P t with
      | some v, some len => match besides p b off len stores, orB (Nat.blt b n0) (within cr p), within bars p with
        | true, true, true => putD sz o v ⟨tm, s, base, n0, cr, Nat.lor imp (Nat.pow 2 i), calls, bars, (i, b, off, len) :: loads, stores, cons⟩
        | _, _, _ => match Nat.blt b s.m with
          | true => putD sz o v ⟨tm, s, base, n0, cr, imp, calls, bars, loads, stores, (i, b) :: cons⟩
          | false => none
      | _, _ => none
    | some (.xp _ _ _ c off) => match loadL P c off t with
      | some v => putD sz o v ⟨tm, s, base, n0, cr, imp, calls, bars, loads, stores, cons⟩
      | none => none
    | _ => none
def baseStore (base : Tr AB) (n b off : Nat) (cs : List AV) : Tr AB :=
  match HS.store ⟨n, n, base⟩ b off cs with
  | some s2 => s2.H
  | none => base
def dStore (t : TypeId) (x y : Operand) : DT := fun rec P sz i p d o => match d with
  | ⟨tm, s, base, n0, cr, imp, calls, bars, loads, stores, cons⟩ => match storeOf P tm t x y with
    | none => none
    | some (b, off, cs) => match besides p b off cs.length stores, besides p b off cs.length loads, within calls p, orB (Nat.blt b n0) (within cr p), within bars p, freeC p b cons with
      | true, true, true, true, true, true => match s.store b off cs with
        | none => none
        | some s1 => putD sz o (.v undef) ⟨tm, s1, baseStore base s.n b off cs, n0, cr, Nat.lor imp (Nat.pow 2 i), calls, bars, loads, (i, b, off, cs.length) :: stores, cons⟩
      | _, _, _, _, _, _ => none
/-- One block more. -/
def addNew (s s1 : HS) : Option HS :=
  match s with
  | ⟨n, m, H⟩ => match Nat.beq s1.n (n + 1) with
    | true => match s1.H.get n, Nat.ble n 1000000 with
      | some x, true => some ⟨n + 1, m, Tr.set 30 H n x⟩
      | _, _ => none
    | false => none
def dMake : DT := fun rec P sz i p d o => match d with
  | ⟨tm, s, base, n0, cr, imp, calls, bars, loads, stores, cons⟩ => match evO P tm ⟨s.n, s.n, .leaf⟩ o with
    | none => none
    | some (v, s1) => match addNew s s1, within bars p with
      | some s2, true => putD sz o v ⟨tm, s2, base, n0, Nat.lor cr (Nat.pow 2 i), Nat.lor imp (Nat.pow 2 i), calls, bars, loads, stores, cons⟩
      | _, _ => none
def backM (m : Nat) (s1 : HS) : HS :=
  match s1 with
  | ⟨n, _, H⟩ => ⟨n, m, H⟩
def lowM (m : Nat) (s1 : HS) : HS :=
  match s1 with
  | ⟨n, m1, H⟩ => HS.mkLow n m m1 H
def addBit (c : Bool) (cr i : Nat) : Nat :=
  match c with
  | true => cr
  | false => Nat.lor cr (Nat.pow 2 i)
def dCall : DT := fun rec P sz i p d o => match d with
  | ⟨tm, s, base, n0, cr, imp, calls, bars, loads, stores, cons⟩ => match within bars p, allIn p stores with
    | true, true => match within cr p with
      | true => match ev1 rec P tm ⟨s.n, s.n, s.H⟩ o with
        | none => none
        | some (v, s1) => match Nat.ble s.n s1.m with
          | true => putD sz o v ⟨tm, backM s.m s1, base, n0, addBit (Nat.beq s1.n s.n) cr i, Nat.lor imp (Nat.pow 2 i), Nat.lor calls (Nat.pow 2 i), bars, loads, stores, cons⟩
          | false => match within imp p, freeC p s1.m cons with
            | true, true => putD sz o v ⟨tm, lowM s.m s1, s1.H, s1.n, 0, Nat.lor imp (Nat.pow 2 i), 0, Nat.lor bars (Nat.pow 2 i), [], [], cons⟩
            | _, _ => none
      | false => match ev1 rec P tm ⟨s.n, s.n, base⟩ o with
        | none => none
        | some (v, s1) => match Nat.ble s.n s1.m with
          | false => none
          | true => match Nat.beq s1.n s.n with
            | true => putD sz o v ⟨tm, s, base, n0, cr, Nat.lor imp (Nat.pow 2 i), Nat.lor calls (Nat.pow 2 i), bars, loads, stores, cons⟩
            | false => match addNew s s1 with
              | some s2 => putD sz o v ⟨tm, s2, base, n0, Nat.lor cr (Nat.pow 2 i), Nat.lor imp (Nat.pow 2 i), Nat.lor calls (Nat.pow 2 i), bars, loads, stores, cons⟩
              | none => none
    | _, _ => none
def dBlt : Builtin → DT
  | .len => dQuiet
  | .min => dQuiet
  | .max => dQuiet
  | _ => dCall
def dCallee : Callee → DT
  | .builtin b => dBlt b
  | _ => dCall
def dD : Op → DT
  | .move _ => dQuiet
  | .assign _ => dQuiet
  | .pick _ _ _ => dQuiet
  | .fieldAddr _ _ _ => dQuiet
  | .indexAddr _ _ _ => dQuiet
  | .field _ _ _ => dQuiet
  | .index _ _ _ => dQuiet
  | .nilCheck _ => dQuiet
  | .extract _ _ => dQuiet
  | .binOp _ _ _ _ _ => dQuiet
  | .unOp _ _ _ => dQuiet
  | .convert _ _ _ => dQuiet
  | .makeFunc _ _ _ => dQuiet
  | .build _ _ => dQuiet
  | .slice _ _ _ _ _ => dQuiet
  | .load t x => dLoad t x
  | .store t x y => dStore t x y
  | .alloc _ => dMake
  | .box _ _ => dMake
  | .buildSlice _ _ _ => dMake
  | .makeSlice _ _ _ => dMake
  | .call c => dCallee c.callee
  | _ => dCall
def dstep (rec : Rec) (P : Program) (sz : Nat) (ops : List Oper) (i p : Nat) (d : DS) (o : Oper) : Option DS :=
  match wantedA d.tm ops o with
  | none => none
  | some false => putD sz o (.v undef) d
  | some true => dD o.op rec P sz i p d o
def dsteps (rec : Rec) (P : Program) (sz : Nat) (ops : List Oper) : Nat → List Nat → List Oper → DS → Option DS
  | _, _, [], d => some d
  | i, p :: ps, o :: rest, d => match dstep rec P sz ops i p d o with
    | some d' => dsteps rec P sz ops (i + 1) ps rest d'
    | none => none
  | _, _, _, _ => none
/-- Temporaries that an operation names: those it reads, its guard's, its own. -/
def tmpsOf : List Operand → List Nat → List Nat
  | [], l => l
  | x :: xs, l => match x with
    | .tmp t => tmpsOf xs (t :: l)
    | _ => tmpsOf xs l
def addO (x : Option Nat) (l : List Nat) : List Nat :=
  match x with
  | some t => t :: l
  | none => l
def namesOf (ops : List Oper) (o : Oper) : List Nat :=
  addO o.dst (match o.guard with
    | some (j, _) => addO (dstAt ops j) (tmpsOf o.op.operands.toList [])
    | none => tmpsOf o.op.operands.toList [])
def memN (d : Nat) : List Nat → Bool
  | [] => false
  | t :: l => match Nat.beq d t with
    | true => true
    | false => memN d l
def clean1 (j p : Nat) (N : List Nat) : Nat → List Nat → List Oper → Bool
  | i, q :: qs, o :: l => match o.dst with
    | none => clean1 j p N (i + 1) qs l
    | some d => match memN d N with
      | false => clean1 j p N (i + 1) qs l
      | true => match orB (Nat.beq i j) (orB (bitAt p i) (bitAt q j)) with
        | true => clean1 j p N (i + 1) qs l
        | false => false
  | _, _, _ => true
/-- Whoever writes a temporary is before or after each other one that names it; whoever waits, waits for those ahead in the text. -/
def cleanAll (ops : List Oper) (pr : List Nat) : Nat → List Nat → List Oper → Bool
  | j, p :: ps, o :: l => match Nat.blt p (Nat.pow 2 j) with
    | true => match clean1 j p (namesOf ops o) 0 pr ops with
      | true => cleanAll ops pr (j + 1) ps l
      | false => false
    | false => false
  | _, [], [] => true
  | _, _, _ => false
def evDraw (rec : Rec) (P : Program) (sz : Nat) (ops : Array Oper) (tm : Tr AV) (s : HS) : Option (Tr AV × HS) :=
  match cleanAll ops.toList (Region.before ops).toList 0 (Region.before ops).toList ops.toList with
  | false => none
  | true => match dsteps rec P sz ops.toList 0 (Region.before ops).toList ops.toList ⟨tm, ⟨s.n, s.n, s.H⟩, s.H, s.n, 0, 0, 0, 0, [], [], []⟩ with
    | some d => some (d.tm, lowM s.m d.s)
    | none => none

/-! ### Code -/
def evLoop (body : FS → Option (Exit × FS)) : Nat → FS → Option (Exit × FS)
  | 0, _ => none
  | k + 1, fs => match body fs with
    | some (.normal, f1) => evLoop body k f1
    | r => r
def enterA (rd : Option Nat) (params : Array Tmp) (assign body : Code) (sz : Nat) (fs : FS) : Option (Nat × List Nat × HS) :=
  match rd with
  | none => match fs with
    | ⟨tm, _, s⟩ => some (s.n + 1, [s.n], (s.new (.defd true)).new (.loop .ready none tm sz params assign body s.n))
  | some b => match fs with
    | ⟨tm, _, s⟩ => match s.H.get b with
      | some (.loop _ _ _ _ _ _ _ df) => some (s.n, [], s.new (.loop .ready none tm sz params assign body df))
      | _ => none
def endRange (tm : Tr AV) (df : List Nat) (l : Nat) (mark : List Nat) (s2 : HS) : Option (Exit × FS) :=
  match s2.H.get l with
  | some (.loop st pend tm2 sz2 params2 assign2 body2 df2) => match st with
    | .busy => none
    | _ => match pend with
      | none => some (.normal, ⟨tm, mark ++ df, s2.upd l (.loop .exhausted pend tm2 sz2 params2 assign2 body2 df2)⟩)
      | some .ret => some (.ret, ⟨tm, mark ++ df, s2.upd l (.loop .exhausted pend tm2 sz2 params2 assign2 body2 df2)⟩)
      | some (.exit id) => some (.exit id, ⟨tm, mark ++ df, s2.upd l (.loop .exhausted pend tm2 sz2 params2 assign2 body2 df2)⟩)
      | _ => none
  | _ => none
abbrev CT := Rec → Program → Option Nat → Nat → FS → Option (Exit × FS)
def cRange (g : Operand) (params : Array Tmp) (assign body : Code) : CT := fun rec P rd sz fs =>
  match fs with
  | ⟨tm, df, s⟩ => match opd tm g with
    | none => none
    | some gv => match targetOf gv with
      | none => none
      | some (k, first, cap) => match enterA rd params assign body sz ⟨tm, df, s⟩ with
        | none => none
        | some (l, mark, s1) => match callO rec P k (first ++ [.yld l] ++ cap) s1 with
          | none => none
          | some (_, s2) => endRange tm df l mark s2
def cEnd (e : Exit) : CT := fun _ _ _ _ fs => some (e, fs)
def cSeq (a b : Code) : CT := fun rec P rd sz fs => match rec rd sz a fs with
  | some (.normal, f1) => rec rd sz b f1
  | r => r
def cCond (x : Operand) (a b : Code) : CT := fun rec P rd sz fs => match opd fs.tm x with
  | some (.v (.bool true)) => rec rd sz a fs
  | some (.v (.bool false)) => rec rd sz b fs
  | _ => none
def outOf (id : Nat) (r : Option (Exit × FS)) : Option (Exit × FS) :=
  match r with
  | some (.exit i, f1) => match Nat.beq i id with
    | true => some (.normal, f1)
    | false => some (.exit i, f1)
  | r => r
def cBlock (id : Nat) (b : Code) : CT := fun rec P rd sz fs => outOf id (rec rd sz b fs)
def cLoop (b : Code) : CT := fun rec P rd sz fs => evLoop (rec rd sz b) 1000000 fs
def cScope (b : Code) : CT := fun rec P rd sz fs => match rec rd sz b fs with
  | some (.goto _, _) => none
  | r => r
def finC (df : List Nat) (r : Option (Tr AV × HS)) : Option (Exit × FS) :=
  match r with
  | some (tm, s) => some (.normal, ⟨tm, df, s⟩)
  | none => none
def cRegion (ops : Array Oper) (draw : Bool) : CT := fun rec P rd sz fs => match fs with
  | ⟨tm, df, s⟩ => match draw with
    | false => finC df (evOps rec P sz ops.toList ops.toList tm s)
    | true => finC df (evDraw rec P sz ops tm s)
def cNot : CT := fun _ _ _ _ _ => none
def cD : Code → CT
  | .skip => cEnd .normal
  | .label _ => cEnd .normal
  | .exit id => cEnd (.exit id)
  | .ret => cEnd .ret
  | .seq a b => cSeq a b
  | .cond x a b => cCond x a b
  | .block id b => cBlock id b
  | .loop b => cLoop b
  | .scope b => cScope b
  | .region _ ops draw => cRegion ops draw
  | .rangeFunc g ps a b => cRange g ps a b
  | _ => cNot
def stepC (rec : Rec) (P : Program) : Rec := ⟨fun rd sz c fs => cD c rec P rd sz fs, rec.orc⟩
def evC (P : Program) (O : Orc) : Nat → Rec
  | 0 => ⟨fun _ _ _ _ => none, O⟩
  | k + 1 => stepC (evC P O k) P
/-- A call, computed. -/
def run (P : Program) (fuel : Nat) (f : FuncId) (args : List AV) : Option (AV × HS) := callF (evC P noOrc fuel) P f args ⟨0, 0, .leaf⟩
end
end Go.Proofs.Ytbhjbcldhejpaaa.Ev

/- Code on known values: what it means that a world does likewise; single operations, calls, straight code. -/
namespace Go.Proofs.Ytbhjbcldhejpaaa.Ev
set_option linter.unusedVariables false
set_option linter.unusedSimpArgs false
open Go
noncomputable section
variable {σ : Env} {P : Program} {w : World} {s s' : HS} {F : Fence} {n : Nat}

/-- A fence that shuts nothing in. -/
structure Wide (F : Fence) : Prop where
  fn : ∀ f, F.fn f
  depth : F.depth = none
theorem Wide.room (h : Wide F) (k : Nat) : F.room k := fun d hd => by rw [h.depth] at hd; cases hd
theorem Wide.le (h : Wide F) {p : Prop} : F.depth.isSome = true → p := fun q => by rw [h.depth] at q; cases q
def Free (σ : Env) (a b : Nat) : Prop := ∀ k, a ≤ k → k < b → σ.blk k = none
def RdOK (rd : Option Nat) (F : Fence) (σ : Env) : Prop :=
  match rd with
  | none => F.round = none
  | some b => ∃ B, F.round = some B ∧ σ.blk b = some B
def Df (σ : Env) (hid : List Deferred) : List Nat → List Deferred → Prop
  | [], ds => ds = hid
  | b :: l, d :: ds => (∃ R, σ.blk b = some R ∧ d = { target := .collected R, args := #[] }) ∧ Df σ hid l ds
  | _ :: _, [] => False
theorem RdOK.le {rd : Option Nat} {τ : Env} (h : RdOK rd F σ) (k : σ.le τ) : RdOK rd F τ := by
  cases rd with
  | none => exact h
  | some b => obtain ⟨B, h1, h2⟩ := h; exact ⟨B, h1, (k b B h2).1⟩
theorem Df.le {τ : Env} {hid : List Deferred} (k : σ.le τ) : ∀ {l : List Nat} {ds : List Deferred}, Df σ hid l ds → Df τ hid l ds
  | [], _, h => h
  | b :: l, d :: ds, h => by
    obtain ⟨⟨R, h1, h2⟩, h3⟩ := h
    exact ⟨⟨R, (k b R h1).1, h2⟩, h3.le k⟩
  | _ :: _, [], h => h.elim
theorem Df.append {hid : List Deferred} : ∀ {l : List Nat} {ds : List Deferred} {l' : List Nat} {ds' : List Deferred}, Df σ [] l ds → Df σ hid l' ds' → Df σ hid (l ++ l') (ds ++ ds')
  | [], ds, l', ds', e, h => by have e2 : ds = [] := e; subst e2; exact h
  | b :: l, d :: ds, l', ds', h, k => ⟨h.1, Df.append h.2 k⟩
  | _ :: _, [], _, _, h, _ => h.elim
/-- The frame is as known. -/
structure St (hid : List Deferred) (σ : Env) (sz : Nat) (fs : FS) (a : Act) (w : World) : Prop where
  good : Good fs.s
  sim : Sim fs.s.H σ w
  tm : Tm σ fs.tm sz a.tmps
  df : Df σ hid fs.df a.defers
/-- What the code makes of frame and world. -/
def Post (hid : List Deferred) (σ : Env) (sz : Nat) (fs : FS) (w : World) (e : Exit) (fs' : FS) : Exit → Act → World → Prop :=
  fun e' a' w' => e' = e ∧ ∃ σ', Moved fs.s σ w fs'.s σ' w' ∧ Tm σ' fs'.tm sz a'.tmps ∧ Df σ' hid fs'.df a'.defers
/-- How a call or a round ends. -/
def Ret (σ : Env) (w : World) (s : HS) (v : AV) (s' : HS) : Ending → World → Prop :=
  fun e w' => ∃ r σ', e = .returned r ∧ den σ' v = some r ∧ Moved s σ w s' σ' w'
/-- What is known beforehand is so. -/
def OrcOK (P : Program) (O : Orc) : Prop := ∀ (f : FuncId) (args : List AV) (s : HS) (v : AV) (s' : HS), O f args s = some (v, s') →
  (∃ fn c, P.funcs[f]? = some fn ∧ fn.body = some c ∧ (fn.name == "runtime.NumGoroutine") = false) ∧ s.n ≤ s'.n ∧
  ∀ (F : Fence) (n : Nat) (σ : Env) (w : World) (xs : List Value), Wide F → Good s → Sim s.H σ w → Free σ s.n s'.n → denL σ args = some xs → CallsIn F n P f xs.toArray w (Ret σ w s v s')
theorem noOrc_ok : OrcOK P noOrc := fun f args s v s' h => by cases h
def CodeOK (P : Program) (rec : Rec) : Prop := ∀ (rd : Option Nat) (sz : Nat) (c : Code) (fs : FS) (e : Exit) (fs' : FS), rec rd sz c fs = some (e, fs') → sz ≤ 16000 →
  fs.s.n ≤ fs'.s.n ∧ ∀ {hid : List Deferred} (F : Fence) (n : Nat) (σ : Env) (a : Act) (w : World), Wide F → RdOK rd F σ → St hid σ sz fs a w → Free σ fs.s.n fs'.s.n → c.wpIn F n P (Post hid σ sz fs w e fs') a w
structure SoundC (P : Program) (rec : Rec) : Prop where
  code : CodeOK P rec
  orc : OrcOK P rec.orc
theorem Post.st {hid : List Deferred} {sz : Nat} {fs fs' : FS} {e e' : Exit} {a' : Act} {w' : World} (g : Good fs.s) (h : Post hid σ sz fs w e fs' e' a' w') : ∃ σ', e' = e ∧ Moved fs.s σ w fs'.s σ' w' ∧ St hid σ' sz fs' a' w' := by
  obtain ⟨h1, σ', h2, h3, h4⟩ := h
  exact ⟨σ', h1, h2, ⟨h2.good g, h2.sim, h3, h4⟩⟩
theorem Free.sub {a b c d : Nat} (h : Free σ a b) (h1 : a ≤ c) (h2 : d ≤ b) : Free σ c d := fun k q r => h k (by omega) (by omega)
/-- What was free behind the first part still is. -/
theorem Moved.free {s1 : HS} {τ : Env} {w1 : World} {b : Nat} (h : Moved s σ w s1 τ w1) (k : Free σ s.n b) : Free τ s1.n b := fun j q r => by
  have := h.le
  rw [(h.env j (by omega)).1]
  exact k j (by omega) r

/-! ### Temporaries -/
theorem getD_put_ne {xs : Array Value} {t u : Nat} {r : Value} (e : t ≠ u) : (xs.setIfInBounds t r).getD u undef = xs.getD u undef := by
  rw [Array.getD_eq_getD_getElem?, Array.getD_eq_getD_getElem?, Array.getElem?_setIfInBounds_ne e]
theorem putT_ok {tm tm' : Tr AV} {sz : Nat} {d : Option Nat} {v : AV} {a : Act} {r : Value} (h : putT tm sz d v = some tm') (hsz : sz ≤ 16000) (ht : Tm σ tm sz a.tmps) (hv : den σ v = some r) : Tm σ tm' sz (a.put d r).tmps := by
  unfold putT at h
  cases d with
  | none => cases h; exact ht
  | some t =>
    simp only at h
    split at h
    · rename_i hb
      cases h
      have hlt : t < sz := by
        have : ¬ sz ≤ t := fun q => by rw [Nat.ble_eq_true_of_le q] at hb; cases hb
        omega
      refine ⟨by simpa [Act.put] using ht.1, fun u x hx => ?_⟩
      by_cases e : t = u
      · subst e
        rw [Tr.get_set_same 14 _ _ _ (by omega)] at hx
        cases hx
        refine ⟨r, hv, hlt, ?_⟩
        have : t < a.tmps.size := by rw [ht.1]; exact hlt
        simp [Act.put, Array.getD, this]
      · rw [Tr.get_set_other 14 _ _ _ _ e] at hx
        obtain ⟨y, h1, h2, h3⟩ := ht.2 u x hx
        refine ⟨y, h1, h2, ?_⟩
        rw [← h3]
        exact getD_put_ne e
    · cases h
theorem put_defers (a : Act) (d : Option Nat) (v : Value) : (a.put d v).defers = a.defers := by cases d <;> rfl
theorem wanted_ok {tm : Tr AV} {sz : Nat} {ops : Array Oper} {o : Oper} {a : Act} {b : Bool} (h : wantedA tm ops.toList o = some b) (ht : Tm σ tm sz a.tmps) : Region.wanted o (yielded ops a.tmps) = b := by
  unfold wantedA at h
  unfold Region.wanted
  cases hg : o.guard with
  | none => rw [hg] at h; cases h; rfl
  | some q =>
    obtain ⟨j, want⟩ := q
    rw [hg] at h
    simp only at h ⊢
    have hd : (ops[j]?).bind (·.dst) = dstAt ops.toList j := by
      unfold dstAt
      rw [getL_eq, Array.getElem?_toList]
      cases ops[j]? <;> rfl
    unfold yielded
    rw [hd]
    cases hj : dstAt ops.toList j with
    | none =>
      rw [hj] at h
      cases h
      rfl
    | some t =>
      rw [hj] at h
      simp only at h
      unfold wantOf at h
      split at h
      · rename_i x c hx
        cases h
        obtain ⟨r, h1, h2, h3⟩ := ht.2 t _ hx
        simp only [den, Option.some.injEq] at h1
        subst h1
        have hl : t < a.tmps.size := by rw [ht.1]; exact h2
        have e : a.tmps[t]? = some (.bool c) := by
          rw [Array.getElem?_eq_getElem hl]
          congr 1
          simpa [Array.getD, hl] using h3
        simp only [Option.bind_some, e]
        cases c <;> cases want <;> rfl
      · rename_i x c hx
        cases h
        obtain ⟨r, h1, h2, h3⟩ := ht.2 t _ hx
        simp only [den, Option.some.injEq] at h1
        subst h1
        have hl : t < a.tmps.size := by rw [ht.1]; exact h2
        have e : a.tmps[t]? = some (.tuple c) := by
          rw [Array.getElem?_eq_getElem hl]
          congr 1
          simpa [Array.getD, hl] using h3
        simp only [Option.bind_some, e]
        rfl
      · cases h
end
end Go.Proofs.Ytbhjbcldhejpaaa.Ev

/- Calls on known values: what a world does likewise. -/
namespace Go.Proofs.Ytbhjbcldhejpaaa.Ev
set_option linter.unusedVariables false
set_option linter.unusedSimpArgs false
open Go
noncomputable section
variable {σ : Env} {P : Program} {w : World} {s s' : HS} {F : Fence} {n : Nat} {rec : Rec}

theorem Moved.reset {s1 : HS} {σ' : Env} {w' : World} (g : Good s) (h : Moved ⟨s.n, s.n, s.H⟩ σ w s1 σ' w') : Moved s σ w ⟨s1.n, HS.low s.m s1.m, s1.H⟩ σ' w' := by
  have hl := HS.low_le s.m s1.m
  refine { le := h.le, mono := hl.1, env := h.env, base := h.base, sim := h.sim, top := h.top, keep := fun b h1 h2 => h.keep b h1 (Nat.lt_of_lt_of_le h2 hl.2), dom := h.dom, frame := fun B hB hn => h.frame B hB (fun b hb => hn b (Nat.le_trans hl.2 hb)), size := h.size, fresh := ?_, os := h.os, tape := h.tape, output := h.output }
  intro b B h1 h2 h3 h4
  by_cases hb : s1.m ≤ b
  · obtain ⟨c, c1, c2, c3⟩ := h.fresh b B h1 hb h3 h4
    exact ⟨c, Nat.le_trans hl.2 c1, c2, c3⟩
  · have hm := h.mono
    have hb' : b < s.n := by
      have : s1.m ≤ s.n := hm
      omega
    refine ⟨b, h2, ?_, ?_⟩
    · exact h.dom b hb' h1
    · have := h.env b (fun q => absurd q.1 (by show ¬ s.n ≤ b; omega))
      rw [← this.1]
      exact h3
theorem good0 (g : Good s) : Good ⟨s.n, s.n, s.H⟩ := ⟨g.top, Nat.le_refl _⟩
theorem low_eq {m b : Nat} (h : m ≤ b) : HS.low m b = m := by
  unfold HS.low
  rw [Nat.ble_eq_true_of_le h]
theorem collapse_ok (g : Good s) {v v' : AV} {s1 : HS} {σ' : Env} {w' : World} (h : Moved ⟨s.n, s.n, s.H⟩ σ w s1 σ' w') (hc : collapse s (some (v, s1)) = some (v', s')) : v' = v ∧ Moved s σ w s' σ' w' := by
  have hr := h.reset g
  unfold collapse at hc
  simp only at hc
  split at hc
  · rename_i hb
    have hb' := Nat.le_of_ble_eq_true hb
    have hlow := g.low
    rw [low_eq (Nat.le_trans hlow hb')] at hr
    split at hc
    · cases hc
      refine ⟨rfl, hr.forget g rfl (Nat.le_refl _) (fun d => ?_) (fun d hd => ?_)⟩
      · by_cases hd : d < s.n
        · exact .inl (h.keep d hd (Nat.lt_of_lt_of_le hd hb')).symm
        · exact .inr (g.top d (by omega))
      · have hd' : d < s.m := hd
        exact (h.keep d (by show d < s.n; omega) (by omega)).symm
    · cases hc
      exact ⟨rfl, hr⟩
  · cases hc
    rw [HS.mkLow_eq]
    exact ⟨rfl, hr⟩
theorem collapse_some {v' : AV} {r : Option (AV × HS)} (hc : collapse s r = some (v', s')) : ∃ v s1, r = some (v, s1) ∧ s'.n = s1.n := by
  unfold collapse at hc
  cases r with
  | none => cases hc
  | some q =>
    obtain ⟨v, s1⟩ := q
    refine ⟨v, s1, rfl, ?_⟩
    simp only at hc
    split at hc
    · split at hc
      · cases hc; rfl
      · cases hc; rfl
    · cases hc
      rw [HS.mkLow_eq]

/-! ### Entering -/
theorem initT_get : ∀ (l : List AV) (i : Nat) (t : Tr AV) (u : Nat) (a : AV), (initT i l t).get u = some a → t.get u = some a ∨ ∃ j, u = i + j ∧ l[j]? = some a
  | [], i, t, u, a, h => .inl h
  | x :: l, i, t, u, a, h => by
    rcases initT_get l (i + 1) _ u a h with k | ⟨j, h1, h2⟩
    · by_cases e : i = u
      · subst e
        rcases Tr.get_set_or 14 t i x with q | q
        · rw [q] at k
          cases k
          exact .inr ⟨0, rfl, rfl⟩
        · rw [q] at k
          exact .inl k
      · rw [Tr.get_set_other 14 _ _ _ _ e] at k
        exact .inl k
    · exact .inr ⟨j + 1, by omega, by simpa using h2⟩
theorem enter_tm {args : List AV} {xs : List Value} {m : Nat} (h : denL σ args = some xs) : Tm σ (initT 0 args .leaf) (args.length + (m - args.length)) (xs.toArray ++ Array.replicate (m - xs.toArray.size) undef) := by
  have hl := denL_len h
  refine ⟨by simp [hl], fun t a e => ?_⟩
  rcases initT_get args 0 .leaf t a e with k | ⟨j, h1, h2⟩
  · cases k
  · obtain ⟨x, e1, e2⟩ := denL_get h h2
    have hj : j < args.length := (List.getElem?_eq_some_iff.1 h2).1
    obtain rfl : t = j := by omega
    refine ⟨x, e2, by omega, ?_⟩
    rw [Array.getD_eq_getD_getElem?, Array.getElem?_append_left (by simpa [hl] using hj)]
    simp [e1]

/-! ### Leaving -/
theorem run_take {R : Nat} (h : w.heap[R]? = some (.deferred (some []))) : (Instr.takeDeferred R).run P w = .ok [] (setBlock w R (.deferred none)) := by
  simp only [Instr.takeDeferred, Sem.run_bind, getObj, Sem.run, h, Result.andThen_ok, setObj]
  rfl
theorem leaveMarks_n : ∀ {df : List Nat} {s s2 : HS}, leaveMarks df s = some s2 → s2.n = s.n
  | [], s, s2, h => by simp [leaveMarks] at h; rw [h]
  | r :: l, s, s2, h => by
    unfold leaveMarks at h
    split at h
    · rw [leaveMarks_n h, HS.upd_eq]
    · cases h
theorem leaveMarks_ok {hid : List Deferred} {fn : Func} {tmps : Array Value} {R : Ending → World → Prop} : ∀ {df : List Nat} {ds : List Deferred} {s s2 : HS} {w : World}, leaveMarks df s = some s2 → Good s → Sim s.H σ w → Df σ hid df ds →
    (∀ w2, Moved s σ w s2 σ w2 → LeavesInM F n P fn tmps R hid .returning w2) → LeavesInM F n P fn tmps R ds .returning w
  | [], ds, s, s2, w, h, g, hs, hd, k => by
    simp [leaveMarks] at h
    subst h
    have e : ds = hid := hd
    subst e
    exact k w (Moved.refl g hs)
  | _ :: _, [], s, s2, w, h, g, hs, hd, k => hd.elim
  | r :: l, d :: ds, s, s2, w, h, g, hs, hd, k => by
    obtain ⟨⟨R', h1, h2⟩, h3⟩ := hd
    unfold leaveMarks at h
    split at h
    · rename_i hr
      obtain ⟨B, o, q1, q2, q3⟩ := hs.1 r _ hr
      rw [h1] at q1
      cases q1
      have q3' : o = .deferred (some []) := q3
      subst q3'
      have hm := moved_upd g hs (by rw [hr]; simp) h1 (.defd false) (.deferred none) rfl
      refine ⟨by simp, .inl ⟨R', _, by rw [h2], run_take q2, ?_⟩⟩
      exact leaveMarks_ok h (hm.good g) hm.sim h3 (fun w2 m2 => k w2 (hm.trans g m2))
    · cases h
def resF (tmps : Array Value) (x : ResultVar) : Sem Value :=
  match x with
  | .tmp t => pure (tmps.getD t undef)
  | .cell b t => do loadVar t (← asAddr (tmps.getD b undef))
theorem resV_ok {tm : Tr AV} {sz : Nat} {a : Act} (hs : Sim s.H σ w) (ht : Tm σ tm sz a.tmps) {x : ResultVar} {v : AV} (h : resV P tm s x = some v) :
    ∃ r, (resF a.tmps x).run P w = .ok r w ∧ den σ v = some r := by
  cases x with
  | tmp t =>
    obtain ⟨r, h1, h2, h3⟩ := ht.2 t v h
    exact ⟨r, by simp only [resF, Sem.run_pure, h3], h1⟩
  | cell b t =>
    simp only [resV] at h
    split at h
    · rename_i b' o hb
      obtain ⟨y, h1, h2, h3⟩ := ht.2 b _ hb
      obtain ⟨B, r, q1, q2, q3⟩ := load_sound (P := P) hs h
      simp only [den, q1, Option.map_some, Option.some.injEq] at h1
      refine ⟨r, ?_, q3⟩
      simp only [resF, h3, ← h1, asAddr, Sem.run_bind, Sem.run_pure, Result.andThen_ok]
      exact q2
    · cases h
theorem resL_ok {tm : Tr AV} {sz : Nat} {a : Act} (hs : Sim s.H σ w) (ht : Tm σ tm sz a.tmps) : ∀ {xs : List ResultVar} {l : List AV}, resL P tm s xs = some l →
    ∃ rs, (xs.mapM (resF a.tmps)).run P w = .ok rs w ∧ denL σ l = some rs
  | [], l, h => by simp [resL] at h; subst h; exact ⟨[], rfl, rfl⟩
  | x :: xs, l, h => by
    unfold resL at h
    split at h
    · rename_i v r h1 h2
      cases h
      obtain ⟨y, e1, e2⟩ := resV_ok hs ht h1
      obtain ⟨ys, e3, e4⟩ := resL_ok hs ht h2
      refine ⟨y :: ys, ?_, by simp only [denL, e2, e4]⟩
      rw [List.mapM_cons, Sem.run_bind, e1]
      simp only [Result.andThen_ok, Sem.run_bind, e3, Sem.run_pure]
    · cases h
theorem tup_ok {l : List AV} {rs : List Value} (h : denL σ l = some rs) : den σ (tupOf l) = some (if h : rs.toArray.size = 1 then rs.toArray[0] else .tuple rs.toArray) := by
  match l, rs, h with
  | [], rs, h => simp [denL] at h; subst h; rfl
  | [a], rs, h =>
    obtain ⟨x, h1, rfl⟩ := denL_one h
    exact h1
  | a :: b :: l, rs, h =>
    have hl := denL_len h
    have : ¬ rs.toArray.size = 1 := by simp [hl]
    rw [dif_neg this]
    show den σ (.tup (a :: b :: l)) = _
    simp only [den, h, Option.map_some]
theorem results_ok {tm : Tr AV} {sz : Nat} {a : Act} {fn : Func} {l : List AV} (hs : Sim s.H σ w) (ht : Tm σ tm sz a.tmps) (h : resL P tm s fn.results.toList = some l) :
    ∃ r, (results fn a.tmps).run P w = .ok r w ∧ den σ (tupOf l) = some r := by
  obtain ⟨rs, h1, h2⟩ := resL_ok hs ht h
  refine ⟨_, ?_, tup_ok h2⟩
  unfold results
  rw [Sem.run_bind, Array.mapM_eq_mapM_toList, Sem.run_map]
  show (((Sem.run P (List.mapM (resF a.tmps) fn.results.toList) w).andThen _).andThen _) = _
  rw [h1]
  rfl
end
end Go.Proofs.Ytbhjbcldhejpaaa.Ev

/- Calls and rounds on known values. -/
namespace Go.Proofs.Ytbhjbcldhejpaaa.Ev
set_option linter.unusedVariables false
set_option linter.unusedSimpArgs false
open Go
noncomputable section
variable {σ : Env} {P : Program} {w : World} {s s' : HS} {F : Fence} {n : Nat} {rec : Rec}

theorem Wide.plain (h : Wide F) : Wide F.plain := ⟨h.fn, h.depth⟩
theorem Wide.inRound (h : Wide F) (l : Nat) : Wide (F.inRound l) := ⟨h.fn, h.depth⟩
theorem leaveF_n {fn : Func} {fs : FS} {v : AV} (h : leaveF P fn fs = some (v, s')) : s'.n = fs.s.n := by
  unfold leaveF at h
  obtain ⟨tm, df, s⟩ := fs
  simp only at h
  split at h
  · rename_i s2 h1
    split at h
    · cases h
      exact leaveMarks_n h1
    · cases h
  · cases h
theorem leaveF_ok {sz : Nat} {fn : Func} {fs : FS} {v : AV} {a : Act} {R : Ending → World → Prop} (h : leaveF P fn fs = some (v, s')) (st : St [] σ sz fs a w)
    (k : ∀ r w', den σ v = some r → Moved fs.s σ w s' σ w' → R (.returned r) w') : LeavesInM F n P fn a.tmps R a.defers .returning w := by
  unfold leaveF at h
  obtain ⟨tm, df, s⟩ := fs
  simp only at h
  split at h
  · rename_i s2 h1
    split at h
    · rename_i l hl
      cases h
      refine leaveMarks_ok h1 st.good st.sim st.df (fun w2 m2 => ?_)
      obtain ⟨r, e1, e2⟩ := results_ok (P := P) (fn := fn) m2.sim st.tm hl
      exact ⟨r, e1, k r w2 e2 m2⟩
    · cases h
  · cases h
theorem callF_some {f : FuncId} {args : List AV} {v : AV} (h : callF rec P f args s = some (v, s')) :
    ∃ fn c e fs v1 s1, P.funcs[f]? = some fn ∧ fn.body = some c ∧ (fn.name == "runtime.NumGoroutine") = false ∧ args.length + fn.ntmps ≤ 16000 ∧
      rec none (args.length + (fn.ntmps - args.length)) c ⟨initT 0 args .leaf, [], ⟨s.n, s.n, s.H⟩⟩ = some (e, fs) ∧ (e = .normal ∨ e = .ret) ∧ leaveF P fn fs = some (v1, s1) ∧ collapse s (some (v1, s1)) = some (v, s') := by
  unfold callF at h
  split at h
  · cases h
  · rename_i fn hf
    split at h
    · cases h
    · rename_i c hc
      split at h
      · cases h
      · rename_i hn
        split at h
        · cases h
        · rename_i hb
          have hb' := Nat.le_of_ble_eq_true hb
          obtain ⟨nn, mm, HH⟩ := s
          simp only at h
          obtain ⟨v1, s1, h1, _⟩ := collapse_some h
          rw [h1] at h
          unfold exitF at h1
          split at h1
          · cases h1
          · rename_i e fs he
            split at h1
            · exact ⟨fn, c, _, fs, v1, s1, hf, hc, hn, hb', he, .inl rfl, h1, h⟩
            · exact ⟨fn, c, _, fs, v1, s1, hf, hc, hn, hb', he, .inr rfl, h1, h⟩
            · cases h1
theorem callF_sound (hr : SoundC P rec) {f : FuncId} {args : List AV} {v : AV} (h : callF rec P f args s = some (v, s')) :
    s.n ≤ s'.n ∧ ∀ (F : Fence) (n : Nat) (σ : Env) (w : World) (xs : List Value), Wide F → Good s → Sim s.H σ w → Free σ s.n s'.n → denL σ args = some xs →
      CallsIn F n P f xs.toArray w (Ret σ w s v s') := by
  obtain ⟨fn, c, e, fs, v1, s1, hf, hc, hn, hb, he, hE, hl, hco⟩ := callF_some h
  obtain ⟨hle, hbody⟩ := hr.code _ _ _ _ _ _ he (by omega)
  obtain ⟨v2, s2, q1, q2⟩ := collapse_some hco
  cases q1
  have hn1 := leaveF_n hl
  refine ⟨by rw [q2, hn1]; exact hle, fun F n σ w xs hW g hs hfree hx => ?_⟩
  have hlen := denL_len hx
  show CallsIn F.plain n P f xs.toArray w (Ret σ w s v s')
  refine callsIn_of_wp_marks hf hc (hW.plain.fn f) ?_
  have st0 : St [] σ (args.length + (fn.ntmps - args.length)) ⟨initT 0 args .leaf, [], ⟨s.n, s.n, s.H⟩⟩ { tmps := xs.toArray ++ Array.replicate (fn.ntmps - xs.toArray.size) undef, defers := [] } w :=
    ⟨good0 g, hs, enter_tm hx, rfl⟩
  have hw := hbody F.plain n σ _ w hW.plain rfl st0 (fun k k1 k2 => hfree k k1 (by rw [q2, hn1]; exact k2))
  refine wpIn_mono hw (fun e' a' w' hp => ?_)
  obtain ⟨σ', rfl, hm, st'⟩ := hp.st (good0 g)
  have fin : LeavesInM F.plain n P fn a'.tmps (Ret σ w s v s') a'.defers .returning w' := by
    refine leaveF_ok hl st' (fun r w2 hd hm2 => ?_)
    have hm3 := hm.trans (good0 g) hm2
    obtain ⟨rfl, hm4⟩ := collapse_ok g hm3 hco
    exact ⟨r, σ', rfl, hd, hm4⟩
  rcases hE with rfl | rfl
  · exact fin
  · exact fin

theorem callO_some {f : FuncId} {args : List AV} {v : AV} (hr : SoundC P rec) (h : callO rec P f args s = some (v, s')) :
    ∃ fn c, P.funcs[f]? = some fn ∧ fn.body = some c ∧ (fn.name == "runtime.NumGoroutine") = false := by
  unfold callO at h
  split at h
  · rename_i r hr'
    cases h
    exact (hr.orc _ _ _ _ _ hr').1
  · obtain ⟨fn, cd, _, _, _, _, hf1, hf2, hf3, _⟩ := callF_some h
    exact ⟨fn, cd, hf1, hf2, hf3⟩
theorem callO_sound (hr : SoundC P rec) {f : FuncId} {args : List AV} {v : AV} (h : callO rec P f args s = some (v, s')) :
    s.n ≤ s'.n ∧ ∀ (F : Fence) (n : Nat) (σ : Env) (w : World) (xs : List Value), Wide F → Good s → Sim s.H σ w → Free σ s.n s'.n → denL σ args = some xs →
      CallsIn F n P f xs.toArray w (Ret σ w s v s') := by
  unfold callO at h
  split at h
  · rename_i r hr'
    cases h
    exact (hr.orc _ _ _ _ _ hr').2
  · exact callF_sound hr h

/-! ### The call's operation -/
theorem target_ok {g : AV} {k : FuncId} {l c : List AV} {x : Value} (h : targetOf g = some (k, l, c)) (hx : den σ g = some x) :
    ∃ ls cs, x = .func (.func k) ls.toArray cs.toArray ∧ denL σ l = some ls ∧ denL σ c = some cs := by
  cases g with
  | fn f a b =>
    cases f with
    | func k' =>
      simp only [targetOf] at h
      cases h
      simp only [den] at hx
      split at hx
      · rename_i u z h1 h2
        cases hx
        exact ⟨u, z, rfl, h1, h2⟩
      · cases hx
    | _ => simp [targetOf] at h
  | v y =>
    simp only [den] at hx
    cases hx
    cases x with
    | func f a b =>
      cases f with
      | func k' =>
        simp only [targetOf] at h
        cases h
        exact ⟨a.toList, b.toList, by simp, denL_v _, denL_v _⟩
      | _ => simp [targetOf] at h
    | _ => simp [targetOf] at h
  | _ => simp [targetOf] at h
theorem run_callFunc {f : FuncId} {fn : Func} {c : Code} {args : Array Value} (hf : P.funcs[f]? = some fn) (hb : fn.body = some c) (hn : (fn.name == "runtime.NumGoroutine") = false) :
    (callFunc f args).run P w = .ok (.enter f args) w := by
  unfold callFunc
  rw [Sem.run_bind, run_program]
  simp only [Result.andThen_ok, hf]
  rw [if_neg (by rw [hn]; simp), if_neg (by rw [hb]; simp)]
  rfl
theorem exec_call {ρ : Operand → Value} {o : Oper} {c : Call} {g : Operand} {k : FuncId} {ls cs : Array Value} {fn : Func} {cd : Code} (ho : o.op = .call c) (hc : c.callee = .value g)
    (hg : ρ g = .func (.func k) ls cs) (hf : P.funcs[k]? = some fn) (hb : fn.body = some cd) (hn : (fn.name == "runtime.NumGoroutine") = false) :
    (execOp ρ o).run P w = .ok (.enter k (ls ++ c.args.map ρ ++ cs)) w := by
  unfold execOp
  rw [ho]
  simp only [resolve, hc, hg, Deferred.ofValue]
  show (callFunc k (ls ++ c.args.map ρ ++ cs)).run P w = _
  exact run_callFunc hf hb hn
theorem run_getLoop {B : Nat} {L : Loop} (h : w.heap[B]? = some (.loop L)) : (Instr.getLoop B).run P w = .ok L w := by
  simp only [Instr.getLoop, Sem.run_bind, getObj, Sem.run, h, Result.andThen_ok]
  rfl
theorem exec_yield {ρ : Operand → Value} {o : Oper} {c : Call} {g : Operand} {B : Nat} {L : Loop} (ho : o.op = .call c) (hc : c.callee = .value g)
    (hg : ρ g = .func (.yield B) #[] #[]) (hL : w.heap[B]? = some (.loop L)) (hsz : c.args.size = L.params.size) :
    (execOp ρ o).run P w = .ok (.round B L.fn ((L.params.zip (c.args.map ρ)).foldl (fun tmps (t, a) => tmps.setIfInBounds t a) L.tmps) L.assign L.body) w := by
  unfold execOp
  rw [ho]
  simp only [resolve, hc, hg, Deferred.ofValue]
  show (Instr.yield B (#[] ++ c.args.map ρ)).run P w = _
  unfold Instr.yield
  rw [Sem.run_bind, run_getLoop hL]
  simp only [Result.andThen_ok, Array.empty_append]
  rw [if_neg (by simp [hsz])]
  rfl
/-! ### Functions without a body -/
theorem ovl_rows : (Extern.allGenericRows.lookup "slices.overlaps").isNone = true ∧ (Extern.allNextRows.lookup "slices.overlaps").isNone = true := by constructor <;> kernel_rfl
theorem ovl_row : Extern.allTypedRows.lookup "slices.overlaps" = some Extern.SlicesOverlaps.overlaps := by kernel_rfl
theorem ovlFn_ok {fn : Func} (h : ovlFn P fn = true) : fn.body = none ∧ (fn.name == "runtime.NumGoroutine") = false ∧ Extern.findNext fn = none ∧
    ∃ t e i r, P.underlying t = some (.slice e) ∧ P.info? e = some i ∧ Extern.find fn = some (Extern.SlicesOverlaps.overlaps #[t, t] #[r]) := by
  unfold ovlFn at h
  split at h
  · rename_i t u r h1 h2 h3 h4 h5
    split at h
    · rename_i e h6 h7
      split at h
      · rename_i i h8
        split at h
        · rename_i g1 g2 g3 g4
          have e3 : fn.origin = "slices.overlaps" := by simpa using h3
          have e4 : fn.params = #[t, t] := by
            have : t = u := Nat.eq_of_beq_eq_true h6
            subst this
            exact Array.ext' h4
          have e5 : fn.resultTypes = #[r] := Array.ext' h5
          have k1 := Option.isNone_iff_eq_none.1 g1
          have k2 := Option.isNone_iff_eq_none.1 g2
          have k3 := Option.isNone_iff_eq_none.1 g3
          have k4 := Option.isNone_iff_eq_none.1 g4
          have l1 := Option.isNone_iff_eq_none.1 ovl_rows.1
          have l4 := Option.isNone_iff_eq_none.1 ovl_rows.2
          refine ⟨h1, h2, ?_, t, e, i, r, h7, h8, ?_⟩
          · simp only [Extern.findNext, k4, e3, l4, Option.map_none, HOrElse.hOrElse, OrElse.orElse, Option.orElse]
          · simp only [Extern.find, k1, k2, k3, e3, e4, e5, l1, ovl_row, Option.map_none, Option.map_some, HOrElse.hOrElse, OrElse.orElse, Option.orElse]
        · cases h
      · cases h
    · cases h
  · cases h
theorem hasCells_ok {H : Tr AB} {b : Nat} (h : hasCells H b = true) (hs : Sim H σ w) : ∃ B L t, σ.blk b = some B ∧ w.heap[B]? = some (.cells L t (0, 0)) ∧ L.size ≠ 0 ∧ H.get b ≠ none := by
  unfold hasCells at h
  split at h
  · rename_i a l t hb
    obtain ⟨B, o, h1, h2, vs, h3, rfl⟩ := hs.1 _ _ hb
    refine ⟨B, _, t, h1, h2, ?_, by rw [hb]; simp⟩
    have := denL_len h3
    simp only [List.length_cons] at this
    simp only [List.size_toArray]
    omega
  · rename_i a l t sz hb
    obtain ⟨B, o, h1, h2, vs, rest, h3, rfl, h4⟩ := hs.1 _ _ hb
    refine ⟨B, _, t, h1, h2, ?_, by rw [hb]; simp⟩
    have := denL_len h3
    simp only [List.length_cons] at this
    simp only [List.size_toArray, List.length_append]
    omega
  · cases h
theorem slOf_ok {a : AV} {b : Nat} {x : Value} (h : slOf a = some b) (hx : den σ a = some x) : ∃ B o n c, σ.blk b = some B ∧ x = .slice (some ⟨B, o, none⟩) n c := by
  cases a with
  | sl b' o n c =>
    simp only [slOf, Option.some.injEq] at h
    subst h
    simp only [den, Option.map_eq_some_iff] at hx
    obtain ⟨B, h1, h2⟩ := hx
    exact ⟨B, o, n, c, h1, h2.symm⟩
  | slu b' o n d =>
    simp only [slOf, Option.some.injEq] at h
    subst h
    obtain ⟨B, h1, h2, _⟩ := den_slu hx
    exact ⟨B, o, n, _, h1, h2⟩
  | _ => simp [slOf] at h
theorem extO_ok {k : FuncId} {l : List AV} {v : AV} (h : extO P k l s = some (v, s')) :
    s' = s ∧ ∀ (σ : Env) (w : World) (xs : List Value), Sim s.H σ w → denL σ l = some xs → ∃ r, den σ v = some r ∧ (callFunc k xs.toArray).run P w = .ok (.value r) w := by
  unfold extO at h
  split at h
  · cases h
  · rename_i fn hf
    split at h
    · rename_i a b ho
      split at h
      · rename_i x y hx hy
        split at h
        · rename_i h1 h2 h3
          cases h
          refine ⟨rfl, fun σ w xs hs hd => ⟨.bool false, rfl, ?_⟩⟩
          obtain ⟨q1, q2, q3, t, e, i, r, q4, q5, q6⟩ := ovlFn_ok ho
          simp only [denL] at hd
          split at hd
          · rename_i u z d1 d2
            split at d2
            · rename_i u' z' d3 d4
              cases d4
              cases d2
              cases hd
              obtain ⟨A, oa, na, ca, a1, rfl⟩ := slOf_ok hx d1
              obtain ⟨B, ob, nb, cb, b1, rfl⟩ := slOf_ok hy d3
              obtain ⟨A', LA, tA, a2, a3, a4, a5⟩ := hasCells_ok h2 hs
              obtain ⟨B', LB, tB, b2, b3, b4, b5⟩ := hasCells_ok h3 hs
              rw [a1] at a2; cases a2
              rw [b1] at b2; cases b2
              have hne : A ≠ B := fun q => by
                subst q
                have := hs.2.1 _ _ _ a5 b5 a1 b1
                subst this
                simp at h1
              rw [run_callFunc_extern hf q2 (by rw [q1]; rfl) q3 q6]
              rw [Lib.run_overlaps_apart w t r e q4 i.size (fun w => run_sizeOf q5) ⟨A, oa, none⟩ ⟨B, ob, none⟩ na ca nb cb hne tA tB LA.size LB.size
                (by simp [World.shape?, a3]) (by simp [World.shape?, b3]) b4 (by simp [World.frozen?, a3]) (by simp [World.frozen?, a3])]
              rfl
            · cases d2
          · cases hd
        · cases h
      · cases h
    · cases h
theorem exec_ext {ρ : Operand → Value} {o : Oper} {c : Call} {g : Operand} {k : FuncId} {ls cs : Array Value} {r : Value} (ho : o.op = .call c) (hc : c.callee = .value g)
    (hg : ρ g = .func (.func k) ls cs) (h : (callFunc k (ls ++ c.args.map ρ ++ cs)).run P w = .ok (.value r) w) :
    (execOp ρ o).run P w = .ok (.value r) w := by
  unfold execOp
  rw [ho]
  simp only [resolve, hc, hg, Deferred.ofValue]
  exact h
theorem entriesOf_len {es : List (Value × AV × Nat)} : ∀ {vs : List Value}, vs.length = es.length → (entriesOf es vs).length = es.length := by
  induction es with
  | nil => intro vs h; cases vs <;> rfl
  | cons e es ih => intro vs h; cases vs with
    | nil => simp at h
    | cons v vs => simp only [entriesOf, List.length_cons, ih (vs := vs) (by simpa using h)]
theorem lenM_ok {b : Builtin} {ts : Array TypeId} {l : Option (List AV)} {v : AV} (h : lenM P b ts.toList l s = some (v, s')) :
    s' = s ∧ ∃ m t, b = .len ∧ ts = #[t] ∧ l = some [.mp m] ∧ ∀ (σ : Env) (w : World) (xs : Array Value) (ty : TypeId) (cn : Array Bool), Sim s.H σ w → denL σ [.mp m] = some xs.toList →
      ∃ r, den σ v = some r ∧ (builtin b ts ty cn xs).run P w = .ok (.value r) w := by
  unfold lenM at h
  split at h
  · rename_i t m ht
    split at h
    · rename_i k e es clock h1 h2
      cases h
      refine ⟨rfl, m, t, rfl, by rw [← ht], rfl, fun σ w xs ty cn hs hd => ?_⟩
      obtain ⟨M, o, m1, m2, vs, m3, rfl⟩ := hs.1 _ _ h2
      obtain rfl : ts = #[t] := by rw [← ht]
      obtain ⟨x, q1, q2⟩ := denL_one hd
      obtain rfl : xs = #[x] := by rw [← q2]
      simp only [den, m1, Option.map_some, Option.some.injEq] at q1
      subst q1
      refine ⟨_, rfl, ?_⟩
      have hlen : (entriesOf es vs).length = es.length := entriesOf_len (by rw [denL_len m3, List.length_map])
      refine run_val ?_
      unfold Builtin.len_
      simp only [List.getElem?_toArray, List.getElem?_cons_zero, Sem.run_bind, run_under h1, Result.andThen_ok, Sem.run_pure, run_getMap m2, goInt, List.size_toArray, hlen]
      rfl
    · cases h
  · cases h
end
end Go.Proofs.Ytbhjbcldhejpaaa.Ev

/- Rounds of loops over functions, single operations with calls, regions in the text's order. -/
namespace Go.Proofs.Ytbhjbcldhejpaaa.Ev
set_option linter.unusedVariables false
set_option linter.unusedSimpArgs false
open Go
noncomputable section
variable {σ : Env} {P : Program} {w : World} {s s' : HS} {F : Fence} {n : Nat} {rec : Rec}

theorem setParams_ok : ∀ {ps : List Nat} {args : List AV} {xs : List Value} {sz : Nat} {tm tm' : Tr AV} {tmps : Array Value}, setParams ps args sz tm = some tm' → sz ≤ 16000 → denL σ args = some xs → Tm σ tm sz tmps →
    ps.length = args.length ∧ Tm σ tm' sz ((ps.zip xs).foldl (fun tmps (t, a) => tmps.setIfInBounds t a) tmps)
  | [], [], xs, sz, tm, tm', tmps, h, hs, hx, ht => by
    simp only [setParams] at h
    cases h
    exact ⟨rfl, ht⟩
  | [], _ :: _, xs, sz, tm, tm', tmps, h, hs, hx, ht => by cases h
  | _ :: _, [], xs, sz, tm, tm', tmps, h, hs, hx, ht => by cases h
  | p :: ps, a :: l, xs, sz, tm, tm', tmps, h, hs, hx, ht => by
    simp only [denL] at hx
    cases e1 : den σ a with
    | none => rw [e1] at hx; cases hx
    | some x => cases e2 : denL σ l with
      | none => rw [e1, e2] at hx; cases hx
      | some z =>
        rw [e1, e2] at hx
        cases hx
        simp only [setParams] at h
        split at h
        · rename_i hb
          have hput : putT tm sz (some p) a = some (Tr.set 14 tm p a) := by simp only [putT, hb]
          have ht2 := putT_ok (a := { tmps := tmps, defers := [] }) hput hs ht e1
          obtain ⟨h3, h4⟩ := setParams_ok h hs e2 ht2
          exact ⟨by simp [h3], h4⟩
        · cases h
theorem setParams_arr {ps : Array Nat} {args : List AV} {xs : Array Value} {sz : Nat} {tm tm' : Tr AV} {tmps : Array Value} (h : setParams ps.toList args sz tm = some tm') (hs : sz ≤ 16000) (hx : denL σ args = some xs.toList) (ht : Tm σ tm sz tmps) :
    xs.size = ps.size ∧ Tm σ tm' sz ((ps.zip xs).foldl (fun tmps (t, a) => tmps.setIfInBounds t a) tmps) := by
  obtain ⟨h1, h2⟩ := setParams_ok h hs hx ht
  refine ⟨?_, ?_⟩
  · have := denL_len hx
    simp at this h1
    omega
  · rw [← Array.foldl_toList, Array.toList_zip]
    exact h2
theorem run_setObj {B : Nat} {L : Loop} {o : Obj} (h : w.heap[B]? = some (.loop L)) : (setObj B o).run P w = .ok () (setBlock w B o) := by
  simp only [setObj, Sem.run, h]
  rfl
theorem run_beginRound {B : Nat} {L : Loop} (h : w.heap[B]? = some (.loop L)) (hr : L.state = .ready) : (Instr.beginRound B).run P w = .ok () (setBlock w B (.loop { L with state := .busy })) := by
  unfold Instr.beginRound
  rw [Sem.run_bind, run_getLoop h]
  simp only [Result.andThen_ok, Sem.run_bind, run_setObj h, hr]
  rfl
theorem run_endRound {B : Nat} {L : Loop} {j : Option Code} (h : w.heap[B]? = some (.loop L)) :
    (Instr.endRound B j).run P w = .ok (.bool j.isNone) (setBlock w B (.loop { L with state := if j.isNone then .ready else .done, pending := j })) := by
  unfold Instr.endRound
  rw [Sem.run_bind, run_getLoop h]
  simp only [Result.andThen_ok, Sem.run_bind, run_setObj h]
  rfl
theorem endRnd_n {b : Nat} {e : Exit} {fs : FS} {v : AV} (h : endRnd b (some (e, fs)) = some (v, s')) : s'.n = fs.s.n := by
  obtain ⟨tm, df, s⟩ := fs
  unfold endRnd at h
  simp only at h
  split at h
  · cases h
    rw [HS.upd_eq]
  · cases h
theorem endRnd_ok {hid : List Deferred} {sz b B : Nat} {e : Exit} {fs : FS} {v : AV} {a : Act} {R : Ending → World → Prop} (h : endRnd b (some (e, fs)) = some (v, s')) (st : St hid σ sz fs a w) (hb : σ.blk b = some B)
    (k : ∀ r w', den σ v = some r → Moved fs.s σ w s' σ w' → R (.returned r) w') : roundPost P B R e a w := by
  obtain ⟨tm, df, s⟩ := fs
  unfold endRnd at h
  simp only at h
  split at h
  · rename_i j st2 pend2 tm2 sz2 params2 assign2 body2 df2 hj hg
    cases h
    obtain ⟨B', o, q1, q2, q3⟩ := st.sim.1 b _ hg
    rw [hb] at q1
    cases q1
    obtain ⟨fn, tmps, D, r1, r2, rfl⟩ := q3
    have hst : (match j.isNone with | true => LoopState.ready | false => LoopState.done) = (if j.isNone then LoopState.ready else LoopState.done) := by cases j.isNone <;> rfl
    have hm := moved_upd st.good st.sim (by rw [hg]; simp) hb (.loop (match j.isNone with | true => .ready | false => .done) j tm2 sz2 params2 assign2 body2 df2)
      (.loop { state := if j.isNone then .ready else .done, pending := j, fn := fn, tmps := tmps, params := params2, assign := assign2, body := body2, defers := D }) ⟨fn, tmps, D, r1, r2, by rw [hst]⟩
    have hk := k (.bool j.isNone) _ rfl hm
    have he := run_endRound (P := P) (j := j) q2
    cases e with
    | normal => simp only [jumpOf] at hj; cases hj; exact ⟨_, _, he, hk⟩
    | ret => simp only [jumpOf] at hj; cases hj; exact ⟨_, _, he, hk⟩
    | exit id => simp only [jumpOf] at hj; cases hj; exact ⟨_, _, he, hk⟩
    | _ => simp [jumpOf] at hj
  · cases h
theorem rndF_sound (hr : SoundC P rec) {b : Nat} {args : List AV} {v : AV} (h : rndF rec b args s = some (v, s')) :
    s.n ≤ s'.n ∧ ∀ (F : Fence) (n : Nat) (σ : Env) (w : World) (xs : Array Value) (B : Nat), Wide F → Good s → Sim s.H σ w → Free σ s.n s'.n → denL σ args = some xs.toList → σ.blk b = some B →
      ∃ L, w.heap[B]? = some (.loop L) ∧ xs.size = L.params.size ∧ RoundIn F n P B L.fn ((L.params.zip xs).foldl (fun tmps (t, a) => tmps.setIfInBounds t a) L.tmps) L.assign L.body w (Ret σ w s v s') := by
  unfold rndF at h
  split at h
  · rename_i st pend tm sz params assign body df hg
    split at h
    · rename_i tm' hp hsz
      have hsz' := Nat.le_of_ble_eq_true hsz
      split at h
      · rename_i tmy dfy sy hy
        split at h
        · rename_i pend1 tm1 sz1 params1 assign1 body1 df1 hg1
          obtain ⟨l1, c1⟩ := hr.code _ _ _ _ _ _ hy hsz'
          cases hz : rec (some b) sz body ⟨tmy, dfy, sy.upd b (.loop .busy pend1 tm1 sz1 params1 assign1 body1 df1)⟩ with
          | none => rw [hz] at h; cases h
          | some q =>
            obtain ⟨e, fz⟩ := q
            rw [hz] at h
            obtain ⟨l2, c2⟩ := hr.code _ _ _ _ _ _ hz hsz'
            have l3 := endRnd_n h
            have l1' : s.n ≤ sy.n := l1
            have l2' : sy.n ≤ fz.s.n := by rw [HS.upd_eq] at l2; exact l2
            refine ⟨by rw [l3]; omega, fun F n σ w xs B hW g hs hfree hx hb => ?_⟩
            obtain ⟨B', o, q1, q2, q3⟩ := hs.1 b _ hg
            rw [hb] at q1
            cases q1
            obtain ⟨fn, tmps, D, r1, r2, rfl⟩ := q3
            obtain ⟨x1, x2⟩ := setParams_arr hp hsz' hx r1
            refine ⟨_, q2, x1, roundIn_of_wpIn (hW.fn _) ?_⟩
            have hW' := hW.inRound B
            have st0 : St [] σ sz ⟨tm', [], s⟩ { tmps := (params.zip xs).foldl (fun tmps (t, a) => tmps.setIfInBounds t a) tmps, defers := [] } w := ⟨g, hs, x2, rfl⟩
            refine wpIn_mono (c1 (F.inRound B) n σ _ w hW' ⟨B, rfl, hb⟩ st0 (hfree.sub (Nat.le_refl _) (by rw [l3]; omega))) (fun e' a1 w1 hp1 => ?_)
            obtain ⟨σ1, rfl, m1, st1⟩ := hp1.st g
            have hle1 := m1.env_le (hfree.sub (Nat.le_refl _) (by rw [l3]; omega))
            have hb1 := (hle1 b B hb).1
            obtain ⟨B', o, q1, q2, q3⟩ := m1.sim.1 b _ hg1
            rw [hb1] at q1
            cases q1
            obtain ⟨fn1, tmps1, D1, y1, y2, rfl⟩ := q3
            have mu := moved_upd st1.good st1.sim (b := b) (by rw [hg1]; simp) hb1 (.loop .busy pend1 tm1 sz1 params1 assign1 body1 df1)
              (.loop { state := .busy, pending := pend1, fn := fn1, tmps := tmps1, params := params1, assign := assign1, body := body1, defers := D1 }) ⟨fn1, tmps1, D1, y1, y2, rfl⟩
            have m2 := m1.trans g mu
            refine ⟨_, run_beginRound q2 rfl, ?_⟩
            have st2 : St [] σ1 sz ⟨tmy, dfy, sy.upd b (.loop .busy pend1 tm1 sz1 params1 assign1 body1 df1)⟩ a1 (setBlock w1 B (.loop { state := .busy, pending := pend1, fn := fn1, tmps := tmps1, params := params1, assign := assign1, body := body1, defers := D1 })) :=
              ⟨m2.good g, m2.sim, st1.tm, st1.df⟩
            have fr1 : Free σ1 sy.n fz.s.n := by
              have q := m1.free (b := fz.s.n) (hfree.sub (Nat.le_refl _) (by rw [l3]; omega))
              exact q
            refine wpIn_mono (c2 (F.inRound B) n σ1 _ _ hW' ⟨B, rfl, hb1⟩ st2 (by rw [HS.upd_eq]; exact fr1)) (fun e2 a2 w2 hp2 => ?_)
            obtain ⟨σ2, rfl, m3, st3⟩ := hp2.st (m2.good g)
            have hle2 := m3.env_le (by rw [HS.upd_eq]; exact fr1)
            have hb2 := (hle2 b B hb1).1
            refine endRnd_ok h st3 hb2 (fun r w3 hd hm3 => ?_)
            exact ⟨r, σ2, rfl, hd, (m2.trans g m3).trans g hm3⟩
        · cases h
      · cases h
    · cases h
  · cases h

/-! ### One operation -/
/-- An operation is carried out, and its value laid. -/
def OpOK (F : Fence) (n : Nat) (P : Program) (o : Oper) (a : Act) (σ : Env) (w : World) (s : HS) (v : AV) (s' : HS) : Prop :=
  ∀ (K : Act → World → Prop) (Q : Exit → Act → World → Prop), (∀ r σ' w', den σ' v = some r → Moved s σ w s' σ' w' → K (a.put o.dst r) w') → o.wpIn F n P a w K Q
theorem opOK_of_res (hW : Wide F) {o : Oper} {a : Act} {v : AV} (hd : ∀ c, o.op ≠ .defer c) (h : Res P s σ w (execOp a.eval o) v s') : OpOK F n P o a σ w s v s' := by
  intro K Q hK
  obtain ⟨σ', w', r, h1, h2, h3⟩ := h
  refine ⟨fun f _ => hW.fn f, ?_⟩
  rw [Oper.semAt_plain F _ _ hd]
  rcases h1 with h1 | ⟨h1, rfl⟩
  · rw [h1]
    exact hK r σ' w' h2 h3
  · rw [h1]
    exact hK undef σ' w' h2 h3
theorem evO_sound' {tm : Tr AV} {o : Oper} {v : AV} (h : evO P tm s o = some (v, s')) (hn : s.n ≤ s'.n) (hd : ∀ c, o.op ≠ .defer c) (hW : Wide F) {sz : Nat} {a : Act} (g : Good s) (hs : Sim s.H σ w) (hf : Free σ s.n s'.n) (ht : Tm σ tm sz a.tmps) : OpOK F n P o a σ w s v s' :=
  opOK_of_res hW hd (evO_sound g hs (fun q => hf s.n (Nat.le_refl _) q) ht h)
theorem store_n {b off : Nat} {cs : List AV} (h : s.store b off cs = some s') : s'.n = s.n := by
  unfold HS.store at h
  split at h
  · split at h
    · cases h; rw [HS.upd_eq]
    · cases h
  · split at h
    · cases h; rw [HS.upd_eq]
    · cases h
  · cases h
theorem grow_n {e : TypeId} {n k c : Nat} {old new : List AV} {v : AV} (h : growA P s e n k c old new = some (v, s')) : s'.n = s.n + 1 := by
  unfold growA at h
  repeat' (split at h)
  all_goals first
    | (cases h; done)
    | (cases h; rfl)
theorem appMid_n {b n k size sz : Nat} {l cs : List AV} {v : AV} (h : appMid s b n k size sz l cs = some (v, s')) : s.n ≤ s'.n := by
  unfold appMid at h
  repeat' (split at h)
  all_goals first
    | (cases h; done)
    | (cases h; exact Nat.le_of_eq (store_n ‹_›).symm)
theorem append_n {t0 t1 : TypeId} {a x : AV} {v : AV} (h : appendA P s t0 t1 a x = some (v, s')) : s.n ≤ s'.n := by
  unfold appendA at h
  repeat' (split at h)
  all_goals first
    | (cases h; done)
    | (rw [grow_n h]; omega)
    | exact appMid_n h
    | (cases h; exact Nat.le_refl _)
    | (cases h; exact Nat.le_of_eq (store_n ‹_›).symm)
    | (cases h; rw [HS.swap_eq]; exact Nat.le_succ _)
theorem copy_n {t0 : TypeId} {a x : AV} {v : AV} (h : copyA P s t0 a x = some (v, s')) : s.n ≤ s'.n := by
  unfold copyA at h
  repeat' (split at h)
  all_goals first
    | (cases h; done)
    | (cases h; exact Nat.le_refl _)
    | (cases h; exact Nat.le_of_eq (store_n ‹_›).symm)
theorem clear_n {t0 : TypeId} {x : AV} {v : AV} (h : clearA P s t0 x = some (v, s')) : s.n ≤ s'.n := by
  unfold clearA at h
  repeat' (split at h)
  all_goals first
    | (cases h; done)
    | (cases h; exact Nat.le_of_eq (store_n ‹_›).symm)
theorem fin_n {x : Option AV} {v : AV} (h : fin s x = some (v, s')) : s.n ≤ s'.n := by rw [(fin_some h).2]; exact Nat.le_refl _
theorem upd_n {b : Nat} {x : AB} : s.n ≤ (s.upd b x).n := by rw [HS.upd_eq]; exact Nat.le_refl _
theorem cut_n {t : TypeId} {x k v : AV} (h : mapCutA P s t x k = some (v, s')) : s.n ≤ s'.n := by
  obtain ⟨b, y, _, rfl⟩ := mapCut_upd h
  exact upd_n
theorem mapPut_n {tm : Tr AV} {t : TypeId} {x k y : Operand} {o : Oper} {v : AV} (h : eMapPut t x k y P tm s o = some (v, s')) : s.n ≤ s'.n := by
  unfold eMapPut at h
  split at h
  · split at h
    · rename_i s1 hp
      cases h
      obtain ⟨b, y, _, rfl⟩ := mapPut_upd hp
      exact upd_n
    · cases h
  · cases h
theorem mapEnt_n {t : TypeId} {x k v : AV} (h : mapEntA P s t x k = some (v, s')) : s.n ≤ s'.n := by
  obtain ⟨b, y, _, rfl⟩ := mapEnt_upd h
  exact upd_n
theorem entPut_n {tm : Tr AV} {x k y : Operand} {o : Oper} {v : AV} (h : eEntPut x k y P tm s o = some (v, s')) : s.n ≤ s'.n := by
  unfold eEntPut at h
  split at h
  · split at h
    · rename_i s1 hp
      cases h
      obtain ⟨b, y, _, rfl⟩ := entPut_upd hp
      exact upd_n
    · cases h
  · cases h
theorem blt_n {b : Builtin} {ts : List TypeId} {l : List AV} {v : AV} (h : evBlt P s b ts l = some (v, s')) : s.n ≤ s'.n := by
  unfold evBlt at h
  repeat' (split at h)
  all_goals first
    | (cases h; done)
    | exact append_n h
    | exact copy_n h
    | exact clear_n h
    | exact fin_n h
    | exact cut_n h
theorem gen_n {tm : Tr AV} {o : Oper} {v : AV} (h : gen P tm s o = some (v, s')) : s.n ≤ s'.n := by
  unfold gen at h
  repeat' (split at h)
  all_goals first
    | (cases h; done)
    | (cases h; exact Nat.le_refl _)
theorem evO_n {tm : Tr AV} {o : Oper} {v : AV} (h : evO P tm s o = some (v, s')) : s.n ≤ s'.n := by
  unfold evO at h
  generalize o.op = op at h
  unfold evD at h
  split at h
  · exact fin_n h
  · exact fin_n h
  · unfold ePick at h
    repeat' (split at h)
    all_goals first
      | (cases h; done)
      | exact fin_n h
  · unfold eAlloc at h
    split at h
    · cases h; exact Nat.le_succ _
    · cases h
  · unfold eBox at h
    split at h
    · cases h; exact Nat.le_succ _
    · cases h
  · unfold eBuild at h
    rcases orGen_some h with h | h
    · exact gen_n h
    · split at h
      · exact fin_n h
      · cases h
  · unfold eBuildSlice at h
    split at h
    · rw [buildSlice_n h]; exact Nat.le_succ _
    · cases h
  · unfold eLoad at h
    split at h
    · exact fin_n h
    · exact fin_n h
    · cases h
  · unfold eStore at h
    split at h
    · split at h
      · cases h; exact Nat.le_of_eq (store_n ‹_›).symm
      · cases h
    · cases h
  · unfold eNil at h
    repeat' (split at h)
    all_goals first
      | (cases h; done)
      | (cases h; exact Nat.le_refl _)
  · unfold eFunc at h
    repeat' (split at h)
    all_goals first
      | (cases h; done)
      | (cases h; exact Nat.le_refl _)
  · unfold eMakeSlice at h
    split at h
    · rw [makeSlice_n h]; exact Nat.le_succ _
    · cases h
  · unfold eSlice at h
    rcases orGen_some h with h | h
    · split at h
      · exact fin_n h
      · cases h
    · exact gen_n h
  · unfold eFieldAddr at h
    split at h
    · exact fin_n h
    · cases h
  · unfold eIndexAddr at h
    split at h
    · exact fin_n h
    · cases h
  · unfold eField at h
    split at h
    · exact fin_n h
    · cases h
  · unfold eIndex at h
    rcases orGen_some h with h | h
    · split at h
      · exact fin_n h
      · cases h
    · exact gen_n h
  · unfold eExtract at h
    rcases orGen_some h with h | h
    · split at h
      · exact fin_n h
      · cases h
    · exact gen_n h
  · unfold eCall at h
    split at h
    · rcases orGen_some h with h | h
      · split at h
        · exact blt_n h
        · cases h
      · exact gen_n h
    · cases h
  · unfold eBin at h
    rcases orGen_some h with h | h
    · repeat' (split at h)
      all_goals first
        | (cases h; done)
        | (unfold finV at h
           split at h
           · cases h; exact Nat.le_refl _
           · cases h)
    · unfold genB at h
      rcases orGen_some h with h | h
      · unfold finV at h
        split at h
        · cases h; exact Nat.le_refl _
        · cases h
      · exact gen_n h
  · rw [(makeMap_n h).1]; exact Nat.le_succ _
  · unfold eLook at h
    split at h
    · exact fin_n h
    · cases h
  · exact mapPut_n h
  · exact mapPut_n h
  · unfold eMapEnt at h
    split at h
    · exact mapEnt_n h
    · cases h
  · exact entPut_n h
  · unfold eRange at h
    split at h
    · obtain ⟨y, rfl⟩ := range_n h
      exact Nat.le_succ _
    · cases h
  · unfold eNext at h
    split at h
    · rcases next_upd h with rfl | ⟨b, y, _, rfl⟩
      · exact Nat.le_refl _
      · exact upd_n
    · cases h
  · unfold eEntry at h
    split at h
    · exact fin_n h
    · cases h
  · exact gen_n h
end
end Go.Proofs.Ytbhjbcldhejpaaa.Ev

/- Straight code on known values. -/
namespace Go.Proofs.Ytbhjbcldhejpaaa.Ev
set_option linter.unusedVariables false
set_option linter.unusedSimpArgs false
open Go
noncomputable section
variable {σ : Env} {P : Program} {w : World} {s s' : HS} {F : Fence} {n : Nat} {rec : Rec}

theorem opOK_call (hW : Wide F) {o : Oper} {a : Act} {v : AV} {k : FuncId} {args : Array Value} (hd : ∀ c, o.op ≠ .defer c) (he : (execOp a.eval o).run P w = .ok (.enter k args) w)
    (h : ∀ n, CallsIn F n P k args w (Ret σ w s v s')) : OpOK F n P o a σ w s v s' := by
  intro K Q hK
  refine ⟨fun f _ => hW.fn f, ?_⟩
  rw [Oper.semAt_plain F _ _ hd, he]
  refine ⟨hW.le, CallsIn.mono (h _) (fun e w' he => ?_)⟩
  obtain ⟨r, σ', rfl, h1, h2⟩ := he
  exact hK r σ' w' h1 h2
theorem opOK_round (hW : Wide F) {o : Oper} {a : Act} {v : AV} {l : Nat} {f : FuncId} {tmps : Array Value} {assign body : Code} (hd : ∀ c, o.op ≠ .defer c)
    (he : (execOp a.eval o).run P w = .ok (.round l f tmps assign body) w) (h : ∀ n, RoundIn F n P l f tmps assign body w (Ret σ w s v s')) : OpOK F n P o a σ w s v s' := by
  intro K Q hK
  refine ⟨fun f _ => hW.fn f, ?_⟩
  rw [Oper.semAt_plain F _ _ hd, he]
  refine ⟨hW.le, RoundIn.mono (h _) (fun e w' he => ?_)⟩
  obtain ⟨r, σ', rfl, h1, h2⟩ := he
  exact hK r σ' w' h1 h2
theorem ev1_sound (hr : SoundC P rec) {tm : Tr AV} {o : Oper} {v : AV} (h : ev1 rec P tm s o = some (v, s')) :
    s.n ≤ s'.n ∧ ∀ (F : Fence) (n : Nat) (σ : Env) (a : Act) (w : World) (sz : Nat), Wide F → Good s → Sim s.H σ w → Free σ s.n s'.n → Tm σ tm sz a.tmps → OpOK F n P o a σ w s v s' := by
  have plain : (∀ c, o.op ≠ .defer c) → evO P tm s o = some (v, s') → s.n ≤ s'.n ∧ ∀ (F : Fence) (n : Nat) (σ : Env) (a : Act) (w : World) (sz : Nat), Wide F → Good s → Sim s.H σ w → Free σ s.n s'.n → Tm σ tm sz a.tmps → OpOK F n P o a σ w s v s' :=
    fun hd h => ⟨evO_n h, fun F n σ a w sz hW g hs hf ht => evO_sound' h (evO_n h) hd hW g hs hf ht⟩
  unfold ev1 at h
  cases ho : o.op with
  | call c =>
    have hd : ∀ c, o.op ≠ .defer c := fun c q => by rw [ho] at q; cases q
    rw [ho] at h
    simp only [e1D, e1Call] at h
    cases hc : c.callee with
    | builtin b =>
      rw [hc] at h
      simp only [orE] at h
      split at h
      case h_1 r hr1 =>
        cases h
        exact plain hd hr1
      case h_2 =>
        obtain ⟨rfl, m, t, e1, e2, e3, k⟩ := lenM_ok h
        refine ⟨Nat.le_refl _, fun F n σ a w sz hW gd hs hf ht => ?_⟩
        have el := opds_den ht e3
        obtain ⟨r, hv, hrun⟩ := k σ w (c.args.map a.eval) o.type (c.args.map fun | .const _ => true | _ => false) hs (by simpa using el)
        exact opOK_of_res hW hd ⟨σ, w, r, .inl (by rw [exec_builtin ho hc]; exact hrun), hv, Moved.refl gd hs⟩
    | invoke r m => rw [hc] at h; cases h
    | value f =>
      rw [hc] at h
      simp only [e1Go] at h
      split at h
      · cases h
      · rename_i x l hl
        split at h
        · cases h
        · rename_i y g hg
          split at h
          · rename_i b
            obtain ⟨h1, h2⟩ := rndF_sound hr h
            refine ⟨h1, fun F n σ a w sz hW gd hs hf ht => ?_⟩
            have eg := opd_den ht hg
            simp only [den, Option.map_eq_some_iff] at eg
            obtain ⟨B, hB, eg⟩ := eg
            have el : denL σ l = some (c.args.map a.eval).toList := by simpa using opds_den ht hl
            obtain ⟨L, q1, q2, _⟩ := h2 F 0 σ w _ B hW gd hs hf el hB
            refine opOK_round hW hd (exec_yield ho hc eg.symm q1 (by simpa using q2)) (fun n => ?_)
            obtain ⟨L', q1', _, q3⟩ := h2 F n σ w _ B hW gd hs hf el hB
            rw [q1] at q1'
            cases q1'
            exact q3
          · rename_i hny
            split at h
            · rename_i k first cap ht'
              unfold orE at h
              split at h
              case h_2 =>
                obtain ⟨rfl, h2⟩ := extO_ok h
                refine ⟨Nat.le_refl _, fun F n σ a w sz hW gd hs hf ht => ?_⟩
                obtain ⟨ls, cs, eg, e1, e2⟩ := target_ok ht' (opd_den ht hg)
                have el := opds_den ht hl
                obtain ⟨r, hv, hcall⟩ := h2 σ w (ls ++ c.args.toList.map a.eval ++ cs) hs (denL_append (denL_append e1 el) e2)
                have ea : (ls ++ c.args.toList.map a.eval ++ cs).toArray = ls.toArray ++ c.args.map a.eval ++ cs.toArray := by
                  apply Array.ext'
                  simp
                rw [ea] at hcall
                exact opOK_of_res hW hd ⟨σ, w, r, .inl (exec_ext ho hc eg hcall), hv, Moved.refl gd hs⟩
              rename_i rr hcc
              cases h
              replace h := hcc
              obtain ⟨h1, h2⟩ := callO_sound hr h
              obtain ⟨fn, cd, hf1, hf2, hf3⟩ := callO_some hr h
              refine ⟨h1, fun F n σ a w sz hW gd hs hf ht => ?_⟩
              obtain ⟨ls, cs, eg, e1, e2⟩ := target_ok ht' (opd_den ht hg)
              have el := opds_den ht hl
              refine opOK_call hW hd (exec_call ho hc eg hf1 hf2 hf3) (fun n => ?_)
              have := h2 F n σ w (ls ++ c.args.toList.map a.eval ++ cs) hW gd hs hf (denL_append (denL_append e1 el) e2)
              have ea : (ls ++ c.args.toList.map a.eval ++ cs).toArray = ls.toArray ++ c.args.map a.eval ++ cs.toArray := by
                apply Array.ext'
                simp
              rw [ea] at this
              exact this
            · cases h
  | defer c => rw [ho] at h; cases h
  | go c => rw [ho] at h; cases h
  | _ =>
    rw [ho] at h
    exact plain (fun c q => by rw [ho] at q; cases q) h
/-- Operations in the text's order. -/
theorem evOps_sound (hr : SoundC P rec) {sz : Nat} {ops : Array Oper} (hsz : sz ≤ 16000) : ∀ {l : List Oper} {tm tm' : Tr AV} {s s' : HS}, evOps rec P sz ops.toList l tm s = some (tm', s') →
    s.n ≤ s'.n ∧ ∀ (F : Fence) (n : Nat) (σ : Env) (a : Act) (w : World) (Q : Exit → Act → World → Prop), Wide F → Good s → Sim s.H σ w → Free σ s.n s'.n → Tm σ tm sz a.tmps →
      (∀ σ' a' w', Moved s σ w s' σ' w' → Tm σ' tm' sz a'.tmps → a'.defers = a.defers → Q .normal a' w') → wpListIn F n P ops Q l a w
  | [], tm, tm', s, s', h => by
    simp only [evOps] at h
    cases h
    exact ⟨Nat.le_refl _, fun F n σ a w Q hW g hs hf ht k => k σ a w (Moved.refl g hs) ht rfl⟩
  | o :: l, tm, tm', s, s', h => by
    unfold evOps at h
    split at h
    · cases h
    · rename_i hw
      split at h
      · rename_i tm1 hp
        obtain ⟨h1, h2⟩ := evOps_sound hr hsz h
        refine ⟨h1, fun F n σ a w Q hW g hs hf ht k => ?_⟩
        have hw' := wanted_ok hw ht
        unfold wpListIn
        rw [if_neg (by rw [hw']; simp)]
        refine ⟨fun f _ => hW.fn f, h2 F n σ _ w Q hW g hs hf (putT_ok hp hsz ht rfl) (fun σ' a' w' m t d => k σ' a' w' m t (by rw [d, put_defers]))⟩
      · cases h
    · rename_i hw
      split at h
      · cases h
      · rename_i v s1 h1
        split at h
        · rename_i tm1 hp
          obtain ⟨l1, c1⟩ := ev1_sound hr h1
          obtain ⟨l2, c2⟩ := evOps_sound hr hsz h
          refine ⟨Nat.le_trans l1 l2, fun F n σ a w Q hW g hs hf ht k => ?_⟩
          have hw' := wanted_ok hw ht
          have hf1 : Free σ s.n s1.n := hf.sub (Nat.le_refl _) l2
          unfold wpListIn
          rw [if_pos hw']
          refine c1 F n σ a w sz hW g hs hf1 ht _ _ (fun r σ1 w1 hd m1 => ?_)
          refine c2 F n σ1 _ w1 Q hW (m1.good g) m1.sim (m1.free hf) (putT_ok hp hsz (ht.le (m1.env_le hf1)) hd) (fun σ' a' w' m t d => ?_)
          exact k σ' a' w' (m1.trans g m) t (by rw [d, put_defers])
        · cases h

/-! ### Codes -/
theorem stepR_scope {b : Frame} {a : Act} {k : List Item} {cs : List Frame} {c : Code} : step P (lone (b.atR a (.code (.scope c) :: k)) cs w) = .next (lone (b.atR a (.code c :: .inScope c :: k)) cs w) :=
  step_lone_go (by simp [stepG, stepG.exec, Frame.atR])
theorem stepR_inScope {b : Frame} {a : Act} {k : List Item} {cs : List Frame} {c : Code} : step P (lone (b.atR a (.inScope c :: k)) cs w) = .next (lone (b.atR a k) cs w) :=
  step_lone_go (by simp [stepG, stepG.exec, Frame.atR])
theorem wpIn_scope {Q : Exit → Act → World → Prop} {a : Act} {c : Code} (h : c.wpIn F n P (fun e a w => (∀ l, e ≠ .goto l) ∧ Q e a w) a w) : (Code.scope c).wpIn F n P Q a w := by
  intro b k cs hro hb hr
  have h0 : (lone (b.atR a (.code (.scope c) :: k)) cs w).fenced P F := fenced_calm hb hr rfl
  obtain ⟨e, a₁, w₁, hq, harr⟩ := h b (.inScope c :: k) cs hro hb hr
  cases e with
  | normal => exact ⟨.normal, a₁, w₁, hq.2, .head h0 stepR_scope (StepsIn.trans harr (.one (fenced_calm hb hr rfl) stepR_inScope))⟩
  | exit id =>
    have hx : exitTo id (.inScope c :: k) = exitTo id k := by simp [exitTo]
    exact ⟨_, a₁, w₁, hq.2, fun k' hk => .head h0 stepR_scope (harr.1 k' (by rw [hx]; exact hk)),
      fun hr' hk => let ⟨k₁, h1, h2⟩ := harr.2 hr' (by rw [hx]; exact hk); ⟨k₁, h1, .head h0 stepR_scope h2⟩⟩
  | goto l => exact absurd rfl (hq.1 l)
  | ret => exact ⟨_, a₁, w₁, hq.2, .of_steps (.one h0 stepR_scope) harr⟩
  | panic ch => exact ⟨_, a₁, w₁, hq.2, .of_steps (.one h0 stepR_scope) harr⟩
  | outgrown => exact ⟨_, a₁, w₁, hq.2, .of_steps (.one h0 stepR_scope) harr⟩
/-- A region whose order is open does what the computation says. -/
def DrawOK (P : Program) (rec : Rec) : Prop := ∀ (sz : Nat) (id : Nat) (ops : Array Oper) (tm tm' : Tr AV) (s s' : HS), evDraw rec P sz ops tm s = some (tm', s') → sz ≤ 16000 →
  s.n ≤ s'.n ∧ ∀ (F : Fence) (n : Nat) (σ : Env) (a : Act) (w : World) (Q : Exit → Act → World → Prop), Wide F → Good s → Sim s.H σ w → Free σ s.n s'.n → Tm σ tm sz a.tmps →
    (∀ σ' a' w', Moved s σ w s' σ' w' → Tm σ' tm' sz a'.tmps → a'.defers = a.defers → Q .normal a' w') → (Code.region id ops true).wpIn F n P Q a w
/-- A piece of code, computed so, is run so. -/
def Ok1 (P : Program) (rd : Option Nat) (sz : Nat) (c : Code) (fs : FS) (e : Exit) (fs' : FS) : Prop :=
  fs.s.n ≤ fs'.s.n ∧ ∀ {hid : List Deferred} (F : Fence) (n : Nat) (σ : Env) (a : Act) (w : World), Wide F → RdOK rd F σ → St hid σ sz fs a w → Free σ fs.s.n fs'.s.n → c.wpIn F n P (Post hid σ sz fs w e fs') a w
theorem post_same {hid : List Deferred} {sz : Nat} {fs : FS} {e : Exit} {a : Act} (st : St hid σ sz fs a w) : Post hid σ sz fs w e fs e a w := ⟨rfl, σ, Moved.refl st.good st.sim, st.tm, st.df⟩
theorem post_trans {hid : List Deferred} {sz : Nat} {fs f1 fs' : FS} {e e' : Exit} {σ1 : Env} {a' : Act} {w1 w' : World} (g : Good fs.s) (m : Moved fs.s σ w f1.s σ1 w1) (h : Post hid σ1 sz f1 w1 e fs' e' a' w') : Post hid σ sz fs w e fs' e' a' w' := by
  obtain ⟨h1, σ', h2, h3, h4⟩ := h
  exact ⟨h1, σ', m.trans g h2, h3, h4⟩
theorem ok_seq {rd : Option Nat} {sz : Nat} {x y : Code} {fs f1 fs' : FS} {e : Exit} (h1 : Ok1 P rd sz x fs .normal f1) (h2 : Ok1 P rd sz y f1 e fs') : Ok1 P rd sz (.seq x y) fs e fs' := by
  refine ⟨Nat.le_trans h1.1 h2.1, fun F n σ a w hW hro st hf => wpIn_seq ?_⟩
  have hf1 : Free σ fs.s.n f1.s.n := hf.sub (Nat.le_refl _) h2.1
  refine wpIn_mono (h1.2 F n σ a w hW hro st hf1) (fun e' a' w' hp => ?_)
  obtain ⟨σ1, rfl, m1, st1⟩ := hp.st st.good
  refine wpIn_mono (h2.2 F n σ1 a' w' hW (hro.le (m1.env_le hf1)) st1 (m1.free hf)) (fun e2 a2 w2 hp2 => post_trans st.good m1 hp2)
theorem ok_seq_out {rd : Option Nat} {sz : Nat} {x y : Code} {fs fs' : FS} {e : Exit} (h1 : Ok1 P rd sz x fs e fs') (he : e ≠ .normal) : Ok1 P rd sz (.seq x y) fs e fs' := by
  refine ⟨h1.1, fun F n σ a w hW hro st hf => wpIn_seq ?_⟩
  refine wpIn_mono (h1.2 F n σ a w hW hro st hf) (fun e' a' w' hp => ?_)
  have := hp.1
  subst this
  cases e' <;> first | exact absurd rfl he | exact hp
theorem ok_block {rd : Option Nat} {sz id : Nat} {x : Code} {fs fs' : FS} {e e' : Exit} (h1 : Ok1 P rd sz x fs e fs') (he : outOf id (some (e, fs')) = some (e', fs')) : Ok1 P rd sz (.block id x) fs e' fs' := by
  refine ⟨h1.1, fun F n σ a w hW hro st hf => wpIn_block ?_⟩
  refine wpIn_mono (h1.2 F n σ a w hW hro st hf) (fun e2 a2 w2 hp => ?_)
  obtain ⟨rfl, σ', m, t, d⟩ := hp
  cases e2 with
  | exit i =>
    simp only [outOf] at he
    cases hb : Nat.beq i id with
    | true =>
      rw [hb] at he
      cases he
      simp only [Exit.inBlock, Nat.eq_of_beq_eq_true hb, if_true]
      exact ⟨rfl, σ', m, t, d⟩
    | false =>
      rw [hb] at he
      cases he
      have : i ≠ id := fun q => by rw [q, Nat.beq_refl] at hb; cases hb
      simp only [Exit.inBlock, this, if_false]
      exact ⟨rfl, σ', m, t, d⟩
  | _ =>
    simp only [outOf] at he
    cases he
    exact ⟨rfl, σ', m, t, d⟩
theorem ok_scope {rd : Option Nat} {sz : Nat} {x : Code} {fs fs' : FS} {e : Exit} (h1 : Ok1 P rd sz x fs e fs') (he : ∀ l, e ≠ .goto l) : Ok1 P rd sz (.scope x) fs e fs' := by
  refine ⟨h1.1, fun F n σ a w hW hro st hf => wpIn_scope ?_⟩
  refine wpIn_mono (h1.2 F n σ a w hW hro st hf) (fun e2 a2 w2 hp => ?_)
  have := hp.1
  subst this
  exact ⟨he, hp⟩
theorem loop_ok {rd : Option Nat} {sz : Nat} {x : Code} {body : FS → Option (Exit × FS)} (hb : ∀ fs e fs', body fs = some (e, fs') → Ok1 P rd sz x fs e fs') : ∀ {k : Nat} {fs fs' : FS} {e : Exit}, evLoop body k fs = some (e, fs') →
    fs.s.n ≤ fs'.s.n ∧ ∀ {hid : List Deferred} (F : Fence) (n : Nat) (σ : Env) (a : Act) (w : World), Wide F → RdOK rd F σ → St hid σ sz fs a w → Free σ fs.s.n fs'.s.n → Code.roundsIn F n P x (Post hid σ sz fs w e fs') k a w
  | 0, fs, fs', e, h => by cases h
  | k + 1, fs, fs', e, h => by
    unfold evLoop at h
    split at h
    · rename_i f1 h1
      have o1 := hb _ _ _ h1
      obtain ⟨l2, c2⟩ := loop_ok hb h
      refine ⟨Nat.le_trans o1.1 l2, fun F n σ a w hW hro st hf => ?_⟩
      have hf1 : Free σ fs.s.n f1.s.n := hf.sub (Nat.le_refl _) l2
      rw [roundsIn_succ]
      refine wpIn_mono (o1.2 F n σ a w hW hro st hf1) (fun e' a' w' hp => ?_)
      obtain ⟨σ1, rfl, m1, st1⟩ := hp.st st.good
      have hrec := c2 F n σ1 a' w' hW (hro.le (m1.env_le hf1)) st1 (m1.free hf)
      show Code.roundsIn F n P x (Post _ σ sz fs w e fs') k a' w'
      have mono : ∀ {k : Nat} {Q Q' : Exit → Act → World → Prop}, (∀ e a w, Q e a w → Q' e a w) → ∀ {a : Act} {w : World}, Code.roundsIn F n P x Q k a w → Code.roundsIn F n P x Q' k a w := by
        intro k
        induction k with
        | zero => intro Q Q' hq a w h; exact h.elim
        | succ k ih =>
          intro Q Q' hq a w h
          rw [roundsIn_succ] at h ⊢
          refine wpIn_mono h (fun e a w hh => ?_)
          cases e with
          | normal => exact ih hq hh
          | _ => exact hq _ _ _ hh
      exact mono (fun e2 a2 w2 hp2 => post_trans st.good m1 hp2) hrec
    · rename_i hnot
      have o1 := hb _ _ _ h
      refine ⟨o1.1, fun F n σ a w hW hro st hf => ?_⟩
      rw [roundsIn_succ]
      refine wpIn_mono (o1.2 F n σ a w hW hro st hf) (fun e' a' w' hp => ?_)
      have := hp.1
      subst this
      cases e' with
      | normal => exact absurd h (hnot fs')
      | _ => exact hp
end
end Go.Proofs.Ytbhjbcldhejpaaa.Ev

/- Loops over functions, and all code, on known values. -/
namespace Go.Proofs.Ytbhjbcldhejpaaa.Ev
set_option linter.unusedVariables false
set_option linter.unusedSimpArgs false
open Go
noncomputable section
variable {σ : Env} {P : Program} {w : World} {s s' : HS} {F : Fence} {n : Nat} {rec : Rec}

theorem run_endLoop {B : Nat} {L : Loop} (h : w.heap[B]? = some (.loop L)) (hr : L.state ≠ .busy) : (Instr.endLoop B).run P w = .ok L.pending (setBlock w B (.loop { L with state := .exhausted })) := by
  unfold Instr.endLoop
  rw [Sem.run_bind, run_getLoop h]
  have hb : (L.state == LoopState.busy) = false := by cases hs : L.state <;> first | rfl | exact absurd hs hr
  simp only [Result.andThen_ok, hb, Bool.false_eq_true, if_false, Sem.run_bind, run_setObj h, Sem.run_pure]
theorem endRange_n {tm : Tr AV} {df mark : List Nat} {l : Nat} {s2 : HS} {e : Exit} {fs' : FS} (h : endRange tm df l mark s2 = some (e, fs')) : fs'.s.n = s2.n := by
  unfold endRange at h
  repeat' (split at h)
  all_goals first
    | (cases h; done)
    | (cases h; show (HS.upd _ _ _).n = _; rw [HS.upd_eq])
theorem endRange_ok {tm : Tr AV} {df mark : List Nat} {l B : Nat} {s2 : HS} {e : Exit} {fs' : FS} {a : Act} {Q : Exit → Act → World → Prop} (h : endRange tm df l mark s2 = some (e, fs')) (g : Good s2) (hs : Sim s2.H σ w)
    (hl : σ.blk l = some B) (k : ∀ w', Moved s2 σ w fs'.s σ w' → fs'.tm = tm → fs'.df = mark ++ df → Q e a w') :
    ∃ jump w4, (Instr.endLoop B).run P w = .ok jump w4 ∧ (match jump with
       | none => Q .normal a w4
       | some c => c.wpIn F n P Q a w4) := by
  unfold endRange at h
  split at h
  · rename_i st pend tm2 sz2 params2 assign2 body2 df2 hg
    obtain ⟨B', o, q1, q2, q3⟩ := hs.1 l _ hg
    rw [hl] at q1
    cases q1
    obtain ⟨fn, tmps, D, r1, r2, rfl⟩ := q3
    have hm := moved_upd g hs (b := l) (by rw [hg]; simp) hl (.loop .exhausted pend tm2 sz2 params2 assign2 body2 df2)
      (.loop { state := .exhausted, pending := pend, fn := fn, tmps := tmps, params := params2, assign := assign2, body := body2, defers := D }) ⟨fn, tmps, D, r1, r2, rfl⟩
    split at h
    · cases h
    · rename_i hst
      have he := run_endLoop (P := P) q2 (by simpa using hst)
      split at h
      · cases h; exact ⟨_, _, he, k _ hm rfl rfl⟩
      · cases h; exact ⟨_, _, he, wpIn_ret (k _ hm rfl rfl)⟩
      · cases h; exact ⟨_, _, he, wpIn_exit (k _ hm rfl rfl)⟩
      · cases h
  · cases h
theorem enterA_n {rd : Option Nat} {params : Array Tmp} {assign body : Code} {sz : Nat} {fs : FS} {l : Nat} {mark : List Nat} {s1 : HS} (h : enterA rd params assign body sz fs = some (l, mark, s1)) : fs.s.n ≤ s1.n := by
  obtain ⟨tm, df, s⟩ := fs
  unfold enterA at h
  split at h
  · simp only at h
    cases h
    exact Nat.le_trans (Nat.le_succ _) (Nat.le_succ _)
  · simp only at h
    split at h
    · cases h
      exact Nat.le_succ _
    · cases h
theorem enterA_ok {rd : Option Nat} {params : Array Tmp} {assign body : Code} {sz : Nat} {fs : FS} {l : Nat} {mark : List Nat} {s1 : HS} {a : Act} {fn : FuncId} (h : enterA rd params assign body sz fs = some (l, mark, s1)) (hro : RdOK rd F σ) {hid : List Deferred} (st : St hid σ sz fs a w) (hf : Free σ fs.s.n s1.n) :
    ∃ L mk w1 σ1, (Instr.enterLoop fn a.tmps params assign body F.round).run P w = .ok (L, mk) w1 ∧ σ1.blk l = some L ∧ Df σ1 [] mark mk ∧ Moved fs.s σ w s1 σ1 w1 := by
  obtain ⟨tm, df, s⟩ := fs
  have g := st.good
  have hs := st.sim
  unfold enterA at h
  split at h
  · simp only at h
    cases h
    have hro' : F.round = none := hro
    have f0 : σ.blk s.n = none := hf s.n (Nat.le_refl _) (by show s.n < s.n + 1 + 1; omega)
    have m1 := moved_new g hs f0 (.defd true) (.deferred (some [])) 0 rfl
    have g1 := m1.good g
    have f1 : (σ.put s.n w.heap.size 0).blk (s.n + 1) = none := by
      rw [(Env.put_ne σ w.heap.size 0 (by omega)).1]
      exact hf (s.n + 1) (by show s.n ≤ s.n + 1; omega) (by show s.n + 1 < s.n + 1 + 1; omega)
    have le1 : (σ.put s.n w.heap.size 0).le ((σ.put s.n w.heap.size 0).put (s.n + 1) (w.alloc (.deferred (some []))).heap.size 0) := Env.put_le f1
    have m2 := moved_new g1 m1.sim f1 (.loop .ready none tm sz params assign body s.n)
      (.loop { state := .ready, pending := none, fn := fn, tmps := a.tmps, params := params, assign := assign, body := body, defers := w.heap.size }) 0
      ⟨fn, a.tmps, w.heap.size, (st.tm.le (Env.put_le f0)).le le1, (le1 _ _ (Env.put_at _ _ _ _)).1, rfl⟩
    refine ⟨_, [{ target := .collected w.heap.size, args := #[] }], _, _, ?_, Env.put_at _ _ _ _, ⟨⟨w.heap.size, (le1 _ _ (Env.put_at _ _ _ _)).1, rfl⟩, rfl⟩, m1.trans g m2⟩
    rw [hro']
    unfold Instr.enterLoop
    simp only [Sem.run_bind, run_newObj, Result.andThen_ok, Sem.run_pure]
    rfl
  · rename_i b
    simp only at h
    split at h
    · rename_i st' pend tm2 sz2 params2 assign2 body2 df2 hg
      cases h
      obtain ⟨B, hB1, hB2⟩ := hro
      obtain ⟨B', o, q1, q2, q3⟩ := hs.1 b _ hg
      rw [hB2] at q1
      cases q1
      obtain ⟨fn2, tmps2, D, r1, r2, rfl⟩ := q3
      have f0 : σ.blk s.n = none := hf s.n (Nat.le_refl _) (Nat.lt_succ_self _)
      have le1 : σ.le (σ.put s.n w.heap.size 0) := Env.put_le f0
      have m1 := moved_new g hs f0 (.loop .ready none tm sz params assign body df2)
        (.loop { state := .ready, pending := none, fn := fn, tmps := a.tmps, params := params, assign := assign, body := body, defers := D }) 0
        ⟨fn, a.tmps, D, st.tm.le le1, (le1 _ _ r2).1, rfl⟩
      refine ⟨_, [], _, _, ?_, Env.put_at _ _ _ _, rfl, m1⟩
      rw [hB1]
      unfold Instr.enterLoop
      simp only [Sem.run_bind, run_getLoop q2, Sem.run_pure, run_newObj, Result.andThen_ok]
      rfl
    · cases h
theorem range_ok (hr : SoundC P rec) {rd : Option Nat} {sz : Nat} {gx : Operand} {params : Array Tmp} {assign body : Code} {fs fs' : FS} {e : Exit} (h : cRange gx params assign body rec P rd sz fs = some (e, fs')) :
    Ok1 P rd sz (.rangeFunc gx params assign body) fs e fs' := by
  obtain ⟨tm, df, s⟩ := fs
  unfold cRange at h
  simp only at h
  split at h
  · cases h
  · rename_i gv hgv
    split at h
    · cases h
    · rename_i k first cap ht
      split at h
      · cases h
      · rename_i l mark s1 he
        split at h
        · cases h
        · rename_i v s2 hc
          have n1 : s.n ≤ s1.n := enterA_n he
          obtain ⟨n2, hcall⟩ := callO_sound hr hc
          obtain ⟨fn, cd, hf1, hf2, hf3⟩ := callO_some hr hc
          have n3 := endRange_n h
          refine ⟨by show s.n ≤ fs'.s.n; omega, fun F n σ a w hW hro st hf => ?_⟩
          have hfa : Free σ s.n s1.n := hf.sub (Nat.le_refl _) (by omega)
          have hgv' := opd_den st.tm hgv
          obtain ⟨ls, cs, eg, e1, e2⟩ := target_ok ht hgv'
          refine wpIn_rangeFunc (fun fid hfid => ?_)
          obtain ⟨L, mk, w1, σ1, x1, x2, x3, m1⟩ := enterA_ok (P := P) (fn := fid) he hro st hfa
          have le1 := m1.env_le hfa
          have g1 := m1.good st.good
          have fr1 : Free σ1 s1.n s2.n := by
            have q := m1.free (b := s2.n) (hf.sub (Nat.le_refl _) (by omega))
            exact q
          have hx : denL σ1 (first ++ [.yld l] ++ cap) = some (ls ++ [Value.func (.yield L) #[] #[]] ++ cs) :=
            denL_append (denL_append (denL_le le1 _ _ e1) (by simp only [denL, den, x2, Option.map_some])) (denL_le le1 _ _ e2)
          have hcs := hcall F (n - 1) σ1 w1 _ hW g1 m1.sim fr1 hx
          refine ⟨L, mk, w1, { target := .fn (.func k) cs.toArray, args := ls.toArray ++ #[Value.func (.yield L) #[] #[]] }, w1, k, (ls ++ [Value.func (.yield L) #[] #[]] ++ cs).toArray, w1, x1, ?_, fun f' _ => hW.fn f', ?_, hW.le, ?_⟩
          · simp only [resolve, rangeCall, eg, Deferred.ofValue]
            show (pure _ : Sem Deferred).run P w1 = _
            simp only [Sem.run_pure, List.map_toArray, List.map_cons, List.map_nil, Act.eval]
          · show (callFunc k (ls.toArray ++ #[Value.func (.yield L) #[] #[]] ++ cs.toArray)).run P w1 = _
            rw [run_callFunc hf1 hf2 hf3]
            congr 2
            apply Array.ext'
            simp
          · refine CallsIn.mono hcs (fun e' w' hret => ?_)
            obtain ⟨r, σ2, rfl, hd, m2⟩ := hret
            have le2 := m2.env_le fr1
            refine endRange_ok (σ := σ2) h (m2.good g1) m2.sim (le2 l L x2).1 (fun w4 m3 t3 d3 => ?_)
            refine ⟨rfl, σ2, (m1.trans st.good m2).trans st.good m3, ?_, ?_⟩
            · rw [t3]
              exact (st.tm.le le1).le le2
            · rw [d3]
              exact ((x3.le le2).append ((st.df.le le1).le le2))
theorem step_ok (hr : SoundC P rec) (hdr : DrawOK P rec) : SoundC P (stepC rec P) := by
  refine ⟨?_, hr.orc⟩
  intro rd sz c fs e fs' h hsz
  have R : ∀ {c : Code} {fs : FS} {e : Exit} {fs' : FS}, rec rd sz c fs = some (e, fs') → Ok1 P rd sz c fs e fs' := fun h => hr.code _ _ _ _ _ _ h hsz
  have trivialEnd : ∀ {c : Code} {e : Exit}, (∀ {F : Fence} {n : Nat} {Q : Exit → Act → World → Prop} {a : Act} {w : World}, Q e a w → c.wpIn F n P Q a w) → Ok1 P rd sz c fs e fs :=
    fun hq => ⟨Nat.le_refl _, fun F n σ a w hW hro st hf => hq (post_same st)⟩
  unfold stepC at h
  cases c with
  | skip => cases h; exact trivialEnd wpIn_skip
  | label l => cases h; exact trivialEnd wpIn_label
  | exit id => cases h; exact trivialEnd wpIn_exit
  | ret => cases h; exact trivialEnd wpIn_ret
  | goto l => cases h
  | refuse y => cases h
  | seq x y =>
    simp only [cD, cSeq] at h
    split at h
    · rename_i f1 h1
      exact ok_seq (R h1) (R h)
    · rename_i hnot
      exact ok_seq_out (R h) (fun q => by subst q; exact hnot _ h)
  | cond x y z =>
    simp only [cD, cCond] at h
    split at h
    · rename_i hx
      have o1 := R h
      refine ⟨o1.1, fun F n σ a w hW hro st hf => wpIn_cond_true ?_ (o1.2 F n σ a w hW hro st hf)⟩
      have := opd_den st.tm hx
      simpa [den] using this.symm
    · rename_i hx
      have o1 := R h
      refine ⟨o1.1, fun F n σ a w hW hro st hf => wpIn_cond_false ?_ (o1.2 F n σ a w hW hro st hf)⟩
      have := opd_den st.tm hx
      simpa [den] using this.symm
    · cases h
  | block id x =>
    simp only [cD, cBlock] at h
    cases hx : rec rd sz x fs with
    | none => rw [hx] at h; cases h
    | some q =>
      obtain ⟨e1, f1⟩ := q
      rw [hx] at h
      have hf1 : fs' = f1 := by
        unfold outOf at h
        split at h
        · rename_i heq
          cases heq
          split at h
          · cases h; rfl
          · cases h; rfl
        · cases h; rfl
      subst hf1
      exact ok_block (R hx) h
  | loop x =>
    simp only [cD, cLoop] at h
    obtain ⟨l1, c1⟩ := loop_ok (fun fs e fs' h => R h) h
    exact ⟨l1, fun F n σ a w hW hro st hf => wpIn_loop_rounds _ (c1 F n σ a w hW hro st hf)⟩
  | scope x =>
    simp only [cD, cScope] at h
    split at h
    · cases h
    · rename_i hnot
      exact ok_scope (R h) (fun l q => by subst q; exact hnot _ _ h)
  | rangeFunc gx ps x y =>
    exact range_ok hr h
  | region id ops draw =>
    obtain ⟨tm, df, s⟩ := fs
    simp only [cD, cRegion] at h
    cases draw with
    | false =>
      simp only at h
      cases hx : evOps rec P sz ops.toList ops.toList tm s with
      | none => rw [hx] at h; cases h
      | some q =>
        obtain ⟨tm1, s1⟩ := q
        rw [hx] at h
        cases h
        obtain ⟨l1, c1⟩ := evOps_sound hr hsz hx
        refine ⟨l1, fun F n σ a w hW hro st hf => wpIn_region_list ?_⟩
        refine c1 F n σ a w _ hW st.good st.sim hf st.tm (fun σ' a' w' m t d => ⟨rfl, σ', m, t, ?_⟩)
        rw [d]
        exact st.df.le (m.env_le hf)
    | true =>
      simp only at h
      cases hx : evDraw rec P sz ops tm s with
      | none => rw [hx] at h; cases h
      | some q =>
        obtain ⟨tm1, s1⟩ := q
        rw [hx] at h
        cases h
        obtain ⟨l1, c1⟩ := hdr sz id ops tm tm1 s s1 hx hsz
        refine ⟨l1, fun F n σ a w hW hro st hf => ?_⟩
        refine c1 F n σ a w _ hW st.good st.sim hf st.tm (fun σ' a' w' m t d => ⟨rfl, σ', m, t, ?_⟩)
        rw [d]
        exact st.df.le (m.env_le hf)
end
end Go.Proofs.Ytbhjbcldhejpaaa.Ev

/- What computing leaves of the names that were there: no world is spoken of. -/
namespace Go.Proofs.Ytbhjbcldhejpaaa.Ev
set_option linter.unusedVariables false
set_option linter.unusedSimpArgs false
open Go
noncomputable section
variable {P : Program} {s s' s1 s2 : HS} {rec : Rec}

structure Stat (s s' : HS) : Prop where
  le : s.n ≤ s'.n
  mono : s'.m ≤ s.m
  keep : ∀ b, b < s.n → b < s'.m → s'.H.get b = s.H.get b
  dom : ∀ b, b < s.n → s'.H.get b ≠ none → s.H.get b ≠ none
  good : Good s → Good s'
theorem Stat.refl (s : HS) : Stat s s := ⟨Nat.le_refl _, Nat.le_refl _, fun _ _ _ => rfl, fun _ _ h => h, fun h => h⟩
theorem Stat.trans (h : Stat s s1) (k : Stat s1 s2) : Stat s s2 := by
  have hl := h.le
  have km := k.mono
  exact ⟨Nat.le_trans h.le k.le, Nat.le_trans k.mono h.mono, fun b h1 h2 => by rw [k.keep b (by omega) h2, h.keep b h1 (by omega)], fun b h1 h2 => h.dom b h1 (k.dom b (by omega) h2), fun g => k.good (h.good g)⟩
theorem stat_new (s : HS) (x : AB) : Stat s (s.new x) := by
  have hg : ∀ b, b ≠ s.n → (s.new x).H.get b = s.H.get b := fun b hb => Tr.get_set_other 30 _ _ _ _ (Ne.symm hb)
  refine ⟨Nat.le_succ _, Nat.le_refl _, fun b h1 _ => hg b (by omega), fun b h1 h2 => by rwa [hg b (by omega)] at h2, fun g => ⟨fun b hb => ?_, Nat.le_trans g.low (Nat.le_succ _)⟩⟩
  have hb' : s.n + 1 ≤ b := hb
  rw [hg b (by omega)]
  exact g.top b (by omega)
theorem upd_dom {H : Tr AB} {b d : Nat} {x : Option AB} (h : (H.upd b x).get d ≠ none) (hx : H.get b ≠ none ∨ d ≠ b) : H.get d ≠ none := by
  by_cases e : d = b
  · subst e
    rcases hx with q | q
    · exact q
    · exact absurd rfl q
  · rwa [Tr.get_upd_other _ _ _ _ (Ne.symm e)] at h
theorem upd_none : ∀ {H : Tr AB} {b : Nat} {x : Option AB}, H.get b = none → x = none ∨ True → ∀ d, d ≠ b → (H.upd b x).get d = H.get d := fun _ _ d hd => Tr.get_upd_other _ _ _ _ (Ne.symm hd)
theorem stat_upd {b : Nat} {x : AB} (hb : s.H.get b ≠ none) : Stat s (s.upd b x) := by
  rw [HS.upd_eq]
  have hl := HS.low_le s.m b
  refine ⟨Nat.le_refl _, hl.1, fun d h1 h2 => ?_, fun d h1 h2 => upd_dom h2 (.inl hb), fun g => ⟨fun d hd => ?_, Nat.le_trans hl.1 g.low⟩⟩
  · have h2' : d < HS.low s.m b := h2
    exact Tr.get_upd_other _ _ _ _ (by omega)
  · have hd' : s.n ≤ d := hd
    have hne : d ≠ b := fun e => hb (by rw [← e]; exact g.top d hd')
    show (s.H.upd b (some x)).get d = none
    rw [Tr.get_upd_other _ _ _ _ (Ne.symm hne)]
    exact g.top d hd'
theorem stat_swap {b : Nat} {x : AB} (hb : s.H.get b ≠ none) : Stat s (s.swap b x) := by
  rw [HS.swap_eq]
  have hl := HS.low_le s.m b
  have hg : ∀ d, d ≠ s.n → d ≠ b → (Tr.set 30 (s.H.upd b none) s.n x).get d = s.H.get d := fun d h1 h2 => by
    rw [Tr.get_set_other 30 _ _ _ _ (Ne.symm h1), Tr.get_upd_other _ _ _ _ (Ne.symm h2)]
  refine ⟨Nat.le_succ _, hl.1, fun d h1 h2 => ?_, fun d h1 h2 => ?_, fun g => ⟨fun d hd => ?_, Nat.le_trans hl.1 (Nat.le_trans g.low (Nat.le_succ _))⟩⟩
  · have h2' : d < HS.low s.m b := h2
    exact hg d (by omega) (by omega)
  · by_cases e : d = b
    · rw [e]; exact hb
    · have h2' : (Tr.set 30 (s.H.upd b none) s.n x).get d ≠ none := h2
      rwa [hg d (by omega) e] at h2'
  · have hd' : s.n + 1 ≤ d := hd
    have hne : d ≠ b := fun e => hb (by rw [← e]; exact g.top d (by omega))
    show (Tr.set 30 (s.H.upd b none) s.n x).get d = none
    rw [hg d (by omega) hne]
    exact g.top d (by omega)
theorem stat_store {b off : Nat} {cs : List AV} (h : s.store b off cs = some s') : Stat s s' := by
  unfold HS.store at h
  split at h
  · rename_i hg
    split at h
    · cases h; exact stat_upd (by rw [hg]; simp)
    · cases h
  · rename_i hg
    split at h
    · cases h; exact stat_upd (by rw [hg]; simp)
    · cases h
  · cases h
theorem stat_fin {x : Option AV} {v : AV} (h : fin s x = some (v, s')) : Stat s s' := by rw [(fin_some h).2]; exact Stat.refl s
theorem stat_gen {tm : Tr AV} {o : Oper} {v : AV} (h : gen P tm s o = some (v, s')) : Stat s s' := by
  unfold gen at h
  repeat' (split at h)
  all_goals first
    | (cases h; done)
    | (cases h; exact Stat.refl s)
theorem stat_grow {e : TypeId} {n k c : Nat} {old new : List AV} {v : AV} (h : growA P s e n k c old new = some (v, s')) : Stat s s' := by
  unfold growA at h
  repeat' (split at h)
  all_goals first
    | (cases h; done)
    | (cases h; exact stat_new _ _)
theorem stat_appMid {b n k size sz : Nat} {l cs : List AV} {v : AV} (h : appMid s b n k size sz l cs = some (v, s')) : Stat s s' := by
  unfold appMid at h
  repeat' (split at h)
  all_goals first
    | (cases h; done)
    | (cases h; exact stat_store ‹_›)
theorem stat_append {t0 t1 : TypeId} {a x : AV} {v : AV} (h : appendA P s t0 t1 a x = some (v, s')) : Stat s s' := by
  unfold appendA at h
  repeat' (split at h)
  all_goals first
    | (cases h; done)
    | exact stat_grow h
    | exact stat_appMid h
    | (cases h; exact Stat.refl s)
    | (cases h; exact stat_store ‹_›)
    | (cases h; exact stat_swap (by rw [‹s.H.get _ = _›]; simp))
theorem stat_copy {t0 : TypeId} {a x : AV} {v : AV} (h : copyA P s t0 a x = some (v, s')) : Stat s s' := by
  unfold copyA at h
  repeat' (split at h)
  all_goals first
    | (cases h; done)
    | (cases h; exact Stat.refl s)
    | (cases h; exact stat_store ‹_›)
theorem stat_clear {t0 : TypeId} {x : AV} {v : AV} (h : clearA P s t0 x = some (v, s')) : Stat s s' := by
  unfold clearA at h
  repeat' (split at h)
  all_goals first
    | (cases h; done)
    | (cases h; exact stat_store ‹_›)
theorem stat_cut {t : TypeId} {x k v : AV} (h : mapCutA P s t x k = some (v, s')) : Stat s s' := by
  obtain ⟨b, y, hb, rfl⟩ := mapCut_upd h
  exact stat_upd hb
theorem stat_mapPut {tm : Tr AV} {t : TypeId} {x k y : Operand} {o : Oper} {v : AV} (h : eMapPut t x k y P tm s o = some (v, s')) : Stat s s' := by
  unfold eMapPut at h
  split at h
  · split at h
    · rename_i s1 hp
      cases h
      obtain ⟨b, y, hb, rfl⟩ := mapPut_upd hp
      exact stat_upd hb
    · cases h
  · cases h
theorem stat_mapEnt {t : TypeId} {x k v : AV} (h : mapEntA P s t x k = some (v, s')) : Stat s s' := by
  obtain ⟨b, y, hb, rfl⟩ := mapEnt_upd h
  exact stat_upd hb
theorem stat_entPut {tm : Tr AV} {x k y : Operand} {o : Oper} {v : AV} (h : eEntPut x k y P tm s o = some (v, s')) : Stat s s' := by
  unfold eEntPut at h
  split at h
  · split at h
    · rename_i s1 hp
      cases h
      obtain ⟨b, y, hb, rfl⟩ := entPut_upd hp
      exact stat_upd hb
    · cases h
  · cases h
theorem stat_blt {b : Builtin} {ts : List TypeId} {l : List AV} {v : AV} (h : evBlt P s b ts l = some (v, s')) : Stat s s' := by
  unfold evBlt at h
  repeat' (split at h)
  all_goals first
    | (cases h; done)
    | exact stat_append h
    | exact stat_copy h
    | exact stat_clear h
    | exact stat_fin h
    | exact stat_cut h
theorem stat_makeSlice {t : TypeId} {l c : AV} {v : AV} (h : makeSliceA P s t l c = some (v, s')) : Stat s s' := by
  unfold makeSliceA at h
  repeat' (split at h)
  all_goals first
    | (cases h; done)
    | (cases h; exact stat_new _ _)
theorem stat_buildSlice {t : TypeId} {len : Nat} {l : List (Nat × AV)} {v : AV} (h : buildSliceA P s t len l = some (v, s')) : Stat s s' := by
  unfold buildSliceA at h
  repeat' (split at h)
  all_goals first
    | (cases h; done)
    | (cases h; exact stat_new _ _)
theorem stat_evO {tm : Tr AV} {o : Oper} {v : AV} (h : evO P tm s o = some (v, s')) : Stat s s' := by
  unfold evO at h
  generalize o.op = op at h
  unfold evD at h
  split at h
  · exact stat_fin h
  · exact stat_fin h
  · unfold ePick at h
    repeat' (split at h)
    all_goals first
      | (cases h; done)
      | exact stat_fin h
  · unfold eAlloc at h
    split at h
    · cases h; exact stat_new _ _
    · cases h
  · unfold eBox at h
    split at h
    · cases h; exact stat_new _ _
    · cases h
  · unfold eBuild at h
    rcases orGen_some h with h | h
    · exact stat_gen h
    · split at h
      · exact stat_fin h
      · cases h
  · unfold eBuildSlice at h
    split at h
    · exact stat_buildSlice h
    · cases h
  · unfold eLoad at h
    split at h
    · exact stat_fin h
    · exact stat_fin h
    · cases h
  · unfold eStore at h
    split at h
    · split at h
      · cases h; exact stat_store ‹_›
      · cases h
    · cases h
  · unfold eNil at h
    repeat' (split at h)
    all_goals first
      | (cases h; done)
      | (cases h; exact Stat.refl s)
  · unfold eFunc at h
    repeat' (split at h)
    all_goals first
      | (cases h; done)
      | (cases h; exact Stat.refl s)
  · unfold eMakeSlice at h
    split at h
    · exact stat_makeSlice h
    · cases h
  · unfold eSlice at h
    rcases orGen_some h with h | h
    · split at h
      · exact stat_fin h
      · cases h
    · exact stat_gen h
  · unfold eFieldAddr at h
    split at h
    · exact stat_fin h
    · cases h
  · unfold eIndexAddr at h
    split at h
    · exact stat_fin h
    · cases h
  · unfold eField at h
    split at h
    · exact stat_fin h
    · cases h
  · unfold eIndex at h
    rcases orGen_some h with h | h
    · split at h
      · exact stat_fin h
      · cases h
    · exact stat_gen h
  · unfold eExtract at h
    rcases orGen_some h with h | h
    · split at h
      · exact stat_fin h
      · cases h
    · exact stat_gen h
  · unfold eCall at h
    split at h
    · rcases orGen_some h with h | h
      · split at h
        · exact stat_blt h
        · cases h
      · exact stat_gen h
    · cases h
  · unfold eBin at h
    rcases orGen_some h with h | h
    · repeat' (split at h)
      all_goals first
        | (cases h; done)
        | (unfold finV at h
           split at h
           · cases h; exact Stat.refl s
           · cases h)
    · unfold genB at h
      rcases orGen_some h with h | h
      · unfold finV at h
        split at h
        · cases h; exact Stat.refl s
        · cases h
      · exact stat_gen h
  · rw [(makeMap_n h).1]; exact stat_new _ _
  · unfold eLook at h
    split at h
    · exact stat_fin h
    · cases h
  · exact stat_mapPut h
  · exact stat_mapPut h
  · unfold eMapEnt at h
    split at h
    · exact stat_mapEnt h
    · cases h
  · exact stat_entPut h
  · unfold eRange at h
    split at h
    · obtain ⟨y, rfl⟩ := range_n h
      exact stat_new _ _
    · cases h
  · unfold eNext at h
    split at h
    · rcases next_upd h with rfl | ⟨b, y, hb, rfl⟩
      · exact Stat.refl _
      · exact stat_upd hb
    · cases h
  · unfold eEntry at h
    split at h
    · exact stat_fin h
    · cases h
  · exact stat_gen h
structure StatC (rec : Rec) : Prop where
  code : ∀ (rd : Option Nat) (sz : Nat) (c : Code) (fs : FS) (e : Exit) (fs' : FS), rec rd sz c fs = some (e, fs') → Stat fs.s fs'.s
  orc : ∀ (f : FuncId) (args : List AV) (s : HS) (v : AV) (s' : HS), rec.orc f args s = some (v, s') → Stat s s'
theorem stat_marks : ∀ {df : List Nat} {s s2 : HS}, leaveMarks df s = some s2 → Stat s s2
  | [], s, s2, h => by simp [leaveMarks] at h; rw [h]; exact Stat.refl _
  | r :: l, s, s2, h => by
    unfold leaveMarks at h
    split at h
    · rename_i hg
      exact (stat_upd (by rw [hg]; simp)).trans (stat_marks h)
    · cases h
theorem stat_leaveF {fn : Func} {fs : FS} {v : AV} (h : leaveF P fn fs = some (v, s')) : Stat fs.s s' := by
  unfold leaveF at h
  obtain ⟨tm, df, s⟩ := fs
  simp only at h
  split at h
  · rename_i s2 h1
    split at h
    · cases h
      exact stat_marks h1
    · cases h
  · cases h
theorem stat_collapse {v v' : AV} (h : Stat ⟨s.n, s.n, s.H⟩ s1) (hc : collapse s (some (v, s1)) = some (v', s')) : Stat s s' := by
  have hl := h.le
  unfold collapse at hc
  simp only at hc
  split at hc
  · rename_i hb
    have hb' := Nat.le_of_ble_eq_true hb
    split at hc
    · cases hc
      exact ⟨hl, Nat.le_refl _, fun _ _ _ => rfl, fun _ _ q => q, fun g => ⟨fun b hb => g.top b (Nat.le_trans hl hb), Nat.le_trans g.low hl⟩⟩
    · cases hc
      exact ⟨hl, Nat.le_refl _, fun b h1 _ => h.keep b h1 (Nat.lt_of_lt_of_le h1 hb'), h.dom, fun g => ⟨(h.good (good0 g)).top, Nat.le_trans g.low hl⟩⟩
  · cases hc
    rw [HS.mkLow_eq]
    have hw := HS.low_le s.m s1.m
    exact ⟨hl, hw.1, fun b h1 h2 => h.keep b h1 (Nat.lt_of_lt_of_le h2 hw.2), h.dom, fun g => ⟨(h.good (good0 g)).top, Nat.le_trans hw.1 (Nat.le_trans g.low hl)⟩⟩
theorem stat_callF (hr : StatC rec) {f : FuncId} {args : List AV} {v : AV} (h : callF rec P f args s = some (v, s')) : Stat s s' := by
  obtain ⟨fn, c, e, fs, v1, s1, hf, hc, hn, hb, he, hE, hl, hco⟩ := callF_some h
  exact stat_collapse ((hr.code _ _ _ _ _ _ he).trans (stat_leaveF hl)) hco
theorem stat_callO (hr : StatC rec) {f : FuncId} {args : List AV} {v : AV} (h : callO rec P f args s = some (v, s')) : Stat s s' := by
  unfold callO at h
  split at h
  · rename_i r hr'
    cases h
    exact hr.orc _ _ _ _ _ hr'
  · exact stat_callF hr h
theorem stat_endRnd {b : Nat} {e : Exit} {fs : FS} {v : AV} (h : endRnd b (some (e, fs)) = some (v, s')) : Stat fs.s s' := by
  obtain ⟨tm, df, s⟩ := fs
  unfold endRnd at h
  simp only at h
  split at h
  · rename_i hg
    cases h
    exact stat_upd (by rw [hg]; simp)
  · cases h
theorem stat_rndF (hr : StatC rec) {b : Nat} {args : List AV} {v : AV} (h : rndF rec b args s = some (v, s')) : Stat s s' := by
  unfold rndF at h
  split at h
  · rename_i st pend tm sz params assign body df hg
    split at h
    · rename_i tm' hp hsz
      split at h
      · rename_i tmy dfy sy hy
        split at h
        · rename_i pend1 tm1 sz1 params1 assign1 body1 df1 hg1
          cases hz : rec (some b) sz body ⟨tmy, dfy, sy.upd b (.loop .busy pend1 tm1 sz1 params1 assign1 body1 df1)⟩ with
          | none => rw [hz] at h; cases h
          | some q =>
            obtain ⟨e, fz⟩ := q
            rw [hz] at h
            have a1 : Stat s sy := hr.code _ _ _ _ _ _ hy
            have a2 : Stat (sy.upd b (.loop .busy pend1 tm1 sz1 params1 assign1 body1 df1)) fz.s := hr.code _ _ _ _ _ _ hz
            exact ((a1.trans (stat_upd (by rw [hg1]; simp))).trans a2).trans (stat_endRnd h)
        · cases h
      · cases h
    · cases h
  · cases h
theorem stat_ev1 (hr : StatC rec) {tm : Tr AV} {o : Oper} {v : AV} (h : ev1 rec P tm s o = some (v, s')) : Stat s s' := by
  unfold ev1 at h
  cases ho : o.op with
  | call c =>
    rw [ho] at h
    simp only [e1D, e1Call] at h
    cases hc : c.callee with
    | builtin b =>
      rw [hc] at h
      simp only [orE] at h
      split at h
      case h_1 r hr1 =>
        cases h
        exact stat_evO hr1
      case h_2 =>
        obtain ⟨rfl, _⟩ := lenM_ok h
        exact Stat.refl _
    | invoke r m => rw [hc] at h; cases h
    | value f =>
      rw [hc] at h
      simp only [e1Go] at h
      split at h
      · cases h
      · split at h
        · cases h
        · split at h
          · exact stat_rndF hr h
          · split at h
            · unfold orE at h
              split at h
              · rename_i hcc
                cases h
                exact stat_callO hr hcc
              · obtain ⟨rfl, _⟩ := extO_ok h
                exact Stat.refl _
            · cases h
  | defer c => rw [ho] at h; cases h
  | go c => rw [ho] at h; cases h
  | _ =>
    rw [ho] at h
    exact stat_evO h
theorem stat_evOps (hr : StatC rec) {sz : Nat} {ops : List Oper} : ∀ {l : List Oper} {tm tm' : Tr AV} {s s' : HS}, evOps rec P sz ops l tm s = some (tm', s') → Stat s s'
  | [], tm, tm', s, s', h => by
    simp only [evOps] at h
    cases h
    exact Stat.refl _
  | o :: l, tm, tm', s, s', h => by
    unfold evOps at h
    split at h
    · cases h
    · split at h
      · exact stat_evOps hr h
      · cases h
    · split at h
      · cases h
      · rename_i v s1 h1
        split at h
        · exact (stat_ev1 hr h1).trans (stat_evOps hr h)
        · cases h
end
end Go.Proofs.Ytbhjbcldhejpaaa.Ev
