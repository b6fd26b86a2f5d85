/- Code on known values: the program that computes. -/
import Derived.Test.YtchlehpjpgeejaaEk
namespace Go.Proofs.Ytchlehpjpgeejaa.Ev
set_option linter.unusedVariables false
set_option linter.unusedSimpArgs false
open Go
noncomputable section
variable {P : Program} {s s' : HS}

structure FS where
  tm : Tr AV
  df : List Nat
  s : HS
/-- What is run: in a round of the loop block, or in none; with so many temporaries. -/
structure Rec where
  run : Option Nat → Nat → Code → FS → Option (Exit × FS)
  orc : FuncId → List AV → HS → Option (AV × HS)
instance : CoeFun Rec (fun _ => Option Nat → Nat → Code → FS → Option (Exit × FS)) := ⟨Rec.run⟩
/-- What is known of calls beforehand: function, arguments, state: value, state behind it. -/
abbrev Orc := FuncId → List AV → HS → Option (AV × HS)
def noOrc : Orc := fun _ _ _ => none
def putT (tm : Tr AV) (sz : Nat) (d : Option Nat) (v : AV) : Option (Tr AV) :=
  match d with
  | none => some tm
  | some t => match Nat.ble sz t with
    | false => some (Tr.set 14 tm t v)
    | true => none
def dstAt (ops : List Oper) (j : Nat) : Option Nat :=
  match getL ops j with
  | some o => o.dst
  | none => none
def wantB (b want : Bool) : Bool :=
  match want with
  | true => b
  | false => match b with
    | true => false
    | false => true
def wantOf (want : Bool) (x : Option AV) : Option Bool :=
  match x with
  | some (.v (.bool b)) => some (wantB b want)
  | some (.v (.tuple _)) => some false
  | _ => none
/-- Is an operation wanted? none: not known. -/
def wantedA (tm : Tr AV) (ops : List Oper) (o : Oper) : Option Bool :=
  match o.guard with
  | none => some true
  | some (j, want) => match dstAt ops j with
    | none => some false
    | some t => wantOf want (tm.get t)
/-- The function that a value is, what it takes first, and what it captured. -/
def targetOf : AV → Option (FuncId × List AV × List AV)
  | .fn f l c => match f with
    | .func k => some (k, l, c)
    | _ => none
  | .v x => match x with
    | .func f l c => match f with
      | .func k => some (k, l.toList.map .v, c.toList.map .v)
      | _ => none
    | _ => none
  | _ => none
def initT : Nat → List AV → Tr AV → Tr AV
  | _, [], t => t
  | i, a :: l, t => initT (i + 1) l (Tr.set 14 t i a)
def leaveMarks : List Nat → HS → Option HS
  | [], s => some s
  | r :: l, s => match s.H.get r with
    | some (.defd true) => leaveMarks l (s.upd r (.defd false))
    | _ => none
def resV (P : Program) (tm : Tr AV) (s : HS) : ResultVar → Option AV
  | .tmp t => tm.get t
  | .cell a t => match tm.get a with
    | some (.ptr b o) => s.load P b o t
    | _ => none
def resL (P : Program) (tm : Tr AV) (s : HS) : List ResultVar → Option (List AV)
  | [] => some []
  | x :: l => match resV P tm s x, resL P tm s l with
    | some v, some r => some (v :: r)
    | _, _ => none
def tupOf : List AV → AV
  | [v] => v
  | l => .tup l
def leaveF (P : Program) (fn : Func) (fs : FS) : Option (AV × HS) :=
  match fs with
  | ⟨tm, df, s⟩ => match leaveMarks df s with
    | some s2 => match resL P tm s2 fn.results.toList with
      | some l => some (tupOf l, s2)
      | none => none
    | none => none
/-- No name from n on stands in it. -/
def belowN (n b : Nat) : Bool := Nat.blt b n
mutual
def below (n : Nat) : AV → Bool
  | .v _ => true
  | .ptr b _ => belowN n b
  | .sl b _ _ _ => belowN n b
  | .slu b _ _ _ => belowN n b
  | .agg l => belowL n l
  | .tup l => belowL n l
  | .fn _ l c => match belowL n l with
    | true => belowL n c
    | false => false
  | .yld b => belowN n b
  | .mp b => belowN n b
def belowL (n : Nat) : List AV → Bool
  | [] => true
  | a :: l => match below n a with
    | true => belowL n l
    | false => false
end
/-- Behind a call that wrote no block that was there before it, and whose value holds none of its own, all is as it was. -/
def collapse (s : HS) (r : Option (AV × HS)) : Option (AV × HS) :=
  match r with
  | none => none
  | some (v, s1) => match Nat.ble s.n s1.m with
    | true => match s with
      | ⟨n, m, H⟩ => match s1 with
        | ⟨n1, _, H1⟩ => match below n v with
          | true => some (v, ⟨n1, m, H⟩)
          | false => some (v, ⟨n1, m, H1⟩)
    | false => match s1 with
      | ⟨n1, m1, H1⟩ => some (v, HS.mkLow n1 s.m m1 H1)
def exitF (P : Program) (fn : Func) (r : Option (Exit × FS)) : Option (AV × HS) :=
  match r with
  | none => none
  | some (e, fs) => match e with
    | .normal => leaveF P fn fs
    | .ret => leaveF P fn fs
    | _ => none
def callF (rec : Rec) (P : Program) (f : FuncId) (args : List AV) (s : HS) : Option (AV × HS) :=
  match P.funcs[f]? with
  | none => none
  | some fn => match fn.body with
    | none => none
    | some c => match fn.name == "runtime.NumGoroutine" with
      | true => none
      | false => match Nat.ble (args.length + fn.ntmps) 16000 with
        | false => none
        | true => match s with
          | ⟨n, m, H⟩ => collapse ⟨n, m, H⟩ (exitF P fn (rec none (args.length + (fn.ntmps - args.length)) c ⟨initT 0 args .leaf, [], ⟨n, n, H⟩⟩))
/-- A call: known beforehand, or computed. -/
def callO (rec : Rec) (P : Program) (f : FuncId) (args : List AV) (s : HS) : Option (AV × HS) :=
  match rec.orc f args s with
  | some r => some r
  | none => callF rec P f args s
def setParams : List Nat → List AV → Nat → Tr AV → Option (Tr AV)
  | [], [], _, t => some t
  | p :: ps, a :: l, sz, t => match Nat.ble sz p with
    | false => setParams ps l sz (Tr.set 14 t p a)
    | true => none
  | _, _, _, _ => none
/-- How a round that was left goes on behind the loop. -/
def jumpOf : Exit → Option (Option Code)
  | .normal => some none
  | .ret => some (some .ret)
  | .exit id => some (some (.exit id))
  | _ => none
def endRnd (b : Nat) (r : Option (Exit × FS)) : Option (AV × HS) :=
  match r with
  | some (e, ⟨tmx, dfx, sx⟩) => match jumpOf e, sx.H.get b with
    | some j, some (.loop st2 pend2 tm2 sz2 params2 assign2 body2 df2) =>
      some (.v (.bool j.isNone), sx.upd b (.loop (match j.isNone with | true => .ready | false => .done) j tm2 sz2 params2 assign2 body2 df2))
    | _, _ => none
  | none => none
def rndF (rec : Rec) (b : Nat) (args : List AV) (s : HS) : Option (AV × HS) :=
  match s.H.get b with
  | some (.loop st pend tm sz params assign body df) => match setParams params.toList args sz tm, Nat.ble sz 16000 with
    | some tm', true => match rec (some b) sz assign ⟨tm', [], s⟩ with
      | some (.normal, ⟨tmy, dfy, sy⟩) => match sy.H.get b with
        | some (.loop .ready pend1 tm1 sz1 params1 assign1 body1 df1) =>
          endRnd b (rec (some b) sz body ⟨tmy, dfy, sy.upd b (.loop .busy pend1 tm1 sz1 params1 assign1 body1 df1)⟩)
        | _ => none
      | _ => none
    | _, _ => none
  | _ => none
abbrev EvR := Rec → Program → Tr AV → HS → Oper → Option (AV × HS)
def e1Go (g : Option AV) (l : Option (List AV)) (rec : Rec) (P : Program) (s : HS) : Option (AV × HS) :=
  match l with
  | none => none
  | some l => match g with
    | none => none
    | some g => match g with
      | .yld b => rndF rec b l s
      | g => match targetOf g with
        | some (k, first, cap) => callO rec P k (first ++ l ++ cap) s
        | none => none
def e1Call (c : Call) : EvR := fun rec P tm s o => match c.callee with
  | .value f => e1Go (opd tm f) (opds tm c.args.toList) rec P s
  | .builtin _ => evO P tm s o
  | _ => none
def e1Plain : EvR := fun _ P tm s o => evO P tm s o
def e1Not : EvR := fun _ _ _ _ _ => none
def e1D : Op → EvR
  | .call c => e1Call c
  | .defer _ => e1Not
  | .go _ => e1Not
  | _ => e1Plain
/-- One operation, calls and all. -/
def ev1 (rec : Rec) (P : Program) (tm : Tr AV) (s : HS) (o : Oper) : Option (AV × HS) := e1D o.op rec P tm s o
def evOps (rec : Rec) (P : Program) (sz : Nat) (ops : List Oper) : List Oper → Tr AV → HS → Option (Tr AV × HS)
  | [], tm, s => some (tm, s)
  | o :: rest, tm, s => match wantedA tm ops o with
    | none => none
    | some false => match putT tm sz o.dst (.v undef) with
      | some tm' => evOps rec P sz ops rest tm' s
      | none => none
    | some true => match ev1 rec P tm s o with
      | none => none
      | some (v, s') => match putT tm sz o.dst v with
        | some tm' => evOps rec P sz ops rest tm' s'
        | none => none

/-! ### A region whose order is open -/
structure DS where
  tm : Tr AV
  s : HS
  base : Tr AB
  n0 : Nat
  cr : Nat
  imp : Nat
  calls : Nat
  bars : Nat
  loads : List (Nat × Nat × Nat × Nat)
  stores : List (Nat × Nat × Nat × Nat)
def within (a b : Nat) : Bool := Nat.beq (Nat.land a b) a
def bitAt (p i : Nat) : Bool := Nat.beq (Nat.mod (Nat.shiftRight p i) 2) 1
def lenT (P : Program) (t : TypeId) : Option Nat :=
  match P.underlying t with
  | none => none
  | some d => match aggD d with
    | true => match P.info? t with
      | none => none
      | some i => some i.size
    | false => some 1
def orB (a b : Bool) : Bool :=
  match a with
  | true => true
  | false => b
/-- The operation is behind each one of these, or they touch other cells. -/
def besides (p b off len : Nat) : List (Nat × Nat × Nat × Nat) → Bool
  | [] => true
  | (j, b', off', len') :: l => match orB (bitAt p j) (match Nat.beq b b' with | false => true | true => orB (Nat.ble (off + len) off') (Nat.ble (off' + len') off)) with
    | true => besides p b off len l
    | false => false
def allIn (p : Nat) : List (Nat × Nat × Nat × Nat) → Bool
  | [] => true
  | (j, _, _, _) :: l => match bitAt p j with
    | true => allIn p l
    | false => false
abbrev DT := Rec → Program → Nat → Nat → Nat → DS → Oper → Option DS
def putD (sz : Nat) (o : Oper) (v : AV) (d : DS) : Option DS :=
  match d with
  | ⟨tm, s, base, n0, cr, imp, calls, bars, loads, stores⟩ => match putT tm sz o.dst v with
    | some tm' => some ⟨tm', s, base, n0, cr, imp, calls, bars, loads, stores⟩
    | none => none
def dQuiet : DT := fun rec P sz i p d o => match d with
  | ⟨tm, s, base, n0, cr, imp, calls, bars, loads, stores⟩ => match evO P tm s o with
    | some (v, s') => putD sz o v ⟨tm, s, base, n0, cr, imp, calls, bars, loads, stores⟩
    | none => none
def dLoad (t : TypeId) (x : Operand) : DT := fun rec P sz i p d o => match d with
  | ⟨tm, s, base, n0, cr, imp, calls, bars, loads, stores⟩ => match opd tm x with
    | some (.ptr b off) => match s.load P b off t, lenT P t with
      | some v, some len => match besides p b off len stores, orB (Nat.blt b n0) (within cr p), within bars p with
        | true, true, true => putD sz o v ⟨tm, s, base, n0, cr, Nat.lor imp (Nat.pow 2 i), calls, bars, (i, b, off, len) :: loads, stores⟩
        | _, _, _ => none
      | _, _ => none
    | _ => none
def baseStore (base : Tr AB) (n b off : Nat) (cs : List AV) : Tr AB :=
  match HS.store ⟨n, n, base⟩ b off cs with
  | some s2 => s2.H
  | none => base
def dStore (t : TypeId) (x y : Operand) : DT := fun rec P sz i p d o => match d with
  | ⟨tm, s, base, n0, cr, imp, calls, bars, loads, stores⟩ => match storeOf P tm t x y with
    | none => none
    | some (b, off, cs) => match besides p b off cs.length stores, besides p b off cs.length loads, within calls p, orB (Nat.blt b n0) (within cr p), within bars p with
      | true, true, true, true, true => match s.store b off cs with
        | none => none
        | some s1 => putD sz o (.v undef) ⟨tm, s1, baseStore base s.n b off cs, n0, cr, Nat.lor imp (Nat.pow 2 i), calls, bars, loads, (i, b, off, cs.length) :: stores⟩
      | _, _, _, _, _ => none
/-- One block more. -/
def addNew (s s1 : HS) : Option HS :=
  match s with
  | ⟨n, m, H⟩ => match Nat.beq s1.n (n + 1) with
    | true => match s1.H.get n, Nat.ble n 1000000 with
      | some x, true => some ⟨n + 1, m, Tr.set 30 H n x⟩
      | _, _ => none
    | false => none
def dMake : DT := fun rec P sz i p d o => match d with
  | ⟨tm, s, base, n0, cr, imp, calls, bars, loads, stores⟩ => match evO P tm ⟨s.n, s.n, .leaf⟩ o with
    | none => none
    | some (v, s1) => match addNew s s1, within bars p with
      | some s2, true => putD sz o v ⟨tm, s2, base, n0, Nat.lor cr (Nat.pow 2 i), Nat.lor imp (Nat.pow 2 i), calls, bars, loads, stores⟩
      | _, _ => none
def backM (m : Nat) (s1 : HS) : HS :=
  match s1 with
  | ⟨n, _, H⟩ => ⟨n, m, H⟩
def lowM (m : Nat) (s1 : HS) : HS :=
  match s1 with
  | ⟨n, m1, H⟩ => HS.mkLow n m m1 H
def addBit (c : Bool) (cr i : Nat) : Nat :=
  match c with
  | true => cr
  | false => Nat.lor cr (Nat.pow 2 i)
def dCall : DT := fun rec P sz i p d o => match d with
  | ⟨tm, s, base, n0, cr, imp, calls, bars, loads, stores⟩ => match within bars p, allIn p stores with
    | true, true => match within cr p with
      | true => match ev1 rec P tm ⟨s.n, s.n, s.H⟩ o with
        | none => none
        | some (v, s1) => match Nat.ble s.n s1.m with
          | true => putD sz o v ⟨tm, backM s.m s1, base, n0, addBit (Nat.beq s1.n s.n) cr i, Nat.lor imp (Nat.pow 2 i), Nat.lor calls (Nat.pow 2 i), bars, loads, stores⟩
          | false => match within imp p with
            | true => putD sz o v ⟨tm, lowM s.m s1, s1.H, s1.n, 0, Nat.lor imp (Nat.pow 2 i), 0, Nat.lor bars (Nat.pow 2 i), [], []⟩
            | false => none
      | false => match ev1 rec P tm ⟨s.n, s.n, base⟩ o with
        | none => none
        | some (v, s1) => match Nat.ble s.n s1.m with
          | false => none
          | true => match Nat.beq s1.n s.n with
            | true => putD sz o v ⟨tm, s, base, n0, cr, Nat.lor imp (Nat.pow 2 i), Nat.lor calls (Nat.pow 2 i), bars, loads, stores⟩
            | false => match addNew s s1 with
              | some s2 => putD sz o v ⟨tm, s2, base, n0, Nat.lor cr (Nat.pow 2 i), Nat.lor imp (Nat.pow 2 i), Nat.lor calls (Nat.pow 2 i), bars, loads, stores⟩
              | none => none
    | _, _ => none
def dBlt : Builtin → DT
  | .len => dQuiet
  | .min => dQuiet
  | .max => dQuiet
  | _ => dCall
def dCallee : Callee → DT
  | .builtin b => dBlt b
  | _ => dCall
def dD : Op → DT
  | .move _ => dQuiet
  | .assign _ => dQuiet
  | .pick _ _ _ => dQuiet
  | .fieldAddr _ _ _ => dQuiet
  | .indexAddr _ _ _ => dQuiet
  | .field _ _ _ => dQuiet
  | .index _ _ _ => dQuiet
  | .nilCheck _ => dQuiet
  | .extract _ _ => dQuiet
  | .binOp _ _ _ _ _ => dQuiet
  | .unOp _ _ _ => dQuiet
  | .convert _ _ _ => dQuiet
  | .makeFunc _ _ _ => dQuiet
  | .build _ _ => dQuiet
  | .slice _ _ _ _ _ => dQuiet
  | .load t x => dLoad t x
  | .store t x y => dStore t x y
  | .alloc _ => dMake
  | .box _ _ => dMake
  | .buildSlice _ _ _ => dMake
  | .makeSlice _ _ _ => dMake
  | .call c => dCallee c.callee
  | _ => dCall
def dstep (rec : Rec) (P : Program) (sz : Nat) (ops : List Oper) (i p : Nat) (d : DS) (o : Oper) : Option DS :=
  match wantedA d.tm ops o with
  | none => none
  | some false => putD sz o (.v undef) d
  | some true => dD o.op rec P sz i p d o
def dsteps (rec : Rec) (P : Program) (sz : Nat) (ops : List Oper) : Nat → List Nat → List Oper → DS → Option DS
  | _, _, [], d => some d
  | i, p :: ps, o :: rest, d => match dstep rec P sz ops i p d o with
    | some d' => dsteps rec P sz ops (i + 1) ps rest d'
    | none => none
  | _, _, _, _ => none
/-- Temporaries that an operation names: those it reads, its guard's, its own. -/
def tmpsOf : List Operand → List Nat → List Nat
  | [], l => l
  | x :: xs, l => match x with
    | .tmp t => tmpsOf xs (t :: l)
    | _ => tmpsOf xs l
def addO (x : Option Nat) (l : List Nat) : List Nat :=
  match x with
  | some t => t :: l
  | none => l
def namesOf (ops : List Oper) (o : Oper) : List Nat :=
  addO o.dst (match o.guard with
    | some (j, _) => addO (dstAt ops j) (tmpsOf o.op.operands.toList [])
    | none => tmpsOf o.op.operands.toList [])
def memN (d : Nat) : List Nat → Bool
  | [] => false
  | t :: l => match Nat.beq d t with
    | true => true
    | false => memN d l
def clean1 (j p : Nat) (N : List Nat) : Nat → List Nat → List Oper → Bool
  | i, q :: qs, o :: l => match o.dst with
    | none => clean1 j p N (i + 1) qs l
    | some d => match memN d N with
      | false => clean1 j p N (i + 1) qs l
      | true => match orB (Nat.beq i j) (orB (bitAt p i) (bitAt q j)) with
        | true => clean1 j p N (i + 1) qs l
        | false => false
  | _, _, _ => true
/-- Whoever writes a temporary is before or after each other one that names it; whoever waits, waits for those ahead in the text. -/
def cleanAll (ops : List Oper) (pr : List Nat) : Nat → List Nat → List Oper → Bool
  | j, p :: ps, o :: l => match Nat.blt p (Nat.pow 2 j) with
    | true => match clean1 j p (namesOf ops o) 0 pr ops with
      | true => cleanAll ops pr (j + 1) ps l
      | false => false
    | false => false
  | _, [], [] => true
  | _, _, _ => false
def evDraw (rec : Rec) (P : Program) (sz : Nat) (ops : Array Oper) (tm : Tr AV) (s : HS) : Option (Tr AV × HS) :=
  match cleanAll ops.toList (Region.before ops).toList 0 (Region.before ops).toList ops.toList with
  | false => none
  | true => match dsteps rec P sz ops.toList 0 (Region.before ops).toList ops.toList ⟨tm, s, s.H, s.n, 0, 0, 0, 0, [], []⟩ with
    | some d => some (d.tm, d.s)
    | none => none

/-! ### Code -/
def evLoop (body : FS → Option (Exit × FS)) : Nat → FS → Option (Exit × FS)
  | 0, _ => none
  | k + 1, fs => match body fs with
    | some (.normal, f1) => evLoop body k f1
    | r => r
def enterA (rd : Option Nat) (params : Array Tmp) (assign body : Code) (sz : Nat) (fs : FS) : Option (Nat × List Nat × HS) :=
  match rd with
  | none => match fs with
    | ⟨tm, _, s⟩ => some (s.n + 1, [s.n], (s.new (.defd true)).new (.loop .ready none tm sz params assign body s.n))
  | some b => match fs with
    | ⟨tm, _, s⟩ => match s.H.get b with
      | some (.loop _ _ _ _ _ _ _ df) => some (s.n, [], s.new (.loop .ready none tm sz params assign body df))
      | _ => none
def endRange (tm : Tr AV) (df : List Nat) (l : Nat) (mark : List Nat) (s2 : HS) : Option (Exit × FS) :=
  match s2.H.get l with
  | some (.loop st pend tm2 sz2 params2 assign2 body2 df2) => match st with
    | .busy => none
    | _ => match pend with
      | none => some (.normal, ⟨tm, mark ++ df, s2.upd l (.loop .exhausted pend tm2 sz2 params2 assign2 body2 df2)⟩)
      | some .ret => some (.ret, ⟨tm, mark ++ df, s2.upd l (.loop .exhausted pend tm2 sz2 params2 assign2 body2 df2)⟩)
      | some (.exit id) => some (.exit id, ⟨tm, mark ++ df, s2.upd l (.loop .exhausted pend tm2 sz2 params2 assign2 body2 df2)⟩)
      | _ => none
  | _ => none
abbrev CT := Rec → Program → Option Nat → Nat → FS → Option (Exit × FS)
def cRange (g : Operand) (params : Array Tmp) (assign body : Code) : CT := fun rec P rd sz fs =>
  match fs with
  | ⟨tm, df, s⟩ => match opd tm g with
    | none => none
    | some gv => match targetOf gv with
      | none => none
      | some (k, first, cap) => match enterA rd params assign body sz ⟨tm, df, s⟩ with
        | none => none
        | some (l, mark, s1) => match callO rec P k (first ++ [.yld l] ++ cap) s1 with
          | none => none
          | some (_, s2) => endRange tm df l mark s2
def cEnd (e : Exit) : CT := fun _ _ _ _ fs => some (e, fs)
def cSeq (a b : Code) : CT := fun rec P rd sz fs => match rec rd sz a fs with
  | some (.normal, f1) => rec rd sz b f1
  | r => r
def cCond (x : Operand) (a b : Code) : CT := fun rec P rd sz fs => match opd fs.tm x with
  | some (.v (.bool true)) => rec rd sz a fs
  | some (.v (.bool false)) => rec rd sz b fs
  | _ => none
def outOf (id : Nat) (r : Option (Exit × FS)) : Option (Exit × FS) :=
  match r with
  | some (.exit i, f1) => match Nat.beq i id with
    | true => some (.normal, f1)
    | false => some (.exit i, f1)
  | r => r
def cBlock (id : Nat) (b : Code) : CT := fun rec P rd sz fs => outOf id (rec rd sz b fs)
def cLoop (b : Code) : CT := fun rec P rd sz fs => evLoop (rec rd sz b) 1000000 fs
def cScope (b : Code) : CT := fun rec P rd sz fs => match rec rd sz b fs with
  | some (.goto _, _) => none
  | r => r
def finC (df : List Nat) (r : Option (Tr AV × HS)) : Option (Exit × FS) :=
  match r with
  | some (tm, s) => some (.normal, ⟨tm, df, s⟩)
  | none => none
def cRegion (ops : Array Oper) (draw : Bool) : CT := fun rec P rd sz fs => match fs with
  | ⟨tm, df, s⟩ => match draw with
    | false => finC df (evOps rec P sz ops.toList ops.toList tm s)
    | true => finC df (evDraw rec P sz ops tm s)
def cNot : CT := fun _ _ _ _ _ => none
def cD : Code → CT
  | .skip => cEnd .normal
  | .label _ => cEnd .normal
  | .exit id => cEnd (.exit id)
  | .ret => cEnd .ret
  | .seq a b => cSeq a b
  | .cond x a b => cCond x a b
  | .block id b => cBlock id b
  | .loop b => cLoop b
  | .scope b => cScope b
  | .region _ ops draw => cRegion ops draw
  | .rangeFunc g ps a b => cRange g ps a b
  | _ => cNot
def stepC (rec : Rec) (P : Program) : Rec := ⟨fun rd sz c fs => cD c rec P rd sz fs, rec.orc⟩
def evC (P : Program) (O : Orc) : Nat → Rec
  | 0 => ⟨fun _ _ _ _ => none, O⟩
  | k + 1 => stepC (evC P O k) P
/-- A call, computed. -/
def run (P : Program) (fuel : Nat) (f : FuncId) (args : List AV) : Option (AV × HS) := callF (evC P noOrc fuel) P f args ⟨0, 0, .leaf⟩
end
end Go.Proofs.Ytchlehpjpgeejaa.Ev
