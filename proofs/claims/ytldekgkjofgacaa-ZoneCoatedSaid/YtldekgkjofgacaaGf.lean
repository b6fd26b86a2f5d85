import Derived.Test.YtldekgkjofgacaaFy
set_option linter.all false
/- Closed computing, down into calls: rules whose premises are computed. -/
namespace Go.Proofs.Ytldekgkjofgacaa.Ev
open Go
noncomputable section
variable {P : Program} {w0 : BaseW} {sz : Nat}
def zi (n:Nat):AV:=.v (.int .i64 (.ofNat n))
def rp {α:Type}:Nat→α→List α→List α
 | 0,_,l=>l
 | k + 1,a,l=>a :: rp k a l
theorem goes_blkX2 {c:Code} {T T':Lit} {id:Nat} (hc:isBlk c=true) (hid:Nat.beq (blkI c) id=true) (h1:Goes P sz (blkC c) T w0 (Land sz (isX id) T' w0)):Goes P sz c T w0 (Land sz isN T' w0):=by
 have e:=Nat.eq_of_beq_eq_true hid
 subst e
 exact goes_blkX hc h1
def callOp (D:List Oper):Option (Oper×Call×Operand) :=
 match D with
 | o :: _=>match o.guard with
  | none=>match o.op with
   | .call c=>match c.callee with
    | .value g=>some (o,c,g)
    | _=>none
   | _=>none
  | some _=>none
 | []=>none
def callTo (D:List Oper) (tm:Tr AV):Option (FuncId×List AV) :=
 match callOp D with
 | some (o,c,g)=>match opds tm c.args.toList with
  | some l=>match opd tm g with
   | some gv=>match targetOf gv with
    | some (k,first,cap)=>some (k,first ++ l ++ cap)
    | none=>none
   | none=>none
  | none=>none
 | none=>none
def callIn (D:List Oper) (T:Lit) (T1:Lit) (k szk nt:Nat):Bool :=
 match callTo D T.fs.tm with
 | some (k',args)=>andB (Nat.beq k k') (andB (Nat.beq (args.length + (nt - args.length)) szk) (holds ⟨initT 0 args .leaf,[],T.fs.s⟩ T1))
 | none=>false
def dstO (D:List Oper):Option Nat :=
 match D with
 | o :: _=>o.dst
 | []=>none
def callOut (P:Program) (D:List Oper) (sz:Nat) (fn:Func) (T T2 T3:Lit):Bool :=
 match leaveF P fn T2.fs with
 | some (v,s2)=>match putT T.fs.tm sz (dstO D) v with
  | some tm3=>holds ⟨tm3,T.df,s2⟩ T3
  | none=>false
 | none=>false
theorem callOp_some {D:List Oper} {o:Oper} {c:Call} {g:Operand} (h:callOp D=some (o,c,g)):D=o :: D.drop 1∧o.guard=none∧o.op = .call c∧c.callee = .value g∧dstO D=o.dst:=by
 unfold callOp at h
 split at h
 ·split at h
  ·split at h
   ·split at h
    ·cases h
     exact ⟨rfl,‹_›,‹_›,‹_›,rfl⟩
    ·cases h
   ·cases h
  ·cases h
 ·cases h
theorem goesL_callC {D:List Oper} {T T1 T2 T3:Lit} {k szk:Nat} {fn:Func} {Q:Exit→Act→World→Prop} (hsz:Nat.ble sz 16000=true)
  (hf:P.funcs[k]? = some fn) (hc:hasBody fn=true) (hnn:(fn.name == "runtime.NumGoroutine")=false) (h1:callIn D T T1 k szk fn.ntmps=true)
  (hcall:∀ (v:BaseW) (eb:Nat→Option Nat) (ec:Nat→Nat),Goes P szk (bodyC fn) T1 (bw v T.n eb ec) (BackQ szk (fun _:Unit=>T2) (fun _=>True) (bw v T.n eb ec)))
  (h2:callOut P D sz fn T T2 T3=true) (h3:GoesL P sz (D.drop 1) T3 w0 Q):GoesL P sz D T w0 Q:=by
 unfold callIn at h1
 split at h1
 ·rename_i k' args hto
  unfold callTo at hto
  split at hto
  ·rename_i o c g hop
   obtain ⟨eD,e1,e2,e3,e4⟩:=callOp_some hop
   split at hto
   ·rename_i l hl
    split at hto
    ·rename_i gv hg
     split at hto
     ·rename_i k2 first cap ht
      cases hto
      obtain ⟨a1,a2⟩:=andB_eq h1
      obtain ⟨a2,a3⟩:=andB_eq a2
      have:=Nat.eq_of_beq_eq_true a1
      subst this
      unfold callOut at h2
      split at h2
      ·rename_i v s2 hv
       split at h2
       ·rename_i tm3 hp
        rw [e4] at hp
        rw [eD]
        exact goesL_call (ι:=Unit) (T2:=fun _=>T2) (T3:=fun _=>T3) (R:=fun _=>True) (v:=fun _=>v) (s2:=fun _=>s2) (tm3:=fun _=>tm3) hsz e2 e3 e1 hg ht hl hf hc hnn (Nat.eq_of_beq_eq_true a2) (holdsW_of a3) hcall (fun _ _=>hv) (fun _ _=>hp) (fun _ _=>holdsW_of h2) (fun _ _=>h3)
       ·cases h2
      ·cases h2
     ·cases hto
    ·cases hto
   ·cases hto
  ·cases hto
 ·cases h1
theorem goesL_preC (hm:P.follows .mixedOrders=true) {k:Nat} (m:Nat) {D:List Oper} {T T1:Lit} {Q:Exit→Act→World→Prop} (hsz:Nat.ble sz 16000=true) (hg:noG (D.take m)=true)
  (h:lands (evR P noOrc k w0.rd sz (regC (D.take m)) T.fs) isN T1=true) (h2:GoesL P sz (D.drop m) T1 w0 Q):GoesL P sz D T w0 Q :=
 goesL_app (List.take_append_drop m D).symm (goesL_part hm hsz hg h h2)
def isNilO (D:List Oper):Bool :=
 match D with
 | []=>true
 | _=>false
theorem goesL_endC {D:List Oper} {T:Lit} (h:isNilO D=true):GoesL P sz D T w0 (Land sz isN T w0):=by
 cases D with
 | nil=>exact goesL_nil
 | cons o l=>cases h
def rangeTo (c:Code) (sz:Nat) (fs:FS):Option (FuncId×List AV×Nat×List Nat×HS) :=
 match opd fs.tm (rfG c) with
 | none=>none
 | some gv=>match targetOf gv with
  | none=>none
  | some (k,first,cap)=>match enterA none (rfP c) (rfA c) (rfB c) sz fs with
   | none=>none
   | some (l,mark,s1)=>some (k,first ++ [.yld l] ++ cap,l,mark,s1)
def rangeIn (c:Code) (sz:Nat) (T:Lit):Option (Exit×FS) :=
 match rangeTo c sz T.fs with
 | some (_,args,_,_,s1)=>some (.normal,⟨initT 0 args .leaf,[],s1⟩)
 | none=>none
def rangeIs (c:Code) (sz:Nat) (T:Lit) (k l szk nt K:Nat):Bool :=
 match rangeTo c sz T.fs with
 | some (k',args,l',_,s1)=>andB (andB (Nat.beq k k') (Nat.beq l l')) (andB (Nat.beq (args.length + (nt - args.length)) szk) (andB (Nat.beq s1.n K) (Nat.blt l s1.n)))
 | none=>false
def rangeOut (c:Code) (sz:Nat) (T:Lit) (T2:Lit):Option (Exit×FS) :=
 match rangeTo c sz T.fs with
 | some (_,_,l,mark,_)=>endRange T.fs.tm T.fs.df l mark T2.fs.s
 | none=>none
def isNilN (l:List Nat):Bool :=
 match l with
 | []=>true
 | _=>false
def isNilR (l:List ResultVar):Bool :=
 match l with
 | []=>true
 | _=>false
theorem goes_rangeC {c:Code} {T T3:Lit} {T1 T2:Lit1} {k l szk K:Nat} {fn:Func} {p:Exit→Bool} (hrd:w0.rd=none) (hc:isRf c=true)
  (hf:P.funcs[k]? = some fn) (hb:hasBody fn=true) (hnn:(fn.name == "runtime.NumGoroutine")=false) (hres:isNilR fn.results.toList=true)
  (h0:rangeIs c sz T k l szk fn.ntmps K=true) (hst:T1.st = .ready) (hpe:T1.pend=none) (h1:viewP (rangeIn c sz T) (fun _=>true) T1=some (true,T1.params,T1.assign,T1.body)) (hd2:isNilN T2.df=true)
  (hcall:∀ (v:BaseW) (eb:Nat→Option Nat) (ec:Nat→Nat),Goes P szk (bodyC fn) T1.lit (bw v K eb ec) (Back szk T2.lit (bw v K eb ec)))
  (h3:lands (rangeOut c sz T T2.lit) p T3=true):Goes P sz c T w0 (Land sz p T3 w0):=by
 rw [rf_eq hc]
 unfold rangeIs at h0
 unfold rangeIn at h1
 unfold rangeOut at h3
 split at h0
 ·rename_i k' args l' mark s1 hto
  rw [hto] at h1 h3
  simp only at h1 h3
  unfold rangeTo at hto
  split at hto
  ·cases hto
  ·rename_i gv hg
   split at hto
   ·cases hto
   ·rename_i k2 first cap ht
    split at hto
    ·cases hto
    ·rename_i l2 mark2 s12 he
     cases hto
     obtain ⟨a1,a2⟩:=andB_eq h0
     obtain ⟨b1,b2⟩:=andB_eq a1
     obtain ⟨c1,c2⟩:=andB_eq a2
     obtain ⟨c3,c4⟩:=andB_eq c2
     have e1:=Nat.eq_of_beq_eq_true b1
     have e2:=Nat.eq_of_beq_eq_true b2
     have e3:=Nat.eq_of_beq_eq_true c3
     subst e1 e2 e3
     obtain ⟨ex,fs3,q1,q2,q3⟩:=lands_ok h3
     refine goes_range (T1:=T1.lit) (T2:=T2.lit) hg ht hf hb hnn ?_ (by rw [hrd]; exact he) ?_ (Nat.eq_of_beq_eq_true c1) (holdsW_loop hst hpe h1) ?_ hcall q1 (holdsW_of q3) q2
     ·cases hh:fn.results.toList with
      | nil=>rfl
      | cons a b=>rw [hh] at hres; cases hres
     ·simpa using c4
     ·show T2.df=[]
      cases hh:T2.df with
      | nil=>rfl
      | cons a b=>rw [hh] at hd2; cases hd2
 ·cases h0
def Env.back (σ σ2:Env) (n n1:Nat):Env:=⟨fun b=>if b < n then σ.blk b else σ2.blk (b - n + n1),fun b=>if b < n then σ.cap b else σ2.cap (b - n + n1),σ.base⟩
structure FrameOK (T T1 T2 T3:Lit) (rs rs2:List Nat):Prop where
 len:rs.length=T1.n
 nodup:rs.Nodup
 df1:T1.df=[]
 live:∀ q∈rs,q < T.n∧T.fs.s.H.get q≠none
 top1:∀ i x',T1.fs.s.H.get i=some x'→i < T1.n
 bs1:∀ i x',T1.fs.s.H.get i=some x'→∃ q x,rs[i]? = some q∧T.fs.s.H.get q=some x∧NRB rs x i x'
 n3:T3.n=T.n + (T2.n - T1.n)
 le2:T1.n≤T2.n
 map2:∀ b i,rs2[b]? = some i→(i < T1.n→rs[i]? = some b)∧(T1.n≤i→i < T2.n→b=T.n + (i - T1.n))
 top3:∀ b x,T3.fs.s.H.get b=some x→b < T3.n
 bs3:∀ b x3,T3.fs.s.H.get b=some x3→(b∉rs∧T.fs.s.H.get b=some x3)∨∃ i x,rs2[b]? = some i∧i < T2.n∧T2.fs.s.H.get i=some x∧NRB rs2 x b x3
end
end Go.Proofs.Ytldekgkjofgacaa.Ev
