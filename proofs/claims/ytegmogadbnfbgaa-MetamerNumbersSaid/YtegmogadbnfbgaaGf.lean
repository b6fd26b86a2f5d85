import Derived.Test.YtegmogadbnfbgaaFy
set_option linter.all false
/- Closed computing, down into calls: rules whose premises are computed. -/
namespace Go.Proofs.Ytegmogadbnfbgaa.Ev
open Go
noncomputable section
variable {P : Program} {w0 : BaseW} {sz : Nat}
def isNilO (D:List Oper):Bool :=
 match D with
 | []=>true
 | _=>false
def rangeTo (c:Code) (sz:Nat) (fs:FS):Option (FuncId×List AV×Nat×List Nat×HS) :=
 match opd fs.tm (rfG c) with
 | none=>none
 | some gv=>match targetOf gv with
  | none=>none
  | some (k,first,cap)=>match enterA none (rfP c) (rfA c) (rfB c) sz fs with
   | none=>none
   | some (l,mark,s1)=>some (k,first ++ [.yld l] ++ cap,l,mark,s1)
def rangeIn (c:Code) (sz:Nat) (T:Lit):Option (Exit×FS) :=
 match rangeTo c sz T.fs with
 | some (_,args,_,_,s1)=>some (.normal,⟨initT 0 args .leaf,[],s1⟩)
 | none=>none
def rangeIs (c:Code) (sz:Nat) (T:Lit) (k l szk nt K:Nat):Bool :=
 match rangeTo c sz T.fs with
 | some (k',args,l',_,s1)=>andB (andB (Nat.beq k k') (Nat.beq l l')) (andB (Nat.beq (args.length + (nt - args.length)) szk) (andB (Nat.beq s1.n K) (Nat.blt l s1.n)))
 | none=>false
def rangeOut (c:Code) (sz:Nat) (T:Lit) (T2:Lit):Option (Exit×FS) :=
 match rangeTo c sz T.fs with
 | some (_,_,l,mark,_)=>endRange T.fs.tm T.fs.df l mark T2.fs.s
 | none=>none
def isNilR (l:List ResultVar):Bool :=
 match l with
 | []=>true
 | _=>false
def Env.back (σ σ2:Env) (n n1:Nat):Env:=⟨fun b=>if b < n then σ.blk b else σ2.blk (b - n + n1),fun b=>if b < n then σ.cap b else σ2.cap (b - n + n1),σ.base⟩
structure FrameOK (T T1 T2 T3:Lit) (rs rs2:List Nat):Prop where
 len:rs.length=T1.n
 nodup:rs.Nodup
 df1:T1.df=[]
 live:∀ q∈rs,q < T.n∧T.fs.s.H.get q≠none
 top1:∀ i x',T1.fs.s.H.get i=some x'→i < T1.n
 bs1:∀ i x',T1.fs.s.H.get i=some x'→∃ q x,rs[i]? = some q∧T.fs.s.H.get q=some x∧NRB rs x i x'
 n3:T3.n=T.n + (T2.n - T1.n)
 le2:T1.n≤T2.n
 map2:∀ b i,rs2[b]? = some i→(i < T1.n→rs[i]? = some b)∧(T1.n≤i→i < T2.n→b=T.n + (i - T1.n))
 top3:∀ b x,T3.fs.s.H.get b=some x→b < T3.n
 bs3:∀ b x3,T3.fs.s.H.get b=some x3→(b∉rs∧T.fs.s.H.get b=some x3)∨∃ i x,rs2[b]? = some i∧i < T2.n∧T2.fs.s.H.get i=some x∧NRB rs2 x b x3
end
end Go.Proofs.Ytegmogadbnfbgaa.Ev
