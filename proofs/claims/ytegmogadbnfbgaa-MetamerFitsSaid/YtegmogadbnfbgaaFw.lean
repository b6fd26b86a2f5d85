import Derived.Test.YtegmogadbnfbgaaFt
set_option linter.all false
/- Results with one new block which name what lies in the world too. -/
namespace Go.Proofs.Ytegmogadbnfbgaa.Ev
open Go
noncomputable section
variable {P : Program} {O : OrcH} {w0 : BaseW} {sz : Nat}
structure OneX (args:List AV) (V:Nat→AV) (x:AB):Prop where
 val:∀ (σ τ:Env) (b N B:Nat) (xs:List Value),σ.blk b=some B→τ.blk N=none→denL τ args=some xs→∀ r,den σ (V b)=some r→den (τ.put N B (σ.cap b)) (V N)=some r
 blk:∀ (σ τ:Env) (b N B:Nat),σ.blk b=some B→∀ o,Blk σ b x o→Blk (τ.put N B (σ.cap b)) N x o
structure HoldsW (fs:FS) (T:Lit):Prop where
 n:fs.s.n=T.n
 df:fs.df=T.df
 tm:∀ t v,T.fs.tm.get t=some v→fs.tm.get t=some v
 bs:∀ b x,T.fs.s.H.get b=some x→∃ y,fs.s.H.get b=some y∧∀ σ o,Blk σ b y o→Blk σ b x o
structure LV where
 st:LoopState
 pend:Option Code
 vs:List (Option AV)
 sz:Nat
 params:Array Tmp
 assign:Code
 body:Code
 df:Nat
def loopB (st:LoopState) (pend:Option Code) (lt:List (Nat×AV)) (szl:Nat) (params:Array Tmp) (assign body:Code) (dfl:Nat):AB:=.loop st pend (mkT 14 lt) szl params assign body dfl
structure Lit1 where
 tms:List (Nat×AV)
 df:List Nat
 n:Nat
 lb:Nat
 lt:List (Nat×AV)
 bs:List (Nat×AB)
 st:LoopState
 pend:Option Code
 szl:Nat
 params:Array Tmp
 assign:Code
 body:Code
 dfl:Nat
def Lit1.lit (T:Lit1):Lit:=⟨T.tms,T.df,T.n,(T.lb,loopB T.st T.pend T.lt T.szl T.params T.assign T.body T.dfl) :: T.bs⟩
@[reducible] def bw (v:BaseW) (k:Nat) (eb:Nat→Option Nat) (ec:Nat→Nat):BaseW:={v with k:=k,eb:=eb,ec:=ec,rd:=none,hid:=[],far:=v.hid ++ v.far}
end
end Go.Proofs.Ytegmogadbnfbgaa.Ev
