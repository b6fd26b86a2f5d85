import Derived.Test.YtegmogadbnfbgaaFy
set_option linter.all false
/- Closed computing, down into calls: rules whose premises are computed. -/
namespace Go.Proofs.Ytegmogadbnfbgaa.Ev
open Go
noncomputable section
variable {P : Program} {w0 : BaseW} {sz : Nat}
def Env.back (σ σ2:Env) (n n1:Nat):Env:=⟨fun b=>if b < n then σ.blk b else σ2.blk (b - n + n1),fun b=>if b < n then σ.cap b else σ2.cap (b - n + n1),σ.base⟩
structure FrameOK (T T1 T2 T3:Lit) (rs rs2:List Nat):Prop where
 len:rs.length=T1.n
 nodup:rs.Nodup
 df1:T1.df=[]
 live:∀ q∈rs,q < T.n∧T.fs.s.H.get q≠none
 top1:∀ i x',T1.fs.s.H.get i=some x'→i < T1.n
 bs1:∀ i x',T1.fs.s.H.get i=some x'→∃ q x,rs[i]? = some q∧T.fs.s.H.get q=some x∧NRB rs x i x'
 n3:T3.n=T.n + (T2.n - T1.n)
 le2:T1.n≤T2.n
 map2:∀ b i,rs2[b]? = some i→(i < T1.n→rs[i]? = some b)∧(T1.n≤i→i < T2.n→b=T.n + (i - T1.n))
 top3:∀ b x,T3.fs.s.H.get b=some x→b < T3.n
 bs3:∀ b x3,T3.fs.s.H.get b=some x3→(b∉rs∧T.fs.s.H.get b=some x3)∨∃ i x,rs2[b]? = some i∧i < T2.n∧T2.fs.s.H.get i=some x∧NRB rs2 x b x3
end
end Go.Proofs.Ytegmogadbnfbgaa.Ev
