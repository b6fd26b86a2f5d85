import Derived.Test.YtegmogadbnfbgaaGg
import Derived.Test.YtegmogadbnfbgaaFu
set_option linter.all false
/- Loops over functions with values that are not known: several ends. -/
namespace Go.Proofs.Ytegmogadbnfbgaa.Ev
open Go
noncomputable section
variable {P : Program} {O : OrcH} {w0 : BaseW} {sz : Nat}
def leaveV (P:Program) (fn:Func) (fs:FS):Option AV :=
 match leaveF P fn fs with
 | some (v,_)=>some v
 | none=>none
theorem outR_of {fn:Func} {T:Lit} {v:AV} {r:Value} {σ:Env} {a:Act} {w:World} (hN:Now sz T.fs w0 σ a w) (hl:leaveV P fn T.fs=some v) (hr:plain v=some r):OutR P fn sz r w0 .ret a w:=by
 unfold leaveV at hl
 split at hl
 ·rename_i v' s' e
  cases hl
  exact ⟨.inr rfl,σ,_,s',_,hN,e,hr⟩
 ·cases hl
theorem nb_cons {K:Nat} {v:AV} {l:List AV} (h:NB K v) (k:∀ u∈l,NB K u):∀ u∈v :: l,NB K u:=fun u hu=>by
 rcases List.mem_cons.1 hu with rfl | q
 ·exact h
 ·exact k u q
theorem goes_less {c:Code} {T T':Lit} {Q:Exit→Act→World→Prop} (h1:T.fs.s.n=T'.n) (h2:T.fs.df=T'.df) (h3:(T'.tms.map (·.1)).map T.fs.tm.get=T'.tms.map (fun q=>some q.2)) (h4:(T'.bs.map (·.1)).map T.fs.s.H.get=T'.bs.map (fun q=>some q.2)) (h:Goes P sz c T' w0 Q):Goes P sz c T w0 Q :=
 fun F n σ a w hW hro hN=>h F n σ a w hW hro (hN.litP (holds_view h1 h2 h3 h4))
end
end Go.Proofs.Ytegmogadbnfbgaa.Ev
namespace Go.Proofs.Ytegmogadbnfbgaa.Ev
open Go
noncomputable section
variable {P : Program} {w0 : BaseW} {sz : Nat}
end
end Go.Proofs.Ytegmogadbnfbgaa.Ev
