import Derived.Test.YtegmogadbnfbgaaFt
set_option linter.all false
/- Loops within loops, with returns. -/
namespace Go.Proofs.Ytegmogadbnfbgaa.Ev
open Go
noncomputable section
variable {P : Program} {sz : Nat} {w0 : BaseW}
def StepQ {ι:Type} (sz:Nat) (id:Nat) (T:ι→Lit) (μ:ι→Nat) (R:ι→Prop) (w0:BaseW) (Q:Exit→Act→World→Prop) (i:ι):Exit→Act→World→Prop :=
 fun e a w=>(e = .normal∧∃ j,μ j < μ i∧∃ σ,Now sz (T j).fs w0 σ a w)∨(e = .exit id∧R i∧∃ σ,Now sz (T i).fs w0 σ a w)∨(e = .ret∧Q .ret a w)
theorem goes_blockstep {ι:Type} {c:Code} (hc:isBL c=true) (T:ι→Lit) (μ:ι→Nat) {R:ι→Prop} {Q:Exit→Act→World→Prop}
  (h:∀ i,Goes P sz (loopC c) (T i) w0 (StepQ sz (blkId c) T μ R w0 Q i)) (i:ι):Goes P sz c (T i) w0 (LandQ sz T R w0 Q):=by
 rw [isBL_eq hc]
 refine goes_block (goes_loopI T μ (fun i=>goes_mono (h i) (fun e a w hp=>?_)) i)
 rcases hp with hp | ⟨rfl,hR,σ,h2⟩ | ⟨rfl,h2⟩
 ·exact .inl hp
 ·refine .inr ⟨by simp,?_⟩
  simp only [Exit.inBlock,if_true]
  exact .inl ⟨rfl,i,hR,σ,h2⟩
 ·exact .inr ⟨by simp,.inr ⟨rfl,h2⟩⟩
theorem step_on {ι:Type} {c:Code} {T0:Lit} {id:Nat} {T:ι→Lit} {μ:ι→Nat} {R:ι→Prop} {Q:Exit→Act→World→Prop} {i:ι} (j:ι) (hj:μ j < μ i) (h:Goes P sz c T0 w0 (Land sz isN (T j) w0)):Goes P sz c T0 w0 (StepQ sz id T μ R w0 Q i) :=
 goes_mono h (fun e a w ⟨h1,σ,h2⟩=>.inl ⟨isN_ok h1,j,hj,σ,h2⟩)
theorem step_out {ι:Type} {c:Code} {T0:Lit} {id:Nat} {T:ι→Lit} {μ:ι→Nat} {R:ι→Prop} {Q:Exit→Act→World→Prop} {i:ι} (hi:R i) (h:Goes P sz c T0 w0 (Land sz (isX id) (T i) w0)):Goes P sz c T0 w0 (StepQ sz id T μ R w0 Q i) :=
 goes_mono h (fun e a w ⟨h1,σ,h2⟩=>.inr (.inl ⟨isX_ok h1,hi,σ,h2⟩))
def blkB (c:Code):Code :=
 match c with
 | .block _ b=>b
 | _=>.ret
def isB (c:Code):Bool :=
 match c with
 | .block _ _=>true
 | _=>false
end
end Go.Proofs.Ytegmogadbnfbgaa.Ev
