/- Computations in parts: along a body's spine. -/
import Derived.Test.YtchlehpjpgeejaaFj
namespace Go.Proofs.Ytchlehpjpgeejaa.Ev
set_option linter.unusedVariables false
set_option linter.unusedSimpArgs false
open Go
noncomputable section
variable {P : Program} {w0 : World} {sz : Nat}

def hdC (c : Code) : Code :=
  match c with
  | .seq a _ => a
  | c => c
def tlC (c : Code) : Code :=
  match c with
  | .seq _ b => b
  | c => c
def isSeq (c : Code) : Bool :=
  match c with
  | .seq _ _ => true
  | _ => false
def bodyC (fn : Func) : Code :=
  match fn.body with
  | some c => c
  | none => .ret
def hasBody (fn : Func) : Bool :=
  match fn.body with
  | some _ => true
  | none => false
theorem body_some {fn : Func} (h : hasBody fn = true) : fn.body = some (bodyC fn) := by
  unfold hasBody at h
  unfold bodyC
  split at h
  · rename_i c hc; rw [hc]
  · cases h
theorem goes_spine {c : Code} {T T' : Lit} {Q : Exit → Act → World → Prop} (hc : isSeq c = true) (h1 : Goes P sz (hdC c) T w0 (Land sz isN T' w0)) (h2 : Goes P sz (tlC c) T' w0 Q) : Goes P sz c T w0 Q := by
  cases c <;> first | (cases hc; done) | exact goes_seq h1 h2
end
end Go.Proofs.Ytchlehpjpgeejaa.Ev
