import Derived.Test.YtchlehpjpgeejaaFw
/- Regions in the text's order, operation by operation; a call by what its body makes of the state. -/
namespace Go.Proofs.Ytchlehpjpgeejaa.Ev
set_option linter.unusedVariables false
set_option linter.unusedSimpArgs false
open Go
noncomputable section
variable {P : Program} {w0 : BaseW} {sz : Nat} {rec : Rec}
end
end Go.Proofs.Ytchlehpjpgeejaa.Ev
/- Closed computing in parts, down into calls and loops. -/
namespace Go.Proofs.Ytchlehpjpgeejaa.Ev
set_option linter.unusedVariables false
set_option linter.unusedSimpArgs false
open Go
noncomputable section
variable {P : Program} {w0 : BaseW} {sz : Nat}
def isR (e : Exit) : Bool :=
  match e with
  | .ret => true
  | _ => false
theorem isR_ok {e : Exit} (h : isR e = true) : e = .ret := by cases e <;> first | rfl | cases h
/-! ### The parts of a code -/
def blkC (c : Code) : Code :=
  match c with
  | .block _ x => x
  | c => c
def blkI (c : Code) : Nat :=
  match c with
  | .block i _ => i
  | _ => 0
end
end Go.Proofs.Ytchlehpjpgeejaa.Ev
