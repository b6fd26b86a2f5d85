import Derived.Test.YtchlehpjpgeejaaFt
/- Loops within loops, with returns. -/
namespace Go.Proofs.Ytchlehpjpgeejaa.Ev
set_option linter.unusedVariables false
set_option linter.unusedSimpArgs false
open Go
noncomputable section
variable {P : Program} {sz : Nat} {w0 : BaseW}
def blkB (c : Code) : Code :=
  match c with
  | .block _ b => b
  | _ => .ret
def isB (c : Code) : Bool :=
  match c with
  | .block _ _ => true
  | _ => false
end
end Go.Proofs.Ytchlehpjpgeejaa.Ev
