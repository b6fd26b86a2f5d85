import Derived.Test.YtegmogadbnfbgaaFt
set_option linter.all false
/- Loops within loops, with returns. -/
namespace Go.Proofs.Ytegmogadbnfbgaa.Ev
open Go
noncomputable section
variable {P : Program} {sz : Nat} {w0 : BaseW}
def blkB (c:Code):Code :=
 match c with
 | .block _ b=>b
 | _=>.ret
def isB (c:Code):Bool :=
 match c with
 | .block _ _=>true
 | _=>false
end
end Go.Proofs.Ytegmogadbnfbgaa.Ev
