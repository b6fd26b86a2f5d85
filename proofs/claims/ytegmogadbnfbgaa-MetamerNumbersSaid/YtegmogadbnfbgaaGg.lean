import Derived.Test.YtegmogadbnfbgaaGf
set_option linter.all false
/- The frame rule with computed premises. -/
namespace Go.Proofs.Ytegmogadbnfbgaa.Ev
open Go
noncomputable section
variable {P : Program} {w0 : BaseW} {sz : Nat}
end
end Go.Proofs.Ytegmogadbnfbgaa.Ev
