import Derived.Test.YtchlehpjpgeejaaGf
/- The frame rule with computed premises. -/
namespace Go.Proofs.Ytchlehpjpgeejaa.Ev
set_option linter.unusedVariables false
set_option linter.unusedSimpArgs false
open Go
noncomputable section
variable {P : Program} {w0 : BaseW} {sz : Nat}
end
end Go.Proofs.Ytchlehpjpgeejaa.Ev
