import Derived.Test.YtldekgkjofgacaaGf
/- The frame rule with computed premises. -/
namespace Go.Proofs.Ytldekgkjofgacaa.Ev
set_option linter.unusedVariables false
set_option linter.unusedSimpArgs false
open Go
noncomputable section
variable {P : Program} {w0 : BaseW} {sz : Nat}
end
end Go.Proofs.Ytldekgkjofgacaa.Ev
