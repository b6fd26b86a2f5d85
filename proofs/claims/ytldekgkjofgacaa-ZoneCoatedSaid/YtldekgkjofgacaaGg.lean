import Derived.Test.YtldekgkjofgacaaGf
set_option linter.all false
/- The frame rule with computed premises. -/
namespace Go.Proofs.Ytldekgkjofgacaa.Ev
open Go
noncomputable section
variable {P : Program} {w0 : BaseW} {sz : Nat}
end
end Go.Proofs.Ytldekgkjofgacaa.Ev
