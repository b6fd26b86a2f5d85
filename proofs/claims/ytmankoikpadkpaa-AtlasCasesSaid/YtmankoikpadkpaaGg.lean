import Derived.Test.YtmankoikpadkpaaGf
set_option linter.all false
/- The frame rule with computed premises. -/
namespace Go.Proofs.Ytmankoikpadkpaa.Ev
open Go
noncomputable section
variable {P : Program} {w0 : BaseW} {sz : Nat}
end
end Go.Proofs.Ytmankoikpadkpaa.Ev
