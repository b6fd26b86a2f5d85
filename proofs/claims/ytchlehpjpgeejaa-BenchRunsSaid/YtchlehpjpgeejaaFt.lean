import Derived.Test.YtchlehpjpgeejaaM8
/- What is known of functions whose arguments lie in the world alone, lists of lists among them. -/
namespace Go.Proofs.Ytchlehpjpgeejaa.Ev
set_option linter.unusedVariables false
set_option linter.unusedSimpArgs false
open Go
noncomputable section
variable {P : Program} {O : OrcH}
end
end Go.Proofs.Ytchlehpjpgeejaa.Ev
