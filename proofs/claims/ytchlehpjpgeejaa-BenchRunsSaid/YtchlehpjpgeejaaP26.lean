import Derived.Test.YtchlehpjpgeejaaP25
/- reached of the laws. -/
namespace Go.Proofs.Ytchlehpjpgeejaa
set_option linter.unusedVariables false
set_option linter.unusedSimpArgs false
open Go Ev
noncomputable section
end
end Go.Proofs.Ytchlehpjpgeejaa
