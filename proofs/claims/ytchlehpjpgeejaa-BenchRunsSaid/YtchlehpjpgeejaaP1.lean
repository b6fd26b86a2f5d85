import Derived.Test.YtchlehpjpgeejaaM6
/- Scalars of bench. -/
namespace Go.Proofs.Ytchlehpjpgeejaa
set_option linter.unusedVariables false
set_option linter.unusedSimpArgs false
open Go Ev
end Go.Proofs.Ytchlehpjpgeejaa
