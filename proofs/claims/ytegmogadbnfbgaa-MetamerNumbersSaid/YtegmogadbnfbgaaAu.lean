import Derived.Test.YtegmogadbnfbgaaL0
import Derived.Test.YtegmogadbnfbgaaGk
set_option linter.all false
/- Lists as they lie, for texts that auto.py makes: cells on -/
namespace Go.Proofs.Ytegmogadbnfbgaa
open Go Ev
noncomputable section
end
end Go.Proofs.Ytegmogadbnfbgaa
