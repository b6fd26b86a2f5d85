import Derived.Test.YtegmogadbnfbgaaGp
import Derived.Test.YtegmogadbnfbgaaFw
set_option linter.all false
/- A universal contract of a function that makes one block,  -/
namespace Go.Proofs.Ytegmogadbnfbgaa.Ev
open Go
variable {P : Program}
end Go.Proofs.Ytegmogadbnfbgaa.Ev
