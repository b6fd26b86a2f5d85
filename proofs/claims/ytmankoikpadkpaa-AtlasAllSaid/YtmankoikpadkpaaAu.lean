import Derived.Test.YtmankoikpadkpaaL0
import Derived.Test.YtmankoikpadkpaaGk
set_option linter.all false
/- Lists as they lie, for texts that auto.py makes: cells on -/
namespace Go.Proofs.Ytmankoikpadkpaa
open Go Ev
noncomputable section
end
end Go.Proofs.Ytmankoikpadkpaa
