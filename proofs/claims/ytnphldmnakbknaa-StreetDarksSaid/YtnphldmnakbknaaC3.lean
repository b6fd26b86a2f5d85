import Derived.Test.YtnphldmnakbknaaT3
set_option linter.all false
/- Costs (mathematics). -/
namespace Go.Proofs.Ytnphldmnakbknaa
open Go Ev
noncomputable section
end
end Go.Proofs.Ytnphldmnakbknaa
