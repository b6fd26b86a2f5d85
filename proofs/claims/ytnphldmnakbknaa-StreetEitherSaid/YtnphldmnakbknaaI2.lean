import Derived.Test.YtnphldmnakbknaaI1
set_option linter.all false
/- Lit of both. -/
namespace Go.Proofs.Ytnphldmnakbknaa
open Go Ev
noncomputable section
end
end Go.Proofs.Ytnphldmnakbknaa
