import Derived.Test.YtnphldmnakbknaaC3
set_option linter.all false
/- What posts cost, without posts. -/
namespace Go.Proofs.Ytnphldmnakbknaa
open Go Ev
noncomputable section
end
end Go.Proofs.Ytnphldmnakbknaa
