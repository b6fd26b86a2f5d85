import Derived.Test.YtnphldmnakbknaaN3
set_option linter.all false
/- The law StreetDarks. -/
namespace Go.Proofs.Ytnphldmnakbknaa
open Go Ev
noncomputable section
end
end Go.Proofs.Ytnphldmnakbknaa
