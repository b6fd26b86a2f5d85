import Derived.Test.YtnphldmnakbknaaGp
import Derived.Test.YtnphldmnakbknaaFw
set_option linter.all false
/- A universal contract of a function that makes one block,  -/
namespace Go.Proofs.Ytnphldmnakbknaa.Ev
open Go
variable {P : Program}
end Go.Proofs.Ytnphldmnakbknaa.Ev
namespace Go.Proofs.Ytnphldmnakbknaa.Ev
open Go
noncomputable section
variable {P : Program}
inductive Xv where
 | ext (a:AV)
 | lst (n k:Nat) (c:List AV)
end
end Go.Proofs.Ytnphldmnakbknaa.Ev
