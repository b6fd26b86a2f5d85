import Derived.Test.YtegmogadbnfbgaaGr
set_option linter.all false
/- What is known of functions of structs some of whose parts -/
namespace Go.Proofs.Ytegmogadbnfbgaa.Ev
open Go
noncomputable section
variable {P : Program}
inductive Xw where
 | ext (a:AV)
 | lst (n k:Nat) (c:List AV)
 | str (l:List Xv)
inductive Kw where
 | ext
 | lst (k:Nat)
 | str (ks:List Nat)
end
end Go.Proofs.Ytegmogadbnfbgaa.Ev
