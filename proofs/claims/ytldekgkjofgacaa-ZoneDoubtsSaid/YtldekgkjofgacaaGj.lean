import Derived.Test.YtldekgkjofgacaaGi
/- Blocks named anew where a loop over a function is on its way; lists that grow. -/
namespace Go.Proofs.Ytldekgkjofgacaa.Ev
set_option linter.unusedVariables false
set_option linter.unusedSimpArgs false
open Go
noncomputable section
variable {P : Program} {w0 : BaseW} {sz : Nat}
theorem nrl_eq {rs : List Nat} {l l' : List AV} {xs : List Value} (e : l' = l) (h : plainL l' = some xs) : NRL rs l l' := e ▸ nrl_plain h
end
end Go.Proofs.Ytldekgkjofgacaa.Ev
