import Derived.Test.YtldekgkjofgacaaL0
import Derived.Test.YtldekgkjofgacaaGk
set_option linter.all false
/- Lists as they lie, for texts that auto.py makes: cells on -/
namespace Go.Proofs.Ytldekgkjofgacaa
open Go Ev
noncomputable section
theorem cI_ld {L:List Int} {j:Nat} (h:j < L.length) (t:TypeId) {d:TypeDesc} (hd:Try.prog.underlying t=some d) (ha:aggD d=false):loadL Try.prog (cI L) j t=some (.v (.int .i64 (intAt (cI L) j))):=cI_load h t hd ha
end
end Go.Proofs.Ytldekgkjofgacaa
