/- lampblack/lampblacklaw05.AtlasKnown as a whole. Made by gall.py. -/
import Derived.Test.YtmankoikpadkpaaAk0
namespace Go.Proofs.Ytmankoikpadkpaa
set_option linter.unusedVariables false
open Ev
noncomputable section

theorem AkE (w : World) : Goes Try.prog 118 AkC11 AkT11 w (Out Try.prog Try.f13 118 (.bool true) w) := goes_endO Try.checked.mixed (AtlasWorks_known) (k := 1000) (by kernel_rfl) (by kernel_rfl)
theorem AkG10 (w : World) : Goes Try.prog 118 AkC10 AkT10 w (Out Try.prog Try.f13 118 (.bool true) w) := goes_spine (by kernel_rfl) (AkP10 w) (AkE w)
theorem AkG9 (w : World) : Goes Try.prog 118 AkC9 AkT9 w (Out Try.prog Try.f13 118 (.bool true) w) := goes_spine (by kernel_rfl) (AkP9 w) (AkG10 w)
theorem AkG8 (w : World) : Goes Try.prog 118 AkC8 AkT8 w (Out Try.prog Try.f13 118 (.bool true) w) := goes_spine (by kernel_rfl) (AkP8 w) (AkG9 w)
theorem AkG7 (w : World) : Goes Try.prog 118 AkC7 AkT7 w (Out Try.prog Try.f13 118 (.bool true) w) := goes_spine (by kernel_rfl) (AkP7 w) (AkG8 w)
theorem AkG6 (w : World) : Goes Try.prog 118 AkC6 AkT6 w (Out Try.prog Try.f13 118 (.bool true) w) := goes_spine (by kernel_rfl) (AkP6 w) (AkG7 w)
theorem AkG5 (w : World) : Goes Try.prog 118 AkC5 AkT5 w (Out Try.prog Try.f13 118 (.bool true) w) := goes_spine (by kernel_rfl) (AkP5 w) (AkG6 w)
theorem AkG4 (w : World) : Goes Try.prog 118 AkC4 AkT4 w (Out Try.prog Try.f13 118 (.bool true) w) := goes_spine (by kernel_rfl) (AkP4 w) (AkG5 w)
theorem AkG3 (w : World) : Goes Try.prog 118 AkC3 AkT3 w (Out Try.prog Try.f13 118 (.bool true) w) := goes_spine (by kernel_rfl) (AkP3 w) (AkG4 w)
theorem AkG2 (w : World) : Goes Try.prog 118 AkC2 AkT2 w (Out Try.prog Try.f13 118 (.bool true) w) := goes_spine (by kernel_rfl) (AkP2 w) (AkG3 w)
theorem AkG1 (w : World) : Goes Try.prog 118 AkC1 AkT1 w (Out Try.prog Try.f13 118 (.bool true) w) := goes_spine (by kernel_rfl) (AkP1 w) (AkG2 w)
theorem AkG0 (w : World) : Goes Try.prog 118 AkC0 AkT0 w (Out Try.prog Try.f13 118 (.bool true) w) := goes_spine (by kernel_rfl) (AkP0 w) (AkG1 w)
theorem AtlasKnown_any (w : World) : Calls Try.prog 13 #[] w fun e w2 => e = .returned (.bool true) ∧ (∀ B, B < w.heap.size → w2.heap[B]? = w.heap[B]?) ∧ w.heap.size ≤ w2.heap.size ∧ w2.os = w.os ∧ w2.tape = w.tape ∧ w2.output = w.output :=
  calls_of_goes (fn := Try.f13) (v := (.bool true)) Try.func13 (body_some (by kernel_rfl)) w (AkG0 w)
theorem AtlasKnown_known : Known Try.prog (closedOrc 13 (.bool true)) := known_closed (fn := Try.f13) (v := (.bool true)) Try.func13 (body_some (by kernel_rfl)) (by kernel_rfl) AkG0
end
end Go.Proofs.Ytmankoikpadkpaa
