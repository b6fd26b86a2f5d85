/- lampblack/lampblacklaw08.FadeKnown as a whole. Made by gall.py. -/
import Derived.Test.YtbhjbcldhejpaaaDk0
namespace Go.Proofs.Ytbhjbcldhejpaaa
set_option linter.unusedVariables false
open Ev
noncomputable section

theorem DkE (w : World) : Goes Try.prog 49 DkC5 DkT5 w (Out Try.prog Try.f12 49 (.bool .true) w) := goes_endO Try.checked.mixed (Ev.known_orOrc FadeWorks_known keys_known) (k := 1000) (by kernel_rfl) (by kernel_rfl)
theorem DkG4 (w : World) : Goes Try.prog 49 DkC4 DkT4 w (Out Try.prog Try.f12 49 (.bool .true) w) := goes_spine (by kernel_rfl) (DkP4 w) (DkE w)
theorem DkG3 (w : World) : Goes Try.prog 49 DkC3 DkT3 w (Out Try.prog Try.f12 49 (.bool .true) w) := goes_spine (by kernel_rfl) (DkP3 w) (DkG4 w)
theorem DkG2 (w : World) : Goes Try.prog 49 DkC2 DkT2 w (Out Try.prog Try.f12 49 (.bool .true) w) := goes_spine (by kernel_rfl) (DkP2 w) (DkG3 w)
theorem DkG1 (w : World) : Goes Try.prog 49 DkC1 DkT1 w (Out Try.prog Try.f12 49 (.bool .true) w) := goes_spine (by kernel_rfl) (DkP1 w) (DkG2 w)
theorem DkG0 (w : World) : Goes Try.prog 49 DkC0 DkT0 w (Out Try.prog Try.f12 49 (.bool .true) w) := goes_spine (by kernel_rfl) (DkP0 w) (DkG1 w)
theorem FadeKnown_any (w : World) : Calls Try.prog 12 #[] w fun e w2 => e = .returned (.bool .true) ∧ (∀ B, B < w.heap.size → w2.heap[B]? = w.heap[B]?) ∧ w.heap.size ≤ w2.heap.size ∧ w2.os = w.os ∧ w2.tape = w.tape ∧ w2.output = w.output :=
  calls_of_goes (fn := Try.f12) (v := (.bool .true)) Try.func12 (body_some (by kernel_rfl)) w (DkG0 w)
theorem FadeKnown_known : Known Try.prog (closedOrc 12 (.bool .true)) := known_closed (fn := Try.f12) (v := (.bool .true)) Try.func12 (body_some (by kernel_rfl)) (by kernel_rfl) DkG0
end
end Go.Proofs.Ytbhjbcldhejpaaa
