/- lampblack/lampblacklaw08.Works as a whole. Made by gall.py. -/
import Derived.Test.YtbhjbcldhejpaaaDw1
namespace Go.Proofs.Ytbhjbcldhejpaaa
set_option linter.unusedVariables false
open Ev
noncomputable section

theorem DwE (w : World) : Goes Try.prog 99 DwC9 DwT9 w (Out Try.prog Try.f13 99 (.bool .true) w) := goes_endO Try.checked.mixed (keys_known) (k := 1000) (by kernel_rfl) (by kernel_rfl)
theorem DwG8 (w : World) : Goes Try.prog 99 DwC8 DwT8 w (Out Try.prog Try.f13 99 (.bool .true) w) := goes_spine (by kernel_rfl) (DwP8 w) (DwE w)
theorem DwG7 (w : World) : Goes Try.prog 99 DwC7 DwT7 w (Out Try.prog Try.f13 99 (.bool .true) w) := goes_spine (by kernel_rfl) (DwP7 w) (DwG8 w)
theorem DwG6 (w : World) : Goes Try.prog 99 DwC6 DwT6 w (Out Try.prog Try.f13 99 (.bool .true) w) := goes_spine (by kernel_rfl) (DwP6 w) (DwG7 w)
theorem DwG5 (w : World) : Goes Try.prog 99 DwC5 DwT5 w (Out Try.prog Try.f13 99 (.bool .true) w) := goes_spine (by kernel_rfl) (DwP5 w) (DwG6 w)
theorem DwG4 (w : World) : Goes Try.prog 99 DwC4 DwT4 w (Out Try.prog Try.f13 99 (.bool .true) w) := goes_spine (by kernel_rfl) (DwP4 w) (DwG5 w)
theorem DwG3 (w : World) : Goes Try.prog 99 DwC3 DwT3 w (Out Try.prog Try.f13 99 (.bool .true) w) := goes_spine (by kernel_rfl) (DwP3 w) (DwG4 w)
theorem DwG2 (w : World) : Goes Try.prog 99 DwC2 DwT2 w (Out Try.prog Try.f13 99 (.bool .true) w) := goes_spine (by kernel_rfl) (DwP2 w) (DwG3 w)
theorem DwG1 (w : World) : Goes Try.prog 99 DwC1 DwT1 w (Out Try.prog Try.f13 99 (.bool .true) w) := goes_spine (by kernel_rfl) (DwP1 w) (DwG2 w)
theorem DwG0 (w : World) : Goes Try.prog 99 DwC0 DwT0 w (Out Try.prog Try.f13 99 (.bool .true) w) := goes_spine (by kernel_rfl) (DwP0 w) (DwG1 w)
theorem FadeWorks_any (w : World) : Calls Try.prog 13 #[] w fun e w2 => e = .returned (.bool .true) ∧ (∀ B, B < w.heap.size → w2.heap[B]? = w.heap[B]?) ∧ w.heap.size ≤ w2.heap.size ∧ w2.os = w.os ∧ w2.tape = w.tape ∧ w2.output = w.output :=
  calls_of_goes (fn := Try.f13) (v := (.bool .true)) Try.func13 (body_some (by kernel_rfl)) w (DwG0 w)
theorem FadeWorks_known : Known Try.prog (closedOrc 13 (.bool .true)) := known_closed (fn := Try.f13) (v := (.bool .true)) Try.func13 (body_some (by kernel_rfl)) (by kernel_rfl) DwG0
end
end Go.Proofs.Ytbhjbcldhejpaaa
