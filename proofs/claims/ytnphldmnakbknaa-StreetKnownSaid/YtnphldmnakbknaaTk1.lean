/- lampblack/lampblacklaw07.StreetKnown as a whole. Made by gall.py. -/
import Derived.Test.YtnphldmnakbknaaTk0
namespace Go.Proofs.Ytnphldmnakbknaa
set_option linter.unusedVariables false
open Ev
noncomputable section

theorem TkE (w : World) : Goes Try.prog 73 TkC8 TkT8 w (Out Try.prog Try.f12 73 (.bool .true) w) := goes_endO Try.checked.mixed (StreetWorks_known) (k := 1000) (by kernel_rfl) (by kernel_rfl)
theorem TkG7 (w : World) : Goes Try.prog 73 TkC7 TkT7 w (Out Try.prog Try.f12 73 (.bool .true) w) := goes_spine (by kernel_rfl) (TkP7 w) (TkE w)
theorem TkG6 (w : World) : Goes Try.prog 73 TkC6 TkT6 w (Out Try.prog Try.f12 73 (.bool .true) w) := goes_spine (by kernel_rfl) (TkP6 w) (TkG7 w)
theorem TkG5 (w : World) : Goes Try.prog 73 TkC5 TkT5 w (Out Try.prog Try.f12 73 (.bool .true) w) := goes_spine (by kernel_rfl) (TkP5 w) (TkG6 w)
theorem TkG4 (w : World) : Goes Try.prog 73 TkC4 TkT4 w (Out Try.prog Try.f12 73 (.bool .true) w) := goes_spine (by kernel_rfl) (TkP4 w) (TkG5 w)
theorem TkG3 (w : World) : Goes Try.prog 73 TkC3 TkT3 w (Out Try.prog Try.f12 73 (.bool .true) w) := goes_spine (by kernel_rfl) (TkP3 w) (TkG4 w)
theorem TkG2 (w : World) : Goes Try.prog 73 TkC2 TkT2 w (Out Try.prog Try.f12 73 (.bool .true) w) := goes_spine (by kernel_rfl) (TkP2 w) (TkG3 w)
theorem TkG1 (w : World) : Goes Try.prog 73 TkC1 TkT1 w (Out Try.prog Try.f12 73 (.bool .true) w) := goes_spine (by kernel_rfl) (TkP1 w) (TkG2 w)
theorem TkG0 (w : World) : Goes Try.prog 73 TkC0 TkT0 w (Out Try.prog Try.f12 73 (.bool .true) w) := goes_spine (by kernel_rfl) (TkP0 w) (TkG1 w)
theorem StreetKnown_any (w : World) : Calls Try.prog 12 #[] w fun e w2 => e = .returned (.bool .true) ∧ (∀ B, B < w.heap.size → w2.heap[B]? = w.heap[B]?) ∧ w.heap.size ≤ w2.heap.size ∧ w2.os = w.os ∧ w2.tape = w.tape ∧ w2.output = w.output :=
  calls_of_goes (fn := Try.f12) (v := (.bool .true)) Try.func12 (body_some (by kernel_rfl)) w (TkG0 w)
theorem StreetKnown_known : Known Try.prog (closedOrc 12 (.bool .true)) := known_closed (fn := Try.f12) (v := (.bool .true)) Try.func12 (body_some (by kernel_rfl)) (by kernel_rfl) TkG0
end
end Go.Proofs.Ytnphldmnakbknaa
