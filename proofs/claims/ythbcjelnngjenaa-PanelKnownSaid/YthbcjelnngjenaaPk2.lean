/- lampblack/lampblacklaw11.PanelKnown as a whole. Made by gall.py. -/
import Derived.Test.YthbcjelnngjenaaPk1
namespace Go.Proofs.Ythbcjelnngjenaa
set_option linter.unusedVariables false
open Ev
noncomputable section

theorem PkE (w : World) : Goes Try.prog 67 PkC8 PkT8 w (Out Try.prog Try.f13 67 (.bool .true) w) := goes_endO Try.checked.mixed (PanelWorks_known) (k := 1000) (by kernel_rfl) (by kernel_rfl)
theorem PkG7 (w : World) : Goes Try.prog 67 PkC7 PkT7 w (Out Try.prog Try.f13 67 (.bool .true) w) := goes_spine (by kernel_rfl) (PkP7 w) (PkE w)
theorem PkG6 (w : World) : Goes Try.prog 67 PkC6 PkT6 w (Out Try.prog Try.f13 67 (.bool .true) w) := goes_spine (by kernel_rfl) (PkP6 w) (PkG7 w)
theorem PkG5 (w : World) : Goes Try.prog 67 PkC5 PkT5 w (Out Try.prog Try.f13 67 (.bool .true) w) := goes_spine (by kernel_rfl) (PkP5 w) (PkG6 w)
theorem PkG4 (w : World) : Goes Try.prog 67 PkC4 PkT4 w (Out Try.prog Try.f13 67 (.bool .true) w) := goes_spine (by kernel_rfl) (PkP4 w) (PkG5 w)
theorem PkG3 (w : World) : Goes Try.prog 67 PkC3 PkT3 w (Out Try.prog Try.f13 67 (.bool .true) w) := goes_spine (by kernel_rfl) (PkP3 w) (PkG4 w)
theorem PkG2 (w : World) : Goes Try.prog 67 PkC2 PkT2 w (Out Try.prog Try.f13 67 (.bool .true) w) := goes_spine (by kernel_rfl) (PkP2 w) (PkG3 w)
theorem PkG1 (w : World) : Goes Try.prog 67 PkC1 PkT1 w (Out Try.prog Try.f13 67 (.bool .true) w) := goes_spine (by kernel_rfl) (PkP1 w) (PkG2 w)
theorem PkG0 (w : World) : Goes Try.prog 67 PkC0 PkT0 w (Out Try.prog Try.f13 67 (.bool .true) w) := goes_spine (by kernel_rfl) (PkP0 w) (PkG1 w)
theorem PanelKnown_any (w : World) : Calls Try.prog 13 #[] w fun e w2 => e = .returned (.bool .true) ∧ (∀ B, B < w.heap.size → w2.heap[B]? = w.heap[B]?) ∧ w.heap.size ≤ w2.heap.size ∧ w2.os = w.os ∧ w2.tape = w.tape ∧ w2.output = w.output :=
  calls_of_goes (fn := Try.f13) (v := (.bool .true)) Try.func13 (body_some (by kernel_rfl)) w (PkG0 w)
theorem PanelKnown_known : Known Try.prog (closedOrc 13 (.bool .true)) := known_closed (fn := Try.f13) (v := (.bool .true)) Try.func13 (body_some (by kernel_rfl)) (by kernel_rfl) PkG0
end
end Go.Proofs.Ythbcjelnngjenaa
