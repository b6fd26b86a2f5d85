/- lampblack/lampblacklaw11.Works as a whole. Made by gall.py. -/
import Derived.Test.YthbcjelnngjenaaPw2
namespace Go.Proofs.Ythbcjelnngjenaa
set_option linter.unusedVariables false
open Ev
noncomputable section

theorem PwE (w : World) : Goes Try.prog 168 PwC15 PwT15 w (Out Try.prog Try.f14 168 (.bool .true) w) := goes_end Try.checked.mixed (k := 1000) (by kernel_rfl) (by kernel_rfl)
theorem PwG14 (w : World) : Goes Try.prog 168 PwC14 PwT14 w (Out Try.prog Try.f14 168 (.bool .true) w) := goes_spine (by kernel_rfl) (PwP14 w) (PwE w)
theorem PwG13 (w : World) : Goes Try.prog 168 PwC13 PwT13 w (Out Try.prog Try.f14 168 (.bool .true) w) := goes_spine (by kernel_rfl) (PwP13 w) (PwG14 w)
theorem PwG12 (w : World) : Goes Try.prog 168 PwC12 PwT12 w (Out Try.prog Try.f14 168 (.bool .true) w) := goes_spine (by kernel_rfl) (PwP12 w) (PwG13 w)
theorem PwG11 (w : World) : Goes Try.prog 168 PwC11 PwT11 w (Out Try.prog Try.f14 168 (.bool .true) w) := goes_spine (by kernel_rfl) (PwP11 w) (PwG12 w)
theorem PwG10 (w : World) : Goes Try.prog 168 PwC10 PwT10 w (Out Try.prog Try.f14 168 (.bool .true) w) := goes_spine (by kernel_rfl) (PwP10 w) (PwG11 w)
theorem PwG9 (w : World) : Goes Try.prog 168 PwC9 PwT9 w (Out Try.prog Try.f14 168 (.bool .true) w) := goes_spine (by kernel_rfl) (PwP9 w) (PwG10 w)
theorem PwG8 (w : World) : Goes Try.prog 168 PwC8 PwT8 w (Out Try.prog Try.f14 168 (.bool .true) w) := goes_spine (by kernel_rfl) (PwP8 w) (PwG9 w)
theorem PwG7 (w : World) : Goes Try.prog 168 PwC7 PwT7 w (Out Try.prog Try.f14 168 (.bool .true) w) := goes_spine (by kernel_rfl) (PwP7 w) (PwG8 w)
theorem PwG6 (w : World) : Goes Try.prog 168 PwC6 PwT6 w (Out Try.prog Try.f14 168 (.bool .true) w) := goes_spine (by kernel_rfl) (PwP6 w) (PwG7 w)
theorem PwG5 (w : World) : Goes Try.prog 168 PwC5 PwT5 w (Out Try.prog Try.f14 168 (.bool .true) w) := goes_spine (by kernel_rfl) (PwP5 w) (PwG6 w)
theorem PwG4 (w : World) : Goes Try.prog 168 PwC4 PwT4 w (Out Try.prog Try.f14 168 (.bool .true) w) := goes_spine (by kernel_rfl) (PwP4 w) (PwG5 w)
theorem PwG3 (w : World) : Goes Try.prog 168 PwC3 PwT3 w (Out Try.prog Try.f14 168 (.bool .true) w) := goes_spine (by kernel_rfl) (PwP3 w) (PwG4 w)
theorem PwG2 (w : World) : Goes Try.prog 168 PwC2 PwT2 w (Out Try.prog Try.f14 168 (.bool .true) w) := goes_spine (by kernel_rfl) (PwP2 w) (PwG3 w)
theorem PwG1 (w : World) : Goes Try.prog 168 PwC1 PwT1 w (Out Try.prog Try.f14 168 (.bool .true) w) := goes_spine (by kernel_rfl) (PwP1 w) (PwG2 w)
theorem PwG0 (w : World) : Goes Try.prog 168 PwC0 PwT0 w (Out Try.prog Try.f14 168 (.bool .true) w) := goes_spine (by kernel_rfl) (PwP0 w) (PwG1 w)
theorem PanelWorks_any (w : World) : Calls Try.prog 14 #[] w fun e w2 => e = .returned (.bool .true) ∧ (∀ B, B < w.heap.size → w2.heap[B]? = w.heap[B]?) ∧ w.heap.size ≤ w2.heap.size ∧ w2.os = w.os ∧ w2.tape = w.tape ∧ w2.output = w.output :=
  calls_of_goes (fn := Try.f14) (v := (.bool .true)) Try.func14 (body_some (by kernel_rfl)) w (PwG0 w)
theorem PanelWorks_known : Known Try.prog (closedOrc 14 (.bool .true)) := known_closed (fn := Try.f14) (v := (.bool .true)) Try.func14 (body_some (by kernel_rfl)) (by kernel_rfl) PwG0
end
end Go.Proofs.Ythbcjelnngjenaa
