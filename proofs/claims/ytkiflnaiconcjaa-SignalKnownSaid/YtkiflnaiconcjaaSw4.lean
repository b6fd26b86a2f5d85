/- lampblack/lampblacklaw06.Works as a whole. Made by gall.py. -/
import Derived.Test.YtkiflnaiconcjaaSw3
namespace Go.Proofs.Ytkiflnaiconcjaa
set_option linter.unusedVariables false
open Ev
noncomputable section

theorem SwE (w : World) : Goes Try.prog 170 SwC14 SwT14 w (Out Try.prog Try.f15 170 (.bool .true) w) := goes_end Try.checked.mixed (k := 1000) (by kernel_rfl) (by kernel_rfl)
theorem SwG13 (w : World) : Goes Try.prog 170 SwC13 SwT13 w (Out Try.prog Try.f15 170 (.bool .true) w) := goes_spine (by kernel_rfl) (SwP13 w) (SwE w)
theorem SwG12 (w : World) : Goes Try.prog 170 SwC12 SwT12 w (Out Try.prog Try.f15 170 (.bool .true) w) := goes_spine (by kernel_rfl) (SwP12 w) (SwG13 w)
theorem SwG11 (w : World) : Goes Try.prog 170 SwC11 SwT11 w (Out Try.prog Try.f15 170 (.bool .true) w) := goes_spine (by kernel_rfl) (SwP11 w) (SwG12 w)
theorem SwG10 (w : World) : Goes Try.prog 170 SwC10 SwT10 w (Out Try.prog Try.f15 170 (.bool .true) w) := goes_spine (by kernel_rfl) (SwP10 w) (SwG11 w)
theorem SwG9 (w : World) : Goes Try.prog 170 SwC9 SwT9 w (Out Try.prog Try.f15 170 (.bool .true) w) := goes_spine (by kernel_rfl) (SwP9 w) (SwG10 w)
theorem SwG8 (w : World) : Goes Try.prog 170 SwC8 SwT8 w (Out Try.prog Try.f15 170 (.bool .true) w) := goes_spine (by kernel_rfl) (SwP8 w) (SwG9 w)
theorem SwG7 (w : World) : Goes Try.prog 170 SwC7 SwT7 w (Out Try.prog Try.f15 170 (.bool .true) w) := goes_spine (by kernel_rfl) (SwP7 w) (SwG8 w)
theorem SwG6 (w : World) : Goes Try.prog 170 SwC6 SwT6 w (Out Try.prog Try.f15 170 (.bool .true) w) := goes_spine (by kernel_rfl) (SwP6 w) (SwG7 w)
theorem SwG5 (w : World) : Goes Try.prog 170 SwC5 SwT5 w (Out Try.prog Try.f15 170 (.bool .true) w) := goes_spine (by kernel_rfl) (SwP5 w) (SwG6 w)
theorem SwG4 (w : World) : Goes Try.prog 170 SwC4 SwT4 w (Out Try.prog Try.f15 170 (.bool .true) w) := goes_spine (by kernel_rfl) (SwP4 w) (SwG5 w)
theorem SwG3 (w : World) : Goes Try.prog 170 SwC3 SwT3 w (Out Try.prog Try.f15 170 (.bool .true) w) := goes_spine (by kernel_rfl) (SwP3 w) (SwG4 w)
theorem SwG2 (w : World) : Goes Try.prog 170 SwC2 SwT2 w (Out Try.prog Try.f15 170 (.bool .true) w) := goes_spine (by kernel_rfl) (SwP2 w) (SwG3 w)
theorem SwG1 (w : World) : Goes Try.prog 170 SwC1 SwT1 w (Out Try.prog Try.f15 170 (.bool .true) w) := goes_spine (by kernel_rfl) (SwP1 w) (SwG2 w)
theorem SwG0 (w : World) : Goes Try.prog 170 SwC0 SwT0 w (Out Try.prog Try.f15 170 (.bool .true) w) := goes_spine (by kernel_rfl) (SwP0 w) (SwG1 w)
theorem SignalWorks_any (w : World) : Calls Try.prog 15 #[] w fun e w2 => e = .returned (.bool .true) ∧ (∀ B, B < w.heap.size → w2.heap[B]? = w.heap[B]?) ∧ w.heap.size ≤ w2.heap.size ∧ w2.os = w.os ∧ w2.tape = w.tape ∧ w2.output = w.output :=
  calls_of_goes (fn := Try.f15) (v := (.bool .true)) Try.func15 (body_some (by kernel_rfl)) w (SwG0 w)
theorem SignalWorks_known : Known Try.prog (closedOrc 15 (.bool .true)) := known_closed (fn := Try.f15) (v := (.bool .true)) Try.func15 (body_some (by kernel_rfl)) (by kernel_rfl) SwG0
end
end Go.Proofs.Ytkiflnaiconcjaa
