/- lampblack/lampblacklaw06.SignalKnown as a whole. Made by gall.py. -/
import Derived.Test.YtkiflnaiconcjaaSk1
namespace Go.Proofs.Ytkiflnaiconcjaa
set_option linter.unusedVariables false
open Ev
noncomputable section

theorem SkE (w : World) : Goes Try.prog 100 SkC7 SkT7 w (Out Try.prog Try.f13 100 (.bool .true) w) := goes_endO Try.checked.mixed (SignalWorks_known) (k := 1000) (by kernel_rfl) (by kernel_rfl)
theorem SkG6 (w : World) : Goes Try.prog 100 SkC6 SkT6 w (Out Try.prog Try.f13 100 (.bool .true) w) := goes_spine (by kernel_rfl) (SkP6 w) (SkE w)
theorem SkG5 (w : World) : Goes Try.prog 100 SkC5 SkT5 w (Out Try.prog Try.f13 100 (.bool .true) w) := goes_spine (by kernel_rfl) (SkP5 w) (SkG6 w)
theorem SkG4 (w : World) : Goes Try.prog 100 SkC4 SkT4 w (Out Try.prog Try.f13 100 (.bool .true) w) := goes_spine (by kernel_rfl) (SkP4 w) (SkG5 w)
theorem SkG3 (w : World) : Goes Try.prog 100 SkC3 SkT3 w (Out Try.prog Try.f13 100 (.bool .true) w) := goes_spine (by kernel_rfl) (SkP3 w) (SkG4 w)
theorem SkG2 (w : World) : Goes Try.prog 100 SkC2 SkT2 w (Out Try.prog Try.f13 100 (.bool .true) w) := goes_spine (by kernel_rfl) (SkP2 w) (SkG3 w)
theorem SkG1 (w : World) : Goes Try.prog 100 SkC1 SkT1 w (Out Try.prog Try.f13 100 (.bool .true) w) := goes_spine (by kernel_rfl) (SkP1 w) (SkG2 w)
theorem SkG0 (w : World) : Goes Try.prog 100 SkC0 SkT0 w (Out Try.prog Try.f13 100 (.bool .true) w) := goes_spine (by kernel_rfl) (SkP0 w) (SkG1 w)
theorem SignalKnown_any (w : World) : Calls Try.prog 13 #[] w fun e w2 => e = .returned (.bool .true) ∧ (∀ B, B < w.heap.size → w2.heap[B]? = w.heap[B]?) ∧ w.heap.size ≤ w2.heap.size ∧ w2.os = w.os ∧ w2.tape = w.tape ∧ w2.output = w.output :=
  calls_of_goes (fn := Try.f13) (v := (.bool .true)) Try.func13 (body_some (by kernel_rfl)) w (SkG0 w)
theorem SignalKnown_known : Known Try.prog (closedOrc 13 (.bool .true)) := known_closed (fn := Try.f13) (v := (.bool .true)) Try.func13 (body_some (by kernel_rfl)) (by kernel_rfl) SkG0
end
end Go.Proofs.Ytkiflnaiconcjaa
