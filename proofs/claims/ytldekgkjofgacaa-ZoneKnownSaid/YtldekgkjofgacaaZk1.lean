/- lampblack/lampblacklaw03.ZoneKnown as a whole. Made by gall.py. -/
import Derived.Test.YtldekgkjofgacaaZk0
import Derived.Test.YtldekgkjofgacaaZwe
namespace Go.Proofs.Ytldekgkjofgacaa
set_option linter.unusedVariables false
open Ev
noncomputable section

theorem ZkE (w : World) : Goes Try.prog 71 ZkC7 ZkT7 w (Out Try.prog Try.f14 71 (.bool .true) w) := goes_endO Try.checked.mixed (ZoneWorks_known) (k := 1000) (by kernel_rfl) (by kernel_rfl)
theorem ZkG6 (w : World) : Goes Try.prog 71 ZkC6 ZkT6 w (Out Try.prog Try.f14 71 (.bool .true) w) := goes_spine (by kernel_rfl) (ZkP6 w) (ZkE w)
theorem ZkG5 (w : World) : Goes Try.prog 71 ZkC5 ZkT5 w (Out Try.prog Try.f14 71 (.bool .true) w) := goes_spine (by kernel_rfl) (ZkP5 w) (ZkG6 w)
theorem ZkG4 (w : World) : Goes Try.prog 71 ZkC4 ZkT4 w (Out Try.prog Try.f14 71 (.bool .true) w) := goes_spine (by kernel_rfl) (ZkP4 w) (ZkG5 w)
theorem ZkG3 (w : World) : Goes Try.prog 71 ZkC3 ZkT3 w (Out Try.prog Try.f14 71 (.bool .true) w) := goes_spine (by kernel_rfl) (ZkP3 w) (ZkG4 w)
theorem ZkG2 (w : World) : Goes Try.prog 71 ZkC2 ZkT2 w (Out Try.prog Try.f14 71 (.bool .true) w) := goes_spine (by kernel_rfl) (ZkP2 w) (ZkG3 w)
theorem ZkG1 (w : World) : Goes Try.prog 71 ZkC1 ZkT1 w (Out Try.prog Try.f14 71 (.bool .true) w) := goes_spine (by kernel_rfl) (ZkP1 w) (ZkG2 w)
theorem ZkG0 (w : World) : Goes Try.prog 71 ZkC0 ZkT0 w (Out Try.prog Try.f14 71 (.bool .true) w) := goes_spine (by kernel_rfl) (ZkP0 w) (ZkG1 w)
theorem ZoneKnown_any (w : World) : Calls Try.prog 14 #[] w fun e w2 => e = .returned (.bool .true) ∧ (∀ B, B < w.heap.size → w2.heap[B]? = w.heap[B]?) ∧ w.heap.size ≤ w2.heap.size ∧ w2.os = w.os ∧ w2.tape = w.tape ∧ w2.output = w.output :=
  calls_of_goes (fn := Try.f14) (v := (.bool .true)) Try.func14 (body_some (by kernel_rfl)) w (ZkG0 w)
theorem ZoneKnown_known : Known Try.prog (closedOrc 14 (.bool .true)) := known_closed (fn := Try.f14) (v := (.bool .true)) Try.func14 (body_some (by kernel_rfl)) (by kernel_rfl) ZkG0
end
end Go.Proofs.Ytldekgkjofgacaa
