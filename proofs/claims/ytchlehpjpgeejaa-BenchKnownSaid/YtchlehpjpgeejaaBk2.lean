/- lampblack/lampblacklaw02.BenchKnown as a whole. Made by gall.py. -/
import Derived.Test.YtchlehpjpgeejaaBk1
namespace Go.Proofs.Ytchlehpjpgeejaa
set_option linter.unusedVariables false
open Ev
noncomputable section

theorem bkE (w : World) : Goes Try.prog 102 bkC8 bkT8 w (Out Try.prog Try.f14 102 (.bool true) w) := goes_endO Try.checked.mixed (BenchWorks_known) (k := 1000) (by kernel_rfl) (by kernel_rfl)
theorem bkG7 (w : World) : Goes Try.prog 102 bkC7 bkT7 w (Out Try.prog Try.f14 102 (.bool true) w) := goes_spine (by kernel_rfl) (bkP7 w) (bkE w)
theorem bkG6 (w : World) : Goes Try.prog 102 bkC6 bkT6 w (Out Try.prog Try.f14 102 (.bool true) w) := goes_spine (by kernel_rfl) (bkP6 w) (bkG7 w)
theorem bkG5 (w : World) : Goes Try.prog 102 bkC5 bkT5 w (Out Try.prog Try.f14 102 (.bool true) w) := goes_spine (by kernel_rfl) (bkP5 w) (bkG6 w)
theorem bkG4 (w : World) : Goes Try.prog 102 bkC4 bkT4 w (Out Try.prog Try.f14 102 (.bool true) w) := goes_spine (by kernel_rfl) (bkP4 w) (bkG5 w)
theorem bkG3 (w : World) : Goes Try.prog 102 bkC3 bkT3 w (Out Try.prog Try.f14 102 (.bool true) w) := goes_spine (by kernel_rfl) (bkP3 w) (bkG4 w)
theorem bkG2 (w : World) : Goes Try.prog 102 bkC2 bkT2 w (Out Try.prog Try.f14 102 (.bool true) w) := goes_spine (by kernel_rfl) (bkP2 w) (bkG3 w)
theorem bkG1 (w : World) : Goes Try.prog 102 bkC1 bkT1 w (Out Try.prog Try.f14 102 (.bool true) w) := goes_spine (by kernel_rfl) (bkP1 w) (bkG2 w)
theorem bkG0 (w : World) : Goes Try.prog 102 bkC0 bkT0 w (Out Try.prog Try.f14 102 (.bool true) w) := goes_spine (by kernel_rfl) (bkP0 w) (bkG1 w)
theorem BenchKnown_any (w : World) : Calls Try.prog 14 #[] w fun e w2 => e = .returned (.bool true) ∧ (∀ B, B < w.heap.size → w2.heap[B]? = w.heap[B]?) ∧ w.heap.size ≤ w2.heap.size ∧ w2.os = w.os ∧ w2.tape = w.tape ∧ w2.output = w.output :=
  calls_of_goes (fn := Try.f14) (v := (.bool true)) Try.func14 (body_some (by kernel_rfl)) w (bkG0 w)
theorem BenchKnown_known : Known Try.prog (closedOrc 14 (.bool true)) := known_closed (fn := Try.f14) (v := (.bool true)) Try.func14 (body_some (by kernel_rfl)) (by kernel_rfl) bkG0
end
end Go.Proofs.Ytchlehpjpgeejaa
