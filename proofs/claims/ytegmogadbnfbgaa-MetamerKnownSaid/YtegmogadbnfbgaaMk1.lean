/- lampblack/lampblacklaw04.MetamerKnown as a whole. Made by gall.py. -/
import Derived.Test.YtegmogadbnfbgaaMk0
namespace Go.Proofs.Ytegmogadbnfbgaa
set_option linter.unusedVariables false
open Ev
noncomputable section

theorem mkE (w : World) : Goes Try.prog 84 mkC8 mkT8 w (Out Try.prog Try.f12 84 (.bool true) w) := goes_endO Try.checked.mixed (MetamerWorks_known) (k := 1000) (by kernel_rfl) (by kernel_rfl)
theorem mkG7 (w : World) : Goes Try.prog 84 mkC7 mkT7 w (Out Try.prog Try.f12 84 (.bool true) w) := goes_spine (by kernel_rfl) (mkP7 w) (mkE w)
theorem mkG6 (w : World) : Goes Try.prog 84 mkC6 mkT6 w (Out Try.prog Try.f12 84 (.bool true) w) := goes_spine (by kernel_rfl) (mkP6 w) (mkG7 w)
theorem mkG5 (w : World) : Goes Try.prog 84 mkC5 mkT5 w (Out Try.prog Try.f12 84 (.bool true) w) := goes_spine (by kernel_rfl) (mkP5 w) (mkG6 w)
theorem mkG4 (w : World) : Goes Try.prog 84 mkC4 mkT4 w (Out Try.prog Try.f12 84 (.bool true) w) := goes_spine (by kernel_rfl) (mkP4 w) (mkG5 w)
theorem mkG3 (w : World) : Goes Try.prog 84 mkC3 mkT3 w (Out Try.prog Try.f12 84 (.bool true) w) := goes_spine (by kernel_rfl) (mkP3 w) (mkG4 w)
theorem mkG2 (w : World) : Goes Try.prog 84 mkC2 mkT2 w (Out Try.prog Try.f12 84 (.bool true) w) := goes_spine (by kernel_rfl) (mkP2 w) (mkG3 w)
theorem mkG1 (w : World) : Goes Try.prog 84 mkC1 mkT1 w (Out Try.prog Try.f12 84 (.bool true) w) := goes_spine (by kernel_rfl) (mkP1 w) (mkG2 w)
theorem mkG0 (w : World) : Goes Try.prog 84 mkC0 mkT0 w (Out Try.prog Try.f12 84 (.bool true) w) := goes_spine (by kernel_rfl) (mkP0 w) (mkG1 w)
theorem MetamerKnown_any (w : World) : Calls Try.prog 12 #[] w fun e w2 => e = .returned (.bool true) ∧ (∀ B, B < w.heap.size → w2.heap[B]? = w.heap[B]?) ∧ w.heap.size ≤ w2.heap.size ∧ w2.os = w.os ∧ w2.tape = w.tape ∧ w2.output = w.output :=
  calls_of_goes (fn := Try.f12) (v := (.bool true)) Try.func12 (body_some (by kernel_rfl)) w (mkG0 w)
theorem MetamerKnown_known : Known Try.prog (closedOrc 12 (.bool true)) := known_closed (fn := Try.f12) (v := (.bool true)) Try.func12 (body_some (by kernel_rfl)) (by kernel_rfl) mkG0
end
end Go.Proofs.Ytegmogadbnfbgaa
