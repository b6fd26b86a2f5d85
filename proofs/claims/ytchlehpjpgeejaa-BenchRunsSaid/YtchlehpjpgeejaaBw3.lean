import Derived.Test.YtchlehpjpgeejaaBw2
/- lampblack/lampblacklaw02.Works as a whole. Made by gall.py. -/
namespace Go.Proofs.Ytchlehpjpgeejaa
set_option linter.unusedVariables false
open Ev
noncomputable section
theorem bwE (w : World) : Goes Try.prog 157 bwC14 bwT14 w (Out Try.prog Try.f15 157 (.bool true) w) := goes_end Try.checked.mixed (k := 1000) (by kernel_rfl) (by kernel_rfl)
theorem bwG13 (w : World) : Goes Try.prog 157 bwC13 bwT13 w (Out Try.prog Try.f15 157 (.bool true) w) := goes_spine (by kernel_rfl) (bwP13 w) (bwE w)
theorem bwG12 (w : World) : Goes Try.prog 157 bwC12 bwT12 w (Out Try.prog Try.f15 157 (.bool true) w) := goes_spine (by kernel_rfl) (bwP12 w) (bwG13 w)
theorem bwG11 (w : World) : Goes Try.prog 157 bwC11 bwT11 w (Out Try.prog Try.f15 157 (.bool true) w) := goes_spine (by kernel_rfl) (bwP11 w) (bwG12 w)
theorem bwG10 (w : World) : Goes Try.prog 157 bwC10 bwT10 w (Out Try.prog Try.f15 157 (.bool true) w) := goes_spine (by kernel_rfl) (bwP10 w) (bwG11 w)
theorem bwG9 (w : World) : Goes Try.prog 157 bwC9 bwT9 w (Out Try.prog Try.f15 157 (.bool true) w) := goes_spine (by kernel_rfl) (bwP9 w) (bwG10 w)
theorem bwG8 (w : World) : Goes Try.prog 157 bwC8 bwT8 w (Out Try.prog Try.f15 157 (.bool true) w) := goes_spine (by kernel_rfl) (bwP8 w) (bwG9 w)
theorem bwG7 (w : World) : Goes Try.prog 157 bwC7 bwT7 w (Out Try.prog Try.f15 157 (.bool true) w) := goes_spine (by kernel_rfl) (bwP7 w) (bwG8 w)
theorem bwG6 (w : World) : Goes Try.prog 157 bwC6 bwT6 w (Out Try.prog Try.f15 157 (.bool true) w) := goes_spine (by kernel_rfl) (bwP6 w) (bwG7 w)
theorem bwG5 (w : World) : Goes Try.prog 157 bwC5 bwT5 w (Out Try.prog Try.f15 157 (.bool true) w) := goes_spine (by kernel_rfl) (bwP5 w) (bwG6 w)
theorem bwG4 (w : World) : Goes Try.prog 157 bwC4 bwT4 w (Out Try.prog Try.f15 157 (.bool true) w) := goes_spine (by kernel_rfl) (bwP4 w) (bwG5 w)
theorem bwG3 (w : World) : Goes Try.prog 157 bwC3 bwT3 w (Out Try.prog Try.f15 157 (.bool true) w) := goes_spine (by kernel_rfl) (bwP3 w) (bwG4 w)
theorem bwG2 (w : World) : Goes Try.prog 157 bwC2 bwT2 w (Out Try.prog Try.f15 157 (.bool true) w) := goes_spine (by kernel_rfl) (bwP2 w) (bwG3 w)
theorem bwG1 (w : World) : Goes Try.prog 157 bwC1 bwT1 w (Out Try.prog Try.f15 157 (.bool true) w) := goes_spine (by kernel_rfl) (bwP1 w) (bwG2 w)
theorem bwG0 (w : World) : Goes Try.prog 157 bwC0 bwT0 w (Out Try.prog Try.f15 157 (.bool true) w) := goes_spine (by kernel_rfl) (bwP0 w) (bwG1 w)
theorem BenchWorks_known : Known Try.prog (closedOrc 15 (.bool true)) := known_closed (fn := Try.f15) (v := (.bool true)) Try.func15 (body_some (by kernel_rfl)) (by kernel_rfl) bwG0
end
end Go.Proofs.Ytchlehpjpgeejaa
