import Derived.Test.YtegmogadbnfbgaaMw2
set_option linter.all false
/- lampblack/lampblacklaw04.Works as a whole. Made by gall.py. -/
namespace Go.Proofs.Ytegmogadbnfbgaa
open Ev
noncomputable section
theorem mwE (w:World):Goes Try.prog 163 mwC14 mwT14 w (Out Try.prog Try.f15 163 (.bool true) w):=goes_end Try.checked.mixed (k:=1000) (by kernel_rfl) (by kernel_rfl)
theorem mwG13 (w:World):Goes Try.prog 163 mwC13 mwT13 w (Out Try.prog Try.f15 163 (.bool true) w):=goes_spine (by kernel_rfl) (mwP13 w) (mwE w)
theorem mwG12 (w:World):Goes Try.prog 163 mwC12 mwT12 w (Out Try.prog Try.f15 163 (.bool true) w):=goes_spine (by kernel_rfl) (mwP12 w) (mwG13 w)
theorem mwG11 (w:World):Goes Try.prog 163 mwC11 mwT11 w (Out Try.prog Try.f15 163 (.bool true) w):=goes_spine (by kernel_rfl) (mwP11 w) (mwG12 w)
theorem mwG10 (w:World):Goes Try.prog 163 mwC10 mwT10 w (Out Try.prog Try.f15 163 (.bool true) w):=goes_spine (by kernel_rfl) (mwP10 w) (mwG11 w)
theorem mwG9 (w:World):Goes Try.prog 163 mwC9 mwT9 w (Out Try.prog Try.f15 163 (.bool true) w):=goes_spine (by kernel_rfl) (mwP9 w) (mwG10 w)
theorem mwG8 (w:World):Goes Try.prog 163 mwC8 mwT8 w (Out Try.prog Try.f15 163 (.bool true) w):=goes_spine (by kernel_rfl) (mwP8 w) (mwG9 w)
theorem mwG7 (w:World):Goes Try.prog 163 mwC7 mwT7 w (Out Try.prog Try.f15 163 (.bool true) w):=goes_spine (by kernel_rfl) (mwP7 w) (mwG8 w)
theorem mwG6 (w:World):Goes Try.prog 163 mwC6 mwT6 w (Out Try.prog Try.f15 163 (.bool true) w):=goes_spine (by kernel_rfl) (mwP6 w) (mwG7 w)
theorem mwG5 (w:World):Goes Try.prog 163 mwC5 mwT5 w (Out Try.prog Try.f15 163 (.bool true) w):=goes_spine (by kernel_rfl) (mwP5 w) (mwG6 w)
theorem mwG4 (w:World):Goes Try.prog 163 mwC4 mwT4 w (Out Try.prog Try.f15 163 (.bool true) w):=goes_spine (by kernel_rfl) (mwP4 w) (mwG5 w)
theorem mwG3 (w:World):Goes Try.prog 163 mwC3 mwT3 w (Out Try.prog Try.f15 163 (.bool true) w):=goes_spine (by kernel_rfl) (mwP3 w) (mwG4 w)
theorem mwG2 (w:World):Goes Try.prog 163 mwC2 mwT2 w (Out Try.prog Try.f15 163 (.bool true) w):=goes_spine (by kernel_rfl) (mwP2 w) (mwG3 w)
theorem mwG1 (w:World):Goes Try.prog 163 mwC1 mwT1 w (Out Try.prog Try.f15 163 (.bool true) w):=goes_spine (by kernel_rfl) (mwP1 w) (mwG2 w)
theorem mwG0 (w:World):Goes Try.prog 163 mwC0 mwT0 w (Out Try.prog Try.f15 163 (.bool true) w):=goes_spine (by kernel_rfl) (mwP0 w) (mwG1 w)
theorem MetamerWorks_known:Known Try.prog (closedOrc 15 (.bool true)):=known_closed (fn:=Try.f15) (v:=(.bool true)) Try.func15 (body_some (by kernel_rfl)) (by kernel_rfl) mwG0
end
end Go.Proofs.Ytegmogadbnfbgaa
