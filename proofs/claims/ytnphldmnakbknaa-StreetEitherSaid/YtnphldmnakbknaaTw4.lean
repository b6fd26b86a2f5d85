import Derived.Test.YtnphldmnakbknaaTw3
set_option linter.all false
/- lampblack/lampblacklaw07.Works as a whole. Made by gall.py. -/
namespace Go.Proofs.Ytnphldmnakbknaa
open Ev
noncomputable section
theorem TwE (w:World):Goes Try.prog 182 TwC16 TwT16 w (Out Try.prog Try.f14 182 (.bool .true) w):=goes_end Try.checked.mixed (k:=1000) (by kernel_rfl) (by kernel_rfl)
theorem TwG15 (w:World):Goes Try.prog 182 TwC15 TwT15 w (Out Try.prog Try.f14 182 (.bool .true) w):=goes_spine (by kernel_rfl) (TwP15 w) (TwE w)
theorem TwG14 (w:World):Goes Try.prog 182 TwC14 TwT14 w (Out Try.prog Try.f14 182 (.bool .true) w):=goes_spine (by kernel_rfl) (TwP14 w) (TwG15 w)
theorem TwG13 (w:World):Goes Try.prog 182 TwC13 TwT13 w (Out Try.prog Try.f14 182 (.bool .true) w):=goes_spine (by kernel_rfl) (TwP13 w) (TwG14 w)
theorem TwG12 (w:World):Goes Try.prog 182 TwC12 TwT12 w (Out Try.prog Try.f14 182 (.bool .true) w):=goes_spine (by kernel_rfl) (TwP12 w) (TwG13 w)
theorem TwG11 (w:World):Goes Try.prog 182 TwC11 TwT11 w (Out Try.prog Try.f14 182 (.bool .true) w):=goes_spine (by kernel_rfl) (TwP11 w) (TwG12 w)
theorem TwG10 (w:World):Goes Try.prog 182 TwC10 TwT10 w (Out Try.prog Try.f14 182 (.bool .true) w):=goes_spine (by kernel_rfl) (TwP10 w) (TwG11 w)
theorem TwG9 (w:World):Goes Try.prog 182 TwC9 TwT9 w (Out Try.prog Try.f14 182 (.bool .true) w):=goes_spine (by kernel_rfl) (TwP9 w) (TwG10 w)
theorem TwG8 (w:World):Goes Try.prog 182 TwC8 TwT8 w (Out Try.prog Try.f14 182 (.bool .true) w):=goes_spine (by kernel_rfl) (TwP8 w) (TwG9 w)
theorem TwG7 (w:World):Goes Try.prog 182 TwC7 TwT7 w (Out Try.prog Try.f14 182 (.bool .true) w):=goes_spine (by kernel_rfl) (TwP7 w) (TwG8 w)
theorem TwG6 (w:World):Goes Try.prog 182 TwC6 TwT6 w (Out Try.prog Try.f14 182 (.bool .true) w):=goes_spine (by kernel_rfl) (TwP6 w) (TwG7 w)
theorem TwG5 (w:World):Goes Try.prog 182 TwC5 TwT5 w (Out Try.prog Try.f14 182 (.bool .true) w):=goes_spine (by kernel_rfl) (TwP5 w) (TwG6 w)
theorem TwG4 (w:World):Goes Try.prog 182 TwC4 TwT4 w (Out Try.prog Try.f14 182 (.bool .true) w):=goes_spine (by kernel_rfl) (TwP4 w) (TwG5 w)
theorem TwG3 (w:World):Goes Try.prog 182 TwC3 TwT3 w (Out Try.prog Try.f14 182 (.bool .true) w):=goes_spine (by kernel_rfl) (TwP3 w) (TwG4 w)
theorem TwG2 (w:World):Goes Try.prog 182 TwC2 TwT2 w (Out Try.prog Try.f14 182 (.bool .true) w):=goes_spine (by kernel_rfl) (TwP2 w) (TwG3 w)
theorem TwG1 (w:World):Goes Try.prog 182 TwC1 TwT1 w (Out Try.prog Try.f14 182 (.bool .true) w):=goes_spine (by kernel_rfl) (TwP1 w) (TwG2 w)
theorem TwG0 (w:World):Goes Try.prog 182 TwC0 TwT0 w (Out Try.prog Try.f14 182 (.bool .true) w):=goes_spine (by kernel_rfl) (TwP0 w) (TwG1 w)
theorem StreetWorks_known:Known Try.prog (closedOrc 14 (.bool .true)):=known_closed (fn:=Try.f14) (v:=(.bool .true)) Try.func14 (body_some (by kernel_rfl)) (by kernel_rfl) TwG0
end
end Go.Proofs.Ytnphldmnakbknaa
