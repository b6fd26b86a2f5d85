import Derived.Test.YtmankoikpadkpaaAw1
set_option linter.all false
/- lampblack/lampblacklaw05.Works as a whole. Made by gall.py. -/
namespace Go.Proofs.Ytmankoikpadkpaa
open Ev
noncomputable section
theorem AwE (w:World):Goes Try.prog 158 AwC13 AwT13 w (Out Try.prog Try.f15 158 (.bool .true) w):=goes_end Try.checked.mixed (k:=1000) (by kernel_rfl) (by kernel_rfl)
theorem AwG12 (w:World):Goes Try.prog 158 AwC12 AwT12 w (Out Try.prog Try.f15 158 (.bool .true) w):=goes_spine (by kernel_rfl) (AwP12 w) (AwE w)
theorem AwG11 (w:World):Goes Try.prog 158 AwC11 AwT11 w (Out Try.prog Try.f15 158 (.bool .true) w):=goes_spine (by kernel_rfl) (AwP11 w) (AwG12 w)
theorem AwG10 (w:World):Goes Try.prog 158 AwC10 AwT10 w (Out Try.prog Try.f15 158 (.bool .true) w):=goes_spine (by kernel_rfl) (AwP10 w) (AwG11 w)
theorem AwG9 (w:World):Goes Try.prog 158 AwC9 AwT9 w (Out Try.prog Try.f15 158 (.bool .true) w):=goes_spine (by kernel_rfl) (AwP9 w) (AwG10 w)
theorem AwG8 (w:World):Goes Try.prog 158 AwC8 AwT8 w (Out Try.prog Try.f15 158 (.bool .true) w):=goes_spine (by kernel_rfl) (AwP8 w) (AwG9 w)
theorem AwG7 (w:World):Goes Try.prog 158 AwC7 AwT7 w (Out Try.prog Try.f15 158 (.bool .true) w):=goes_spine (by kernel_rfl) (AwP7 w) (AwG8 w)
theorem AwG6 (w:World):Goes Try.prog 158 AwC6 AwT6 w (Out Try.prog Try.f15 158 (.bool .true) w):=goes_spine (by kernel_rfl) (AwP6 w) (AwG7 w)
theorem AwG5 (w:World):Goes Try.prog 158 AwC5 AwT5 w (Out Try.prog Try.f15 158 (.bool .true) w):=goes_spine (by kernel_rfl) (AwP5 w) (AwG6 w)
theorem AwG4 (w:World):Goes Try.prog 158 AwC4 AwT4 w (Out Try.prog Try.f15 158 (.bool .true) w):=goes_spine (by kernel_rfl) (AwP4 w) (AwG5 w)
theorem AwG3 (w:World):Goes Try.prog 158 AwC3 AwT3 w (Out Try.prog Try.f15 158 (.bool .true) w):=goes_spine (by kernel_rfl) (AwP3 w) (AwG4 w)
theorem AwG2 (w:World):Goes Try.prog 158 AwC2 AwT2 w (Out Try.prog Try.f15 158 (.bool .true) w):=goes_spine (by kernel_rfl) (AwP2 w) (AwG3 w)
theorem AwG1 (w:World):Goes Try.prog 158 AwC1 AwT1 w (Out Try.prog Try.f15 158 (.bool .true) w):=goes_spine (by kernel_rfl) (AwP1 w) (AwG2 w)
theorem AwG0 (w:World):Goes Try.prog 158 AwC0 AwT0 w (Out Try.prog Try.f15 158 (.bool .true) w):=goes_spine (by kernel_rfl) (AwP0 w) (AwG1 w)
theorem AtlasWorks_known:Known Try.prog (closedOrc 15 (.bool .true)):=known_closed (fn:=Try.f15) (v:=(.bool .true)) Try.func15 (body_some (by kernel_rfl)) (by kernel_rfl) AwG0
end
end Go.Proofs.Ytmankoikpadkpaa
