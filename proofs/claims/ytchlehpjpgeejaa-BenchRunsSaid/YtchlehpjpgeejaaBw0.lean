import Derived.Test.YtchlehpjpgeejaaM5
/- Parts 0 to 4 of lampblack/lampblacklaw02.Works, computed. Made by gsplit.py. -/
namespace Go.Proofs.Ytchlehpjpgeejaa
set_option linter.unusedVariables false
open Ev
noncomputable section
def bwC0 : Code := bodyC Try.f15
def bwT0 : Ev.Lit := ⟨[], [], 0, []⟩
def bwC1 : Code := tlC bwC0
def bwT1 : Ev.Lit := ⟨[(0, (.v (.bool .false)))], [], 0, []⟩
theorem bwP0 (w : World) : Goes Try.prog 157 (hdC bwC0) bwT0 w (Land 157 isN bwT1 w) := goes_part Try.checked.mixed (k := 1000) (by kernel_rfl) (by kernel_rfl)
def bwC2 : Code := tlC bwC1
def bwT2 : Ev.Lit := ⟨[(0, (.v (.bool .false))), (1, (.sl 3 0 3 3)), (22, (.sl 3 0 3 3))], [], 4, [(3, (.cells [(.v (.int .i64 (.ofNat 0))), (.v (.int .i64 (.ofNat 1))), (.v (.int .i64 (.ofNat 1))), (.v (.int .i64 (.ofNat 2))), (.v (.int .i64 (.ofNat 0))), (.v (.int .i64 (.ofNat 1)))] 75))]⟩
theorem bwP1 (w : World) : Goes Try.prog 157 (hdC bwC1) bwT1 w (Land 157 isN bwT2 w) := goes_part Try.checked.mixed (k := 1000) (by kernel_rfl) (by kernel_rfl)
def bwC3 : Code := tlC bwC2
def bwT3 : Ev.Lit := ⟨[(0, (.v (.bool .false))), (1, (.sl 3 0 3 3)), (3, (.v (.int .i64 (.ofNat 0)))), (23, (.tup [(.sl 8 0 3 3), (.v (.int .i64 (.ofNat 0)))])), (27, (.sl 8 0 3 3)), (25, (.sl 4 0 3 3)), (2, (.sl 8 0 3 3)), (24, (.sl 3 0 3 3)), (28, (.v (.int .i64 (.ofNat 0)))), (26, (.tup [(.sl 8 0 3 3), (.v (.int .i64 (.ofNat 0)))])), (22, (.sl 3 0 3 3))], [], 12, [(3, (.cells [(.v (.int .i64 (.ofNat 0))), (.v (.int .i64 (.ofNat 1))), (.v (.int .i64 (.ofNat 1))), (.v (.int .i64 (.ofNat 2))), (.v (.int .i64 (.ofNat 0))), (.v (.int .i64 (.ofNat 1)))] 75)), (4, (.cells [(.v (.int .i64 (.ofNat 3))), (.v (.int .i64 (.ofNat 9))), (.v (.int .i64 (.ofNat 5)))] 2)), (8, (.cells [(.v (.int .i64 (.ofNat 9))), (.v (.int .i64 (.ofNat 5))), (.v (.int .i64 (.ofNat 3)))] 2))]⟩
theorem bwP2 (w : World) : Goes Try.prog 157 (hdC bwC2) bwT2 w (Land 157 isN bwT3 w) := goes_part Try.checked.mixed (k := 1000) (by kernel_rfl) (by kernel_rfl)
def bwC4 : Code := tlC bwC3
def bwT4 : Ev.Lit := ⟨[(0, (.v (.bool .false))), (1, (.sl 3 0 3 3)), (3, (.v (.int .i64 (.ofNat 0)))), (31, (.tup [(.v (.int .i64 (.ofNat 3))), (.v (.int .i64 (.ofNat 0)))])), (23, (.tup [(.sl 8 0 3 3), (.v (.int .i64 (.ofNat 0)))])), (27, (.sl 8 0 3 3)), (5, (.v (.int .i64 (.ofNat 0)))), (33, (.v (.int .i64 (.ofNat 0)))), (25, (.sl 4 0 3 3)), (29, (.tup [(.v (.int .i64 (.ofNat 3))), (.v (.int .i64 (.ofNat 0)))])), (2, (.sl 8 0 3 3)), (4, (.v (.int .i64 (.ofNat 3)))), (32, (.v (.int .i64 (.ofNat 3)))), (24, (.sl 3 0 3 3)), (28, (.v (.int .i64 (.ofNat 0)))), (26, (.tup [(.sl 8 0 3 3), (.v (.int .i64 (.ofNat 0)))])), (22, (.sl 3 0 3 3)), (30, (.sl 3 0 3 3))], [], 26, [(3, (.cells [(.v (.int .i64 (.ofNat 0))), (.v (.int .i64 (.ofNat 1))), (.v (.int .i64 (.ofNat 1))), (.v (.int .i64 (.ofNat 2))), (.v (.int .i64 (.ofNat 0))), (.v (.int .i64 (.ofNat 1)))] 75)), (4, (.cells [(.v (.int .i64 (.ofNat 3))), (.v (.int .i64 (.ofNat 9))), (.v (.int .i64 (.ofNat 5)))] 2)), (8, (.cells [(.v (.int .i64 (.ofNat 9))), (.v (.int .i64 (.ofNat 5))), (.v (.int .i64 (.ofNat 3)))] 2))]⟩
theorem bwP3 (w : World) : Goes Try.prog 157 (hdC bwC3) bwT3 w (Land 157 isN bwT4 w) := goes_part Try.checked.mixed (k := 1000) (by kernel_rfl) (by kernel_rfl)
def bwC5 : Code := tlC bwC4
def bwT5 : Ev.Lit := ⟨[(0, (.v (.bool .false))), (1, (.sl 3 0 3 3)), (3, (.v (.int .i64 (.ofNat 0)))), (7, (.v (.int .i64 (.ofNat 5)))), (31, (.tup [(.v (.int .i64 (.ofNat 3))), (.v (.int .i64 (.ofNat 0)))])), (23, (.tup [(.sl 8 0 3 3), (.v (.int .i64 (.ofNat 0)))])), (35, (.sl 3 0 3 3)), (27, (.sl 8 0 3 3)), (5, (.v (.int .i64 (.ofNat 0)))), (33, (.v (.int .i64 (.ofNat 0)))), (25, (.sl 4 0 3 3)), (37, (.v (.slice none 0 0))), (29, (.tup [(.v (.int .i64 (.ofNat 3))), (.v (.int .i64 (.ofNat 0)))])), (2, (.sl 8 0 3 3)), (4, (.v (.int .i64 (.ofNat 3)))), (32, (.v (.int .i64 (.ofNat 3)))), (24, (.sl 3 0 3 3)), (36, (.tup [(.v (.slice none 0 0)), (.v (.int .i64 (.ofNat 5)))])), (28, (.v (.int .i64 (.ofNat 0)))), (6, (.v (.slice none 0 0))), (34, (.tup [(.v (.slice none 0 0)), (.v (.int .i64 (.ofNat 5)))])), (26, (.tup [(.sl 8 0 3 3), (.v (.int .i64 (.ofNat 0)))])), (22, (.sl 3 0 3 3)), (38, (.v (.int .i64 (.ofNat 5)))), (30, (.sl 3 0 3 3))], [], 87, [(3, (.cells [(.v (.int .i64 (.ofNat 0))), (.v (.int .i64 (.ofNat 1))), (.v (.int .i64 (.ofNat 1))), (.v (.int .i64 (.ofNat 2))), (.v (.int .i64 (.ofNat 0))), (.v (.int .i64 (.ofNat 1)))] 75)), (4, (.cells [(.v (.int .i64 (.ofNat 3))), (.v (.int .i64 (.ofNat 9))), (.v (.int .i64 (.ofNat 5)))] 2)), (8, (.cells [(.v (.int .i64 (.ofNat 9))), (.v (.int .i64 (.ofNat 5))), (.v (.int .i64 (.ofNat 3)))] 2))]⟩
theorem bwP4 (w : World) : Goes Try.prog 157 (hdC bwC4) bwT4 w (Land 157 isN bwT5 w) := goes_part Try.checked.mixed (k := 1000) (by kernel_rfl) (by kernel_rfl)
end
end Go.Proofs.Ytchlehpjpgeejaa
