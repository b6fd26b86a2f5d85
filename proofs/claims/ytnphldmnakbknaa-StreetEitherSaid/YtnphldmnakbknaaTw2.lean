import Derived.Test.YtnphldmnakbknaaTw1
set_option linter.all false
/- Parts 7 to 9 of lampblack/lampblacklaw07.Works, computed. -/
namespace Go.Proofs.Ytnphldmnakbknaa
open Ev
noncomputable section
@[reducible] def qTw2_4:Ev.AB:=(.cells [(.v (.int .i64 (.ofNat 0))),(.v (.int .i64 (.ofNat 1))),(.v (.int .i64 (.ofNat 5))),(.v (.int .i64 (.ofNat 1))),(.v (.int .i64 (.ofNat 3))),(.v (.int .i64 (.ofNat 6))),(.v (.int .i64 (.ofNat 2))),(.v (.int .i64 (.ofNat 3))),(.v (.int .i64 (.ofNat 4))),(.v (.int .i64 (.ofNat 0))),(.v (.int .i64 (.ofNat 3))),(.v (.int .i64 (.ofNat 10))),(.v (.int .i64 (.ofNat 0))),(.v (.int .i64 (.ofNat 2))),(.v (.int .i64 (.ofNat 7)))] 58)
@[reducible] def qTw2_1:Nat×Ev.AB:=(1946,qTw2_4)
@[reducible] def qTw2_2:Nat×Ev.AB:=(672,qTw2_4)
@[reducible] def qTw2_3:Nat×Ev.AB:=(1,qTw2_4)
@[reducible] def qTw2_5:Nat×Ev.AB:=(1833,(.cells [(.v (.int .i64 (.ofNat 5))),(.v (.int .i64 (.ofNat 0))),(.v (.int .i64 (.ofNat 0))),(.v (.int .i64 (.ofNat 4)))] 2))
@[reducible] def qTw2_6:Nat×Ev.AB:=(21,(.cells [(.v (.int .i64 (.ofNat 1))),(.v (.int .i64 (.ofNat 2))),(.v (.int .i64 (.ofNat 1))),(.v (.int .i64 (.ofNat 1)))] 3))
@[reducible] def qTw2_7:Nat×Ev.AB:=(2,(.cells [(.v (.int .i64 (.ofNat 4))),(.v (.int .i64 (.ofNat 0))),(.v (.int .i64 (.ofNat 0))),(.sl 1 0 5 5)] 24))
@[reducible] def qTw2_8:Nat×Ev.AV:=(62,(.agg [(.v (.int .i64 (.ofNat 4))),(.v (.int .i64 (.ofNat 1))),(.v (.int .i64 (.ofNat 0))),(.sl 1946 0 5 5)]))
@[reducible] def qTw2_9:Nat×Ev.AV:=(51,(.agg [(.v (.int .i64 (.ofNat 4))),(.v (.int .i64 (.ofNat 1))),(.v (.int .i64 (.ofNat 0))),(.sl 672 0 5 5)]))
@[reducible] def qTw2_10:Nat×Ev.AV:=(57,(.agg [(.v (.int .i64 (.ofNat 4))),(.v (.int .i64 (.ofNat 0))),(.v (.int .i64 (.ofNat 0))),(.sl 1 0 5 5)]))
@[reducible] def qTw2_11:Nat×Ev.AV:=(45,(.agg [(.v (.int .i64 (.ofNat 4))),(.v (.int .i64 (.ofNat 0))),(.v (.int .i64 (.ofNat 0))),(.sl 1 0 5 5)]))
@[reducible] def qTw2_12:Nat×Ev.AV:=(39,(.agg [(.v (.int .i64 (.ofNat 4))),(.v (.int .i64 (.ofNat 0))),(.v (.int .i64 (.ofNat 0))),(.sl 1 0 5 5)]))
@[reducible] def qTw2_13:Nat×Ev.AV:=(33,(.agg [(.v (.int .i64 (.ofNat 4))),(.v (.int .i64 (.ofNat 0))),(.v (.int .i64 (.ofNat 0))),(.sl 1 0 5 5)]))
@[reducible] def qTw2_14:Nat×Ev.AV:=(27,(.agg [(.v (.int .i64 (.ofNat 4))),(.v (.int .i64 (.ofNat 0))),(.v (.int .i64 (.ofNat 0))),(.sl 1 0 5 5)]))
@[reducible] def qTw2_15:Nat×Ev.AV:=(25,(.agg [(.v (.int .i64 (.ofNat 4))),(.v (.int .i64 (.ofNat 0))),(.v (.int .i64 (.ofNat 0))),(.sl 1 0 5 5)]))
@[reducible] def qTw2_16:Nat×Ev.AB:=(1818,(.row [(.v (.int .i64 (.ofNat 0))),(.v (.int .i64 (.ofNat 2))),(.v (.int .i64 (.ofNat 3)))] 3 1))
@[reducible] def qTw2_17:Nat×Ev.AB:=(1948,(.cells [(.v (.int .i64 (.ofNat 0))),(.v (.int .i64 (.ofNat 1))),(.v (.int .i64 (.ofNat 2)))] 3))
@[reducible] def qTw2_18:Nat×Ev.AV:=(52,(.tup [(.slu 1818 0 3 0),(.v (.int .i64 (.ofNat 19))),(.v (.int .i64 (.ofNat 0)))]))
@[reducible] def qTw2_19:Nat×Ev.AV:=(50,(.tup [(.slu 1818 0 3 0),(.v (.int .i64 (.ofNat 19))),(.v (.int .i64 (.ofNat 0)))]))
@[reducible] def qTw2_20:Nat×Ev.AV:=(46,(.tup [(.slu 659 0 2 0),(.v (.int .i64 (.ofNat 9))),(.v (.int .i64 (.ofNat 0)))]))
@[reducible] def qTw2_21:Nat×Ev.AV:=(44,(.tup [(.slu 659 0 2 0),(.v (.int .i64 (.ofNat 9))),(.v (.int .i64 (.ofNat 0)))]))
@[reducible] def qTw2_22:Nat×Ev.AB:=(659,(.row [(.v (.int .i64 (.ofNat 0))),(.v (.int .i64 (.ofNat 2)))] 3 1))
@[reducible] def qTw2_23:Nat×Ev.AB:=(132,(.cells [(.v (.int .i64 (.ofNat 1))),(.v (.int .i64 (.ofNat 2)))] 3))
@[reducible] def qTw2_24:Nat×Ev.AB:=(50,(.cells [(.v (.int .i64 (.ofNat 0))),(.v (.int .i64 (.ofNat 2)))] 3))
@[reducible] def qTw2_25:Nat×Ev.AB:=(3,(.cells [(.v (.int .i64 (.ofNat 0))),(.v (.int .i64 (.ofNat 1)))] 3))
@[reducible] def qTw2_26:Nat×Ev.AV:=(41,(.tup [(.v (.int .i64 (.ofNat 0))),(.v (.int .i64 (.ofNat 18)))]))
@[reducible] def qTw2_27:Nat×Ev.AV:=(38,(.tup [(.v (.int .i64 (.ofNat 0))),(.v (.int .i64 (.ofNat 18)))]))
@[reducible] def qTw2_28:Nat×Ev.AV:=(59,(.tup [(.v (.int .i64 (.ofNat 9))),(.v (.int .i64 (.ofNat 0)))]))
@[reducible] def qTw2_29:Nat×Ev.AV:=(56,(.tup [(.v (.int .i64 (.ofNat 9))),(.v (.int .i64 (.ofNat 0)))]))
@[reducible] def qTw2_30:Nat×Ev.AV:=(35,(.tup [(.v (.int .i64 (.ofNat 9))),(.v (.int .i64 (.ofNat 0)))]))
@[reducible] def qTw2_31:Nat×Ev.AV:=(32,(.tup [(.v (.int .i64 (.ofNat 9))),(.v (.int .i64 (.ofNat 0)))]))
@[reducible] def qTw2_32:Nat×Ev.AV:=(29,(.tup [(.sl 21 0 4 4),(.v (.int .i64 (.ofNat 0)))]))
@[reducible] def qTw2_33:Nat×Ev.AV:=(26,(.tup [(.sl 21 0 4 4),(.v (.int .i64 (.ofNat 0)))]))
def TwC8:Code:=tlC TwC7
def TwT8:Ev.Lit:=⟨[(0,(.v (.bool .false))),(1,(.ptr 2 0)),(3,(.v (.int .i64 (.ofNat 0)))),(7,(.v (.int .i64 (.ofNat 18)))),(15,(.v (.int .i64 (.ofNat 0)))),(31,(.v (.int .i64 (.ofNat 0)))),(47,(.slu 659 0 2 0)),qTw2_12,(55,(.v (.int .i64 (.ofNat 0)))),(11,(.slu 1818 0 3 0)),qTw2_30,qTw2_9,qTw2_14,(43,(.v (.int .i64 (.ofNat 18)))),qTw2_28,(5,(.v (.int .i64 (.ofNat 0)))),(9,(.v (.int .i64 (.ofNat 9)))),qTw2_13,(49,(.v (.int .i64 (.ofNat 0)))),qTw2_15,qTw2_26,qTw2_10,(13,(.v (.int .i64 (.ofNat 0)))),(37,(.v (.int .i64 (.ofNat 0)))),(53,(.slu 1818 0 3 0)),qTw2_32,qTw2_11,(61,(.v (.int .i64 (.ofNat 0)))),(2,(.sl 21 0 4 4)),(4,(.v (.int .i64 (.ofNat 9)))),(8,(.slu 659 0 2 0)),qTw2_31,(48,(.v (.int .i64 (.ofNat 9)))),(40,(.sl 132 0 2 2)),qTw2_29,(12,(.v (.int .i64 (.ofNat 19)))),(36,(.v (.int .i64 (.ofNat 9)))),qTw2_18,(28,(.sl 3 0 2 2)),qTw2_21,(60,(.v (.int .i64 (.ofNat 9)))),(6,(.v (.int .i64 (.ofNat 0)))),(10,(.v (.int .i64 (.ofNat 0)))),(34,(.sl 50 0 2 2)),qTw2_19,qTw2_33,(42,(.v (.int .i64 (.ofNat 0)))),(58,(.sl 1833 0 4 4)),(14,(.v (.int .i64 (.ofNat 9)))),qTw2_27,(54,(.v (.int .i64 (.ofNat 19)))),(30,(.sl 21 0 4 4)),qTw2_20],[],1944,[qTw2_3,qTw2_25,qTw2_22,qTw2_5,qTw2_6,qTw2_7,qTw2_2,qTw2_23,qTw2_24,qTw2_16]⟩
theorem TwP7 (w:World):Goes Try.prog 182 (hdC TwC7) TwT7 w (Land 182 isN TwT8 w):=goes_part Try.checked.mixed (k:=1000) (by kernel_rfl) (by kernel_rfl)
def TwC9:Code:=tlC TwC8
def TwT9:Ev.Lit:=⟨[(0,(.v (.bool .false))),(1,(.ptr 2 0)),(3,(.v (.int .i64 (.ofNat 0)))),(7,(.v (.int .i64 (.ofNat 18)))),(15,(.v (.int .i64 (.ofNat 0)))),(31,(.v (.int .i64 (.ofNat 0)))),(63,(.sl 1948 0 3 3)),(47,(.slu 659 0 2 0)),qTw2_12,(55,(.v (.int .i64 (.ofNat 0)))),(11,(.slu 1818 0 3 0)),qTw2_30,qTw2_9,qTw2_14,(43,(.v (.int .i64 (.ofNat 18)))),qTw2_28,(5,(.v (.int .i64 (.ofNat 0)))),(9,(.v (.int .i64 (.ofNat 9)))),qTw2_13,(65,(.v (.int .i64 (.ofNat 0)))),(49,(.v (.int .i64 (.ofNat 0)))),qTw2_15,qTw2_26,qTw2_10,(13,(.v (.int .i64 (.ofNat 0)))),(37,(.v (.int .i64 (.ofNat 0)))),(53,(.slu 1818 0 3 0)),qTw2_32,qTw2_11,(61,(.v (.int .i64 (.ofNat 0)))),(2,(.sl 21 0 4 4)),(4,(.v (.int .i64 (.ofNat 9)))),(8,(.slu 659 0 2 0)),(16,(.v (.int .i64 (.ofNat 0)))),qTw2_31,(64,(.sl 1949 0 1 1)),(48,(.v (.int .i64 (.ofNat 9)))),(40,(.sl 132 0 2 2)),qTw2_29,(12,(.v (.int .i64 (.ofNat 19)))),(36,(.v (.int .i64 (.ofNat 9)))),qTw2_18,(28,(.sl 3 0 2 2)),qTw2_21,(60,(.v (.int .i64 (.ofNat 9)))),(6,(.v (.int .i64 (.ofNat 0)))),(10,(.v (.int .i64 (.ofNat 0)))),(34,(.sl 50 0 2 2)),qTw2_19,qTw2_33,(42,(.v (.int .i64 (.ofNat 0)))),(58,(.sl 1833 0 4 4)),(14,(.v (.int .i64 (.ofNat 9)))),qTw2_27,(54,(.v (.int .i64 (.ofNat 19)))),(30,(.sl 21 0 4 4)),qTw2_20,qTw2_8],[],1997,[qTw2_3,qTw2_25,qTw2_22,qTw2_5,qTw2_6,(1949,(.cells [(.v (.int .i64 (.ofNat 0)))] 3)),qTw2_7,qTw2_2,qTw2_23,qTw2_17,qTw2_24,qTw2_16,qTw2_1]⟩
theorem TwP8 (w:World):Goes Try.prog 182 (hdC TwC8) TwT8 w (Land 182 isN TwT9 w):=goes_part Try.checked.mixed (k:=1000) (by kernel_rfl) (by kernel_rfl)
def TwC10:Code:=tlC TwC9
def TwT10:Ev.Lit:=⟨[(0,(.v (.bool .false))),(1,(.ptr 2 0)),(3,(.v (.int .i64 (.ofNat 0)))),(7,(.v (.int .i64 (.ofNat 18)))),(15,(.v (.int .i64 (.ofNat 0)))),(31,(.v (.int .i64 (.ofNat 0)))),(63,(.sl 1948 0 3 3)),(47,(.slu 659 0 2 0)),qTw2_12,(55,(.v (.int .i64 (.ofNat 0)))),(11,(.slu 1818 0 3 0)),qTw2_30,(67,(.agg [(.v (.int .i64 (.ofNat 4))),(.v (.int .i64 (.ofNat 1))),(.v (.int .i64 (.ofNat 0))),(.sl 1999 0 5 5)])),qTw2_9,qTw2_14,(43,(.v (.int .i64 (.ofNat 18)))),qTw2_28,(5,(.v (.int .i64 (.ofNat 0)))),(9,(.v (.int .i64 (.ofNat 9)))),(17,(.sl 3140 0 4 4)),qTw2_13,(65,(.v (.int .i64 (.ofNat 0)))),(49,(.v (.int .i64 (.ofNat 0)))),qTw2_15,qTw2_26,qTw2_10,(13,(.v (.int .i64 (.ofNat 0)))),(37,(.v (.int .i64 (.ofNat 0)))),(69,(.sl 3140 0 4 4)),(53,(.slu 1818 0 3 0)),qTw2_32,qTw2_11,(61,(.v (.int .i64 (.ofNat 0)))),(2,(.sl 21 0 4 4)),(4,(.v (.int .i64 (.ofNat 9)))),(8,(.slu 659 0 2 0)),(16,(.v (.int .i64 (.ofNat 0)))),qTw2_31,(64,(.sl 1949 0 1 1)),(48,(.v (.int .i64 (.ofNat 9)))),(40,(.sl 132 0 2 2)),qTw2_29,(12,(.v (.int .i64 (.ofNat 19)))),(36,(.v (.int .i64 (.ofNat 9)))),(68,(.tup [(.sl 3140 0 4 4),(.v (.int .i64 (.ofNat 0)))])),qTw2_18,(28,(.sl 3 0 2 2)),qTw2_21,(60,(.v (.int .i64 (.ofNat 9)))),(6,(.v (.int .i64 (.ofNat 0)))),(10,(.v (.int .i64 (.ofNat 0)))),(18,(.v (.int .i64 (.ofNat 0)))),(34,(.sl 50 0 2 2)),(66,(.tup [(.sl 3140 0 4 4),(.v (.int .i64 (.ofNat 0)))])),qTw2_19,qTw2_33,(42,(.v (.int .i64 (.ofNat 0)))),(58,(.sl 1833 0 4 4)),(14,(.v (.int .i64 (.ofNat 9)))),qTw2_27,(70,(.v (.int .i64 (.ofNat 0)))),(54,(.v (.int .i64 (.ofNat 19)))),(30,(.sl 21 0 4 4)),qTw2_20,qTw2_8],[],3141,[qTw2_3,qTw2_25,(1999,qTw2_4),qTw2_22,qTw2_5,qTw2_6,(1949,(.cells [(.v (.int .i64 (.ofNat 0)))] 3)),qTw2_7,qTw2_2,qTw2_23,(3140,(.cells [(.v (.int .i64 (.ofNat 6))),(.v (.int .i64 (.ofNat 0))),(.v (.int .i64 (.ofNat 1))),(.v (.int .i64 (.ofNat 3)))] 2)),qTw2_17,qTw2_24,qTw2_16,qTw2_1]⟩
theorem TwP9 (w:World):Goes Try.prog 182 (hdC TwC9) TwT9 w (Land 182 isN TwT10 w):=goes_part Try.checked.mixed (k:=1000) (by kernel_rfl) (by kernel_rfl)
end
end Go.Proofs.Ytnphldmnakbknaa
