import Derived.Test.YtnphldmnakbknaaI3
import Derived.Test.YtnphldmnakbknaaI2
set_option linter.all false
/- ints, great. -/
namespace Go.Proofs.Ytnphldmnakbknaa
open Go Ev
noncomputable section
def grK1:Code:=bodyC Try.f13
set_option maxHeartbeats 2000000 in
theorem gr_2 (n d q:Int) (y:Value) (P:PL) (w:World) (hs:LN):Goes pg 7 grK1 (⟨[(0,(.agg [.v (.int .i64 n),.v (.int .i64 d),.v (.int .i64 q),.xl y P.length 3 (cT P)]))],[],0,[]⟩) (BaseW.H w hs) (OutH pg Try.f13 7 (.bool (ltI 30 P.length)) w):=by
 exact gL isR_e (gT cm (kN) 200 (T':=⟨[(2,(.v (.bool (ltI 30 P.length))))],[],1,[]⟩) (e:=.ret) (ps:=[]) [.go,.go,.go,.go,.go,.go,.go] (by kernel_rfl) (by kernel_rfl) trivial rfl) (Hd.en_eq (r:=(.bool (ltI 30 P.length))) (by rfl) (Hd.en_ret (v:=(.v (.bool (ltI 30 P.length)))) (by kernel_rfl) rfl))
theorem great_g (n d q:Int) (y:Value) (P:PL):GivesA pg 13 [(.agg [.v (.int .i64 n),.v (.int .i64 d),.v (.int .i64 q),.xl y P.length 3 (cT P)])] (.bool (ltI 30 P.length)) :=
 givesA_partsH 7 Try.func13 (by kernel_rfl) (by kernel_rfl) (by kernel_rfl) (fun w=>goes_less (by kernel_rfl) (by kernel_rfl) (by kernel_rfl) (by kernel_rfl) (gr_2 n d q y P w []))
def iiS:List Vw→Option (Res1×List Prop):=fun vs =>
 match vs with
 | [.lst n k c,.lst m j e]=>some (.val (.v (.bool true)),[IsC k n c,n≤1000,m=n∧j=k∧e=c])
 | _=>none
def gtS:List AV→Option (Res1×List Prop):=fun args =>
 match args with
 | [a]=>match roadV a with
  | some (n,d,q,y,m,c)=>some (.val (.v (.bool (ltI 30 m))),[IsT m c])
  | none=>none
 | _=>none
def gtO:OrcH:=extOrc 13 gtS
theorem known_gt:Known pg (clsO gtO):=known_ext (fun args r ps h hp=>by
 unfold gtS at h
 split at h
 ·split at h
  ·rename_i n d q y m c e
   cases h
   obtain ⟨⟨P,rfl,rfl⟩,-⟩:=hp
   rw [roadV_eq e]
   exact ⟨extL_cons (ext_road n d q y P) extL_nil,_,rfl,great_g n d q y P⟩
  ·cases h
 ·cases h)
def wkS:List Value→Option AV:=fun xs=>match xs with | []=>some (.v (.bool true)) | _=>none
def wkO:OrcH:=plainOrc 14 wkS
end
end Go.Proofs.Ytnphldmnakbknaa
