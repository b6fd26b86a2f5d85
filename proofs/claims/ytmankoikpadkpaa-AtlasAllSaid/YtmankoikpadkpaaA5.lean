import Derived.Test.YtmankoikpadkpaaA40
import Derived.Test.YtmankoikpadkpaaA41
import Derived.Test.YtmankoikpadkpaaA42
import Derived.Test.YtmankoikpadkpaaA43
import Derived.Test.YtmankoikpadkpaaA44
set_option linter.all false
/- The law AtlasAll. -/
namespace Go.Proofs.Ytmankoikpadkpaa
open Go Ev
noncomputable section
noncomputable def lxK1:Code:=bodyC Try.f10
noncomputable def lxK3:Code:=tlC lxK1
set_option maxHeartbeats 2000000 in
theorem lx_5 (n:Int) (y:Value) (R:List (Value×List Int)) (b:Int) (hw:Known Try.prog (clsO wkC)) (hf:fnB n (cRw R) R.length=false) (w:World) (hs:List Nat):Goes Try.prog 97 lxK3 (⟨[(1,(.v (.int .u8 (b)))),(2,(.ptr 0 0))],[],1,[(0,(.cells [(.v (.int .i64 (n))),(.xl (y) (R.length) 1 (cRw R))] 24))]⟩) (BaseW.H w hs) (OutH Try.prog Try.f10 97 (.bool true) w):=by
 refine Hd.goes_seqA (by kernel_rfl) ?_
 rcases Bool.eq_false_or_eq_true (fnB n (cRw R) R.length) with hqlx7_1 | hqlx7_1
 ·skip
  exfalso
  rw [hf] at hqlx7_1
  cases hqlx7_1
 ·skip
  exact goes_leafA isR_e (goes_told Try.checked.mixed (known_or known_fi hw) 200 (T':=⟨[(4,(.v (.bool .true)))],[],1,[]⟩) (e:=.ret) (ps:=[IsR R.length (cRw R),(!fnB n (cRw R) R.length)=true]) [.go,.go,.b true,.go] (by kernel_rfl) (by kernel_rfl) ⟨⟨R,rfl,rfl⟩,(by rw [hqlx7_1]; rfl),trivial⟩ rfl) (Hd.en_o (by intro h; cases h) (Hd.en_eq (r:=(.bool .true)) (by rfl) (Hd.en_ret (v:=(.v (.bool .true))) (by kernel_rfl) rfl)))
set_option maxHeartbeats 2000000 in
theorem lx_2 (n:Int) (y:Value) (R:List (Value×List Int)) (b:Int) (hw:Known Try.prog (clsO wkC)) (hf:fnB n (cRw R) R.length=false) (w:World) (hs:List Nat):Goes Try.prog 97 lxK1 (⟨[(0,(.agg [.v (.int .i64 n),.xl y R.length 1 (cRw R)])),(1,(.v (.int .u8 b)))],[],0,[]⟩) (BaseW.H w hs) (OutH Try.prog Try.f10 97 (.bool true) w):=by
 refine Hd.goes_seqA (by kernel_rfl) ?_
 exact goes_leafA isN_e (goes_told Try.checked.mixed (known_or known_fi hw) 200 (T':=⟨[(1,(.v (.int .u8 (b)))),(2,(.ptr 0 0))],[],1,[(0,(.cells [(.v (.int .i64 (n))),(.xl (y) (R.length) 1 (cRw R))] 24))]⟩) (e:=.normal) (ps:=[]) [.go,.go] (by kernel_rfl) (by kernel_rfl) trivial rfl) (Hd.en_n (lx_5 n y R b hw hf w hs))
theorem all_x (n:Int) (y:Value) (R:List (Value×List Int)) (b:Int) (hw:Known Try.prog (clsO wkC)) (hf:fnB n (cRw R) R.length=false):GivesA Try.prog 10 [(.agg [.v (.int .i64 n),.xl y R.length 1 (cRw R)]),(.v (.int .u8 b))] (.bool true) :=
 givesA_partsH 97 Try.func10 (by kernel_rfl) (by kernel_rfl) (by kernel_rfl) (fun w=>goes_less (by kernel_rfl) (by kernel_rfl) (by kernel_rfl) (by kernel_rfl) (lx_2 n y R b hw hf w []))
theorem all_law (hw:Known Try.prog (clsO wkC)) (n:Int) (y:Value) (R:List (Value×List Int)) (b:Int) (hb:0≤b∧b≤255):GivesA Try.prog 10 [.agg [.v (.int .i64 n),.xl y R.length 1 (cRw R)],.v (.int .u8 b)] (.bool true):=by
 cases hf:fnB n (cRw R) R.length with
 | false=>exact all_x n y R b hw hf
 | true =>
  have hE:plE n (cRw R) R.length=0:=by
   unfold fnB at hf
   rw [Bool.and_eq_true] at hf
   exact of_decide_eq_true hf.2
  obtain ⟨p,rfl⟩:∃ p:Nat,n=((p:Nat):Int):=⟨n.toNat,by have h9:=(plE_zero hE).2.1; omega⟩
  have hm:=(plE_zero hE).1
  clear hf
  generalize hR:R.length=m at *
  match m,hR,hE,hm with
  | 0,hR,hE,_=>exact all_l0 y R p b hw hR.symm hE hb
  | 1,hR,hE,_=>exact all_l1 y R p b hw hR.symm hE hb
  | 2,hR,hE,_=>exact all_l2 y R p b hw hR.symm hE hb
  | 3,hR,hE,_=>exact all_l3 y R p b hw hR.symm hE hb
  | 4,hR,hE,_=>exact all_l4 y R p b hw hR.symm hE hb
  | m + 5,_,_,hm=>exact absurd hm (by omega)
end
end Go.Proofs.Ytmankoikpadkpaa
