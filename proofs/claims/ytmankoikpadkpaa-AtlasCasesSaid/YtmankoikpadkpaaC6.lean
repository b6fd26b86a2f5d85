import Derived.Test.YtmankoikpadkpaaC6a
set_option maxHeartbeats 2000000
set_option linter.all false
/- The law AtlasCases. -/
namespace Go.Proofs.Ytmankoikpadkpaa
open Go Ev
noncomputable section
noncomputable def lxK1:Code:=bodyC Try.f4
theorem lx_2 (n:Int) (y z:Value) (R:List (Value×List Int)) (L:List Int) (hw:Known Try.prog (clsO wkC)) (h0:¬ csE n (cRw R) R.length (cI L) L.length=0) (w:World) (hs:List Nat):Goes Try.prog 40 lxK1 (⟨[(0,(.agg [.v (.int .i64 n),.xl y R.length 1 (cRw R)])),(1,(.xl z L.length 1 (cI L)))],[],0,[]⟩) (BaseW.H w hs) (OutH Try.prog Try.f4 40 (.bool true) w):=by
 have hcl_L:=cI_len L
 rcases Bool.eq_false_or_eq_true (grB (cRw R) R.length) with hqlx3_1 | hqlx3_1
 ·skip
  exact goes_leafA isR_e (goes_told Try.checked.mixed (known_lcx hw) 200 (T':=⟨[(4,(.v (.bool .true)))],[],1,[]⟩) (e:=.ret) (ps:=[IsR R.length (cRw R),grB (cRw R) R.length=true,true=true,true=true,true=true]) [.go,.go,.go,.go,.b true,.b true,.b true,.go,.b true,.go] (by kernel_rfl) (by kernel_rfl) ⟨⟨R,rfl,rfl⟩,hqlx3_1,rfl,rfl,rfl,trivial⟩ rfl) (Hd.en_eq (r:=(.bool .true)) (by rfl) (Hd.en_ret (v:=(.v (.bool .true))) (by kernel_rfl) rfl))
 ·skip
  rcases Bool.eq_false_or_eq_true (ltI 10 ((L.length:Nat):Int)) with hqlx3_2 | hqlx3_2
  ·skip
   have ghqlx3_2:=ltI_true hqlx3_2
   exact goes_leafA isR_e (goes_told Try.checked.mixed (known_lcx hw) 200 (T':=⟨[(4,(.v (.bool .true)))],[],1,[]⟩) (e:=.ret) (ps:=[IsR R.length (cRw R),grB (cRw R) R.length=false,false=false,false=false,ltI 10 ((L.length:Nat):Int)=true]) [.go,.go,.go,.go,.b false,.go,.b false,.go,.b false,.go,.go,.b true,.go] (by kernel_rfl) (by kernel_rfl) ⟨⟨R,rfl,rfl⟩,hqlx3_1,rfl,rfl,hqlx3_2,trivial⟩ rfl) (Hd.en_eq (r:=(.bool .true)) (by rfl) (Hd.en_ret (v:=(.v (.bool .true))) (by kernel_rfl) rfl))
  ·skip
   have ghqlx3_2:=ltI_false hqlx3_2
   rcases Bool.eq_false_or_eq_true (eqI (csE n (cRw R) R.length (cI L) L.length) (csE n (cRw R) R.length (cI L) L.length)) with hqlx3_3 | hqlx3_3
   ·skip
    have ghqlx3_3:=eqI_true hqlx3_3
    exact goes_leafA isR_e (goes_told Try.checked.mixed (known_lcx hw) 200 (T':=⟨[(4,(.v (.bool .true)))],[],1,[]⟩) (e:=.ret) (ps:=[IsR R.length (cRw R),grB (cRw R) R.length=false,false=false,false=false,ltI 10 ((L.length:Nat):Int)=false,FreeL (cRw R),FreeL (cI L),IsR R.length (cRw R),1=1∧cI L=cI (unI (cI L))∧L.length=(unI (cI L)).length,¬csE n (cRw R) R.length (cI L) L.length=0,FreeL (cRw R),FreeL (cI L),IsR R.length (cRw R),1=1∧cI L=cI (unI (cI L))∧L.length=(unI (cI L)).length,¬csE n (cRw R) R.length (cI L) L.length=0,true=true,true=true,true=true,eqI (csE n (cRw R) R.length (cI L) L.length) (csE n (cRw R) R.length (cI L) L.length)=true]) [.go,.go,.go,.go,.b false,.go,.b false,.go,.b false,.go,.go,.b false,.go,.go,.go,.go,.go,.go,.go,.go,.go,.go,.go,.go,.go,.go,.go,.go,.go,.b true,.go,.b true,.go,.b true,.go,.go,.go,.b true,.go,.go] (by kernel_rfl) (by kernel_rfl) ⟨⟨R,rfl,rfl⟩,hqlx3_1,rfl,rfl,hqlx3_2,(freeL_plainR R),(freeL_plain (cI_plain _)),⟨R,rfl,rfl⟩,⟨rfl,by rw [unI_cI],by rw [unI_cI]⟩,h0,(freeL_plainR R),(freeL_plain (cI_plain _)),⟨R,rfl,rfl⟩,⟨rfl,by rw [unI_cI],by rw [unI_cI]⟩,h0,rfl,rfl,rfl,hqlx3_3,trivial⟩ rfl) (Hd.en_eq (r:=(.bool .true)) (by rfl) (Hd.en_ret (v:=(.v (.bool .true))) (by kernel_rfl) rfl))
   ·skip
    have ghqlx3_3:=eqI_false hqlx3_3
    exact (eqI_no hqlx3_3).elim
theorem cases_lx (n:Int) (y z:Value) (R:List (Value×List Int)) (L:List Int) (hw:Known Try.prog (clsO wkC)) (h0:¬ csE n (cRw R) R.length (cI L) L.length=0):GivesA Try.prog 4 [(.agg [.v (.int .i64 n),.xl y R.length 1 (cRw R)]),(.xl z L.length 1 (cI L))] (.bool true) :=
 givesA_partsH 40 Try.func4 (by kernel_rfl) (by kernel_rfl) (by kernel_rfl) (fun w=>goes_less (by kernel_rfl) (by kernel_rfl) (by kernel_rfl) (by kernel_rfl) (lx_2 n y z R L hw h0 w []))
noncomputable def laK1:Code:=bodyC Try.f4
theorem la_2 (n:Int) (y z:Value) (R:List (Value×List Int)) (L:List Int) (hw:Known Try.prog (clsO wkC)) (h0:csE n (cRw R) R.length (cI L) L.length=0) (h1:(gotL (seeM (cRw R) R.length (padF L)) (1 + 2 * n.toNat)).length=0) (w:World) (hs:List Nat):Goes Try.prog 40 laK1 (⟨[(0,(.agg [.v (.int .i64 n),.xl y R.length 1 (cRw R)])),(1,(.xl z L.length 1 (cI L)))],[],0,[]⟩) (BaseW.H w hs) (OutH Try.prog Try.f4 40 (.bool true) w):=by
 have hcl_L:=cI_len L
 rcases Bool.eq_false_or_eq_true (grB (cRw R) R.length) with hqla3_1 | hqla3_1
 ·skip
  exact goes_leafA isR_e (goes_told Try.checked.mixed (known_lca hw) 200 (T':=⟨[(4,(.v (.bool .true)))],[],1,[]⟩) (e:=.ret) (ps:=[IsR R.length (cRw R),grB (cRw R) R.length=true,true=true,true=true,true=true]) [.go,.go,.go,.go,.b true,.b true,.b true,.go,.b true,.go] (by kernel_rfl) (by kernel_rfl) ⟨⟨R,rfl,rfl⟩,hqla3_1,rfl,rfl,rfl,trivial⟩ rfl) (Hd.en_eq (r:=(.bool .true)) (by rfl) (Hd.en_ret (v:=(.v (.bool .true))) (by kernel_rfl) rfl))
 ·skip
  rcases Bool.eq_false_or_eq_true (ltI 10 ((L.length:Nat):Int)) with hqla3_2 | hqla3_2
  ·skip
   have ghqla3_2:=ltI_true hqla3_2
   exact goes_leafA isR_e (goes_told Try.checked.mixed (known_lca hw) 200 (T':=⟨[(4,(.v (.bool .true)))],[],1,[]⟩) (e:=.ret) (ps:=[IsR R.length (cRw R),grB (cRw R) R.length=false,false=false,false=false,ltI 10 ((L.length:Nat):Int)=true]) [.go,.go,.go,.go,.b false,.go,.b false,.go,.b false,.go,.go,.b true,.go] (by kernel_rfl) (by kernel_rfl) ⟨⟨R,rfl,rfl⟩,hqla3_1,rfl,rfl,hqla3_2,trivial⟩ rfl) (Hd.en_eq (r:=(.bool .true)) (by rfl) (Hd.en_ret (v:=(.v (.bool .true))) (by kernel_rfl) rfl))
  ·skip
   have ghqla3_2:=ltI_false hqla3_2
   exact goes_leafA isR_e (goes_told Try.checked.mixed (known_lca hw) 200 (T':=⟨[(4,(.v (.bool .true)))],[],1,[]⟩) (e:=.ret) (ps:=[IsR R.length (cRw R),grB (cRw R) R.length=false,false=false,false=false,ltI 10 ((L.length:Nat):Int)=false,FreeL (cRw R),FreeL (cI L),IsR R.length (cRw R),1=1∧cI L=cI (unI (cI L))∧L.length=(unI (cI L)).length,csE n (cRw R) R.length (cI L) L.length=0,(gotL (seeM (cRw R) R.length (padF (unI (cI L)))) (1 + 2 * n.toNat)).length=0,FreeL (cRw R),FreeL (cI L),IsR R.length (cRw R),1=1∧cI L=cI (unI (cI L))∧L.length=(unI (cI L)).length,csE n (cRw R) R.length (cI L) L.length=0,(gotL (seeM (cRw R) R.length (padF (unI (cI L)))) (1 + 2 * n.toNat)).length=0,true=true,true=true,true=true,eqI 0 0=true]) [.go,.go,.go,.go,.b false,.go,.b false,.go,.b false,.go,.go,.b false,.go,.go,.go,.go,.go,.go,.go,.go,.go,.go,.go,.go,.go,.go,.go,.go,.go,.b true,.go,.b true,.go,.b true,.go,.go,.go,.b true,.go,.go] (by kernel_rfl) (by kernel_rfl) ⟨⟨R,rfl,rfl⟩,hqla3_1,rfl,rfl,hqla3_2,(freeL_plainR R),(freeL_plain (cI_plain _)),⟨R,rfl,rfl⟩,⟨rfl,by rw [unI_cI],by rw [unI_cI]⟩,h0,(by rw [unI_cI]; exact h1),(freeL_plainR R),(freeL_plain (cI_plain _)),⟨R,rfl,rfl⟩,⟨rfl,by rw [unI_cI],by rw [unI_cI]⟩,h0,(by rw [unI_cI]; exact h1),rfl,rfl,rfl,rfl,trivial⟩ rfl) (Hd.en_eq (r:=(.bool .true)) (by rfl) (Hd.en_ret (v:=(.v (.bool .true))) (by kernel_rfl) rfl))
theorem cases_la (n:Int) (y z:Value) (R:List (Value×List Int)) (L:List Int) (hw:Known Try.prog (clsO wkC)) (h0:csE n (cRw R) R.length (cI L) L.length=0) (h1:(gotL (seeM (cRw R) R.length (padF L)) (1 + 2 * n.toNat)).length=0):GivesA Try.prog 4 [(.agg [.v (.int .i64 n),.xl y R.length 1 (cRw R)]),(.xl z L.length 1 (cI L))] (.bool true) :=
 givesA_partsH 40 Try.func4 (by kernel_rfl) (by kernel_rfl) (by kernel_rfl) (fun w=>goes_less (by kernel_rfl) (by kernel_rfl) (by kernel_rfl) (by kernel_rfl) (la_2 n y z R L hw h0 h1 w []))
noncomputable def lbK1:Code:=bodyC Try.f4
theorem lb_2 (n:Int) (y z:Value) (R:List (Value×List Int)) (L:List Int) (hw:Known Try.prog (clsO wkC)) (h0:csE n (cRw R) R.length (cI L) L.length=0) (h1:0 < (gotL (seeM (cRw R) R.length (padF L)) (1 + 2 * n.toNat)).length) (w:World) (hs:List Nat):Goes Try.prog 40 lbK1 (⟨[(0,(.agg [.v (.int .i64 n),.xl y R.length 1 (cRw R)])),(1,(.xl z L.length 1 (cI L)))],[],0,[]⟩) (BaseW.H w hs) (OutH Try.prog Try.f4 40 (.bool true) w):=by
 have hcl_L:=cI_len L
 rcases Bool.eq_false_or_eq_true (grB (cRw R) R.length) with hqlb3_1 | hqlb3_1
 ·skip
  exact goes_leafA isR_e (goes_told Try.checked.mixed (known_lcb hw) 200 (T':=⟨[(4,(.v (.bool .true)))],[],1,[]⟩) (e:=.ret) (ps:=[IsR R.length (cRw R),grB (cRw R) R.length=true,true=true,true=true,true=true]) [.go,.go,.go,.go,.b true,.b true,.b true,.go,.b true,.go] (by kernel_rfl) (by kernel_rfl) ⟨⟨R,rfl,rfl⟩,hqlb3_1,rfl,rfl,rfl,trivial⟩ rfl) (Hd.en_eq (r:=(.bool .true)) (by rfl) (Hd.en_ret (v:=(.v (.bool .true))) (by kernel_rfl) rfl))
 ·skip
  rcases Bool.eq_false_or_eq_true (ltI 10 ((L.length:Nat):Int)) with hqlb3_2 | hqlb3_2
  ·skip
   have ghqlb3_2:=ltI_true hqlb3_2
   exact goes_leafA isR_e (goes_told Try.checked.mixed (known_lcb hw) 200 (T':=⟨[(4,(.v (.bool .true)))],[],1,[]⟩) (e:=.ret) (ps:=[IsR R.length (cRw R),grB (cRw R) R.length=false,false=false,false=false,ltI 10 ((L.length:Nat):Int)=true]) [.go,.go,.go,.go,.b false,.go,.b false,.go,.b false,.go,.go,.b true,.go] (by kernel_rfl) (by kernel_rfl) ⟨⟨R,rfl,rfl⟩,hqlb3_1,rfl,rfl,hqlb3_2,trivial⟩ rfl) (Hd.en_eq (r:=(.bool .true)) (by rfl) (Hd.en_ret (v:=(.v (.bool .true))) (by kernel_rfl) rfl))
  ·skip
   have ghqlb3_2:=ltI_false hqlb3_2
   exact goes_leafA isR_e (goes_told Try.checked.mixed (known_lcb hw) 200 (T':=⟨[(4,(.v (.bool .true)))],[],3,[]⟩) (e:=.ret) (ps:=[IsR R.length (cRw R),grB (cRw R) R.length=false,false=false,false=false,ltI 10 ((L.length:Nat):Int)=false,FreeL (cRw R),FreeL (cI L),IsR R.length (cRw R),1=1∧cI L=cI (unI (cI L))∧L.length=(unI (cI L)).length,csE n (cRw R) R.length (cI L) L.length=0,0 < (gotL (seeM (cRw R) R.length (padF (unI (cI L)))) (1 + 2 * n.toNat)).length,FreeL (cRw R),FreeL (cI L),IsR R.length (cRw R),1=1∧cI L=cI (unI (cI L))∧L.length=(unI (cI L)).length,csE n (cRw R) R.length (cI L) L.length=0,0 < (gotL (seeM (cRw R) R.length (padF (unI (cI L)))) (1 + 2 * n.toNat)).length,(gotL (seeM (cRw R) R.length (padF (unI (cI L)))) (1 + 2 * n.toNat)).length=(gotL (seeM (cRw R) R.length (padF (unI (cI L)))) (1 + 2 * n.toNat)).length∧cR (gotL (seeM (cRw R) R.length (padF (unI (cI L)))) (1 + 2 * n.toNat))=cR (gotL (seeM (cRw R) R.length (padF (unI (cI L)))) (1 + 2 * n.toNat))∧26=26∧26=26,cR (gotL (seeM (cRw R) R.length (padF (unI (cI L)))) (1 + 2 * n.toNat))=cR (unR (cR (gotL (seeM (cRw R) R.length (padF (unI (cI L)))) (1 + 2 * n.toNat))))∧(gotL (seeM (cRw R) R.length (padF (unI (cI L)))) (1 + 2 * n.toNat)).length=(unR (cR (gotL (seeM (cRw R) R.length (padF (unI (cI L)))) (1 + 2 * n.toNat)))).length,(gotL (seeM (cRw R) R.length (padF (unI (cI L)))) (1 + 2 * n.toNat)).length≤1000,true=true,true=true,true=true,eqI 0 0=true]) [.go,.go,.go,.go,.b false,.go,.b false,.go,.b false,.go,.go,.b false,.go,.go,.go,.go,.go,.go,.go,.go,.go,.go,.go,.go,.go,.go,.go,.go,.go,.b true,.go,.b true,.go,.b true,.go,.go,.go,.b true,.go,.go] (by kernel_rfl) (by kernel_rfl) ⟨⟨R,rfl,rfl⟩,hqlb3_1,rfl,rfl,hqlb3_2,(freeL_plainR R),(freeL_plain (cI_plain _)),⟨R,rfl,rfl⟩,⟨rfl,by rw [unI_cI],by rw [unI_cI]⟩,h0,(by rw [unI_cI]; exact h1),(freeL_plainR R),(freeL_plain (cI_plain _)),⟨R,rfl,rfl⟩,⟨rfl,by rw [unI_cI],by rw [unI_cI]⟩,h0,(by rw [unI_cI]; exact h1),⟨rfl,rfl,rfl,rfl⟩,⟨by rw [unR_cR],by rw [unR_cR]⟩,(by have h9:=got_le (seeM (cRw R) R.length (padF L)) (1 + 2 * n.toNat); have h8:=(plE_zero (csE_zero h0).1).2.1; first | omega | (rw [unI_cI]; omega)),rfl,rfl,rfl,rfl,trivial⟩ rfl) (Hd.en_eq (r:=(.bool .true)) (by rfl) (Hd.en_ret (v:=(.v (.bool .true))) (by kernel_rfl) rfl))
theorem cases_lb (n:Int) (y z:Value) (R:List (Value×List Int)) (L:List Int) (hw:Known Try.prog (clsO wkC)) (h0:csE n (cRw R) R.length (cI L) L.length=0) (h1:0 < (gotL (seeM (cRw R) R.length (padF L)) (1 + 2 * n.toNat)).length):GivesA Try.prog 4 [(.agg [.v (.int .i64 n),.xl y R.length 1 (cRw R)]),(.xl z L.length 1 (cI L))] (.bool true) :=
 givesA_partsH 40 Try.func4 (by kernel_rfl) (by kernel_rfl) (by kernel_rfl) (fun w=>goes_less (by kernel_rfl) (by kernel_rfl) (by kernel_rfl) (by kernel_rfl) (lb_2 n y z R L hw h0 h1 w []))
theorem cases_law (hw:Known Try.prog (clsO wkC)) (n:Int) (y z:Value) (R:List (Value×List Int)) (L:List Int):GivesA Try.prog 4 [.agg [.v (.int .i64 n),.xl y R.length 1 (cRw R)],.xl z L.length 1 (cI L)] (.bool true):=by
 by_cases h0:csE n (cRw R) R.length (cI L) L.length=0
 ·rcases Nat.eq_zero_or_pos (gotL (seeM (cRw R) R.length (padF L)) (1 + 2 * n.toNat)).length with h1 | h1
  ·exact cases_la n y z R L hw h0 h1
  ·exact cases_lb n y z R L hw h0 h1
 ·exact cases_lx n y z R L hw h0
end
end Go.Proofs.Ytmankoikpadkpaa
