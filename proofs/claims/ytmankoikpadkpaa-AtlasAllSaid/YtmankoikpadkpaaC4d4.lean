import Derived.Test.YtmankoikpadkpaaC4a
set_option maxHeartbeats 2000000
set_option linter.all false
namespace Go.Proofs.Ytmankoikpadkpaa
open Go Ev
noncomputable section
section
variable (R : List (Value × List Int)) (a0 a1 a2 a3 : Int) (p : Nat) (y z : Value)
@[reducible] def qC4d4_1:Ev.Lit:=⟨[(0,(.agg [.v (.int .i64 ((p:Nat):Int)),.xl y 4 1 (cRw R)])),(1,(.xl z 4 1 [.v (.int .i64 a0),.v (.int .i64 a1),.v (.int .i64 a2),.v (.int .i64 a3)]))],[],0,[]⟩
@[reducible] def qC4d4_2:Ev.Lit:=⟨[(0,(.agg [.v (.int .i64 ((p:Nat):Int)),.xl y 3 1 (cRw R)])),(1,(.xl z 3 1 [.v (.int .i64 a0),.v (.int .i64 a1),.v (.int .i64 a2)]))],[],0,[]⟩
@[reducible] def qC4d4_3:Ev.Lit:=⟨[(0,(.agg [.v (.int .i64 ((p:Nat):Int)),.xl y 2 1 (cRw R)])),(1,(.xl z 2 1 [.v (.int .i64 a0),.v (.int .i64 a1)]))],[],0,[]⟩
@[reducible] def qC4d4_10:Nat×Ev.AV:=(5,(.v (.int .i64 (.ofNat 0))))
@[reducible] def qC4d4_4:Ev.Lit:=⟨[(4,(.v (Value.slice none 0 0))),qC4d4_10],[],0,[]⟩
@[reducible] def qC4d4_5:Ev.AB:=(.row (cR (gotL (seeM (cRw R) 4 (padF [a0,a1,a2,a3])) (1 + 2 * p))) 26 2)
@[reducible] def qC4d4_6:Ev.AB:=(.row (cR (gotL (seeM (cRw R) 3 (padF [a0,a1,a2,0])) (1 + 2 * p))) 26 2)
@[reducible] def qC4d4_7:Ev.AB:=(.row (cR (gotL (seeM (cRw R) 2 (padF [a0,a1,0,0])) (1 + 2 * p))) 26 2)
@[reducible] def qC4d4_8:Ev.AB:=(.row (cR (gotL (seeM (cRw R) 1 (padF [a0,0,0,0])) (1 + 2 * p))) 26 2)
@[reducible] def qC4d4_9:Ev.AB:=(.row (cR (gotL (seeM (cRw R) 0 (padF [0,0,0,0])) (1 + 2 * p))) 26 2)
end
noncomputable def oa1K1:Code:=bodyC Try.f21
theorem oa1_2 (y:Value) (R:List (Value×List Int)) (z:Value) (p:Nat) (a0:Int) (hR:1=R.length) (hE:plE ((p:Nat):Int) (cRw R) 1=0) (hS:okS [.v (.int .i64 a0)] 1=true) (h0:(gotL (seeM (cRw R) 1 (padF [a0,0,0,0])) (1 + 2 * p)).length=0) (v:BaseW) (eb:Nat→Option Nat) (ec:Nat→Nat) (hs:List Nat):Goes Try.prog 29 oa1K1 (⟨[(0,(.agg [.v (.int .i64 ((p:Nat):Int)),.xl y 1 1 (cRw R)])),(1,(.xl z 1 1 [.v (.int .i64 a0)]))],[],0,[]⟩) (BaseW.H (bw v 0 eb ec) hs) (OutM Try.prog Try.f21 29 ((.tup [.v (.slice none 0 0),.v (.int .i64 0)])) [] (bw v 0 eb ec)):=by
 rcases Bool.eq_false_or_eq_true (eqI (plE (((p:Nat):Int)) (cRw R) 1) 0) with hqoa13_1 | hqoa13_1
 ·skip
  have ghqoa13_1:=eqI_true hqoa13_1
  rcases Bool.eq_false_or_eq_true (okS [AV.v (Value.int IntKind.i64 a0)] 1) with hqoa13_2 | hqoa13_2
  ·skip
   exact goes_leafA isR_e (goes_cut Try.checked.mixed (known_oca) 200 (T':=qC4d4_4) (e:=.ret) (m:=3) (ps:=[IsR 1 (cRw R),(!eqI (plE (((p:Nat):Int)) (cRw R) 1) 0)=false,(!eqI ((1:Nat):Int) ((1:Nat):Int))=false,IsI (0 + 1) 1 [AV.v (Value.int IntKind.i64 a0)],(1:Nat)≤1000,(!okS [AV.v (Value.int IntKind.i64 a0)] 1)=false,IsR 1 (cRw R),plE (((p:Nat):Int)) (cRw R) 1=0,FreeL (cRw R),p=p∧61=61∧cI (tabL (pgF (cRw R) 1 0) (p * 4))=cI (tabL (pgF (cRw R) 1 0) (p * 4)),IsR 1 (cRw R),((p:Nat):Int)=((p:Nat):Int)∧plE (((p:Nat):Int)) (cRw R) 1=0,(gotL (seeM (cRw R) 1 (padF [a0,0,0,0])) (1 + 2 * p)).length=0]) [.go,.go,.go,.go,.go,.go,.go,.b false,.go,.go,.go,.go,.go,.go,.b false,.go,.go,.b false,.go,.go,.go,.go,.go,.go,.go,.go] (by kernel_rfl) (by kernel_rfl) ⟨⟨R,rfl,hR⟩,(by rw [hqoa13_1]; rfl),rfl,⟨rfl,[a0],rfl,rfl⟩,(by decide),(by rw [hqoa13_2]; rfl),⟨R,rfl,hR⟩,hE,(freeL_plainR R),⟨rfl,rfl,rfl⟩,⟨R,rfl,hR⟩,⟨rfl,hE⟩,h0,trivial⟩ rfl (by show 0≤3; decide) ⟨⟨nb_v _,nb_v _,trivial⟩,trivial,rfl⟩ (by show 0≤0; decide)) (en_eqM (r:=(.tup [(.v (Value.slice none 0 0)),(.v (.int .i64 (.ofNat 0)))])) (ys:=[]) (by rfl) (by rfl) (en_retM (by kernel_rfl) (by kernel_rfl) rfl (.inr rfl)))
  ·skip
   have h9:=hqoa13_2
   rw [hS] at h9
   cases h9
 ·skip
  have ghqoa13_1:=eqI_false hqoa13_1
  exact absurd hE (eqI_false hqoa13_1)
theorem Cases_a1 (y:Value) (R:List (Value×List Int)) (z:Value) (p:Nat) (a0:Int) (hR:1=R.length) (hE:plE ((p:Nat):Int) (cRw R) 1=0) (hS:okS [.v (.int .i64 a0)] 1=true) (h0:(gotL (seeM (cRw R) 1 (padF [a0,0,0,0])) (1 + 2 * p)).length=0):GivesM Try.prog 21 [(.agg [.v (.int .i64 ((p:Nat):Int)),.xl y 1 1 (cRw R)]),(.xl z 1 1 [.v (.int .i64 a0)])] [] ((.tup [.v (.slice none 0 0),.v (.int .i64 0)])) [] :=
 givesM_parts 29 (by kernel_rfl) Try.func21 (by kernel_rfl) (by kernel_rfl) (by kernel_rfl) (fun v eb ec=>goes_less (by kernel_rfl) (by kernel_rfl) (by kernel_rfl) (by kernel_rfl) (oa1_2 y R z p a0 hR hE hS h0 v eb ec []))
noncomputable def oa2K1:Code:=bodyC Try.f21
theorem oa2_2 (y:Value) (R:List (Value×List Int)) (z:Value) (p:Nat) (a0 a1:Int) (hR:2=R.length) (hE:plE ((p:Nat):Int) (cRw R) 2=0) (hS:okS [.v (.int .i64 a0),.v (.int .i64 a1)] 2=true) (h0:(gotL (seeM (cRw R) 2 (padF [a0,a1,0,0])) (1 + 2 * p)).length=0) (v:BaseW) (eb:Nat→Option Nat) (ec:Nat→Nat) (hs:List Nat):Goes Try.prog 29 oa2K1 ((qC4d4_3 R a0 a1 p y z)) (BaseW.H (bw v 0 eb ec) hs) (OutM Try.prog Try.f21 29 ((.tup [.v (.slice none 0 0),.v (.int .i64 0)])) [] (bw v 0 eb ec)):=by
 rcases Bool.eq_false_or_eq_true (eqI (plE (((p:Nat):Int)) (cRw R) 2) 0) with hqoa23_1 | hqoa23_1
 ·skip
  have ghqoa23_1:=eqI_true hqoa23_1
  rcases Bool.eq_false_or_eq_true (okS [AV.v (Value.int IntKind.i64 a0),AV.v (Value.int IntKind.i64 a1)] 2) with hqoa23_2 | hqoa23_2
  ·skip
   exact goes_leafA isR_e (goes_cut Try.checked.mixed (known_oca) 200 (T':=qC4d4_4) (e:=.ret) (m:=3) (ps:=[IsR 2 (cRw R),(!eqI (plE (((p:Nat):Int)) (cRw R) 2) 0)=false,(!eqI ((2:Nat):Int) ((2:Nat):Int))=false,IsI (0 + 1) 2 [AV.v (Value.int IntKind.i64 a0),AV.v (Value.int IntKind.i64 a1)],(2:Nat)≤1000,(!okS [AV.v (Value.int IntKind.i64 a0),AV.v (Value.int IntKind.i64 a1)] 2)=false,IsR 2 (cRw R),plE (((p:Nat):Int)) (cRw R) 2=0,FreeL (cRw R),p=p∧61=61∧cI (tabL (pgF (cRw R) 2 0) (p * 4))=cI (tabL (pgF (cRw R) 2 0) (p * 4)),IsR 2 (cRw R),((p:Nat):Int)=((p:Nat):Int)∧plE (((p:Nat):Int)) (cRw R) 2=0,(gotL (seeM (cRw R) 2 (padF [a0,a1,0,0])) (1 + 2 * p)).length=0]) [.go,.go,.go,.go,.go,.go,.go,.b false,.go,.go,.go,.go,.go,.go,.b false,.go,.go,.b false,.go,.go,.go,.go,.go,.go,.go,.go] (by kernel_rfl) (by kernel_rfl) ⟨⟨R,rfl,hR⟩,(by rw [hqoa23_1]; rfl),rfl,⟨rfl,[a0,a1],rfl,rfl⟩,(by decide),(by rw [hqoa23_2]; rfl),⟨R,rfl,hR⟩,hE,(freeL_plainR R),⟨rfl,rfl,rfl⟩,⟨R,rfl,hR⟩,⟨rfl,hE⟩,h0,trivial⟩ rfl (by show 0≤3; decide) ⟨⟨nb_v _,nb_v _,trivial⟩,trivial,rfl⟩ (by show 0≤0; decide)) (en_eqM (r:=(.tup [(.v (Value.slice none 0 0)),(.v (.int .i64 (.ofNat 0)))])) (ys:=[]) (by rfl) (by rfl) (en_retM (by kernel_rfl) (by kernel_rfl) rfl (.inr rfl)))
  ·skip
   have h9:=hqoa23_2
   rw [hS] at h9
   cases h9
 ·skip
  have ghqoa23_1:=eqI_false hqoa23_1
  exact absurd hE (eqI_false hqoa23_1)
theorem Cases_a2 (y:Value) (R:List (Value×List Int)) (z:Value) (p:Nat) (a0 a1:Int) (hR:2=R.length) (hE:plE ((p:Nat):Int) (cRw R) 2=0) (hS:okS [.v (.int .i64 a0),.v (.int .i64 a1)] 2=true) (h0:(gotL (seeM (cRw R) 2 (padF [a0,a1,0,0])) (1 + 2 * p)).length=0):GivesM Try.prog 21 [(.agg [.v (.int .i64 ((p:Nat):Int)),.xl y 2 1 (cRw R)]),(.xl z 2 1 [.v (.int .i64 a0),.v (.int .i64 a1)])] [] ((.tup [.v (.slice none 0 0),.v (.int .i64 0)])) [] :=
 givesM_parts 29 (by kernel_rfl) Try.func21 (by kernel_rfl) (by kernel_rfl) (by kernel_rfl) (fun v eb ec=>goes_less (by kernel_rfl) (by kernel_rfl) (by kernel_rfl) (by kernel_rfl) (oa2_2 y R z p a0 a1 hR hE hS h0 v eb ec []))
noncomputable def oa3K1:Code:=bodyC Try.f21
theorem oa3_2 (y:Value) (R:List (Value×List Int)) (z:Value) (p:Nat) (a0 a1 a2:Int) (hR:3=R.length) (hE:plE ((p:Nat):Int) (cRw R) 3=0) (hS:okS [.v (.int .i64 a0),.v (.int .i64 a1),.v (.int .i64 a2)] 3=true) (h0:(gotL (seeM (cRw R) 3 (padF [a0,a1,a2,0])) (1 + 2 * p)).length=0) (v:BaseW) (eb:Nat→Option Nat) (ec:Nat→Nat) (hs:List Nat):Goes Try.prog 29 oa3K1 ((qC4d4_2 R a0 a1 a2 p y z)) (BaseW.H (bw v 0 eb ec) hs) (OutM Try.prog Try.f21 29 ((.tup [.v (.slice none 0 0),.v (.int .i64 0)])) [] (bw v 0 eb ec)):=by
 rcases Bool.eq_false_or_eq_true (eqI (plE (((p:Nat):Int)) (cRw R) 3) 0) with hqoa33_1 | hqoa33_1
 ·skip
  have ghqoa33_1:=eqI_true hqoa33_1
  rcases Bool.eq_false_or_eq_true (okS [AV.v (Value.int IntKind.i64 a0),AV.v (Value.int IntKind.i64 a1),AV.v (Value.int IntKind.i64 a2)] 3) with hqoa33_2 | hqoa33_2
  ·skip
   exact goes_leafA isR_e (goes_cut Try.checked.mixed (known_oca) 200 (T':=qC4d4_4) (e:=.ret) (m:=3) (ps:=[IsR 3 (cRw R),(!eqI (plE (((p:Nat):Int)) (cRw R) 3) 0)=false,(!eqI ((3:Nat):Int) ((3:Nat):Int))=false,IsI (0 + 1) 3 [AV.v (Value.int IntKind.i64 a0),AV.v (Value.int IntKind.i64 a1),AV.v (Value.int IntKind.i64 a2)],(3:Nat)≤1000,(!okS [AV.v (Value.int IntKind.i64 a0),AV.v (Value.int IntKind.i64 a1),AV.v (Value.int IntKind.i64 a2)] 3)=false,IsR 3 (cRw R),plE (((p:Nat):Int)) (cRw R) 3=0,FreeL (cRw R),p=p∧61=61∧cI (tabL (pgF (cRw R) 3 0) (p * 4))=cI (tabL (pgF (cRw R) 3 0) (p * 4)),IsR 3 (cRw R),((p:Nat):Int)=((p:Nat):Int)∧plE (((p:Nat):Int)) (cRw R) 3=0,(gotL (seeM (cRw R) 3 (padF [a0,a1,a2,0])) (1 + 2 * p)).length=0]) [.go,.go,.go,.go,.go,.go,.go,.b false,.go,.go,.go,.go,.go,.go,.b false,.go,.go,.b false,.go,.go,.go,.go,.go,.go,.go,.go] (by kernel_rfl) (by kernel_rfl) ⟨⟨R,rfl,hR⟩,(by rw [hqoa33_1]; rfl),rfl,⟨rfl,[a0,a1,a2],rfl,rfl⟩,(by decide),(by rw [hqoa33_2]; rfl),⟨R,rfl,hR⟩,hE,(freeL_plainR R),⟨rfl,rfl,rfl⟩,⟨R,rfl,hR⟩,⟨rfl,hE⟩,h0,trivial⟩ rfl (by show 0≤3; decide) ⟨⟨nb_v _,nb_v _,trivial⟩,trivial,rfl⟩ (by show 0≤0; decide)) (en_eqM (r:=(.tup [(.v (Value.slice none 0 0)),(.v (.int .i64 (.ofNat 0)))])) (ys:=[]) (by rfl) (by rfl) (en_retM (by kernel_rfl) (by kernel_rfl) rfl (.inr rfl)))
  ·skip
   have h9:=hqoa33_2
   rw [hS] at h9
   cases h9
 ·skip
  have ghqoa33_1:=eqI_false hqoa33_1
  exact absurd hE (eqI_false hqoa33_1)
theorem Cases_a3 (y:Value) (R:List (Value×List Int)) (z:Value) (p:Nat) (a0 a1 a2:Int) (hR:3=R.length) (hE:plE ((p:Nat):Int) (cRw R) 3=0) (hS:okS [.v (.int .i64 a0),.v (.int .i64 a1),.v (.int .i64 a2)] 3=true) (h0:(gotL (seeM (cRw R) 3 (padF [a0,a1,a2,0])) (1 + 2 * p)).length=0):GivesM Try.prog 21 [(.agg [.v (.int .i64 ((p:Nat):Int)),.xl y 3 1 (cRw R)]),(.xl z 3 1 [.v (.int .i64 a0),.v (.int .i64 a1),.v (.int .i64 a2)])] [] ((.tup [.v (.slice none 0 0),.v (.int .i64 0)])) [] :=
 givesM_parts 29 (by kernel_rfl) Try.func21 (by kernel_rfl) (by kernel_rfl) (by kernel_rfl) (fun v eb ec=>goes_less (by kernel_rfl) (by kernel_rfl) (by kernel_rfl) (by kernel_rfl) (oa3_2 y R z p a0 a1 a2 hR hE hS h0 v eb ec []))
noncomputable def oa4K1:Code:=bodyC Try.f21
theorem oa4_2 (y:Value) (R:List (Value×List Int)) (z:Value) (p:Nat) (a0 a1 a2 a3:Int) (hR:4=R.length) (hE:plE ((p:Nat):Int) (cRw R) 4=0) (hS:okS [.v (.int .i64 a0),.v (.int .i64 a1),.v (.int .i64 a2),.v (.int .i64 a3)] 4=true) (h0:(gotL (seeM (cRw R) 4 (padF [a0,a1,a2,a3])) (1 + 2 * p)).length=0) (v:BaseW) (eb:Nat→Option Nat) (ec:Nat→Nat) (hs:List Nat):Goes Try.prog 29 oa4K1 ((qC4d4_1 R a0 a1 a2 a3 p y z)) (BaseW.H (bw v 0 eb ec) hs) (OutM Try.prog Try.f21 29 ((.tup [.v (.slice none 0 0),.v (.int .i64 0)])) [] (bw v 0 eb ec)):=by
 rcases Bool.eq_false_or_eq_true (eqI (plE (((p:Nat):Int)) (cRw R) 4) 0) with hqoa43_1 | hqoa43_1
 ·skip
  have ghqoa43_1:=eqI_true hqoa43_1
  rcases Bool.eq_false_or_eq_true (okS [AV.v (Value.int IntKind.i64 a0),AV.v (Value.int IntKind.i64 a1),AV.v (Value.int IntKind.i64 a2),AV.v (Value.int IntKind.i64 a3)] 4) with hqoa43_2 | hqoa43_2
  ·skip
   exact goes_leafA isR_e (goes_cut Try.checked.mixed (known_oca) 200 (T':=qC4d4_4) (e:=.ret) (m:=3) (ps:=[IsR 4 (cRw R),(!eqI (plE (((p:Nat):Int)) (cRw R) 4) 0)=false,(!eqI ((4:Nat):Int) ((4:Nat):Int))=false,IsI (0 + 1) 4 [AV.v (Value.int IntKind.i64 a0),AV.v (Value.int IntKind.i64 a1),AV.v (Value.int IntKind.i64 a2),AV.v (Value.int IntKind.i64 a3)],(4:Nat)≤1000,(!okS [AV.v (Value.int IntKind.i64 a0),AV.v (Value.int IntKind.i64 a1),AV.v (Value.int IntKind.i64 a2),AV.v (Value.int IntKind.i64 a3)] 4)=false,IsR 4 (cRw R),plE (((p:Nat):Int)) (cRw R) 4=0,FreeL (cRw R),p=p∧61=61∧cI (tabL (pgF (cRw R) 4 0) (p * 4))=cI (tabL (pgF (cRw R) 4 0) (p * 4)),IsR 4 (cRw R),((p:Nat):Int)=((p:Nat):Int)∧plE (((p:Nat):Int)) (cRw R) 4=0,(gotL (seeM (cRw R) 4 (padF [a0,a1,a2,a3])) (1 + 2 * p)).length=0]) [.go,.go,.go,.go,.go,.go,.go,.b false,.go,.go,.go,.go,.go,.go,.b false,.go,.go,.b false,.go,.go,.go,.go,.go,.go,.go,.go] (by kernel_rfl) (by kernel_rfl) ⟨⟨R,rfl,hR⟩,(by rw [hqoa43_1]; rfl),rfl,⟨rfl,[a0,a1,a2,a3],rfl,rfl⟩,(by decide),(by rw [hqoa43_2]; rfl),⟨R,rfl,hR⟩,hE,(freeL_plainR R),⟨rfl,rfl,rfl⟩,⟨R,rfl,hR⟩,⟨rfl,hE⟩,h0,trivial⟩ rfl (by show 0≤3; decide) ⟨⟨nb_v _,nb_v _,trivial⟩,trivial,rfl⟩ (by show 0≤0; decide)) (en_eqM (r:=(.tup [(.v (Value.slice none 0 0)),(.v (.int .i64 (.ofNat 0)))])) (ys:=[]) (by rfl) (by rfl) (en_retM (by kernel_rfl) (by kernel_rfl) rfl (.inr rfl)))
  ·skip
   have h9:=hqoa43_2
   rw [hS] at h9
   cases h9
 ·skip
  have ghqoa43_1:=eqI_false hqoa43_1
  exact absurd hE (eqI_false hqoa43_1)
theorem Cases_a4 (y:Value) (R:List (Value×List Int)) (z:Value) (p:Nat) (a0 a1 a2 a3:Int) (hR:4=R.length) (hE:plE ((p:Nat):Int) (cRw R) 4=0) (hS:okS [.v (.int .i64 a0),.v (.int .i64 a1),.v (.int .i64 a2),.v (.int .i64 a3)] 4=true) (h0:(gotL (seeM (cRw R) 4 (padF [a0,a1,a2,a3])) (1 + 2 * p)).length=0):GivesM Try.prog 21 [(.agg [.v (.int .i64 ((p:Nat):Int)),.xl y 4 1 (cRw R)]),(.xl z 4 1 [.v (.int .i64 a0),.v (.int .i64 a1),.v (.int .i64 a2),.v (.int .i64 a3)])] [] ((.tup [.v (.slice none 0 0),.v (.int .i64 0)])) [] :=
 givesM_parts 29 (by kernel_rfl) Try.func21 (by kernel_rfl) (by kernel_rfl) (by kernel_rfl) (fun v eb ec=>goes_less (by kernel_rfl) (by kernel_rfl) (by kernel_rfl) (by kernel_rfl) (oa4_2 y R z p a0 a1 a2 a3 hR hE hS h0 v eb ec []))
noncomputable def ob0K1:Code:=bodyC Try.f21
theorem ob0_2 (y:Value) (R:List (Value×List Int)) (z:Value) (p:Nat) (hR:0=R.length) (hE:plE ((p:Nat):Int) (cRw R) 0=0) (hS:okS [] 0=true) (h0:0 < (gotL (seeM (cRw R) 0 (padF [0,0,0,0])) (1 + 2 * p)).length) (v:BaseW) (eb:Nat→Option Nat) (ec:Nat→Nat) (hs:List Nat):Goes Try.prog 29 ob0K1 (⟨[(0,(.agg [.v (.int .i64 ((p:Nat):Int)),.xl y 0 1 (cRw R)])),(1,(.xl z 0 1 []))],[],0,[]⟩) (BaseW.H (bw v 0 eb ec) hs) (OutM Try.prog Try.f21 29 ((.tup [.slu 0 0 (gotL (seeM (cRw R) 0 (padF [0,0,0,0])) (1 + 2 * p)).length 0,.v (.int .i64 0)])) [(qC4d4_9 R p)] (bw v 0 eb ec)):=by
 rcases Bool.eq_false_or_eq_true (eqI (plE (((p:Nat):Int)) (cRw R) 0) 0) with hqob03_1 | hqob03_1
 ·skip
  have ghqob03_1:=eqI_true hqob03_1
  exact goes_leafA isR_e (goes_cutR Try.checked.mixed (known_ocb) 200 (T':=⟨[(4,(.slu 0 0 ((gotL (seeM (cRw R) 0 (padF [0,0,0,0])) (1 + 2 * p)).length) 0)),qC4d4_10],[],1,[(0,(qC4d4_9 R p))]⟩) (e:=.ret) (m:=4) (ps:=[IsR 0 (cRw R),(!eqI (plE (((p:Nat):Int)) (cRw R) 0) 0)=false,(!eqI ((0:Nat):Int) ((0:Nat):Int))=false,IsI (0 + 1) 0 [],(0:Nat)≤1000,(!okS [] 0)=false,IsR 0 (cRw R),plE (((p:Nat):Int)) (cRw R) 0=0,FreeL (cRw R),p=p∧61=61∧cI (tabL (pgF (cRw R) 0 0) (p * 4))=cI (tabL (pgF (cRw R) 0 0) (p * 4)),IsR 0 (cRw R),((p:Nat):Int)=((p:Nat):Int)∧plE (((p:Nat):Int)) (cRw R) 0=0,0 < (gotL (seeM (cRw R) 0 (padF [0,0,0,0])) (1 + 2 * p)).length]) [.go,.go,.go,.go,.go,.go,.go,.b false,.go,.go,.go,.go,.go,.go,.b false,.go,.go,.b false,.go,.go,.go,.go,.go,.go,.go,.go] [3] [(.slu 3 0 ((gotL (seeM (cRw R) 0 (padF [0,0,0,0])) (1 + 2 * p)).length) 0),(.v (.int .i64 (.ofNat 0)))] [(qC4d4_9 R p)] (by kernel_rfl) (by kernel_rfl) ⟨⟨R,rfl,hR⟩,(by rw [hqob03_1]; rfl),rfl,⟨rfl,[],rfl,rfl⟩,(by decide),(by rw [hS]; rfl),⟨R,rfl,hR⟩,hE,(freeL_plainR R),⟨rfl,rfl,rfl⟩,⟨R,rfl,hR⟩,⟨rfl,hE⟩,h0,trivial⟩ rfl rfl (by decide) rfl ⟨nr_slu rfl,nr_v _,trivial⟩ ⟨⟨by show 0 < 1; decide,nrb_row (nrl_plain (cR_plain _))⟩,trivial⟩) (en_eqM (r:=(.tup [(.slu 0 0 ((gotL (seeM (cRw R) 0 (padF [0,0,0,0])) (1 + 2 * p)).length) 0),(.v (.int .i64 (.ofNat 0)))])) (ys:=[(qC4d4_9 R p)]) (by rfl) (by rfl) (en_retM (by kernel_rfl) (by kernel_rfl) rfl (.inr rfl)))
 ·skip
  have ghqob03_1:=eqI_false hqob03_1
  exact absurd hE (eqI_false hqob03_1)
theorem Cases_b0 (y:Value) (R:List (Value×List Int)) (z:Value) (p:Nat) (hR:0=R.length) (hE:plE ((p:Nat):Int) (cRw R) 0=0) (hS:okS [] 0=true) (h0:0 < (gotL (seeM (cRw R) 0 (padF [0,0,0,0])) (1 + 2 * p)).length):GivesM Try.prog 21 [(.agg [.v (.int .i64 ((p:Nat):Int)),.xl y 0 1 (cRw R)]),(.xl z 0 1 [])] [] ((.tup [.slu 0 0 (gotL (seeM (cRw R) 0 (padF [0,0,0,0])) (1 + 2 * p)).length 0,.v (.int .i64 0)])) [(qC4d4_9 R p)] :=
 givesM_parts 29 (by kernel_rfl) Try.func21 (by kernel_rfl) (by kernel_rfl) (by kernel_rfl) (fun v eb ec=>goes_less (by kernel_rfl) (by kernel_rfl) (by kernel_rfl) (by kernel_rfl) (ob0_2 y R z p hR hE hS h0 v eb ec []))
noncomputable def ob1K1:Code:=bodyC Try.f21
theorem ob1_2 (y:Value) (R:List (Value×List Int)) (z:Value) (p:Nat) (a0:Int) (hR:1=R.length) (hE:plE ((p:Nat):Int) (cRw R) 1=0) (hS:okS [.v (.int .i64 a0)] 1=true) (h0:0 < (gotL (seeM (cRw R) 1 (padF [a0,0,0,0])) (1 + 2 * p)).length) (v:BaseW) (eb:Nat→Option Nat) (ec:Nat→Nat) (hs:List Nat):Goes Try.prog 29 ob1K1 (⟨[(0,(.agg [.v (.int .i64 ((p:Nat):Int)),.xl y 1 1 (cRw R)])),(1,(.xl z 1 1 [.v (.int .i64 a0)]))],[],0,[]⟩) (BaseW.H (bw v 0 eb ec) hs) (OutM Try.prog Try.f21 29 ((.tup [.slu 0 0 (gotL (seeM (cRw R) 1 (padF [a0,0,0,0])) (1 + 2 * p)).length 0,.v (.int .i64 0)])) [(qC4d4_8 R a0 p)] (bw v 0 eb ec)):=by
 rcases Bool.eq_false_or_eq_true (eqI (plE (((p:Nat):Int)) (cRw R) 1) 0) with hqob13_1 | hqob13_1
 ·skip
  have ghqob13_1:=eqI_true hqob13_1
  rcases Bool.eq_false_or_eq_true (okS [AV.v (Value.int IntKind.i64 a0)] 1) with hqob13_2 | hqob13_2
  ·skip
   exact goes_leafA isR_e (goes_cutR Try.checked.mixed (known_ocb) 200 (T':=⟨[(4,(.slu 0 0 ((gotL (seeM (cRw R) 1 (padF [a0,0,0,0])) (1 + 2 * p)).length) 0)),qC4d4_10],[],1,[(0,(qC4d4_8 R a0 p))]⟩) (e:=.ret) (m:=4) (ps:=[IsR 1 (cRw R),(!eqI (plE (((p:Nat):Int)) (cRw R) 1) 0)=false,(!eqI ((1:Nat):Int) ((1:Nat):Int))=false,IsI (0 + 1) 1 [AV.v (Value.int IntKind.i64 a0)],(1:Nat)≤1000,(!okS [AV.v (Value.int IntKind.i64 a0)] 1)=false,IsR 1 (cRw R),plE (((p:Nat):Int)) (cRw R) 1=0,FreeL (cRw R),p=p∧61=61∧cI (tabL (pgF (cRw R) 1 0) (p * 4))=cI (tabL (pgF (cRw R) 1 0) (p * 4)),IsR 1 (cRw R),((p:Nat):Int)=((p:Nat):Int)∧plE (((p:Nat):Int)) (cRw R) 1=0,0 < (gotL (seeM (cRw R) 1 (padF [a0,0,0,0])) (1 + 2 * p)).length]) [.go,.go,.go,.go,.go,.go,.go,.b false,.go,.go,.go,.go,.go,.go,.b false,.go,.go,.b false,.go,.go,.go,.go,.go,.go,.go,.go] [3] [(.slu 3 0 ((gotL (seeM (cRw R) 1 (padF [a0,0,0,0])) (1 + 2 * p)).length) 0),(.v (.int .i64 (.ofNat 0)))] [(qC4d4_8 R a0 p)] (by kernel_rfl) (by kernel_rfl) ⟨⟨R,rfl,hR⟩,(by rw [hqob13_1]; rfl),rfl,⟨rfl,[a0],rfl,rfl⟩,(by decide),(by rw [hqob13_2]; rfl),⟨R,rfl,hR⟩,hE,(freeL_plainR R),⟨rfl,rfl,rfl⟩,⟨R,rfl,hR⟩,⟨rfl,hE⟩,h0,trivial⟩ rfl rfl (by decide) rfl ⟨nr_slu rfl,nr_v _,trivial⟩ ⟨⟨by show 0 < 1; decide,nrb_row (nrl_plain (cR_plain _))⟩,trivial⟩) (en_eqM (r:=(.tup [(.slu 0 0 ((gotL (seeM (cRw R) 1 (padF [a0,0,0,0])) (1 + 2 * p)).length) 0),(.v (.int .i64 (.ofNat 0)))])) (ys:=[(qC4d4_8 R a0 p)]) (by rfl) (by rfl) (en_retM (by kernel_rfl) (by kernel_rfl) rfl (.inr rfl)))
  ·skip
   have h9:=hqob13_2
   rw [hS] at h9
   cases h9
 ·skip
  have ghqob13_1:=eqI_false hqob13_1
  exact absurd hE (eqI_false hqob13_1)
theorem Cases_b1 (y:Value) (R:List (Value×List Int)) (z:Value) (p:Nat) (a0:Int) (hR:1=R.length) (hE:plE ((p:Nat):Int) (cRw R) 1=0) (hS:okS [.v (.int .i64 a0)] 1=true) (h0:0 < (gotL (seeM (cRw R) 1 (padF [a0,0,0,0])) (1 + 2 * p)).length):GivesM Try.prog 21 [(.agg [.v (.int .i64 ((p:Nat):Int)),.xl y 1 1 (cRw R)]),(.xl z 1 1 [.v (.int .i64 a0)])] [] ((.tup [.slu 0 0 (gotL (seeM (cRw R) 1 (padF [a0,0,0,0])) (1 + 2 * p)).length 0,.v (.int .i64 0)])) [(qC4d4_8 R a0 p)] :=
 givesM_parts 29 (by kernel_rfl) Try.func21 (by kernel_rfl) (by kernel_rfl) (by kernel_rfl) (fun v eb ec=>goes_less (by kernel_rfl) (by kernel_rfl) (by kernel_rfl) (by kernel_rfl) (ob1_2 y R z p a0 hR hE hS h0 v eb ec []))
noncomputable def ob2K1:Code:=bodyC Try.f21
theorem ob2_2 (y:Value) (R:List (Value×List Int)) (z:Value) (p:Nat) (a0 a1:Int) (hR:2=R.length) (hE:plE ((p:Nat):Int) (cRw R) 2=0) (hS:okS [.v (.int .i64 a0),.v (.int .i64 a1)] 2=true) (h0:0 < (gotL (seeM (cRw R) 2 (padF [a0,a1,0,0])) (1 + 2 * p)).length) (v:BaseW) (eb:Nat→Option Nat) (ec:Nat→Nat) (hs:List Nat):Goes Try.prog 29 ob2K1 ((qC4d4_3 R a0 a1 p y z)) (BaseW.H (bw v 0 eb ec) hs) (OutM Try.prog Try.f21 29 ((.tup [.slu 0 0 (gotL (seeM (cRw R) 2 (padF [a0,a1,0,0])) (1 + 2 * p)).length 0,.v (.int .i64 0)])) [(qC4d4_7 R a0 a1 p)] (bw v 0 eb ec)):=by
 rcases Bool.eq_false_or_eq_true (eqI (plE (((p:Nat):Int)) (cRw R) 2) 0) with hqob23_1 | hqob23_1
 ·skip
  have ghqob23_1:=eqI_true hqob23_1
  rcases Bool.eq_false_or_eq_true (okS [AV.v (Value.int IntKind.i64 a0),AV.v (Value.int IntKind.i64 a1)] 2) with hqob23_2 | hqob23_2
  ·skip
   exact goes_leafA isR_e (goes_cutR Try.checked.mixed (known_ocb) 200 (T':=⟨[(4,(.slu 0 0 ((gotL (seeM (cRw R) 2 (padF [a0,a1,0,0])) (1 + 2 * p)).length) 0)),qC4d4_10],[],1,[(0,(qC4d4_7 R a0 a1 p))]⟩) (e:=.ret) (m:=4) (ps:=[IsR 2 (cRw R),(!eqI (plE (((p:Nat):Int)) (cRw R) 2) 0)=false,(!eqI ((2:Nat):Int) ((2:Nat):Int))=false,IsI (0 + 1) 2 [AV.v (Value.int IntKind.i64 a0),AV.v (Value.int IntKind.i64 a1)],(2:Nat)≤1000,(!okS [AV.v (Value.int IntKind.i64 a0),AV.v (Value.int IntKind.i64 a1)] 2)=false,IsR 2 (cRw R),plE (((p:Nat):Int)) (cRw R) 2=0,FreeL (cRw R),p=p∧61=61∧cI (tabL (pgF (cRw R) 2 0) (p * 4))=cI (tabL (pgF (cRw R) 2 0) (p * 4)),IsR 2 (cRw R),((p:Nat):Int)=((p:Nat):Int)∧plE (((p:Nat):Int)) (cRw R) 2=0,0 < (gotL (seeM (cRw R) 2 (padF [a0,a1,0,0])) (1 + 2 * p)).length]) [.go,.go,.go,.go,.go,.go,.go,.b false,.go,.go,.go,.go,.go,.go,.b false,.go,.go,.b false,.go,.go,.go,.go,.go,.go,.go,.go] [3] [(.slu 3 0 ((gotL (seeM (cRw R) 2 (padF [a0,a1,0,0])) (1 + 2 * p)).length) 0),(.v (.int .i64 (.ofNat 0)))] [(qC4d4_7 R a0 a1 p)] (by kernel_rfl) (by kernel_rfl) ⟨⟨R,rfl,hR⟩,(by rw [hqob23_1]; rfl),rfl,⟨rfl,[a0,a1],rfl,rfl⟩,(by decide),(by rw [hqob23_2]; rfl),⟨R,rfl,hR⟩,hE,(freeL_plainR R),⟨rfl,rfl,rfl⟩,⟨R,rfl,hR⟩,⟨rfl,hE⟩,h0,trivial⟩ rfl rfl (by decide) rfl ⟨nr_slu rfl,nr_v _,trivial⟩ ⟨⟨by show 0 < 1; decide,nrb_row (nrl_plain (cR_plain _))⟩,trivial⟩) (en_eqM (r:=(.tup [(.slu 0 0 ((gotL (seeM (cRw R) 2 (padF [a0,a1,0,0])) (1 + 2 * p)).length) 0),(.v (.int .i64 (.ofNat 0)))])) (ys:=[(qC4d4_7 R a0 a1 p)]) (by rfl) (by rfl) (en_retM (by kernel_rfl) (by kernel_rfl) rfl (.inr rfl)))
  ·skip
   have h9:=hqob23_2
   rw [hS] at h9
   cases h9
 ·skip
  have ghqob23_1:=eqI_false hqob23_1
  exact absurd hE (eqI_false hqob23_1)
theorem Cases_b2 (y:Value) (R:List (Value×List Int)) (z:Value) (p:Nat) (a0 a1:Int) (hR:2=R.length) (hE:plE ((p:Nat):Int) (cRw R) 2=0) (hS:okS [.v (.int .i64 a0),.v (.int .i64 a1)] 2=true) (h0:0 < (gotL (seeM (cRw R) 2 (padF [a0,a1,0,0])) (1 + 2 * p)).length):GivesM Try.prog 21 [(.agg [.v (.int .i64 ((p:Nat):Int)),.xl y 2 1 (cRw R)]),(.xl z 2 1 [.v (.int .i64 a0),.v (.int .i64 a1)])] [] ((.tup [.slu 0 0 (gotL (seeM (cRw R) 2 (padF [a0,a1,0,0])) (1 + 2 * p)).length 0,.v (.int .i64 0)])) [(qC4d4_7 R a0 a1 p)] :=
 givesM_parts 29 (by kernel_rfl) Try.func21 (by kernel_rfl) (by kernel_rfl) (by kernel_rfl) (fun v eb ec=>goes_less (by kernel_rfl) (by kernel_rfl) (by kernel_rfl) (by kernel_rfl) (ob2_2 y R z p a0 a1 hR hE hS h0 v eb ec []))
noncomputable def ob3K1:Code:=bodyC Try.f21
theorem ob3_2 (y:Value) (R:List (Value×List Int)) (z:Value) (p:Nat) (a0 a1 a2:Int) (hR:3=R.length) (hE:plE ((p:Nat):Int) (cRw R) 3=0) (hS:okS [.v (.int .i64 a0),.v (.int .i64 a1),.v (.int .i64 a2)] 3=true) (h0:0 < (gotL (seeM (cRw R) 3 (padF [a0,a1,a2,0])) (1 + 2 * p)).length) (v:BaseW) (eb:Nat→Option Nat) (ec:Nat→Nat) (hs:List Nat):Goes Try.prog 29 ob3K1 ((qC4d4_2 R a0 a1 a2 p y z)) (BaseW.H (bw v 0 eb ec) hs) (OutM Try.prog Try.f21 29 ((.tup [.slu 0 0 (gotL (seeM (cRw R) 3 (padF [a0,a1,a2,0])) (1 + 2 * p)).length 0,.v (.int .i64 0)])) [(qC4d4_6 R a0 a1 a2 p)] (bw v 0 eb ec)):=by
 rcases Bool.eq_false_or_eq_true (eqI (plE (((p:Nat):Int)) (cRw R) 3) 0) with hqob33_1 | hqob33_1
 ·skip
  have ghqob33_1:=eqI_true hqob33_1
  rcases Bool.eq_false_or_eq_true (okS [AV.v (Value.int IntKind.i64 a0),AV.v (Value.int IntKind.i64 a1),AV.v (Value.int IntKind.i64 a2)] 3) with hqob33_2 | hqob33_2
  ·skip
   exact goes_leafA isR_e (goes_cutR Try.checked.mixed (known_ocb) 200 (T':=⟨[(4,(.slu 0 0 ((gotL (seeM (cRw R) 3 (padF [a0,a1,a2,0])) (1 + 2 * p)).length) 0)),qC4d4_10],[],1,[(0,(qC4d4_6 R a0 a1 a2 p))]⟩) (e:=.ret) (m:=4) (ps:=[IsR 3 (cRw R),(!eqI (plE (((p:Nat):Int)) (cRw R) 3) 0)=false,(!eqI ((3:Nat):Int) ((3:Nat):Int))=false,IsI (0 + 1) 3 [AV.v (Value.int IntKind.i64 a0),AV.v (Value.int IntKind.i64 a1),AV.v (Value.int IntKind.i64 a2)],(3:Nat)≤1000,(!okS [AV.v (Value.int IntKind.i64 a0),AV.v (Value.int IntKind.i64 a1),AV.v (Value.int IntKind.i64 a2)] 3)=false,IsR 3 (cRw R),plE (((p:Nat):Int)) (cRw R) 3=0,FreeL (cRw R),p=p∧61=61∧cI (tabL (pgF (cRw R) 3 0) (p * 4))=cI (tabL (pgF (cRw R) 3 0) (p * 4)),IsR 3 (cRw R),((p:Nat):Int)=((p:Nat):Int)∧plE (((p:Nat):Int)) (cRw R) 3=0,0 < (gotL (seeM (cRw R) 3 (padF [a0,a1,a2,0])) (1 + 2 * p)).length]) [.go,.go,.go,.go,.go,.go,.go,.b false,.go,.go,.go,.go,.go,.go,.b false,.go,.go,.b false,.go,.go,.go,.go,.go,.go,.go,.go] [3] [(.slu 3 0 ((gotL (seeM (cRw R) 3 (padF [a0,a1,a2,0])) (1 + 2 * p)).length) 0),(.v (.int .i64 (.ofNat 0)))] [(qC4d4_6 R a0 a1 a2 p)] (by kernel_rfl) (by kernel_rfl) ⟨⟨R,rfl,hR⟩,(by rw [hqob33_1]; rfl),rfl,⟨rfl,[a0,a1,a2],rfl,rfl⟩,(by decide),(by rw [hqob33_2]; rfl),⟨R,rfl,hR⟩,hE,(freeL_plainR R),⟨rfl,rfl,rfl⟩,⟨R,rfl,hR⟩,⟨rfl,hE⟩,h0,trivial⟩ rfl rfl (by decide) rfl ⟨nr_slu rfl,nr_v _,trivial⟩ ⟨⟨by show 0 < 1; decide,nrb_row (nrl_plain (cR_plain _))⟩,trivial⟩) (en_eqM (r:=(.tup [(.slu 0 0 ((gotL (seeM (cRw R) 3 (padF [a0,a1,a2,0])) (1 + 2 * p)).length) 0),(.v (.int .i64 (.ofNat 0)))])) (ys:=[(qC4d4_6 R a0 a1 a2 p)]) (by rfl) (by rfl) (en_retM (by kernel_rfl) (by kernel_rfl) rfl (.inr rfl)))
  ·skip
   have h9:=hqob33_2
   rw [hS] at h9
   cases h9
 ·skip
  have ghqob33_1:=eqI_false hqob33_1
  exact absurd hE (eqI_false hqob33_1)
theorem Cases_b3 (y:Value) (R:List (Value×List Int)) (z:Value) (p:Nat) (a0 a1 a2:Int) (hR:3=R.length) (hE:plE ((p:Nat):Int) (cRw R) 3=0) (hS:okS [.v (.int .i64 a0),.v (.int .i64 a1),.v (.int .i64 a2)] 3=true) (h0:0 < (gotL (seeM (cRw R) 3 (padF [a0,a1,a2,0])) (1 + 2 * p)).length):GivesM Try.prog 21 [(.agg [.v (.int .i64 ((p:Nat):Int)),.xl y 3 1 (cRw R)]),(.xl z 3 1 [.v (.int .i64 a0),.v (.int .i64 a1),.v (.int .i64 a2)])] [] ((.tup [.slu 0 0 (gotL (seeM (cRw R) 3 (padF [a0,a1,a2,0])) (1 + 2 * p)).length 0,.v (.int .i64 0)])) [(qC4d4_6 R a0 a1 a2 p)] :=
 givesM_parts 29 (by kernel_rfl) Try.func21 (by kernel_rfl) (by kernel_rfl) (by kernel_rfl) (fun v eb ec=>goes_less (by kernel_rfl) (by kernel_rfl) (by kernel_rfl) (by kernel_rfl) (ob3_2 y R z p a0 a1 a2 hR hE hS h0 v eb ec []))
noncomputable def ob4K1:Code:=bodyC Try.f21
theorem ob4_2 (y:Value) (R:List (Value×List Int)) (z:Value) (p:Nat) (a0 a1 a2 a3:Int) (hR:4=R.length) (hE:plE ((p:Nat):Int) (cRw R) 4=0) (hS:okS [.v (.int .i64 a0),.v (.int .i64 a1),.v (.int .i64 a2),.v (.int .i64 a3)] 4=true) (h0:0 < (gotL (seeM (cRw R) 4 (padF [a0,a1,a2,a3])) (1 + 2 * p)).length) (v:BaseW) (eb:Nat→Option Nat) (ec:Nat→Nat) (hs:List Nat):Goes Try.prog 29 ob4K1 ((qC4d4_1 R a0 a1 a2 a3 p y z)) (BaseW.H (bw v 0 eb ec) hs) (OutM Try.prog Try.f21 29 ((.tup [.slu 0 0 (gotL (seeM (cRw R) 4 (padF [a0,a1,a2,a3])) (1 + 2 * p)).length 0,.v (.int .i64 0)])) [(qC4d4_5 R a0 a1 a2 a3 p)] (bw v 0 eb ec)):=by
 rcases Bool.eq_false_or_eq_true (eqI (plE (((p:Nat):Int)) (cRw R) 4) 0) with hqob43_1 | hqob43_1
 ·skip
  have ghqob43_1:=eqI_true hqob43_1
  rcases Bool.eq_false_or_eq_true (okS [AV.v (Value.int IntKind.i64 a0),AV.v (Value.int IntKind.i64 a1),AV.v (Value.int IntKind.i64 a2),AV.v (Value.int IntKind.i64 a3)] 4) with hqob43_2 | hqob43_2
  ·skip
   exact goes_leafA isR_e (goes_cutR Try.checked.mixed (known_ocb) 200 (T':=⟨[(4,(.slu 0 0 ((gotL (seeM (cRw R) 4 (padF [a0,a1,a2,a3])) (1 + 2 * p)).length) 0)),qC4d4_10],[],1,[(0,(qC4d4_5 R a0 a1 a2 a3 p))]⟩) (e:=.ret) (m:=4) (ps:=[IsR 4 (cRw R),(!eqI (plE (((p:Nat):Int)) (cRw R) 4) 0)=false,(!eqI ((4:Nat):Int) ((4:Nat):Int))=false,IsI (0 + 1) 4 [AV.v (Value.int IntKind.i64 a0),AV.v (Value.int IntKind.i64 a1),AV.v (Value.int IntKind.i64 a2),AV.v (Value.int IntKind.i64 a3)],(4:Nat)≤1000,(!okS [AV.v (Value.int IntKind.i64 a0),AV.v (Value.int IntKind.i64 a1),AV.v (Value.int IntKind.i64 a2),AV.v (Value.int IntKind.i64 a3)] 4)=false,IsR 4 (cRw R),plE (((p:Nat):Int)) (cRw R) 4=0,FreeL (cRw R),p=p∧61=61∧cI (tabL (pgF (cRw R) 4 0) (p * 4))=cI (tabL (pgF (cRw R) 4 0) (p * 4)),IsR 4 (cRw R),((p:Nat):Int)=((p:Nat):Int)∧plE (((p:Nat):Int)) (cRw R) 4=0,0 < (gotL (seeM (cRw R) 4 (padF [a0,a1,a2,a3])) (1 + 2 * p)).length]) [.go,.go,.go,.go,.go,.go,.go,.b false,.go,.go,.go,.go,.go,.go,.b false,.go,.go,.b false,.go,.go,.go,.go,.go,.go,.go,.go] [3] [(.slu 3 0 ((gotL (seeM (cRw R) 4 (padF [a0,a1,a2,a3])) (1 + 2 * p)).length) 0),(.v (.int .i64 (.ofNat 0)))] [(qC4d4_5 R a0 a1 a2 a3 p)] (by kernel_rfl) (by kernel_rfl) ⟨⟨R,rfl,hR⟩,(by rw [hqob43_1]; rfl),rfl,⟨rfl,[a0,a1,a2,a3],rfl,rfl⟩,(by decide),(by rw [hqob43_2]; rfl),⟨R,rfl,hR⟩,hE,(freeL_plainR R),⟨rfl,rfl,rfl⟩,⟨R,rfl,hR⟩,⟨rfl,hE⟩,h0,trivial⟩ rfl rfl (by decide) rfl ⟨nr_slu rfl,nr_v _,trivial⟩ ⟨⟨by show 0 < 1; decide,nrb_row (nrl_plain (cR_plain _))⟩,trivial⟩) (en_eqM (r:=(.tup [(.slu 0 0 ((gotL (seeM (cRw R) 4 (padF [a0,a1,a2,a3])) (1 + 2 * p)).length) 0),(.v (.int .i64 (.ofNat 0)))])) (ys:=[(qC4d4_5 R a0 a1 a2 a3 p)]) (by rfl) (by rfl) (en_retM (by kernel_rfl) (by kernel_rfl) rfl (.inr rfl)))
  ·skip
   have h9:=hqob43_2
   rw [hS] at h9
   cases h9
 ·skip
  have ghqob43_1:=eqI_false hqob43_1
  exact absurd hE (eqI_false hqob43_1)
theorem Cases_b4 (y:Value) (R:List (Value×List Int)) (z:Value) (p:Nat) (a0 a1 a2 a3:Int) (hR:4=R.length) (hE:plE ((p:Nat):Int) (cRw R) 4=0) (hS:okS [.v (.int .i64 a0),.v (.int .i64 a1),.v (.int .i64 a2),.v (.int .i64 a3)] 4=true) (h0:0 < (gotL (seeM (cRw R) 4 (padF [a0,a1,a2,a3])) (1 + 2 * p)).length):GivesM Try.prog 21 [(.agg [.v (.int .i64 ((p:Nat):Int)),.xl y 4 1 (cRw R)]),(.xl z 4 1 [.v (.int .i64 a0),.v (.int .i64 a1),.v (.int .i64 a2),.v (.int .i64 a3)])] [] ((.tup [.slu 0 0 (gotL (seeM (cRw R) 4 (padF [a0,a1,a2,a3])) (1 + 2 * p)).length 0,.v (.int .i64 0)])) [(qC4d4_5 R a0 a1 a2 a3 p)] :=
 givesM_parts 29 (by kernel_rfl) Try.func21 (by kernel_rfl) (by kernel_rfl) (by kernel_rfl) (fun v eb ec=>goes_less (by kernel_rfl) (by kernel_rfl) (by kernel_rfl) (by kernel_rfl) (ob4_2 y R z p a0 a1 a2 a3 hR hE hS h0 v eb ec []))
end
end Go.Proofs.Ytmankoikpadkpaa
