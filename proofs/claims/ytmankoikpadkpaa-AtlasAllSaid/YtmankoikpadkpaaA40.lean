import Derived.Test.YtmankoikpadkpaaA3
set_option maxHeartbeats 4000000
set_option linter.all false
/- The law AtlasAll, 0 rows. -/
namespace Go.Proofs.Ytmankoikpadkpaa
open Go Ev
noncomputable section
theorem iRA40 {a:Int} (h : -9223372036854775808≤a) (k:a≤9223372036854775807):inR .i64 a:=⟨h,k⟩
section
variable (R : List (Value × List Int)) (b : Int) (k p : Nat) (y : Value)
@[reducible] def qA40_33:Nat×Ev.AV:=(8,(.v (.int .i64 (.ofNat 1))))
@[reducible] def qA40_25:Nat×Ev.AV:=(10,(.v (.int .i64 (((cntL (cdH (cRw R) 0) (1 + 2 * p) ((k:Nat):Int):Nat):Int)))))
@[reducible] def qA40_26:Nat×Ev.AV:=(11,(.v (.int .i64 (((tmB (cdH (cRw R) 0) (fdI b p) ((k:Nat):Int):Nat):Int)))))
@[reducible] def qA40_29:Nat×Ev.AV:=(12,(.v (.int .i64 (((k:Nat):Int)))))
@[reducible] def qA40_30:Nat×Ev.AV:=(13,(.v (Value.slice none 0 0)))
@[reducible] def qA40_27:Nat×Ev.AB:=(0,(.cells [(.v (.int .i64 (((p:Nat):Int)))),(.xl (y) (0) 1 (cRw R))] 24))
@[reducible] def qA40_23:Nat×Ev.AB:=(1,(.cells [(.v (.int .i64 ((caseN (fdI b p)).fst))),(.v (.int .i64 ((caseN (fdI b p)).snd)))] 26))
@[reducible] def qA40_18:Nat×Ev.AB:=(2,(.cells [(.v (.int .i64 (sv (cRw R) 0 (caseN (fdI b p)).fst (caseN (fdI b p)).snd 0))),(.v (.int .i64 (sv (cRw R) 0 (caseN (fdI b p)).fst (caseN (fdI b p)).snd 1))),(.v (.int .i64 (sv (cRw R) 0 (caseN (fdI b p)).fst (caseN (fdI b p)).snd 2))),(.v (.int .i64 (sv (cRw R) 0 (caseN (fdI b p)).fst (caseN (fdI b p)).snd 3)))] 61))
@[reducible] def qA40_1:Ev.Lit:=⟨[(2,(.ptr 0 0)),(5,(.ptr 1 0)),(6,(.sl 2 0 0 0)),qA40_33,(qA40_25 R k p),(qA40_26 R b k p),(qA40_29 k),qA40_30,(16,(.slu 3 0 ((gotL (seeM (cRw R) 0 (padF (dgT 0 ((k:Nat):Int)))) (1 + 2 * p)).length) 0)),(17,(.v (.int .i64 (.ofNat 0))))],[],4,[(qA40_27 R p y),(qA40_23 b p),(qA40_18 R b p),(3,(.row (cR (gotL (seeM (cRw R) 0 (padF (dgT 0 ((k:Nat):Int)))) (1 + 2 * p))) 26 2))]⟩
@[reducible] def qA40_2:Ev.Lit:=⟨[(2,(.ptr 0 0)),(5,(.ptr 1 0)),(6,(.sl 2 0 0 0)),qA40_33,(qA40_25 R k p),(qA40_26 R b k p),(qA40_29 k),qA40_30,(16,(.v (Value.slice none 0 0))),(17,(.v (.int .i64 (.ofNat 0))))],[],3,[(qA40_27 R p y),(qA40_23 b p),(qA40_18 R b p)]⟩
@[reducible] def qA40_21:Nat×Ev.AV:=(10,(.v (.int .i64 (((cntL (cdH (cRw R) 0) (1 + 2 * p) ((k:Nat):Int):Nat):Int) + (((gotL (seeM (cRw R) 0 (padF (dgT 0 ((k:Nat):Int)))) (1 + 2 * p)).length:Nat):Int)))))
@[reducible] def qA40_24:Nat×Ev.AV:=(11,(.v (.int .i64 (((tmB (cdH (cRw R) 0) (fdI b p) ((k:Nat):Int):Nat):Int) + 1))))
@[reducible] def qA40_28:Nat×Ev.AV:=(12,(.v (.int .i64 (((k + 1):Nat):Int))))
@[reducible] def qA40_3:Ev.Lit:=⟨[(2,(.ptr 0 0)),(5,(.ptr 1 0)),(6,(.sl 2 0 0 0)),qA40_33,(qA40_21 R k p),(qA40_24 R b k p),(qA40_28 k)],[],3,[(qA40_27 R p y),(qA40_23 b p),(qA40_18 R b p)]⟩
@[reducible] def qA40_4:Ev.Lit:=⟨[(2,(.ptr 0 0)),(5,(.ptr 1 0)),(6,(.sl 2 0 0 0)),qA40_33,(qA40_21 R k p),(qA40_26 R b k p),(qA40_28 k)],[],3,[(qA40_27 R p y),(qA40_23 b p),(qA40_18 R b p)]⟩
@[reducible] def qA40_5:Ev.Lit:=⟨[(2,(.ptr 0 0)),(5,(.ptr 1 0)),(6,(.sl 2 0 0 0)),qA40_33,(qA40_21 R k p),(qA40_24 R b k p),(qA40_29 k)],[],4,[(qA40_27 R p y),(qA40_23 b p),(qA40_18 R b p)]⟩
@[reducible] def qA40_6:Ev.Lit:=⟨[(2,(.ptr 0 0)),(5,(.ptr 1 0)),(6,(.sl 2 0 0 0)),qA40_33,(qA40_21 R k p),(qA40_26 R b k p),(qA40_29 k)],[],4,[(qA40_27 R p y),(qA40_23 b p),(qA40_18 R b p)]⟩
@[reducible] def qA40_7:Ev.Lit:=⟨[(2,(.ptr 0 0)),(5,(.ptr 1 0)),(6,(.sl 2 0 0 0)),qA40_33,(qA40_25 R k p),(qA40_26 R b k p),(qA40_29 k),qA40_30,(14,(.v (.int .i64 (((k:Nat):Int)))))],[],3,[(qA40_27 R p y),(qA40_23 b p),(qA40_18 R b p)]⟩
@[reducible] def qA40_8:Ev.Lit:=⟨[(2,(.ptr 0 0)),(5,(.ptr 1 0)),(6,(.sl 2 0 0 0)),qA40_33,(qA40_25 R k p),(qA40_26 R b k p),(qA40_29 k),qA40_30],[],3,[(qA40_27 R p y),(qA40_23 b p),(qA40_18 R b p)]⟩
@[reducible] def qA40_9:Ev.Lit:=⟨[(2,(.ptr 0 0)),(5,(.ptr 1 0)),(6,(.sl 2 0 0 0)),qA40_33,(10,(.v (.int .i64 (((cntL (cdH (cRw R) 0) (1 + 2 * p) ((k:Nat):Int):Nat):Int) + ((0:Nat):Int))))),(qA40_26 R b k p),(qA40_29 k)],[],3,[(qA40_27 R p y),(qA40_23 b p),(qA40_18 R b p)]⟩
@[reducible] def qA40_10:Ev.Lit:=⟨[(2,(.ptr 0 0)),(5,(.ptr 1 0)),(6,(.sl 2 0 0 0)),qA40_33,(10,(.v (.int .i64 ((cntL (cdH (cRw R) 0) (1 + 2 * p) (((k + 1):Nat):Int):Nat):Int)))),(11,(.v (.int .i64 ((tmB (cdH (cRw R) 0) (fdI b p) (((k + 1):Nat):Int):Nat):Int)))),(qA40_28 k)],[],3,[(qA40_27 R p y),(qA40_23 b p),(qA40_18 R b p)]⟩
@[reducible] def qA40_11:Ev.Lit:=⟨[(2,(.ptr 0 0)),(5,(.ptr 1 0)),(6,(.sl 2 0 0 0)),qA40_33,(10,(.v (.int .i64 (((cntL (cdH (cRw R) 0) (1 + 2 * p) ((k:Nat):Int):Nat):Int) + 0)))),(qA40_26 R b k p),(qA40_28 k)],[],3,[(qA40_27 R p y),(qA40_23 b p),(qA40_18 R b p)]⟩
@[reducible] def qA40_12:Ev.Lit:=⟨[(2,(.ptr 0 0)),(5,(.ptr 1 0)),(6,(.sl 2 0 0 0)),qA40_33,(qA40_25 R k p),(qA40_26 R b k p),(qA40_29 k)],[],3,[(qA40_27 R p y),(qA40_23 b p),(qA40_18 R b p)]⟩
@[reducible] def qA40_32:Nat×Ev.AV:=(10,(.v (.int .i64 (.ofNat 0))))
@[reducible] def qA40_31:Nat×Ev.AV:=(11,(.v (.int .i64 (.ofNat 0))))
@[reducible] def qA40_13:Ev.Lit:=⟨[(2,(.ptr 0 0)),(5,(.ptr 1 0)),(6,(.sl 2 0 0 0)),qA40_33,qA40_32,qA40_31,(12,(.v (.int .i64 (.ofNat 0))))],[],3,[(qA40_27 R p y),(qA40_23 b p),(qA40_18 R b p)]⟩
@[reducible] def qA40_14:Ev.Lit:=⟨[(2,(.ptr 0 0)),(5,(.ptr 1 0)),(6,(.sl 2 0 0 0)),qA40_33,qA40_32,qA40_31],[],3,[(qA40_27 R p y),(qA40_23 b p),(qA40_18 R b p)]⟩
@[reducible] def qA40_15:Ev.Lit:=⟨[(2,(.ptr 0 0)),(5,(.ptr 1 0)),(6,(.sl 2 0 0 0)),qA40_33],[],3,[(qA40_27 R p y),(qA40_23 b p),(qA40_18 R b p)]⟩
@[reducible] def qA40_16:Ev.Lit:=⟨[(2,(.ptr 0 0)),(5,(.ptr 1 0)),(6,(.sl 2 0 0 0)),(7,(.v (.int .i64 (.ofNat 0))))],[],3,[(qA40_27 R p y),(qA40_23 b p),(qA40_18 R b p)]⟩
@[reducible] def qA40_17:Ev.Lit:=⟨[(2,(.ptr 0 0)),(5,(.ptr 1 0)),(6,(.sl 2 0 0 0))],[],3,[(qA40_27 R p y),(qA40_23 b p),(qA40_18 R b p)]⟩
@[reducible] def qA40_19:Ev.Lit:=⟨[(2,(.ptr 0 0)),(10,(.v (.int .i64 (((cntL (cdH (cRw R) 0) (1 + 2 * p) ((1:Nat):Int):Nat):Int))))),(11,(.v (.int .i64 (((tmB (cdH (cRw R) 0) (fdI b p) ((1:Nat):Int):Nat):Int)))))],[],3,[(qA40_27 R p y)]⟩
@[reducible] def qA40_20:Ev.Lit:=⟨[(2,(.ptr 0 0)),(5,(.ptr 1 0))],[],2,[(qA40_27 R p y),(qA40_23 b p)]⟩
@[reducible] def qA40_22:Ev.Lit:=⟨[(1,(.v (.int .u8 (b)))),(2,(.ptr 0 0))],[],1,[(qA40_27 R p y)]⟩
end
noncomputable def la0K1:Code:=bodyC Try.f10
noncomputable def la0K3:Code:=tlC la0K1
noncomputable def la0K6:Code:=tlC la0K3
noncomputable def la0K9:Code:=tlC la0K6
noncomputable def la0K12:Code:=tlC la0K9
noncomputable def la0K15:Code:=tlC la0K12
noncomputable def la0K18:Code:=tlC la0K15
noncomputable def la0K21:Code:=tlC la0K18
noncomputable def la0K24:Code:=tlC la0K21
noncomputable def la0K27:Code:=tlC la0K24
noncomputable def la0K28:Code:=(hdC la0K24)
noncomputable def la0K30:Code:=tlC la0K28
noncomputable def la0K34:Code:=loopC la0K30
noncomputable def la0K37:Code:=tlC la0K34
noncomputable def la0K40:Code:=tlC la0K37
noncomputable def la0K42:Code:=blkB (hdC la0K37)
noncomputable def la0K44:Code:=tlC la0K42
noncomputable def la0K47:Code:=tlC la0K44
noncomputable def la0K50:Code:=tlC la0K47
noncomputable def la0K53:Code:=tlC la0K50
theorem la0_57 (y:Value) (R:List (Value×List Int)) (p:Nat) (b:Int) (hw:Known Try.prog (clsO wkC)) (hm:0=R.length) (hE:plE ((p:Nat):Int) (cRw R) 0=0) (hb:0≤b∧b≤255) (hqla07_1:(fnB (((p:Nat):Int)) (cRw R) 0)=true) (k:Nat) (hk1:k≤1) (hk2:True) (hqla038_1:(ltI (((k:Nat):Int)) ((1:Int)))=true) (hf0:(gotL (seeM (cRw R) 0 (padF (dgT 0 ((k:Nat):Int)))) (1 + 2 * p)).length=0) (w:World) (hs:List Nat):Goes Try.prog 97 la0K40 ((qA40_9 R b k p y)) (BaseW.H w hs) (Hd.StepC Try.prog 97 2 (fun k:{k:Nat // k≤1∧True}=>⟨[(2,(.ptr 0 0)),(5,(.ptr 1 0)),(6,(.sl 2 0 0 0)),qA40_33,(10,(.v (.int .i64 ((cntL (cdH (cRw R) 0) (1 + 2 * p) ((k.1:Nat):Int):Nat):Int)))),(11,(.v (.int .i64 ((tmB (cdH (cRw R) 0) (fdI b p) ((k.1:Nat):Int):Nat):Int)))),(12,(.v (.int .i64 ((k.1:Nat):Int))))],[],3,[(qA40_27 R p y),(qA40_23 b p),(qA40_18 R b p)]⟩) (fun k:{k:Nat // k≤1∧True}=>1 - k.1) la0K27 w (OutH Try.prog Try.f10 97 (.bool true) w) (⟨k,hk1,hk2⟩:{k:Nat // k≤1∧True})):=by
 obtain ⟨-,hp,-⟩:=plE_zero hE
 have hi:=fdI_lt (b:=b) (p:=p) hb
 have hca:=cas_ca (p:=p) (by omega) hi
 have ghqla038_1:=ltI_true hqla038_1
 have hcn:=cntL_le (cdH (cRw R) 0) ((k:Nat):Int) (1 + 2 * p)
 have hgl:=got_le (seeM (cRw R) 0 (padF (dgT 0 ((k:Nat):Int)))) (1 + 2 * p)
 have htb:tmB (cdH (cRw R) 0) (fdI b p) ((k:Nat):Int)≤1:=by unfold tmB; split <;> omega
 have hk3:((k:Nat):Int) < pw3 0:=ltI_true hqla038_1
 exact goes_leafA isN_e (goes_told Try.checked.mixed (known_la0 hw known_caa) 200 (T':=(qA40_11 R b k p y)) (e:=.normal) (ps:=[inR IntKind.i64 (((k:Nat):Int) + 1)]) [.go,.go,.go] (by kernel_rfl) (by kernel_rfl) ⟨(iRA40 (by omega) (by omega)),trivial⟩ rfl) (Hd.en_on (⟨k + 1,by omega,trivial⟩) (by show 1 - (k + 1) < 1 - k; omega) (show ((qA40_11 R b k p y):Ev.Lit)=(qA40_10 R b k p y) from by have hz_:=congr (congrArg (fun (xq0:Ev.AV) (xq1:Ev.AV)=>(⟨[(2,(.ptr 0 0)),(5,(.ptr 1 0)),(6,(.sl 2 0 0 0)),qA40_33,(10,xq0),(11,xq1),(qA40_28 k)],[],3,[(qA40_27 R p y),(qA40_23 b p),(qA40_18 R b p)]⟩:Ev.Lit)) (congrArg (fun z=>Ev.AV.v (.int .i64 z)) (show ((((cntL (cdH (cRw R) 0) (1 + 2 * p) ((k:Nat):Int):Nat):Int) + 0):Int)=((cntL (cdH (cRw R) 0) (1 + 2 * p) (((k + 1):Nat):Int):Nat):Int) from by exact al_manyZ hE hk3 hf0))) (congrArg (fun z=>Ev.AV.v (.int .i64 z)) (show ((((tmB (cdH (cRw R) 0) (fdI b p) ((k:Nat):Int):Nat):Int)):Int)=((tmB (cdH (cRw R) 0) (fdI b p) (((k + 1):Nat):Int):Nat):Int) from by exact tm_no (al_z hE hk3 hi hf0))); exact hz_))
theorem la0_55 (y:Value) (R:List (Value×List Int)) (p:Nat) (b:Int) (hw:Known Try.prog (clsO wkC)) (hm:0=R.length) (hE:plE ((p:Nat):Int) (cRw R) 0=0) (hb:0≤b∧b≤255) (hqla07_1:(fnB (((p:Nat):Int)) (cRw R) 0)=true) (k:Nat) (hk1:k≤1) (hk2:True) (hqla038_1:(ltI (((k:Nat):Int)) ((1:Int)))=true) (hf0:(gotL (seeM (cRw R) 0 (padF (dgT 0 ((k:Nat):Int)))) (1 + 2 * p)).length=0) (w:World) (hs:List Nat):Goes Try.prog 97 la0K53 ((qA40_2 R b k p y)) (BaseW.H w hs) (Hd.AfterB Try.prog 97 3 la0K40 w (Hd.StepC Try.prog 97 2 (fun k:{k:Nat // k≤1∧True}=>⟨[(2,(.ptr 0 0)),(5,(.ptr 1 0)),(6,(.sl 2 0 0 0)),qA40_33,(10,(.v (.int .i64 ((cntL (cdH (cRw R) 0) (1 + 2 * p) ((k.1:Nat):Int):Nat):Int)))),(11,(.v (.int .i64 ((tmB (cdH (cRw R) 0) (fdI b p) ((k.1:Nat):Int):Nat):Int)))),(12,(.v (.int .i64 ((k.1:Nat):Int))))],[],3,[(qA40_27 R p y),(qA40_23 b p),(qA40_18 R b p)]⟩) (fun k:{k:Nat // k≤1∧True}=>1 - k.1) la0K27 w (OutH Try.prog Try.f10 97 (.bool true) w) (⟨k,hk1,hk2⟩:{k:Nat // k≤1∧True}))):=by
 obtain ⟨-,hp,-⟩:=plE_zero hE
 have hi:=fdI_lt (b:=b) (p:=p) hb
 have hca:=cas_ca (p:=p) (by omega) hi
 have ghqla038_1:=ltI_true hqla038_1
 have hcn:=cntL_le (cdH (cRw R) 0) ((k:Nat):Int) (1 + 2 * p)
 have hgl:=got_le (seeM (cRw R) 0 (padF (dgT 0 ((k:Nat):Int)))) (1 + 2 * p)
 have htb:tmB (cdH (cRw R) 0) (fdI b p) ((k:Nat):Int)≤1:=by unfold tmB; split <;> omega
 have hk3:((k:Nat):Int) < pw3 0:=ltI_true hqla038_1
 exact goes_leafA isN_e (goes_told Try.checked.mixed (known_la0 hw known_caa) 200 (T':=(qA40_9 R b k p y)) (e:=.normal) (ps:=[(!eqI ((0:Int)) 0)=false,inR IntKind.i64 (((cntL (cdH (cRw R) 0) (1 + 2 * p) ((k:Nat):Int):Nat):Int) + ((0:Nat):Int)),false=false]) [.go,.go,.b false,.go,.go,.go,.go,.go,.go,.go,.b false] (by kernel_rfl) (by kernel_rfl) ⟨rfl,(iRA40 (by omega) (by omega)),rfl,trivial⟩ rfl) (Hd.en_bn (la0_57 y R p b hw hm hE hb hqla07_1 k hk1 hk2 hqla038_1 hf0 w hs))
theorem la0_62 (y:Value) (R:List (Value×List Int)) (p:Nat) (b:Int) (hw:Known Try.prog (clsO wkC)) (hm:0=R.length) (hE:plE ((p:Nat):Int) (cRw R) 0=0) (hb:0≤b∧b≤255) (hqla07_1:(fnB (((p:Nat):Int)) (cRw R) 0)=true) (k:Nat) (hk1:k≤1) (hk2:True) (hqla038_1:(ltI (((k:Nat):Int)) ((1:Int)))=true) (hf1:0 < (gotL (seeM (cRw R) 0 (padF (dgT 0 ((k:Nat):Int)))) (1 + 2 * p)).length) (hqla061_1:(hsB (cR (gotL (seeM (cRw R) 0 (padF (dgT 0 ((k:Nat):Int)))) (1 + 2 * p))) (caseN (fdI b p)).fst (caseN (fdI b p)).snd)=true) (w:World) (hs:List Nat):Goes Try.prog 97 la0K40 ((qA40_5 R b k p y)) (BaseW.H w hs) (Hd.StepC Try.prog 97 2 (fun k:{k:Nat // k≤1∧True}=>⟨[(2,(.ptr 0 0)),(5,(.ptr 1 0)),(6,(.sl 2 0 0 0)),qA40_33,(10,(.v (.int .i64 ((cntL (cdH (cRw R) 0) (1 + 2 * p) ((k.1:Nat):Int):Nat):Int)))),(11,(.v (.int .i64 ((tmB (cdH (cRw R) 0) (fdI b p) ((k.1:Nat):Int):Nat):Int)))),(12,(.v (.int .i64 ((k.1:Nat):Int))))],[],3,[(qA40_27 R p y),(qA40_23 b p),(qA40_18 R b p)]⟩) (fun k:{k:Nat // k≤1∧True}=>1 - k.1) la0K27 w (OutH Try.prog Try.f10 97 (.bool true) w) (⟨k,hk1,hk2⟩:{k:Nat // k≤1∧True})):=by
 obtain ⟨-,hp,-⟩:=plE_zero hE
 have hi:=fdI_lt (b:=b) (p:=p) hb
 have hca:=cas_ca (p:=p) (by omega) hi
 have ghqla038_1:=ltI_true hqla038_1
 have hcn:=cntL_le (cdH (cRw R) 0) ((k:Nat):Int) (1 + 2 * p)
 have hgl:=got_le (seeM (cRw R) 0 (padF (dgT 0 ((k:Nat):Int)))) (1 + 2 * p)
 have htb:tmB (cdH (cRw R) 0) (fdI b p) ((k:Nat):Int)≤1:=by unfold tmB; split <;> omega
 have hk3:((k:Nat):Int) < pw3 0:=ltI_true hqla038_1
 exact goes_leafA isN_e (goes_cut Try.checked.mixed (known_la0 hw known_cab) 200 (T':=(qA40_3 R b k p y)) (e:=.normal) (m:=4) (ps:=[inR IntKind.i64 (((k:Nat):Int) + 1)]) [.go,.go,.go] (by kernel_rfl) (by kernel_rfl) ⟨(iRA40 (by omega) (by omega)),trivial⟩ rfl (by show 3≤4; decide) ⟨⟨nb_ptr (by show 0 < 3; decide),nb_ptr (by show 1 < 3; decide),nb_sl (by show 2 < 3; decide),nb_v _,nb_v _,nb_v _,nb_v _,trivial⟩,⟨⟨by show 0 < 3; decide,nbb_cells (nb_cons (nb_v _) (nb_cons (nb_free (freeL_xl (freeL_plainR _))) (fun _ hz=>absurd hz List.not_mem_nil)))⟩,⟨by show 1 < 3; decide,nbb_cells (nb_cons (nb_v _) (nb_cons (nb_v _) (fun _ hz=>absurd hz List.not_mem_nil)))⟩,⟨by show 2 < 3; decide,nbb_cells (nb_cons (nb_v _) (nb_cons (nb_v _) (nb_cons (nb_v _) (nb_cons (nb_v _) (fun _ hz=>absurd hz List.not_mem_nil)))))⟩,trivial⟩,rfl⟩) (Hd.en_on (⟨k + 1,by omega,trivial⟩) (by show 1 - (k + 1) < 1 - k; omega) (show ((qA40_3 R b k p y):Ev.Lit)=(qA40_10 R b k p y) from by have hz_:=congr (congrArg (fun (xq0:Ev.AV) (xq1:Ev.AV)=>(⟨[(2,(.ptr 0 0)),(5,(.ptr 1 0)),(6,(.sl 2 0 0 0)),qA40_33,(10,xq0),(11,xq1),(qA40_28 k)],[],3,[(qA40_27 R p y),(qA40_23 b p),(qA40_18 R b p)]⟩:Ev.Lit)) (congrArg (fun z=>Ev.AV.v (.int .i64 z)) (show ((((cntL (cdH (cRw R) 0) (1 + 2 * p) ((k:Nat):Int):Nat):Int) + (((gotL (seeM (cRw R) 0 (padF (dgT 0 ((k:Nat):Int)))) (1 + 2 * p)).length:Nat):Int)):Int)=((cntL (cdH (cRw R) 0) (1 + 2 * p) (((k + 1):Nat):Int):Nat):Int) from by exact al_many hE hk3))) (congrArg (fun z=>Ev.AV.v (.int .i64 z)) (show ((((tmB (cdH (cRw R) 0) (fdI b p) ((k:Nat):Int):Nat):Int) + 1):Int)=((tmB (cdH (cRw R) 0) (fdI b p) (((k + 1):Nat):Int):Nat):Int) from by exact tm_yes (al_t hE hk3 hi hqla061_1))); exact hz_))
theorem la0_64 (y:Value) (R:List (Value×List Int)) (p:Nat) (b:Int) (hw:Known Try.prog (clsO wkC)) (hm:0=R.length) (hE:plE ((p:Nat):Int) (cRw R) 0=0) (hb:0≤b∧b≤255) (hqla07_1:(fnB (((p:Nat):Int)) (cRw R) 0)=true) (k:Nat) (hk1:k≤1) (hk2:True) (hqla038_1:(ltI (((k:Nat):Int)) ((1:Int)))=true) (hf1:0 < (gotL (seeM (cRw R) 0 (padF (dgT 0 ((k:Nat):Int)))) (1 + 2 * p)).length) (hqla061_1:(hsB (cR (gotL (seeM (cRw R) 0 (padF (dgT 0 ((k:Nat):Int)))) (1 + 2 * p))) (caseN (fdI b p)).fst (caseN (fdI b p)).snd)=false) (w:World) (hs:List Nat):Goes Try.prog 97 la0K40 ((qA40_6 R b k p y)) (BaseW.H w hs) (Hd.StepC Try.prog 97 2 (fun k:{k:Nat // k≤1∧True}=>⟨[(2,(.ptr 0 0)),(5,(.ptr 1 0)),(6,(.sl 2 0 0 0)),qA40_33,(10,(.v (.int .i64 ((cntL (cdH (cRw R) 0) (1 + 2 * p) ((k.1:Nat):Int):Nat):Int)))),(11,(.v (.int .i64 ((tmB (cdH (cRw R) 0) (fdI b p) ((k.1:Nat):Int):Nat):Int)))),(12,(.v (.int .i64 ((k.1:Nat):Int))))],[],3,[(qA40_27 R p y),(qA40_23 b p),(qA40_18 R b p)]⟩) (fun k:{k:Nat // k≤1∧True}=>1 - k.1) la0K27 w (OutH Try.prog Try.f10 97 (.bool true) w) (⟨k,hk1,hk2⟩:{k:Nat // k≤1∧True})):=by
 obtain ⟨-,hp,-⟩:=plE_zero hE
 have hi:=fdI_lt (b:=b) (p:=p) hb
 have hca:=cas_ca (p:=p) (by omega) hi
 have ghqla038_1:=ltI_true hqla038_1
 have hcn:=cntL_le (cdH (cRw R) 0) ((k:Nat):Int) (1 + 2 * p)
 have hgl:=got_le (seeM (cRw R) 0 (padF (dgT 0 ((k:Nat):Int)))) (1 + 2 * p)
 have htb:tmB (cdH (cRw R) 0) (fdI b p) ((k:Nat):Int)≤1:=by unfold tmB; split <;> omega
 have hk3:((k:Nat):Int) < pw3 0:=ltI_true hqla038_1
 exact goes_leafA isN_e (goes_cut Try.checked.mixed (known_la0 hw known_cab) 200 (T':=(qA40_4 R b k p y)) (e:=.normal) (m:=4) (ps:=[inR IntKind.i64 (((k:Nat):Int) + 1)]) [.go,.go,.go] (by kernel_rfl) (by kernel_rfl) ⟨(iRA40 (by omega) (by omega)),trivial⟩ rfl (by show 3≤4; decide) ⟨⟨nb_ptr (by show 0 < 3; decide),nb_ptr (by show 1 < 3; decide),nb_sl (by show 2 < 3; decide),nb_v _,nb_v _,nb_v _,nb_v _,trivial⟩,⟨⟨by show 0 < 3; decide,nbb_cells (nb_cons (nb_v _) (nb_cons (nb_free (freeL_xl (freeL_plainR _))) (fun _ hz=>absurd hz List.not_mem_nil)))⟩,⟨by show 1 < 3; decide,nbb_cells (nb_cons (nb_v _) (nb_cons (nb_v _) (fun _ hz=>absurd hz List.not_mem_nil)))⟩,⟨by show 2 < 3; decide,nbb_cells (nb_cons (nb_v _) (nb_cons (nb_v _) (nb_cons (nb_v _) (nb_cons (nb_v _) (fun _ hz=>absurd hz List.not_mem_nil)))))⟩,trivial⟩,rfl⟩) (Hd.en_on (⟨k + 1,by omega,trivial⟩) (by show 1 - (k + 1) < 1 - k; omega) (show ((qA40_4 R b k p y):Ev.Lit)=(qA40_10 R b k p y) from by have hz_:=congr (congrArg (fun (xq0:Ev.AV) (xq1:Ev.AV)=>(⟨[(2,(.ptr 0 0)),(5,(.ptr 1 0)),(6,(.sl 2 0 0 0)),qA40_33,(10,xq0),(11,xq1),(qA40_28 k)],[],3,[(qA40_27 R p y),(qA40_23 b p),(qA40_18 R b p)]⟩:Ev.Lit)) (congrArg (fun z=>Ev.AV.v (.int .i64 z)) (show ((((cntL (cdH (cRw R) 0) (1 + 2 * p) ((k:Nat):Int):Nat):Int) + (((gotL (seeM (cRw R) 0 (padF (dgT 0 ((k:Nat):Int)))) (1 + 2 * p)).length:Nat):Int)):Int)=((cntL (cdH (cRw R) 0) (1 + 2 * p) (((k + 1):Nat):Int):Nat):Int) from by exact al_many hE hk3))) (congrArg (fun z=>Ev.AV.v (.int .i64 z)) (show ((((tmB (cdH (cRw R) 0) (fdI b p) ((k:Nat):Int):Nat):Int)):Int)=((tmB (cdH (cRw R) 0) (fdI b p) (((k + 1):Nat):Int):Nat):Int) from by exact tm_no (al_f hE hk3 hi hqla061_1))); exact hz_))
theorem la0_60 (y:Value) (R:List (Value×List Int)) (p:Nat) (b:Int) (hw:Known Try.prog (clsO wkC)) (hm:0=R.length) (hE:plE ((p:Nat):Int) (cRw R) 0=0) (hb:0≤b∧b≤255) (hqla07_1:(fnB (((p:Nat):Int)) (cRw R) 0)=true) (k:Nat) (hk1:k≤1) (hk2:True) (hqla038_1:(ltI (((k:Nat):Int)) ((1:Int)))=true) (hf1:0 < (gotL (seeM (cRw R) 0 (padF (dgT 0 ((k:Nat):Int)))) (1 + 2 * p)).length) (w:World) (hs:List Nat):Goes Try.prog 97 la0K53 ((qA40_1 R b k p y)) (BaseW.H w hs) (Hd.AfterB Try.prog 97 3 la0K40 w (Hd.StepC Try.prog 97 2 (fun k:{k:Nat // k≤1∧True}=>⟨[(2,(.ptr 0 0)),(5,(.ptr 1 0)),(6,(.sl 2 0 0 0)),qA40_33,(10,(.v (.int .i64 ((cntL (cdH (cRw R) 0) (1 + 2 * p) ((k.1:Nat):Int):Nat):Int)))),(11,(.v (.int .i64 ((tmB (cdH (cRw R) 0) (fdI b p) ((k.1:Nat):Int):Nat):Int)))),(12,(.v (.int .i64 ((k.1:Nat):Int))))],[],3,[(qA40_27 R p y),(qA40_23 b p),(qA40_18 R b p)]⟩) (fun k:{k:Nat // k≤1∧True}=>1 - k.1) la0K27 w (OutH Try.prog Try.f10 97 (.bool true) w) (⟨k,hk1,hk2⟩:{k:Nat // k≤1∧True}))):=by
 obtain ⟨-,hp,-⟩:=plE_zero hE
 have hi:=fdI_lt (b:=b) (p:=p) hb
 have hca:=cas_ca (p:=p) (by omega) hi
 have ghqla038_1:=ltI_true hqla038_1
 have hcn:=cntL_le (cdH (cRw R) 0) ((k:Nat):Int) (1 + 2 * p)
 have hgl:=got_le (seeM (cRw R) 0 (padF (dgT 0 ((k:Nat):Int)))) (1 + 2 * p)
 have htb:tmB (cdH (cRw R) 0) (fdI b p) ((k:Nat):Int)≤1:=by unfold tmB; split <;> omega
 have hk3:((k:Nat):Int) < pw3 0:=ltI_true hqla038_1
 rcases Bool.eq_false_or_eq_true (hsB (cR (gotL (seeM (cRw R) 0 (padF (dgT 0 ((k:Nat):Int)))) (1 + 2 * p))) (caseN (fdI b p)).fst (caseN (fdI b p)).snd) with hqla061_1 | hqla061_1
 ·skip
  exact goes_leafA isN_e (goes_told Try.checked.mixed (known_la0 hw known_cab) 200 (T':=(qA40_5 R b k p y)) (e:=.normal) (ps:=[(!eqI ((0:Int)) 0)=false,inR IntKind.i64 (((cntL (cdH (cRw R) 0) (1 + 2 * p) ((k:Nat):Int):Nat):Int) + (((gotL (seeM (cRw R) 0 (padF (dgT 0 ((k:Nat):Int)))) (1 + 2 * p)).length:Nat):Int)),((26:Nat)=26),cR (gotL (seeM (cRw R) 0 (padF (dgT 0 ((k:Nat):Int)))) (1 + 2 * p))=cR (unR (cR (gotL (seeM (cRw R) 0 (padF (dgT 0 ((k:Nat):Int)))) (1 + 2 * p))))∧(gotL (seeM (cRw R) 0 (padF (dgT 0 ((k:Nat):Int)))) (1 + 2 * p)).length=(unR (cR (gotL (seeM (cRw R) 0 (padF (dgT 0 ((k:Nat):Int)))) (1 + 2 * p)))).length,(gotL (seeM (cRw R) 0 (padF (dgT 0 ((k:Nat):Int)))) (1 + 2 * p)).length≤1000,hsB (cR (gotL (seeM (cRw R) 0 (padF (dgT 0 ((k:Nat):Int)))) (1 + 2 * p))) (caseN (fdI b p)).fst (caseN (fdI b p)).snd=true,inR IntKind.i64 (((tmB (cdH (cRw R) 0) (fdI b p) ((k:Nat):Int):Nat):Int) + 1),0 + 0 * (0 + 1)≤([(.v (.int .i64 (sv (cRw R) 0 (caseN (fdI b p)).fst (caseN (fdI b p)).snd 0))),(.v (.int .i64 (sv (cRw R) 0 (caseN (fdI b p)).fst (caseN (fdI b p)).snd 1))),(.v (.int .i64 (sv (cRw R) 0 (caseN (fdI b p)).fst (caseN (fdI b p)).snd 2))),(.v (.int .i64 (sv (cRw R) 0 (caseN (fdI b p)).fst (caseN (fdI b p)).snd 3)))]:List AV).length,((0:Nat)≤0),IsI (0 + 1) 0 [],IsI (0 + 1) 0 (List.take (0 * (0 + 1)) (List.drop 0 [AV.v (Value.int IntKind.i64 (sv (cRw R) 0 (caseN (fdI b p)).fst (caseN (fdI b p)).snd 0)),AV.v (Value.int IntKind.i64 (sv (cRw R) 0 (caseN (fdI b p)).fst (caseN (fdI b p)).snd 1)),AV.v (Value.int IntKind.i64 (sv (cRw R) 0 (caseN (fdI b p)).fst (caseN (fdI b p)).snd 2)),AV.v (Value.int IntKind.i64 (sv (cRw R) 0 (caseN (fdI b p)).fst (caseN (fdI b p)).snd 3))])),((0:Nat)≤1000),(!smB [] (List.take (0 * (0 + 1)) (List.drop 0 [AV.v (Value.int IntKind.i64 (sv (cRw R) 0 (caseN (fdI b p)).fst (caseN (fdI b p)).snd 0)),AV.v (Value.int IntKind.i64 (sv (cRw R) 0 (caseN (fdI b p)).fst (caseN (fdI b p)).snd 1)),AV.v (Value.int IntKind.i64 (sv (cRw R) 0 (caseN (fdI b p)).fst (caseN (fdI b p)).snd 2)),AV.v (Value.int IntKind.i64 (sv (cRw R) 0 (caseN (fdI b p)).fst (caseN (fdI b p)).snd 3))])))=false]) [.go,.go,.b false,.go,.go,.go,.go,.go,.go,.go,.b true,.go,.go,.go,.go,.go,.go,.b false] (by kernel_rfl) (by kernel_rfl) ⟨rfl,(iRA40 (by omega) (by omega)),rfl,⟨by rw [unR_cR],by rw [unR_cR]⟩,(by have h9:=got_le (seeM (cRw R) 0 (padF (dgT 0 ((k:Nat):Int)))) (1 + 2 * p); omega),hqla061_1,(iRA40 (by omega) (by omega)),(Nat.le_of_ble_eq_true rfl),(by decide),⟨rfl,[],rfl,rfl⟩,⟨rfl,tabL (sv (cRw R) 0 (caseN (fdI b p)).1 (caseN (fdI b p)).2) 0,rfl,rfl⟩,(by decide),rfl,trivial⟩ rfl) (Hd.en_bn (la0_62 y R p b hw hm hE hb hqla07_1 k hk1 hk2 hqla038_1 hf1 hqla061_1 w hs))
 ·skip
  exact goes_leafA isN_e (goes_told Try.checked.mixed (known_la0 hw known_cab) 200 (T':=(qA40_6 R b k p y)) (e:=.normal) (ps:=[(!eqI ((0:Int)) 0)=false,inR IntKind.i64 (((cntL (cdH (cRw R) 0) (1 + 2 * p) ((k:Nat):Int):Nat):Int) + (((gotL (seeM (cRw R) 0 (padF (dgT 0 ((k:Nat):Int)))) (1 + 2 * p)).length:Nat):Int)),((26:Nat)=26),cR (gotL (seeM (cRw R) 0 (padF (dgT 0 ((k:Nat):Int)))) (1 + 2 * p))=cR (unR (cR (gotL (seeM (cRw R) 0 (padF (dgT 0 ((k:Nat):Int)))) (1 + 2 * p))))∧(gotL (seeM (cRw R) 0 (padF (dgT 0 ((k:Nat):Int)))) (1 + 2 * p)).length=(unR (cR (gotL (seeM (cRw R) 0 (padF (dgT 0 ((k:Nat):Int)))) (1 + 2 * p)))).length,(gotL (seeM (cRw R) 0 (padF (dgT 0 ((k:Nat):Int)))) (1 + 2 * p)).length≤1000,hsB (cR (gotL (seeM (cRw R) 0 (padF (dgT 0 ((k:Nat):Int)))) (1 + 2 * p))) (caseN (fdI b p)).fst (caseN (fdI b p)).snd=false]) [.go,.go,.b false,.go,.go,.go,.go,.go,.go,.go,.b false] (by kernel_rfl) (by kernel_rfl) ⟨rfl,(iRA40 (by omega) (by omega)),rfl,⟨by rw [unR_cR],by rw [unR_cR]⟩,(by have h9:=got_le (seeM (cRw R) 0 (padF (dgT 0 ((k:Nat):Int)))) (1 + 2 * p); omega),hqla061_1,trivial⟩ rfl) (Hd.en_bn (la0_64 y R p b hw hm hE hb hqla07_1 k hk1 hk2 hqla038_1 hf1 hqla061_1 w hs))
theorem la0_52 (y:Value) (R:List (Value×List Int)) (p:Nat) (b:Int) (hw:Known Try.prog (clsO wkC)) (hm:0=R.length) (hE:plE ((p:Nat):Int) (cRw R) 0=0) (hb:0≤b∧b≤255) (hqla07_1:(fnB (((p:Nat):Int)) (cRw R) 0)=true) (k:Nat) (hk1:k≤1) (hk2:True) (hqla038_1:(ltI (((k:Nat):Int)) ((1:Int)))=true) (w:World) (hs:List Nat):Goes Try.prog 97 la0K50 ((qA40_8 R b k p y)) (BaseW.H w hs) (Hd.AfterB Try.prog 97 3 la0K40 w (Hd.StepC Try.prog 97 2 (fun k:{k:Nat // k≤1∧True}=>⟨[(2,(.ptr 0 0)),(5,(.ptr 1 0)),(6,(.sl 2 0 0 0)),qA40_33,(10,(.v (.int .i64 ((cntL (cdH (cRw R) 0) (1 + 2 * p) ((k.1:Nat):Int):Nat):Int)))),(11,(.v (.int .i64 ((tmB (cdH (cRw R) 0) (fdI b p) ((k.1:Nat):Int):Nat):Int)))),(12,(.v (.int .i64 ((k.1:Nat):Int))))],[],3,[(qA40_27 R p y),(qA40_23 b p),(qA40_18 R b p)]⟩) (fun k:{k:Nat // k≤1∧True}=>1 - k.1) la0K27 w (OutH Try.prog Try.f10 97 (.bool true) w) (⟨k,hk1,hk2⟩:{k:Nat // k≤1∧True}))):=by
 obtain ⟨-,hp,-⟩:=plE_zero hE
 have hi:=fdI_lt (b:=b) (p:=p) hb
 have hca:=cas_ca (p:=p) (by omega) hi
 have ghqla038_1:=ltI_true hqla038_1
 have hcn:=cntL_le (cdH (cRw R) 0) ((k:Nat):Int) (1 + 2 * p)
 have hgl:=got_le (seeM (cRw R) 0 (padF (dgT 0 ((k:Nat):Int)))) (1 + 2 * p)
 have htb:tmB (cdH (cRw R) 0) (fdI b p) ((k:Nat):Int)≤1:=by unfold tmB; split <;> omega
 have hk3:((k:Nat):Int) < pw3 0:=ltI_true hqla038_1
 refine Hd.goes_seqA (by kernel_rfl) ?_
 rcases Nat.eq_zero_or_pos (gotL (seeM (cRw R) 0 (padF (dgT 0 ((k:Nat):Int)))) (1 + 2 * p)).length with hf0 | hf1
 ·skip
  exact goes_leafA isN_e (goes_told Try.checked.mixed (known_la0 hw known_caa) 200 (T':=(qA40_2 R b k p y)) (e:=.normal) (ps:=[IsR 0 (cRw R),0 + 1=1∧[]=cI (dgT 0 ((k:Nat):Int))∧0=(dgT 0 ((k:Nat):Int)).length,csE (((p:Nat):Int)) (cRw R) 0 [] 0=0,(gotL (seeM (cRw R) 0 (padF (dgT 0 ((k:Nat):Int)))) (1 + 2 * p)).length=0]) [.go,.go,.go,.go,.go,.go,.go] (by kernel_rfl) (by kernel_rfl) ⟨⟨R,rfl,hm⟩,⟨rfl,rfl,rfl⟩,(csE_dg (x:=((k:Nat):Int)) hE (by omega)),hf0,trivial⟩ rfl) (Hd.en_n (la0_55 y R p b hw hm hE hb hqla07_1 k hk1 hk2 hqla038_1 hf0 w hs))
 ·skip
  exact goes_leafA isN_e (goes_told Try.checked.mixed (known_la0 hw known_cab) 200 (T':=(qA40_1 R b k p y)) (e:=.normal) (ps:=[IsR 0 (cRw R),0 + 1=1∧[]=cI (dgT 0 ((k:Nat):Int))∧0=(dgT 0 ((k:Nat):Int)).length,csE (((p:Nat):Int)) (cRw R) 0 [] 0=0,0 < (gotL (seeM (cRw R) 0 (padF (dgT 0 ((k:Nat):Int)))) (1 + 2 * p)).length]) [.go,.go,.go,.go,.go,.go,.go] (by kernel_rfl) (by kernel_rfl) ⟨⟨R,rfl,hm⟩,⟨rfl,rfl,rfl⟩,(csE_dg (x:=((k:Nat):Int)) hE (by omega)),hf1,trivial⟩ rfl) (Hd.en_n (la0_60 y R p b hw hm hE hb hqla07_1 k hk1 hk2 hqla038_1 hf1 w hs))
theorem la0_49 (y:Value) (R:List (Value×List Int)) (p:Nat) (b:Int) (hw:Known Try.prog (clsO wkC)) (hm:0=R.length) (hE:plE ((p:Nat):Int) (cRw R) 0=0) (hb:0≤b∧b≤255) (hqla07_1:(fnB (((p:Nat):Int)) (cRw R) 0)=true) (k:Nat) (hk1:k≤1) (hk2:True) (hqla038_1:(ltI (((k:Nat):Int)) ((1:Int)))=true) (w:World) (hs:List Nat):Goes Try.prog 97 la0K47 ((qA40_7 R b k p y)) (BaseW.H w hs) (Hd.AfterB Try.prog 97 3 la0K40 w (Hd.StepC Try.prog 97 2 (fun k:{k:Nat // k≤1∧True}=>⟨[(2,(.ptr 0 0)),(5,(.ptr 1 0)),(6,(.sl 2 0 0 0)),qA40_33,(10,(.v (.int .i64 ((cntL (cdH (cRw R) 0) (1 + 2 * p) ((k.1:Nat):Int):Nat):Int)))),(11,(.v (.int .i64 ((tmB (cdH (cRw R) 0) (fdI b p) ((k.1:Nat):Int):Nat):Int)))),(12,(.v (.int .i64 ((k.1:Nat):Int))))],[],3,[(qA40_27 R p y),(qA40_23 b p),(qA40_18 R b p)]⟩) (fun k:{k:Nat // k≤1∧True}=>1 - k.1) la0K27 w (OutH Try.prog Try.f10 97 (.bool true) w) (⟨k,hk1,hk2⟩:{k:Nat // k≤1∧True}))):=by
 obtain ⟨-,hp,-⟩:=plE_zero hE
 have hi:=fdI_lt (b:=b) (p:=p) hb
 have hca:=cas_ca (p:=p) (by omega) hi
 have ghqla038_1:=ltI_true hqla038_1
 have hcn:=cntL_le (cdH (cRw R) 0) ((k:Nat):Int) (1 + 2 * p)
 have hgl:=got_le (seeM (cRw R) 0 (padF (dgT 0 ((k:Nat):Int)))) (1 + 2 * p)
 have htb:tmB (cdH (cRw R) 0) (fdI b p) ((k:Nat):Int)≤1:=by unfold tmB; split <;> omega
 have hk3:((k:Nat):Int) < pw3 0:=ltI_true hqla038_1
 refine Hd.goes_seqA (by kernel_rfl) ?_
 exact goes_leafA isN_e (goes_told Try.checked.mixed (known_la0 hw known_caa) 200 (T':=(qA40_8 R b k p y)) (e:=.normal) (ps:=[ltI 0 ((0:Nat):Int)=false]) [.go,.go,.go,.go,.go,.go,.b false] (by kernel_rfl) (by kernel_rfl) ⟨rfl,trivial⟩ rfl) (Hd.en_n (la0_52 y R p b hw hm hE hb hqla07_1 k hk1 hk2 hqla038_1 w hs))
theorem la0_46 (y:Value) (R:List (Value×List Int)) (p:Nat) (b:Int) (hw:Known Try.prog (clsO wkC)) (hm:0=R.length) (hE:plE ((p:Nat):Int) (cRw R) 0=0) (hb:0≤b∧b≤255) (hqla07_1:(fnB (((p:Nat):Int)) (cRw R) 0)=true) (k:Nat) (hk1:k≤1) (hk2:True) (hqla038_1:(ltI (((k:Nat):Int)) ((1:Int)))=true) (w:World) (hs:List Nat):Goes Try.prog 97 la0K44 ((qA40_8 R b k p y)) (BaseW.H w hs) (Hd.AfterB Try.prog 97 3 la0K40 w (Hd.StepC Try.prog 97 2 (fun k:{k:Nat // k≤1∧True}=>⟨[(2,(.ptr 0 0)),(5,(.ptr 1 0)),(6,(.sl 2 0 0 0)),qA40_33,(10,(.v (.int .i64 ((cntL (cdH (cRw R) 0) (1 + 2 * p) ((k.1:Nat):Int):Nat):Int)))),(11,(.v (.int .i64 ((tmB (cdH (cRw R) 0) (fdI b p) ((k.1:Nat):Int):Nat):Int)))),(12,(.v (.int .i64 ((k.1:Nat):Int))))],[],3,[(qA40_27 R p y),(qA40_23 b p),(qA40_18 R b p)]⟩) (fun k:{k:Nat // k≤1∧True}=>1 - k.1) la0K27 w (OutH Try.prog Try.f10 97 (.bool true) w) (⟨k,hk1,hk2⟩:{k:Nat // k≤1∧True}))):=by
 obtain ⟨-,hp,-⟩:=plE_zero hE
 have hi:=fdI_lt (b:=b) (p:=p) hb
 have hca:=cas_ca (p:=p) (by omega) hi
 have ghqla038_1:=ltI_true hqla038_1
 have hcn:=cntL_le (cdH (cRw R) 0) ((k:Nat):Int) (1 + 2 * p)
 have hgl:=got_le (seeM (cRw R) 0 (padF (dgT 0 ((k:Nat):Int)))) (1 + 2 * p)
 have htb:tmB (cdH (cRw R) 0) (fdI b p) ((k:Nat):Int)≤1:=by unfold tmB; split <;> omega
 have hk3:((k:Nat):Int) < pw3 0:=ltI_true hqla038_1
 refine Hd.goes_seqA (by kernel_rfl) ?_
 exact goes_leafA isN_e (goes_told Try.checked.mixed (known_la0 hw known_caa) 200 (T':=(qA40_7 R b k p y)) (e:=.normal) (ps:=[]) [.go,.go] (by kernel_rfl) (by kernel_rfl) trivial rfl) (Hd.en_n (la0_49 y R p b hw hm hE hb hqla07_1 k hk1 hk2 hqla038_1 w hs))
theorem la0_43 (y:Value) (R:List (Value×List Int)) (p:Nat) (b:Int) (hw:Known Try.prog (clsO wkC)) (hm:0=R.length) (hE:plE ((p:Nat):Int) (cRw R) 0=0) (hb:0≤b∧b≤255) (hqla07_1:(fnB (((p:Nat):Int)) (cRw R) 0)=true) (k:Nat) (hk1:k≤1) (hk2:True) (hqla038_1:(ltI (((k:Nat):Int)) ((1:Int)))=true) (w:World) (hs:List Nat):Goes Try.prog 97 la0K42 ((qA40_12 R b k p y)) (BaseW.H w hs) (Hd.AfterB Try.prog 97 3 la0K40 w (Hd.StepC Try.prog 97 2 (fun k:{k:Nat // k≤1∧True}=>⟨[(2,(.ptr 0 0)),(5,(.ptr 1 0)),(6,(.sl 2 0 0 0)),qA40_33,(10,(.v (.int .i64 ((cntL (cdH (cRw R) 0) (1 + 2 * p) ((k.1:Nat):Int):Nat):Int)))),(11,(.v (.int .i64 ((tmB (cdH (cRw R) 0) (fdI b p) ((k.1:Nat):Int):Nat):Int)))),(12,(.v (.int .i64 ((k.1:Nat):Int))))],[],3,[(qA40_27 R p y),(qA40_23 b p),(qA40_18 R b p)]⟩) (fun k:{k:Nat // k≤1∧True}=>1 - k.1) la0K27 w (OutH Try.prog Try.f10 97 (.bool true) w) (⟨k,hk1,hk2⟩:{k:Nat // k≤1∧True}))):=by
 obtain ⟨-,hp,-⟩:=plE_zero hE
 have hi:=fdI_lt (b:=b) (p:=p) hb
 have hca:=cas_ca (p:=p) (by omega) hi
 have ghqla038_1:=ltI_true hqla038_1
 have hcn:=cntL_le (cdH (cRw R) 0) ((k:Nat):Int) (1 + 2 * p)
 have hgl:=got_le (seeM (cRw R) 0 (padF (dgT 0 ((k:Nat):Int)))) (1 + 2 * p)
 have htb:tmB (cdH (cRw R) 0) (fdI b p) ((k:Nat):Int)≤1:=by unfold tmB; split <;> omega
 have hk3:((k:Nat):Int) < pw3 0:=ltI_true hqla038_1
 refine Hd.goes_seqA (by kernel_rfl) ?_
 exact goes_leafA isN_e (goes_told Try.checked.mixed (known_la0 hw known_caa) 200 (T':=(qA40_8 R b k p y)) (e:=.normal) (ps:=[]) [.go] (by kernel_rfl) (by kernel_rfl) trivial rfl) (Hd.en_n (la0_46 y R p b hw hm hE hb hqla07_1 k hk1 hk2 hqla038_1 w hs))
theorem la0_41 (y:Value) (R:List (Value×List Int)) (p:Nat) (b:Int) (hw:Known Try.prog (clsO wkC)) (hm:0=R.length) (hE:plE ((p:Nat):Int) (cRw R) 0=0) (hb:0≤b∧b≤255) (hqla07_1:(fnB (((p:Nat):Int)) (cRw R) 0)=true) (k:Nat) (hk1:k≤1) (hk2:True) (hqla038_1:(ltI (((k:Nat):Int)) ((1:Int)))=true) (w:World) (hs:List Nat):Goes Try.prog 97 (hdC la0K37) ((qA40_12 R b k p y)) (BaseW.H w hs) (Hd.AfterN Try.prog 97 la0K40 w (Hd.StepC Try.prog 97 2 (fun k:{k:Nat // k≤1∧True}=>⟨[(2,(.ptr 0 0)),(5,(.ptr 1 0)),(6,(.sl 2 0 0 0)),qA40_33,(10,(.v (.int .i64 ((cntL (cdH (cRw R) 0) (1 + 2 * p) ((k.1:Nat):Int):Nat):Int)))),(11,(.v (.int .i64 ((tmB (cdH (cRw R) 0) (fdI b p) ((k.1:Nat):Int):Nat):Int)))),(12,(.v (.int .i64 ((k.1:Nat):Int))))],[],3,[(qA40_27 R p y),(qA40_23 b p),(qA40_18 R b p)]⟩) (fun k:{k:Nat // k≤1∧True}=>1 - k.1) la0K27 w (OutH Try.prog Try.f10 97 (.bool true) w) (⟨k,hk1,hk2⟩:{k:Nat // k≤1∧True}))):=by
 exact Hd.goes_blkA (id:=3) (by kernel_rfl) (by kernel_rfl) (la0_43 y R p b hw hm hE hb hqla07_1 k hk1 hk2 hqla038_1 w hs)
theorem la0_39 (y:Value) (R:List (Value×List Int)) (p:Nat) (b:Int) (hw:Known Try.prog (clsO wkC)) (hm:0=R.length) (hE:plE ((p:Nat):Int) (cRw R) 0=0) (hb:0≤b∧b≤255) (hqla07_1:(fnB (((p:Nat):Int)) (cRw R) 0)=true) (k:Nat) (hk1:k≤1) (hk2:True) (hqla038_1:(ltI (((k:Nat):Int)) ((1:Int)))=true) (w:World) (hs:List Nat):Goes Try.prog 97 la0K37 ((qA40_12 R b k p y)) (BaseW.H w hs) (Hd.StepC Try.prog 97 2 (fun k:{k:Nat // k≤1∧True}=>⟨[(2,(.ptr 0 0)),(5,(.ptr 1 0)),(6,(.sl 2 0 0 0)),qA40_33,(10,(.v (.int .i64 ((cntL (cdH (cRw R) 0) (1 + 2 * p) ((k.1:Nat):Int):Nat):Int)))),(11,(.v (.int .i64 ((tmB (cdH (cRw R) 0) (fdI b p) ((k.1:Nat):Int):Nat):Int)))),(12,(.v (.int .i64 ((k.1:Nat):Int))))],[],3,[(qA40_27 R p y),(qA40_23 b p),(qA40_18 R b p)]⟩) (fun k:{k:Nat // k≤1∧True}=>1 - k.1) la0K27 w (OutH Try.prog Try.f10 97 (.bool true) w) (⟨k,hk1,hk2⟩:{k:Nat // k≤1∧True})):=by
 exact Hd.goes_seqA (by kernel_rfl) (la0_41 y R p b hw hm hE hb hqla07_1 k hk1 hk2 hqla038_1 w hs)
theorem la0_66 (y:Value) (R:List (Value×List Int)) (p:Nat) (b:Int) (hw:Known Try.prog (clsO wkC)) (hm:0=R.length) (hE:plE ((p:Nat):Int) (cRw R) 0=0) (hb:0≤b∧b≤255) (hqla07_1:(fnB (((p:Nat):Int)) (cRw R) 0)=true) (h2b:True) (hqla038_1:(ltI (((1:Nat):Int)) ((1:Int)))=false) (w:World) (hs:List Nat):Goes Try.prog 97 la0K27 ((qA40_19 R b p y)) (BaseW.H w hs) (OutH Try.prog Try.f10 97 (.bool true) w):=by
 obtain ⟨-,hp,-⟩:=plE_zero hE
 have hi:=fdI_lt (b:=b) (p:=p) hb
 have hca:=cas_ca (p:=p) (by omega) hi
 have ghqla038_1:=ltI_false hqla038_1
 rcases Bool.eq_false_or_eq_true (eqI (((cntL (cdH (cRw R) 0) (1 + 2 * p) 1:Nat):Int)) (2 * ((p:Nat):Int) + 1)) with hqla067_1 | hqla067_1
 ·skip
  have ghqla067_1:=eqI_true hqla067_1
  exact goes_leafA isR_e (goes_told Try.checked.mixed (known_la0 hw known_caa) 200 (T':=⟨[(4,(.v (.bool .true)))],[],3,[]⟩) (e:=.ret) (ps:=[inR IntKind.i64 (2 * ((p:Nat):Int)),inR IntKind.i64 (2 * ((p:Nat):Int) + 1),eqI (((cntL (cdH (cRw R) 0) (1 + 2 * p) 1:Nat):Int)) (2 * ((p:Nat):Int) + 1)=true,true=true,eqI (((tmB (cdH (cRw R) 0) (fdI b p) 1:Nat):Int)) 1=true]) [.go,.go,.go,.go,.go,.go,.go,.b true,.go,.b true,.go,.go,.go,.b true,.go,.go] (by kernel_rfl) (by kernel_rfl) ⟨(iRA40 (by omega) (by omega)),(iRA40 (by omega) (by omega)),hqla067_1,rfl,rfl,trivial⟩ rfl) (Hd.en_eq (r:=(.bool .true)) (by rfl) (Hd.en_ret (v:=(.v (.bool .true))) (by kernel_rfl) rfl))
 ·skip
  have ghqla067_1:=eqI_false hqla067_1
  exfalso
  have h9:=eqI_false hqla067_1
  have h8:cntL (cdH (cRw R) 0) (1 + 2 * p) (1:Int)=(1 + 2 * p):=al_end hE
  rw [h8] at h9
  omega
theorem la0_36 (y:Value) (R:List (Value×List Int)) (p:Nat) (b:Int) (hw:Known Try.prog (clsO wkC)) (hm:0=R.length) (hE:plE ((p:Nat):Int) (cRw R) 0=0) (hb:0≤b∧b≤255) (hqla07_1:(fnB (((p:Nat):Int)) (cRw R) 0)=true) (k:Nat) (hk1:k≤1) (hk2:True) (w:World) (hs:List Nat):Goes Try.prog 97 la0K34 (⟨[(2,(.ptr 0 0)),(5,(.ptr 1 0)),(6,(.sl 2 0 0 0)),qA40_33,(10,(.v (.int .i64 ((cntL (cdH (cRw R) 0) (1 + 2 * p) ((k:Nat):Int):Nat):Int)))),(11,(.v (.int .i64 ((tmB (cdH (cRw R) 0) (fdI b p) ((k:Nat):Int):Nat):Int)))),(12,(.v (.int .i64 ((k:Nat):Int))))],[],3,[(qA40_27 R p y),(qA40_23 b p),(qA40_18 R b p)]⟩) (BaseW.H w hs) (Hd.StepC Try.prog 97 2 (fun k:{k:Nat // k≤1∧True}=>⟨[(2,(.ptr 0 0)),(5,(.ptr 1 0)),(6,(.sl 2 0 0 0)),qA40_33,(10,(.v (.int .i64 ((cntL (cdH (cRw R) 0) (1 + 2 * p) ((k.1:Nat):Int):Nat):Int)))),(11,(.v (.int .i64 ((tmB (cdH (cRw R) 0) (fdI b p) ((k.1:Nat):Int):Nat):Int)))),(12,(.v (.int .i64 ((k.1:Nat):Int))))],[],3,[(qA40_27 R p y),(qA40_23 b p),(qA40_18 R b p)]⟩) (fun k:{k:Nat // k≤1∧True}=>1 - k.1) la0K27 w (OutH Try.prog Try.f10 97 (.bool true) w) (⟨k,hk1,hk2⟩:{k:Nat // k≤1∧True})):=by
 obtain ⟨-,hp,-⟩:=plE_zero hE
 have hi:=fdI_lt (b:=b) (p:=p) hb
 have hca:=cas_ca (p:=p) (by omega) hi
 refine Hd.goes_seqA (by kernel_rfl) ?_
 rcases Bool.eq_false_or_eq_true (ltI (((k:Nat):Int)) ((1:Int))) with hqla038_1 | hqla038_1
 ·skip
  have ghqla038_1:=ltI_true hqla038_1
  have hcn:=cntL_le (cdH (cRw R) 0) ((k:Nat):Int) (1 + 2 * p)
  have hgl:=got_le (seeM (cRw R) 0 (padF (dgT 0 ((k:Nat):Int)))) (1 + 2 * p)
  have htb:tmB (cdH (cRw R) 0) (fdI b p) ((k:Nat):Int)≤1:=by unfold tmB; split <;> omega
  have hk3:((k:Nat):Int) < pw3 0:=ltI_true hqla038_1
  exact goes_leafA isN_e (goes_told Try.checked.mixed (known_la0 hw known_caa) 200 (T':=(qA40_12 R b k p y)) (e:=.normal) (ps:=[ltI (((k:Nat):Int)) ((1:Int))=true]) [.go,.go,.go,.b true] (by kernel_rfl) (by kernel_rfl) ⟨hqla038_1,trivial⟩ rfl) (Hd.en_n (la0_39 y R p b hw hm hE hb hqla07_1 k hk1 hk2 hqla038_1 w hs))
 ·skip
  have ghqla038_1:=ltI_false hqla038_1
  obtain rfl:1=k:=by omega
  exact goes_leafA isX_e (goes_told Try.checked.mixed (known_la0 hw known_caa) 200 (T':=(qA40_19 R b p y)) (e:=.exit 2) (ps:=[ltI (((1:Nat):Int)) ((1:Int))=false]) [.go,.go,.go,.b false] (by kernel_rfl) (by kernel_rfl) ⟨hqla038_1,trivial⟩ rfl) (Hd.en_o (by intro h; cases h) (Hd.en_sx (la0_66 y R p b hw hm hE hb hqla07_1 hk2  hqla038_1 w hs)))
theorem la0_33 (y:Value) (R:List (Value×List Int)) (p:Nat) (b:Int) (hw:Known Try.prog (clsO wkC)) (hm:0=R.length) (hE:plE ((p:Nat):Int) (cRw R) 0=0) (hb:0≤b∧b≤255) (hqla07_1:(fnB (((p:Nat):Int)) (cRw R) 0)=true) (w:World) (hs:List Nat):Goes Try.prog 97 la0K30 ((qA40_13 R b p y)) (BaseW.H w hs) (Hd.AfterN Try.prog 97 la0K27 w (OutH Try.prog Try.f10 97 (.bool true) w)):=by
 obtain ⟨-,hp,-⟩:=plE_zero hE
 have hi:=fdI_lt (b:=b) (p:=p) hb
 have hca:=cas_ca (p:=p) (by omega) hi
 rw [show ((qA40_13 R b p y):Ev.Lit)=⟨[(2,(.ptr 0 0)),(5,(.ptr 1 0)),(6,(.sl 2 0 0 0)),qA40_33,(10,(.v (.int .i64 ((cntL (cdH (cRw R) 0) (1 + 2 * p) ((0:Nat):Int):Nat):Int)))),(11,(.v (.int .i64 ((tmB (cdH (cRw R) 0) (fdI b p) ((0:Nat):Int):Nat):Int)))),(12,(.v (.int .i64 ((0:Nat):Int))))],[],3,[(qA40_27 R p y),(qA40_23 b p),(qA40_18 R b p)]⟩ from by (rw [show cntL (cdH (cRw R) 0) (1 + 2 * p) ((0:Nat):Int)=0 from al_start hE,show tmB (cdH (cRw R) 0) (fdI b p) ((0:Nat):Int)=0 from tm_start hE hi]; rfl)]
 exact Hd.goes_loopA (id:=2) (by kernel_rfl) (by kernel_rfl) (fun k:{k:Nat // k≤1∧True}=>⟨[(2,(.ptr 0 0)),(5,(.ptr 1 0)),(6,(.sl 2 0 0 0)),qA40_33,(10,(.v (.int .i64 ((cntL (cdH (cRw R) 0) (1 + 2 * p) ((k.1:Nat):Int):Nat):Int)))),(11,(.v (.int .i64 ((tmB (cdH (cRw R) 0) (fdI b p) ((k.1:Nat):Int):Nat):Int)))),(12,(.v (.int .i64 ((k.1:Nat):Int))))],[],3,[(qA40_27 R p y),(qA40_23 b p),(qA40_18 R b p)]⟩) (fun k:{k:Nat // k≤1∧True}=>1 - k.1) (fun ix_ hs=>la0_36 y R p b hw hm hE hb hqla07_1 ix_.1 ix_.2.1 ix_.2.2 w hs) ⟨0,Nat.zero_le _,trivial⟩ hs
theorem la0_32 (y:Value) (R:List (Value×List Int)) (p:Nat) (b:Int) (hw:Known Try.prog (clsO wkC)) (hm:0=R.length) (hE:plE ((p:Nat):Int) (cRw R) 0=0) (hb:0≤b∧b≤255) (hqla07_1:(fnB (((p:Nat):Int)) (cRw R) 0)=true) (w:World) (hs:List Nat):Goes Try.prog 97 la0K30 ((qA40_13 R b p y)) (BaseW.H w hs) (Hd.AfterN Try.prog 97 la0K27 w (OutH Try.prog Try.f10 97 (.bool true) w)):=by
 exact la0_33 y R p b hw hm hE hb hqla07_1 w hs
theorem la0_29 (y:Value) (R:List (Value×List Int)) (p:Nat) (b:Int) (hw:Known Try.prog (clsO wkC)) (hm:0=R.length) (hE:plE ((p:Nat):Int) (cRw R) 0=0) (hb:0≤b∧b≤255) (hqla07_1:(fnB (((p:Nat):Int)) (cRw R) 0)=true) (w:World) (hs:List Nat):Goes Try.prog 97 la0K28 ((qA40_14 R b p y)) (BaseW.H w hs) (Hd.AfterN Try.prog 97 la0K27 w (OutH Try.prog Try.f10 97 (.bool true) w)):=by
 obtain ⟨-,hp,-⟩:=plE_zero hE
 have hi:=fdI_lt (b:=b) (p:=p) hb
 have hca:=cas_ca (p:=p) (by omega) hi
 refine Hd.goes_seqA (by kernel_rfl) ?_
 exact goes_leafA isN_e (goes_told Try.checked.mixed (known_la0 hw known_caa) 200 (T':=(qA40_13 R b p y)) (e:=.normal) (ps:=[]) [.go] (by kernel_rfl) (by kernel_rfl) trivial rfl) (Hd.en_n (la0_32 y R p b hw hm hE hb hqla07_1 w hs))
theorem la0_26 (y:Value) (R:List (Value×List Int)) (p:Nat) (b:Int) (hw:Known Try.prog (clsO wkC)) (hm:0=R.length) (hE:plE ((p:Nat):Int) (cRw R) 0=0) (hb:0≤b∧b≤255) (hqla07_1:(fnB (((p:Nat):Int)) (cRw R) 0)=true) (w:World) (hs:List Nat):Goes Try.prog 97 la0K24 ((qA40_14 R b p y)) (BaseW.H w hs) (OutH Try.prog Try.f10 97 (.bool true) w):=by
 exact Hd.goes_seqA (by kernel_rfl) (la0_29 y R p b hw hm hE hb hqla07_1 w hs)
theorem la0_23 (y:Value) (R:List (Value×List Int)) (p:Nat) (b:Int) (hw:Known Try.prog (clsO wkC)) (hm:0=R.length) (hE:plE ((p:Nat):Int) (cRw R) 0=0) (hb:0≤b∧b≤255) (hqla07_1:(fnB (((p:Nat):Int)) (cRw R) 0)=true) (w:World) (hs:List Nat):Goes Try.prog 97 la0K21 ((qA40_15 R b p y)) (BaseW.H w hs) (OutH Try.prog Try.f10 97 (.bool true) w):=by
 obtain ⟨-,hp,-⟩:=plE_zero hE
 have hi:=fdI_lt (b:=b) (p:=p) hb
 have hca:=cas_ca (p:=p) (by omega) hi
 refine Hd.goes_seqA (by kernel_rfl) ?_
 exact goes_leafA isN_e (goes_told Try.checked.mixed (known_la0 hw known_caa) 200 (T':=(qA40_14 R b p y)) (e:=.normal) (ps:=[]) [.go,.go] (by kernel_rfl) (by kernel_rfl) trivial rfl) (Hd.en_n (la0_26 y R p b hw hm hE hb hqla07_1 w hs))
theorem la0_20 (y:Value) (R:List (Value×List Int)) (p:Nat) (b:Int) (hw:Known Try.prog (clsO wkC)) (hm:0=R.length) (hE:plE ((p:Nat):Int) (cRw R) 0=0) (hb:0≤b∧b≤255) (hqla07_1:(fnB (((p:Nat):Int)) (cRw R) 0)=true) (w:World) (hs:List Nat):Goes Try.prog 97 la0K18 ((qA40_15 R b p y)) (BaseW.H w hs) (OutH Try.prog Try.f10 97 (.bool true) w):=by
 obtain ⟨-,hp,-⟩:=plE_zero hE
 have hi:=fdI_lt (b:=b) (p:=p) hb
 have hca:=cas_ca (p:=p) (by omega) hi
 refine Hd.goes_seqA (by kernel_rfl) ?_
 exact goes_leafA isN_e (goes_told Try.checked.mixed (known_la0 hw known_caa) 200 (T':=(qA40_15 R b p y)) (e:=.normal) (ps:=[ltI 0 ((0:Nat):Int)=false]) [.go,.go,.go,.go,.go,.go,.b false] (by kernel_rfl) (by kernel_rfl) ⟨rfl,trivial⟩ rfl) (Hd.en_n (la0_23 y R p b hw hm hE hb hqla07_1 w hs))
theorem la0_17 (y:Value) (R:List (Value×List Int)) (p:Nat) (b:Int) (hw:Known Try.prog (clsO wkC)) (hm:0=R.length) (hE:plE ((p:Nat):Int) (cRw R) 0=0) (hb:0≤b∧b≤255) (hqla07_1:(fnB (((p:Nat):Int)) (cRw R) 0)=true) (w:World) (hs:List Nat):Goes Try.prog 97 la0K15 ((qA40_17 R b p y)) (BaseW.H w hs) (OutH Try.prog Try.f10 97 (.bool true) w):=by
 obtain ⟨-,hp,-⟩:=plE_zero hE
 have hi:=fdI_lt (b:=b) (p:=p) hb
 have hca:=cas_ca (p:=p) (by omega) hi
 refine Hd.goes_seqA (by kernel_rfl) ?_
 exact goes_leafA isN_e (goes_told Try.checked.mixed (known_la0 hw known_caa) 200 (T':=(qA40_15 R b p y)) (e:=.normal) (ps:=[]) [.go] (by kernel_rfl) (by kernel_rfl) trivial rfl) (Hd.en_n (la0_20 y R p b hw hm hE hb hqla07_1 w hs))
theorem la0_14 (y:Value) (R:List (Value×List Int)) (p:Nat) (b:Int) (hw:Known Try.prog (clsO wkC)) (hm:0=R.length) (hE:plE ((p:Nat):Int) (cRw R) 0=0) (hb:0≤b∧b≤255) (hqla07_1:(fnB (((p:Nat):Int)) (cRw R) 0)=true) (w:World) (hs:List Nat):Goes Try.prog 97 la0K12 ((qA40_16 R b p y)) (BaseW.H w hs) (OutH Try.prog Try.f10 97 (.bool true) w):=by
 obtain ⟨-,hp,-⟩:=plE_zero hE
 have hi:=fdI_lt (b:=b) (p:=p) hb
 have hca:=cas_ca (p:=p) (by omega) hi
 refine Hd.goes_seqA (by kernel_rfl) ?_
 exact goes_leafA isN_e (goes_told Try.checked.mixed (known_la0 hw known_caa) 200 (T':=(qA40_17 R b p y)) (e:=.normal) (ps:=[(!eqI ((0:Int)) 0)=false]) [.go,.go,.b false] (by kernel_rfl) (by kernel_rfl) ⟨rfl,trivial⟩ rfl) (Hd.en_n (la0_17 y R p b hw hm hE hb hqla07_1 w hs))
theorem la0_11 (y:Value) (R:List (Value×List Int)) (p:Nat) (b:Int) (hw:Known Try.prog (clsO wkC)) (hm:0=R.length) (hE:plE ((p:Nat):Int) (cRw R) 0=0) (hb:0≤b∧b≤255) (hqla07_1:(fnB (((p:Nat):Int)) (cRw R) 0)=true) (w:World) (hs:List Nat):Goes Try.prog 97 la0K9 ((qA40_20 R b p y)) (BaseW.H w hs) (OutH Try.prog Try.f10 97 (.bool true) w):=by
 obtain ⟨-,hp,-⟩:=plE_zero hE
 have hi:=fdI_lt (b:=b) (p:=p) hb
 have hca:=cas_ca (p:=p) (by omega) hi
 refine Hd.goes_seqA (by kernel_rfl) ?_
 exact goes_leafA isN_e (goes_told Try.checked.mixed (known_la0 hw known_caa) 200 (T':=(qA40_16 R b p y)) (e:=.normal) (ps:=[IsR 0 (cRw R),plE (((p:Nat):Int)) (cRw R) 0=0,caB (((p:Nat):Int)) (caseN (fdI b p)).fst (caseN (fdI b p)).snd=true]) [.go,.go,.go,.go,.go,.go,.go] (by kernel_rfl) (by kernel_rfl) ⟨⟨R,rfl,hm⟩,hE,hca,trivial⟩ rfl) (Hd.en_n (la0_14 y R p b hw hm hE hb hqla07_1 w hs))
theorem la0_8 (y:Value) (R:List (Value×List Int)) (p:Nat) (b:Int) (hw:Known Try.prog (clsO wkC)) (hm:0=R.length) (hE:plE ((p:Nat):Int) (cRw R) 0=0) (hb:0≤b∧b≤255) (hqla07_1:(fnB (((p:Nat):Int)) (cRw R) 0)=true) (w:World) (hs:List Nat):Goes Try.prog 97 la0K6 ((qA40_22 R b p y)) (BaseW.H w hs) (OutH Try.prog Try.f10 97 (.bool true) w):=by
 obtain ⟨-,hp,-⟩:=plE_zero hE
 have hi:=fdI_lt (b:=b) (p:=p) hb
 have hca:=cas_ca (p:=p) (by omega) hi
 refine Hd.goes_seqA (by kernel_rfl) ?_
 exact goes_leafA isN_e (goes_told Try.checked.mixed (known_la0 hw known_caa) 200 (T':=(qA40_20 R b p y)) (e:=.normal) (ps:=[IsR 0 (cRw R),plE (((p:Nat):Int)) (cRw R) 0=0,0≤b∧b≤255]) [.go,.go,.go,.go] (by kernel_rfl) (by kernel_rfl) ⟨⟨R,rfl,hm⟩,hE,hb,trivial⟩ rfl) (Hd.en_n (la0_11 y R p b hw hm hE hb hqla07_1 w hs))
theorem la0_5 (y:Value) (R:List (Value×List Int)) (p:Nat) (b:Int) (hw:Known Try.prog (clsO wkC)) (hm:0=R.length) (hE:plE ((p:Nat):Int) (cRw R) 0=0) (hb:0≤b∧b≤255) (w:World) (hs:List Nat):Goes Try.prog 97 la0K3 ((qA40_22 R b p y)) (BaseW.H w hs) (OutH Try.prog Try.f10 97 (.bool true) w):=by
 obtain ⟨-,hp,-⟩:=plE_zero hE
 have hi:=fdI_lt (b:=b) (p:=p) hb
 have hca:=cas_ca (p:=p) (by omega) hi
 refine Hd.goes_seqA (by kernel_rfl) ?_
 rcases Bool.eq_false_or_eq_true (fnB (((p:Nat):Int)) (cRw R) 0) with hqla07_1 | hqla07_1
 ·skip
  exact goes_leafA isN_e (goes_told Try.checked.mixed (known_la0 hw known_caa) 200 (T':=(qA40_22 R b p y)) (e:=.normal) (ps:=[IsR 0 (cRw R),(!fnB (((p:Nat):Int)) (cRw R) 0)=false]) [.go,.go,.b false] (by kernel_rfl) (by kernel_rfl) ⟨⟨R,rfl,hm⟩,(by rw [hqla07_1]; rfl),trivial⟩ rfl) (Hd.en_n (la0_8 y R p b hw hm hE hb hqla07_1 w hs))
 ·skip
  exact goes_leafA isR_e (goes_told Try.checked.mixed (known_la0 hw known_caa) 200 (T':=⟨[(4,(.v (.bool .true)))],[],1,[]⟩) (e:=.ret) (ps:=[IsR 0 (cRw R),(!fnB (((p:Nat):Int)) (cRw R) 0)=true]) [.go,.go,.b true,.go] (by kernel_rfl) (by kernel_rfl) ⟨⟨R,rfl,hm⟩,(by rw [hqla07_1]; rfl),trivial⟩ rfl) (Hd.en_o (by intro h; cases h) (Hd.en_eq (r:=(.bool .true)) (by rfl) (Hd.en_ret (v:=(.v (.bool .true))) (by kernel_rfl) rfl)))
theorem la0_2 (y:Value) (R:List (Value×List Int)) (p:Nat) (b:Int) (hw:Known Try.prog (clsO wkC)) (hm:0=R.length) (hE:plE ((p:Nat):Int) (cRw R) 0=0) (hb:0≤b∧b≤255) (w:World) (hs:List Nat):Goes Try.prog 97 la0K1 (⟨[(0,(.agg [.v (.int .i64 ((p:Nat):Int)),.xl y 0 1 (cRw R)])),(1,(.v (.int .u8 b)))],[],0,[]⟩) (BaseW.H w hs) (OutH Try.prog Try.f10 97 (.bool true) w):=by
 obtain ⟨-,hp,-⟩:=plE_zero hE
 have hi:=fdI_lt (b:=b) (p:=p) hb
 have hca:=cas_ca (p:=p) (by omega) hi
 refine Hd.goes_seqA (by kernel_rfl) ?_
 exact goes_leafA isN_e (goes_told Try.checked.mixed (known_la0 hw known_caa) 200 (T':=(qA40_22 R b p y)) (e:=.normal) (ps:=[]) [.go,.go] (by kernel_rfl) (by kernel_rfl) trivial rfl) (Hd.en_n (la0_5 y R p b hw hm hE hb w hs))
theorem all_l0 (y:Value) (R:List (Value×List Int)) (p:Nat) (b:Int) (hw:Known Try.prog (clsO wkC)) (hm:0=R.length) (hE:plE ((p:Nat):Int) (cRw R) 0=0) (hb:0≤b∧b≤255):GivesA Try.prog 10 [(.agg [.v (.int .i64 ((p:Nat):Int)),.xl y 0 1 (cRw R)]),(.v (.int .u8 b))] (.bool true) :=
 givesA_partsH 97 Try.func10 (by kernel_rfl) (by kernel_rfl) (by kernel_rfl) (fun w=>goes_less (by kernel_rfl) (by kernel_rfl) (by kernel_rfl) (by kernel_rfl) (la0_2 y R p b hw hm hE hb w []))
end
end Go.Proofs.Ytmankoikpadkpaa
