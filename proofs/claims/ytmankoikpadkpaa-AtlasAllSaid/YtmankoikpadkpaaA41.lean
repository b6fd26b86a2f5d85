import Derived.Test.YtmankoikpadkpaaA3
set_option maxHeartbeats 4000000
set_option linter.all false
/- The law AtlasAll, 1 rows. -/
namespace Go.Proofs.Ytmankoikpadkpaa
open Go Ev
noncomputable section
theorem iRA41 {a:Int} (h : -9223372036854775808≤a) (k:a≤9223372036854775807):inR .i64 a:=⟨h,k⟩
section
variable (R : List (Value × List Int)) (b : Int) (k p : Nat) (y : Value)
@[reducible] def qA41_34:Nat×Ev.AV:=(8,(.v (.int .i64 (.ofNat 3))))
@[reducible] def qA41_27:Nat×Ev.AV:=(10,(.v (.int .i64 (((cntL (cdH (cRw R) 1) (1 + 2 * p) ((k:Nat):Int):Nat):Int)))))
@[reducible] def qA41_28:Nat×Ev.AV:=(11,(.v (.int .i64 (((tmB (cdH (cRw R) 1) (fdI b p) ((k:Nat):Int):Nat):Int)))))
@[reducible] def qA41_32:Nat×Ev.AV:=(12,(.v (.int .i64 (((k:Nat):Int)))))
@[reducible] def qA41_29:Nat×Ev.AB:=(0,(.cells [(.v (.int .i64 (((p:Nat):Int)))),(.xl (y) (1) 1 (cRw R))] 24))
@[reducible] def qA41_25:Nat×Ev.AB:=(1,(.cells [(.v (.int .i64 ((caseN (fdI b p)).fst))),(.v (.int .i64 ((caseN (fdI b p)).snd)))] 26))
@[reducible] def qA41_20:Nat×Ev.AB:=(2,(.cells [(.v (.int .i64 (sv (cRw R) 1 (caseN (fdI b p)).fst (caseN (fdI b p)).snd 0))),(.v (.int .i64 (sv (cRw R) 1 (caseN (fdI b p)).fst (caseN (fdI b p)).snd 1))),(.v (.int .i64 (sv (cRw R) 1 (caseN (fdI b p)).fst (caseN (fdI b p)).snd 2))),(.v (.int .i64 (sv (cRw R) 1 (caseN (fdI b p)).fst (caseN (fdI b p)).snd 3)))] 61))
@[reducible] def qA41_30:Nat×Ev.AB:=(4,(.row [(.v (.int .i64 (((k:Nat):Int).tmod 3 - 1)))] 3 1))
@[reducible] def qA41_1:Ev.Lit:=⟨[(2,(.ptr 0 0)),(5,(.ptr 1 0)),(6,(.sl 2 0 1 1)),qA41_34,(qA41_27 R k p),(qA41_28 R b k p),(qA41_32 k),(13,(.slu 4 0 1 0)),(16,(.slu 5 0 ((gotL (seeM (cRw R) 1 (padF (dgT 1 ((k:Nat):Int)))) (1 + 2 * p)).length) 0)),(17,(.v (.int .i64 (.ofNat 0))))],[],6,[(qA41_29 R p y),(qA41_25 b p),(qA41_20 R b p),(qA41_30 k),(5,(.row (cR (gotL (seeM (cRw R) 1 (padF (dgT 1 ((k:Nat):Int)))) (1 + 2 * p))) 26 2))]⟩
@[reducible] def qA41_2:Ev.Lit:=⟨[(2,(.ptr 0 0)),(5,(.ptr 1 0)),(6,(.sl 2 0 1 1)),qA41_34,(qA41_27 R k p),(qA41_28 R b k p),(qA41_32 k),(13,(.slu 4 0 1 0)),(16,(.v (Value.slice none 0 0))),(17,(.v (.int .i64 (.ofNat 0))))],[],5,[(qA41_29 R p y),(qA41_25 b p),(qA41_20 R b p),(qA41_30 k)]⟩
@[reducible] def qA41_23:Nat×Ev.AV:=(10,(.v (.int .i64 (((cntL (cdH (cRw R) 1) (1 + 2 * p) ((k:Nat):Int):Nat):Int) + (((gotL (seeM (cRw R) 1 (padF (dgT 1 ((k:Nat):Int)))) (1 + 2 * p)).length:Nat):Int)))))
@[reducible] def qA41_26:Nat×Ev.AV:=(11,(.v (.int .i64 (((tmB (cdH (cRw R) 1) (fdI b p) ((k:Nat):Int):Nat):Int) + 1))))
@[reducible] def qA41_31:Nat×Ev.AV:=(12,(.v (.int .i64 (((k + 1):Nat):Int))))
@[reducible] def qA41_3:Ev.Lit:=⟨[(2,(.ptr 0 0)),(5,(.ptr 1 0)),(6,(.sl 2 0 1 1)),qA41_34,(qA41_23 R k p),(qA41_26 R b k p),(qA41_31 k)],[],3,[(qA41_29 R p y),(qA41_25 b p),(qA41_20 R b p)]⟩
@[reducible] def qA41_4:Ev.Lit:=⟨[(2,(.ptr 0 0)),(5,(.ptr 1 0)),(6,(.sl 2 0 1 1)),qA41_34,(qA41_23 R k p),(qA41_28 R b k p),(qA41_31 k)],[],3,[(qA41_29 R p y),(qA41_25 b p),(qA41_20 R b p)]⟩
@[reducible] def qA41_5:Ev.Lit:=⟨[(2,(.ptr 0 0)),(5,(.ptr 1 0)),(6,(.sl 2 0 1 1)),qA41_34,(qA41_23 R k p),(qA41_26 R b k p),(qA41_32 k)],[],6,[(qA41_29 R p y),(qA41_25 b p),(qA41_20 R b p)]⟩
@[reducible] def qA41_6:Ev.Lit:=⟨[(2,(.ptr 0 0)),(5,(.ptr 1 0)),(6,(.sl 2 0 1 1)),qA41_34,(qA41_23 R k p),(qA41_28 R b k p),(qA41_32 k)],[],6,[(qA41_29 R p y),(qA41_25 b p),(qA41_20 R b p)]⟩
@[reducible] def qA41_7:Ev.Lit:=⟨[(2,(.ptr 0 0)),(5,(.ptr 1 0)),(6,(.sl 2 0 1 1)),qA41_34,(qA41_27 R k p),(qA41_28 R b k p),(qA41_32 k),(13,(.slu 4 0 1 0))],[],5,[(qA41_29 R p y),(qA41_25 b p),(qA41_20 R b p),(qA41_30 k)]⟩
@[reducible] def qA41_8:Ev.Lit:=⟨[(2,(.ptr 0 0)),(5,(.ptr 1 0)),(6,(.sl 2 0 1 1)),qA41_34,(qA41_27 R k p),(qA41_28 R b k p),(qA41_32 k),(13,(.v (Value.slice none 0 0))),(14,(.v (.int .i64 (((k:Nat):Int)))))],[],3,[(qA41_29 R p y),(qA41_25 b p),(qA41_20 R b p)]⟩
@[reducible] def qA41_9:Ev.Lit:=⟨[(2,(.ptr 0 0)),(5,(.ptr 1 0)),(6,(.sl 2 0 1 1)),qA41_34,(qA41_27 R k p),(qA41_28 R b k p),(qA41_32 k),(13,(.v (Value.slice none 0 0)))],[],3,[(qA41_29 R p y),(qA41_25 b p),(qA41_20 R b p)]⟩
@[reducible] def qA41_10:Ev.Lit:=⟨[(2,(.ptr 0 0)),(5,(.ptr 1 0)),(6,(.sl 2 0 1 1)),qA41_34,(10,(.v (.int .i64 (((cntL (cdH (cRw R) 1) (1 + 2 * p) ((k:Nat):Int):Nat):Int) + ((0:Nat):Int))))),(qA41_28 R b k p),(qA41_32 k)],[],5,[(qA41_29 R p y),(qA41_25 b p),(qA41_20 R b p)]⟩
@[reducible] def qA41_11:Ev.Lit:=⟨[(2,(.ptr 0 0)),(5,(.ptr 1 0)),(6,(.sl 2 0 1 1)),qA41_34,(10,(.v (.int .i64 ((cntL (cdH (cRw R) 1) (1 + 2 * p) (((k + 1):Nat):Int):Nat):Int)))),(11,(.v (.int .i64 ((tmB (cdH (cRw R) 1) (fdI b p) (((k + 1):Nat):Int):Nat):Int)))),(qA41_31 k)],[],3,[(qA41_29 R p y),(qA41_25 b p),(qA41_20 R b p)]⟩
@[reducible] def qA41_12:Ev.Lit:=⟨[(2,(.ptr 0 0)),(5,(.ptr 1 0)),(6,(.sl 2 0 1 1)),qA41_34,(10,(.v (.int .i64 (((cntL (cdH (cRw R) 1) (1 + 2 * p) ((k:Nat):Int):Nat):Int) + 0)))),(qA41_28 R b k p),(qA41_31 k)],[],3,[(qA41_29 R p y),(qA41_25 b p),(qA41_20 R b p)]⟩
@[reducible] def qA41_13:Ev.Lit:=⟨[(2,(.ptr 0 0)),(5,(.ptr 1 0)),(6,(.sl 2 0 1 1)),qA41_34,(qA41_27 R k p),(qA41_28 R b k p),(qA41_32 k)],[],3,[(qA41_29 R p y),(qA41_25 b p),(qA41_20 R b p)]⟩
@[reducible] def qA41_33:Nat×Ev.AV:=(11,(.v (.int .i64 (.ofNat 0))))
@[reducible] def qA41_14:Ev.Lit:=⟨[(2,(.ptr 0 0)),(5,(.ptr 1 0)),(6,(.sl 2 0 1 1)),qA41_34,(10,(.v (.int .i64 (.ofNat 0)))),qA41_33,(12,(.v (.int .i64 (.ofNat 0))))],[],3,[(qA41_29 R p y),(qA41_25 b p),(qA41_20 R b p)]⟩
@[reducible] def qA41_15:Ev.Lit:=⟨[(2,(.ptr 0 0)),(5,(.ptr 1 0)),(6,(.sl 2 0 1 1)),qA41_34,(10,(.v (.int .i64 (.ofNat 0)))),qA41_33],[],3,[(qA41_29 R p y),(qA41_25 b p),(qA41_20 R b p)]⟩
@[reducible] def qA41_16:Ev.Lit:=⟨[(2,(.ptr 0 0)),(5,(.ptr 1 0)),(6,(.sl 2 0 1 1)),qA41_34],[],3,[(qA41_29 R p y),(qA41_25 b p),(qA41_20 R b p)]⟩
@[reducible] def qA41_17:Ev.Lit:=⟨[(2,(.ptr 0 0)),(5,(.ptr 1 0)),(6,(.sl 2 0 1 1)),(8,(.v (.int .i64 (.ofNat 1))))],[],3,[(qA41_29 R p y),(qA41_25 b p),(qA41_20 R b p)]⟩
@[reducible] def qA41_18:Ev.Lit:=⟨[(2,(.ptr 0 0)),(5,(.ptr 1 0)),(6,(.sl 2 0 1 1)),(7,(.v (.int .i64 (.ofNat 0))))],[],3,[(qA41_29 R p y),(qA41_25 b p),(qA41_20 R b p)]⟩
@[reducible] def qA41_19:Ev.Lit:=⟨[(2,(.ptr 0 0)),(5,(.ptr 1 0)),(6,(.sl 2 0 1 1))],[],3,[(qA41_29 R p y),(qA41_25 b p),(qA41_20 R b p)]⟩
@[reducible] def qA41_21:Ev.Lit:=⟨[(2,(.ptr 0 0)),(10,(.v (.int .i64 (((cntL (cdH (cRw R) 1) (1 + 2 * p) ((3:Nat):Int):Nat):Int))))),(11,(.v (.int .i64 (((tmB (cdH (cRw R) 1) (fdI b p) ((3:Nat):Int):Nat):Int)))))],[],3,[(qA41_29 R p y)]⟩
@[reducible] def qA41_22:Ev.Lit:=⟨[(2,(.ptr 0 0)),(5,(.ptr 1 0))],[],2,[(qA41_29 R p y),(qA41_25 b p)]⟩
@[reducible] def qA41_24:Ev.Lit:=⟨[(1,(.v (.int .u8 (b)))),(2,(.ptr 0 0))],[],1,[(qA41_29 R p y)]⟩
end
noncomputable def la1K1:Code:=bodyC Try.f10
noncomputable def la1K3:Code:=tlC la1K1
noncomputable def la1K6:Code:=tlC la1K3
noncomputable def la1K9:Code:=tlC la1K6
noncomputable def la1K12:Code:=tlC la1K9
noncomputable def la1K15:Code:=tlC la1K12
noncomputable def la1K18:Code:=tlC la1K15
noncomputable def la1K21:Code:=tlC la1K18
noncomputable def la1K24:Code:=tlC la1K21
noncomputable def la1K27:Code:=tlC la1K24
noncomputable def la1K28:Code:=(hdC la1K24)
noncomputable def la1K30:Code:=tlC la1K28
noncomputable def la1K34:Code:=loopC la1K30
noncomputable def la1K37:Code:=tlC la1K34
noncomputable def la1K40:Code:=tlC la1K37
noncomputable def la1K42:Code:=blkB (hdC la1K37)
noncomputable def la1K44:Code:=tlC la1K42
noncomputable def la1K47:Code:=tlC la1K44
noncomputable def la1K50:Code:=tlC la1K47
noncomputable def la1K53:Code:=tlC la1K50
theorem la1_57 (y:Value) (R:List (Value×List Int)) (p:Nat) (b:Int) (hw:Known Try.prog (clsO wkC)) (hm:1=R.length) (hE:plE ((p:Nat):Int) (cRw R) 1=0) (hb:0≤b∧b≤255) (hqla17_1:(fnB (((p:Nat):Int)) (cRw R) 1)=true) (k:Nat) (hk1:k≤3) (hk2:True) (hqla138_1:(ltI (((k:Nat):Int)) ((3:Int)))=true) (hf0:(gotL (seeM (cRw R) 1 (padF (dgT 1 ((k:Nat):Int)))) (1 + 2 * p)).length=0) (w:World) (hs:List Nat):Goes Try.prog 97 la1K40 ((qA41_10 R b k p y)) (BaseW.H w hs) (Hd.StepC Try.prog 97 2 (fun k:{k:Nat // k≤3∧True}=>⟨[(2,(.ptr 0 0)),(5,(.ptr 1 0)),(6,(.sl 2 0 1 1)),qA41_34,(10,(.v (.int .i64 ((cntL (cdH (cRw R) 1) (1 + 2 * p) ((k.1:Nat):Int):Nat):Int)))),(11,(.v (.int .i64 ((tmB (cdH (cRw R) 1) (fdI b p) ((k.1:Nat):Int):Nat):Int)))),(12,(.v (.int .i64 ((k.1:Nat):Int))))],[],3,[(qA41_29 R p y),(qA41_25 b p),(qA41_20 R b p)]⟩) (fun k:{k:Nat // k≤3∧True}=>3 - k.1) la1K27 w (OutH Try.prog Try.f10 97 (.bool true) w) (⟨k,hk1,hk2⟩:{k:Nat // k≤3∧True})):=by
 obtain ⟨-,hp,-⟩:=plE_zero hE
 have hi:=fdI_lt (b:=b) (p:=p) hb
 have hca:=cas_ca (p:=p) (by omega) hi
 have ghqla138_1:=ltI_true hqla138_1
 have hcn:=cntL_le (cdH (cRw R) 1) ((k:Nat):Int) (1 + 2 * p)
 have hgl:=got_le (seeM (cRw R) 1 (padF (dgT 1 ((k:Nat):Int)))) (1 + 2 * p)
 have htb:tmB (cdH (cRw R) 1) (fdI b p) ((k:Nat):Int)≤1:=by unfold tmB; split <;> omega
 have hk3:((k:Nat):Int) < pw3 1:=ltI_true hqla138_1
 have hd0:=dg3 (x:=((k:Nat):Int)) (by omega)
 exact goes_leafA isN_e (goes_cut Try.checked.mixed (known_la1 hw known_caa) 200 (T':=(qA41_12 R b k p y)) (e:=.normal) (m:=5) (ps:=[inR IntKind.i64 (((k:Nat):Int) + 1)]) [.go,.go,.go] (by kernel_rfl) (by kernel_rfl) ⟨(iRA41 (by omega) (by omega)),trivial⟩ rfl (by show 3≤5; decide) ⟨⟨nb_ptr (by show 0 < 3; decide),nb_ptr (by show 1 < 3; decide),nb_sl (by show 2 < 3; decide),nb_v _,nb_v _,nb_v _,nb_v _,trivial⟩,⟨⟨by show 0 < 3; decide,nbb_cells (nb_cons (nb_v _) (nb_cons (nb_free (freeL_xl (freeL_plainR _))) (fun _ hz=>absurd hz List.not_mem_nil)))⟩,⟨by show 1 < 3; decide,nbb_cells (nb_cons (nb_v _) (nb_cons (nb_v _) (fun _ hz=>absurd hz List.not_mem_nil)))⟩,⟨by show 2 < 3; decide,nbb_cells (nb_cons (nb_v _) (nb_cons (nb_v _) (nb_cons (nb_v _) (nb_cons (nb_v _) (fun _ hz=>absurd hz List.not_mem_nil)))))⟩,trivial⟩,rfl⟩) (Hd.en_on (⟨k + 1,by omega,trivial⟩) (by show 3 - (k + 1) < 3 - k; omega) (show ((qA41_12 R b k p y):Ev.Lit)=(qA41_11 R b k p y) from by have hz_:=congr (congrArg (fun (xq0:Ev.AV) (xq1:Ev.AV)=>(⟨[(2,(.ptr 0 0)),(5,(.ptr 1 0)),(6,(.sl 2 0 1 1)),qA41_34,(10,xq0),(11,xq1),(qA41_31 k)],[],3,[(qA41_29 R p y),(qA41_25 b p),(qA41_20 R b p)]⟩:Ev.Lit)) (congrArg (fun z=>Ev.AV.v (.int .i64 z)) (show ((((cntL (cdH (cRw R) 1) (1 + 2 * p) ((k:Nat):Int):Nat):Int) + 0):Int)=((cntL (cdH (cRw R) 1) (1 + 2 * p) (((k + 1):Nat):Int):Nat):Int) from by exact al_manyZ hE hk3 hf0))) (congrArg (fun z=>Ev.AV.v (.int .i64 z)) (show ((((tmB (cdH (cRw R) 1) (fdI b p) ((k:Nat):Int):Nat):Int)):Int)=((tmB (cdH (cRw R) 1) (fdI b p) (((k + 1):Nat):Int):Nat):Int) from by exact tm_no (al_z hE hk3 hi hf0))); exact hz_))
theorem la1_55 (y:Value) (R:List (Value×List Int)) (p:Nat) (b:Int) (hw:Known Try.prog (clsO wkC)) (hm:1=R.length) (hE:plE ((p:Nat):Int) (cRw R) 1=0) (hb:0≤b∧b≤255) (hqla17_1:(fnB (((p:Nat):Int)) (cRw R) 1)=true) (k:Nat) (hk1:k≤3) (hk2:True) (hqla138_1:(ltI (((k:Nat):Int)) ((3:Int)))=true) (hf0:(gotL (seeM (cRw R) 1 (padF (dgT 1 ((k:Nat):Int)))) (1 + 2 * p)).length=0) (w:World) (hs:List Nat):Goes Try.prog 97 la1K53 ((qA41_2 R b k p y)) (BaseW.H w hs) (Hd.AfterB Try.prog 97 3 la1K40 w (Hd.StepC Try.prog 97 2 (fun k:{k:Nat // k≤3∧True}=>⟨[(2,(.ptr 0 0)),(5,(.ptr 1 0)),(6,(.sl 2 0 1 1)),qA41_34,(10,(.v (.int .i64 ((cntL (cdH (cRw R) 1) (1 + 2 * p) ((k.1:Nat):Int):Nat):Int)))),(11,(.v (.int .i64 ((tmB (cdH (cRw R) 1) (fdI b p) ((k.1:Nat):Int):Nat):Int)))),(12,(.v (.int .i64 ((k.1:Nat):Int))))],[],3,[(qA41_29 R p y),(qA41_25 b p),(qA41_20 R b p)]⟩) (fun k:{k:Nat // k≤3∧True}=>3 - k.1) la1K27 w (OutH Try.prog Try.f10 97 (.bool true) w) (⟨k,hk1,hk2⟩:{k:Nat // k≤3∧True}))):=by
 obtain ⟨-,hp,-⟩:=plE_zero hE
 have hi:=fdI_lt (b:=b) (p:=p) hb
 have hca:=cas_ca (p:=p) (by omega) hi
 have ghqla138_1:=ltI_true hqla138_1
 have hcn:=cntL_le (cdH (cRw R) 1) ((k:Nat):Int) (1 + 2 * p)
 have hgl:=got_le (seeM (cRw R) 1 (padF (dgT 1 ((k:Nat):Int)))) (1 + 2 * p)
 have htb:tmB (cdH (cRw R) 1) (fdI b p) ((k:Nat):Int)≤1:=by unfold tmB; split <;> omega
 have hk3:((k:Nat):Int) < pw3 1:=ltI_true hqla138_1
 have hd0:=dg3 (x:=((k:Nat):Int)) (by omega)
 exact goes_leafA isN_e (goes_told Try.checked.mixed (known_la1 hw known_caa) 200 (T':=(qA41_10 R b k p y)) (e:=.normal) (ps:=[(!eqI ((0:Int)) 0)=false,inR IntKind.i64 (((cntL (cdH (cRw R) 1) (1 + 2 * p) ((k:Nat):Int):Nat):Int) + ((0:Nat):Int)),false=false]) [.go,.go,.b false,.go,.go,.go,.go,.go,.go,.go,.b false] (by kernel_rfl) (by kernel_rfl) ⟨rfl,(iRA41 (by omega) (by omega)),rfl,trivial⟩ rfl) (Hd.en_bn (la1_57 y R p b hw hm hE hb hqla17_1 k hk1 hk2 hqla138_1 hf0 w hs))
theorem la1_62 (y:Value) (R:List (Value×List Int)) (p:Nat) (b:Int) (hw:Known Try.prog (clsO wkC)) (hm:1=R.length) (hE:plE ((p:Nat):Int) (cRw R) 1=0) (hb:0≤b∧b≤255) (hqla17_1:(fnB (((p:Nat):Int)) (cRw R) 1)=true) (k:Nat) (hk1:k≤3) (hk2:True) (hqla138_1:(ltI (((k:Nat):Int)) ((3:Int)))=true) (hf1:0 < (gotL (seeM (cRw R) 1 (padF (dgT 1 ((k:Nat):Int)))) (1 + 2 * p)).length) (hqla161_1:(hsB (cR (gotL (seeM (cRw R) 1 (padF (dgT 1 ((k:Nat):Int)))) (1 + 2 * p))) (caseN (fdI b p)).fst (caseN (fdI b p)).snd)=true) (hqla161_2:(smB (List.take (1 * (0 + 1)) (List.drop 0 [AV.v (Value.int IntKind.i64 (((k:Nat):Int).tmod 3 - 1))])) (List.take (1 * (0 + 1)) (List.drop 0 [AV.v (Value.int IntKind.i64 (sv (cRw R) 1 (caseN (fdI b p)).fst (caseN (fdI b p)).snd 0)),AV.v (Value.int IntKind.i64 (sv (cRw R) 1 (caseN (fdI b p)).fst (caseN (fdI b p)).snd 1)),AV.v (Value.int IntKind.i64 (sv (cRw R) 1 (caseN (fdI b p)).fst (caseN (fdI b p)).snd 2)),AV.v (Value.int IntKind.i64 (sv (cRw R) 1 (caseN (fdI b p)).fst (caseN (fdI b p)).snd 3))])))=true) (w:World) (hs:List Nat):Goes Try.prog 97 la1K40 ((qA41_5 R b k p y)) (BaseW.H w hs) (Hd.StepC Try.prog 97 2 (fun k:{k:Nat // k≤3∧True}=>⟨[(2,(.ptr 0 0)),(5,(.ptr 1 0)),(6,(.sl 2 0 1 1)),qA41_34,(10,(.v (.int .i64 ((cntL (cdH (cRw R) 1) (1 + 2 * p) ((k.1:Nat):Int):Nat):Int)))),(11,(.v (.int .i64 ((tmB (cdH (cRw R) 1) (fdI b p) ((k.1:Nat):Int):Nat):Int)))),(12,(.v (.int .i64 ((k.1:Nat):Int))))],[],3,[(qA41_29 R p y),(qA41_25 b p),(qA41_20 R b p)]⟩) (fun k:{k:Nat // k≤3∧True}=>3 - k.1) la1K27 w (OutH Try.prog Try.f10 97 (.bool true) w) (⟨k,hk1,hk2⟩:{k:Nat // k≤3∧True})):=by
 obtain ⟨-,hp,-⟩:=plE_zero hE
 have hi:=fdI_lt (b:=b) (p:=p) hb
 have hca:=cas_ca (p:=p) (by omega) hi
 have ghqla138_1:=ltI_true hqla138_1
 have hcn:=cntL_le (cdH (cRw R) 1) ((k:Nat):Int) (1 + 2 * p)
 have hgl:=got_le (seeM (cRw R) 1 (padF (dgT 1 ((k:Nat):Int)))) (1 + 2 * p)
 have htb:tmB (cdH (cRw R) 1) (fdI b p) ((k:Nat):Int)≤1:=by unfold tmB; split <;> omega
 have hk3:((k:Nat):Int) < pw3 1:=ltI_true hqla138_1
 have hd0:=dg3 (x:=((k:Nat):Int)) (by omega)
 exact goes_leafA isN_e (goes_cut Try.checked.mixed (known_la1 hw known_cab) 200 (T':=(qA41_3 R b k p y)) (e:=.normal) (m:=6) (ps:=[inR IntKind.i64 (((k:Nat):Int) + 1)]) [.go,.go,.go] (by kernel_rfl) (by kernel_rfl) ⟨(iRA41 (by omega) (by omega)),trivial⟩ rfl (by show 3≤6; decide) ⟨⟨nb_ptr (by show 0 < 3; decide),nb_ptr (by show 1 < 3; decide),nb_sl (by show 2 < 3; decide),nb_v _,nb_v _,nb_v _,nb_v _,trivial⟩,⟨⟨by show 0 < 3; decide,nbb_cells (nb_cons (nb_v _) (nb_cons (nb_free (freeL_xl (freeL_plainR _))) (fun _ hz=>absurd hz List.not_mem_nil)))⟩,⟨by show 1 < 3; decide,nbb_cells (nb_cons (nb_v _) (nb_cons (nb_v _) (fun _ hz=>absurd hz List.not_mem_nil)))⟩,⟨by show 2 < 3; decide,nbb_cells (nb_cons (nb_v _) (nb_cons (nb_v _) (nb_cons (nb_v _) (nb_cons (nb_v _) (fun _ hz=>absurd hz List.not_mem_nil)))))⟩,trivial⟩,rfl⟩) (Hd.en_on (⟨k + 1,by omega,trivial⟩) (by show 3 - (k + 1) < 3 - k; omega) (show ((qA41_3 R b k p y):Ev.Lit)=(qA41_11 R b k p y) from by have hz_:=congr (congrArg (fun (xq0:Ev.AV) (xq1:Ev.AV)=>(⟨[(2,(.ptr 0 0)),(5,(.ptr 1 0)),(6,(.sl 2 0 1 1)),qA41_34,(10,xq0),(11,xq1),(qA41_31 k)],[],3,[(qA41_29 R p y),(qA41_25 b p),(qA41_20 R b p)]⟩:Ev.Lit)) (congrArg (fun z=>Ev.AV.v (.int .i64 z)) (show ((((cntL (cdH (cRw R) 1) (1 + 2 * p) ((k:Nat):Int):Nat):Int) + (((gotL (seeM (cRw R) 1 (padF (dgT 1 ((k:Nat):Int)))) (1 + 2 * p)).length:Nat):Int)):Int)=((cntL (cdH (cRw R) 1) (1 + 2 * p) (((k + 1):Nat):Int):Nat):Int) from by exact al_many hE hk3))) (congrArg (fun z=>Ev.AV.v (.int .i64 z)) (show ((((tmB (cdH (cRw R) 1) (fdI b p) ((k:Nat):Int):Nat):Int) + 1):Int)=((tmB (cdH (cRw R) 1) (fdI b p) (((k + 1):Nat):Int):Nat):Int) from by exact tm_yes (al_t hE hk3 hi hqla161_1))); exact hz_))
theorem la1_64 (y:Value) (R:List (Value×List Int)) (p:Nat) (b:Int) (hw:Known Try.prog (clsO wkC)) (hm:1=R.length) (hE:plE ((p:Nat):Int) (cRw R) 1=0) (hb:0≤b∧b≤255) (hqla17_1:(fnB (((p:Nat):Int)) (cRw R) 1)=true) (k:Nat) (hk1:k≤3) (hk2:True) (hqla138_1:(ltI (((k:Nat):Int)) ((3:Int)))=true) (hf1:0 < (gotL (seeM (cRw R) 1 (padF (dgT 1 ((k:Nat):Int)))) (1 + 2 * p)).length) (hqla161_1:(hsB (cR (gotL (seeM (cRw R) 1 (padF (dgT 1 ((k:Nat):Int)))) (1 + 2 * p))) (caseN (fdI b p)).fst (caseN (fdI b p)).snd)=false) (w:World) (hs:List Nat):Goes Try.prog 97 la1K40 ((qA41_6 R b k p y)) (BaseW.H w hs) (Hd.StepC Try.prog 97 2 (fun k:{k:Nat // k≤3∧True}=>⟨[(2,(.ptr 0 0)),(5,(.ptr 1 0)),(6,(.sl 2 0 1 1)),qA41_34,(10,(.v (.int .i64 ((cntL (cdH (cRw R) 1) (1 + 2 * p) ((k.1:Nat):Int):Nat):Int)))),(11,(.v (.int .i64 ((tmB (cdH (cRw R) 1) (fdI b p) ((k.1:Nat):Int):Nat):Int)))),(12,(.v (.int .i64 ((k.1:Nat):Int))))],[],3,[(qA41_29 R p y),(qA41_25 b p),(qA41_20 R b p)]⟩) (fun k:{k:Nat // k≤3∧True}=>3 - k.1) la1K27 w (OutH Try.prog Try.f10 97 (.bool true) w) (⟨k,hk1,hk2⟩:{k:Nat // k≤3∧True})):=by
 obtain ⟨-,hp,-⟩:=plE_zero hE
 have hi:=fdI_lt (b:=b) (p:=p) hb
 have hca:=cas_ca (p:=p) (by omega) hi
 have ghqla138_1:=ltI_true hqla138_1
 have hcn:=cntL_le (cdH (cRw R) 1) ((k:Nat):Int) (1 + 2 * p)
 have hgl:=got_le (seeM (cRw R) 1 (padF (dgT 1 ((k:Nat):Int)))) (1 + 2 * p)
 have htb:tmB (cdH (cRw R) 1) (fdI b p) ((k:Nat):Int)≤1:=by unfold tmB; split <;> omega
 have hk3:((k:Nat):Int) < pw3 1:=ltI_true hqla138_1
 have hd0:=dg3 (x:=((k:Nat):Int)) (by omega)
 exact goes_leafA isN_e (goes_cut Try.checked.mixed (known_la1 hw known_cab) 200 (T':=(qA41_4 R b k p y)) (e:=.normal) (m:=6) (ps:=[inR IntKind.i64 (((k:Nat):Int) + 1)]) [.go,.go,.go] (by kernel_rfl) (by kernel_rfl) ⟨(iRA41 (by omega) (by omega)),trivial⟩ rfl (by show 3≤6; decide) ⟨⟨nb_ptr (by show 0 < 3; decide),nb_ptr (by show 1 < 3; decide),nb_sl (by show 2 < 3; decide),nb_v _,nb_v _,nb_v _,nb_v _,trivial⟩,⟨⟨by show 0 < 3; decide,nbb_cells (nb_cons (nb_v _) (nb_cons (nb_free (freeL_xl (freeL_plainR _))) (fun _ hz=>absurd hz List.not_mem_nil)))⟩,⟨by show 1 < 3; decide,nbb_cells (nb_cons (nb_v _) (nb_cons (nb_v _) (fun _ hz=>absurd hz List.not_mem_nil)))⟩,⟨by show 2 < 3; decide,nbb_cells (nb_cons (nb_v _) (nb_cons (nb_v _) (nb_cons (nb_v _) (nb_cons (nb_v _) (fun _ hz=>absurd hz List.not_mem_nil)))))⟩,trivial⟩,rfl⟩) (Hd.en_on (⟨k + 1,by omega,trivial⟩) (by show 3 - (k + 1) < 3 - k; omega) (show ((qA41_4 R b k p y):Ev.Lit)=(qA41_11 R b k p y) from by have hz_:=congr (congrArg (fun (xq0:Ev.AV) (xq1:Ev.AV)=>(⟨[(2,(.ptr 0 0)),(5,(.ptr 1 0)),(6,(.sl 2 0 1 1)),qA41_34,(10,xq0),(11,xq1),(qA41_31 k)],[],3,[(qA41_29 R p y),(qA41_25 b p),(qA41_20 R b p)]⟩:Ev.Lit)) (congrArg (fun z=>Ev.AV.v (.int .i64 z)) (show ((((cntL (cdH (cRw R) 1) (1 + 2 * p) ((k:Nat):Int):Nat):Int) + (((gotL (seeM (cRw R) 1 (padF (dgT 1 ((k:Nat):Int)))) (1 + 2 * p)).length:Nat):Int)):Int)=((cntL (cdH (cRw R) 1) (1 + 2 * p) (((k + 1):Nat):Int):Nat):Int) from by exact al_many hE hk3))) (congrArg (fun z=>Ev.AV.v (.int .i64 z)) (show ((((tmB (cdH (cRw R) 1) (fdI b p) ((k:Nat):Int):Nat):Int)):Int)=((tmB (cdH (cRw R) 1) (fdI b p) (((k + 1):Nat):Int):Nat):Int) from by exact tm_no (al_f hE hk3 hi hqla161_1))); exact hz_))
theorem la1_60 (y:Value) (R:List (Value×List Int)) (p:Nat) (b:Int) (hw:Known Try.prog (clsO wkC)) (hm:1=R.length) (hE:plE ((p:Nat):Int) (cRw R) 1=0) (hb:0≤b∧b≤255) (hqla17_1:(fnB (((p:Nat):Int)) (cRw R) 1)=true) (k:Nat) (hk1:k≤3) (hk2:True) (hqla138_1:(ltI (((k:Nat):Int)) ((3:Int)))=true) (hf1:0 < (gotL (seeM (cRw R) 1 (padF (dgT 1 ((k:Nat):Int)))) (1 + 2 * p)).length) (w:World) (hs:List Nat):Goes Try.prog 97 la1K53 ((qA41_1 R b k p y)) (BaseW.H w hs) (Hd.AfterB Try.prog 97 3 la1K40 w (Hd.StepC Try.prog 97 2 (fun k:{k:Nat // k≤3∧True}=>⟨[(2,(.ptr 0 0)),(5,(.ptr 1 0)),(6,(.sl 2 0 1 1)),qA41_34,(10,(.v (.int .i64 ((cntL (cdH (cRw R) 1) (1 + 2 * p) ((k.1:Nat):Int):Nat):Int)))),(11,(.v (.int .i64 ((tmB (cdH (cRw R) 1) (fdI b p) ((k.1:Nat):Int):Nat):Int)))),(12,(.v (.int .i64 ((k.1:Nat):Int))))],[],3,[(qA41_29 R p y),(qA41_25 b p),(qA41_20 R b p)]⟩) (fun k:{k:Nat // k≤3∧True}=>3 - k.1) la1K27 w (OutH Try.prog Try.f10 97 (.bool true) w) (⟨k,hk1,hk2⟩:{k:Nat // k≤3∧True}))):=by
 obtain ⟨-,hp,-⟩:=plE_zero hE
 have hi:=fdI_lt (b:=b) (p:=p) hb
 have hca:=cas_ca (p:=p) (by omega) hi
 have ghqla138_1:=ltI_true hqla138_1
 have hcn:=cntL_le (cdH (cRw R) 1) ((k:Nat):Int) (1 + 2 * p)
 have hgl:=got_le (seeM (cRw R) 1 (padF (dgT 1 ((k:Nat):Int)))) (1 + 2 * p)
 have htb:tmB (cdH (cRw R) 1) (fdI b p) ((k:Nat):Int)≤1:=by unfold tmB; split <;> omega
 have hk3:((k:Nat):Int) < pw3 1:=ltI_true hqla138_1
 have hd0:=dg3 (x:=((k:Nat):Int)) (by omega)
 rcases Bool.eq_false_or_eq_true (hsB (cR (gotL (seeM (cRw R) 1 (padF (dgT 1 ((k:Nat):Int)))) (1 + 2 * p))) (caseN (fdI b p)).fst (caseN (fdI b p)).snd) with hqla161_1 | hqla161_1
 ·skip
  rcases Bool.eq_false_or_eq_true (smB (List.take (1 * (0 + 1)) (List.drop 0 [AV.v (Value.int IntKind.i64 (((k:Nat):Int).tmod 3 - 1))])) (List.take (1 * (0 + 1)) (List.drop 0 [AV.v (Value.int IntKind.i64 (sv (cRw R) 1 (caseN (fdI b p)).fst (caseN (fdI b p)).snd 0)),AV.v (Value.int IntKind.i64 (sv (cRw R) 1 (caseN (fdI b p)).fst (caseN (fdI b p)).snd 1)),AV.v (Value.int IntKind.i64 (sv (cRw R) 1 (caseN (fdI b p)).fst (caseN (fdI b p)).snd 2)),AV.v (Value.int IntKind.i64 (sv (cRw R) 1 (caseN (fdI b p)).fst (caseN (fdI b p)).snd 3))]))) with hqla161_2 | hqla161_2
  ·skip
   exact goes_leafA isN_e (goes_told Try.checked.mixed (known_la1 hw known_cab) 200 (T':=(qA41_5 R b k p y)) (e:=.normal) (ps:=[(!eqI ((0:Int)) 0)=false,inR IntKind.i64 (((cntL (cdH (cRw R) 1) (1 + 2 * p) ((k:Nat):Int):Nat):Int) + (((gotL (seeM (cRw R) 1 (padF (dgT 1 ((k:Nat):Int)))) (1 + 2 * p)).length:Nat):Int)),((26:Nat)=26),cR (gotL (seeM (cRw R) 1 (padF (dgT 1 ((k:Nat):Int)))) (1 + 2 * p))=cR (unR (cR (gotL (seeM (cRw R) 1 (padF (dgT 1 ((k:Nat):Int)))) (1 + 2 * p))))∧(gotL (seeM (cRw R) 1 (padF (dgT 1 ((k:Nat):Int)))) (1 + 2 * p)).length=(unR (cR (gotL (seeM (cRw R) 1 (padF (dgT 1 ((k:Nat):Int)))) (1 + 2 * p)))).length,(gotL (seeM (cRw R) 1 (padF (dgT 1 ((k:Nat):Int)))) (1 + 2 * p)).length≤1000,hsB (cR (gotL (seeM (cRw R) 1 (padF (dgT 1 ((k:Nat):Int)))) (1 + 2 * p))) (caseN (fdI b p)).fst (caseN (fdI b p)).snd=true,inR IntKind.i64 (((tmB (cdH (cRw R) 1) (fdI b p) ((k:Nat):Int):Nat):Int) + 1),0 + 1 * (0 + 1)≤([(.v (.int .i64 (((k:Nat):Int).tmod 3 - 1)))]:List AV).length,0 + 1 * (0 + 1)≤([(.v (.int .i64 (sv (cRw R) 1 (caseN (fdI b p)).fst (caseN (fdI b p)).snd 0))),(.v (.int .i64 (sv (cRw R) 1 (caseN (fdI b p)).fst (caseN (fdI b p)).snd 1))),(.v (.int .i64 (sv (cRw R) 1 (caseN (fdI b p)).fst (caseN (fdI b p)).snd 2))),(.v (.int .i64 (sv (cRw R) 1 (caseN (fdI b p)).fst (caseN (fdI b p)).snd 3)))]:List AV).length,((1:Nat)≤1),IsI (0 + 1) 1 (List.take (1 * (0 + 1)) (List.drop 0 [AV.v (Value.int IntKind.i64 (((k:Nat):Int).tmod 3 - 1))])),IsI (0 + 1) 1 (List.take (1 * (0 + 1)) (List.drop 0 [AV.v (Value.int IntKind.i64 (sv (cRw R) 1 (caseN (fdI b p)).fst (caseN (fdI b p)).snd 0)),AV.v (Value.int IntKind.i64 (sv (cRw R) 1 (caseN (fdI b p)).fst (caseN (fdI b p)).snd 1)),AV.v (Value.int IntKind.i64 (sv (cRw R) 1 (caseN (fdI b p)).fst (caseN (fdI b p)).snd 2)),AV.v (Value.int IntKind.i64 (sv (cRw R) 1 (caseN (fdI b p)).fst (caseN (fdI b p)).snd 3))])),((1:Nat)≤1000),(!smB (List.take (1 * (0 + 1)) (List.drop 0 [AV.v (Value.int IntKind.i64 (((k:Nat):Int).tmod 3 - 1))])) (List.take (1 * (0 + 1)) (List.drop 0 [AV.v (Value.int IntKind.i64 (sv (cRw R) 1 (caseN (fdI b p)).fst (caseN (fdI b p)).snd 0)),AV.v (Value.int IntKind.i64 (sv (cRw R) 1 (caseN (fdI b p)).fst (caseN (fdI b p)).snd 1)),AV.v (Value.int IntKind.i64 (sv (cRw R) 1 (caseN (fdI b p)).fst (caseN (fdI b p)).snd 2)),AV.v (Value.int IntKind.i64 (sv (cRw R) 1 (caseN (fdI b p)).fst (caseN (fdI b p)).snd 3))])))=false]) [.go,.go,.b false,.go,.go,.go,.go,.go,.go,.go,.b true,.go,.go,.go,.go,.go,.go,.b false] (by kernel_rfl) (by kernel_rfl) ⟨rfl,(iRA41 (by omega) (by omega)),rfl,⟨by rw [unR_cR],by rw [unR_cR]⟩,(by have h9:=got_le (seeM (cRw R) 1 (padF (dgT 1 ((k:Nat):Int)))) (1 + 2 * p); omega),hqla161_1,(iRA41 (by omega) (by omega)),(Nat.le_of_ble_eq_true rfl),(Nat.le_of_ble_eq_true rfl),(by decide),⟨rfl,dgT 1 ((k:Nat):Int),rfl,rfl⟩,⟨rfl,tabL (sv (cRw R) 1 (caseN (fdI b p)).1 (caseN (fdI b p)).2) 1,rfl,rfl⟩,(by decide),(by rw [hqla161_2]; rfl),trivial⟩ rfl) (Hd.en_bn (la1_62 y R p b hw hm hE hb hqla17_1 k hk1 hk2 hqla138_1 hf1 hqla161_1 hqla161_2 w hs))
  ·skip
   exfalso
   have h9:=al_same hE hk3 hi (al_t hE hk3 hi hqla161_1)
   have h8:smB (cI (dgT 1 ((k:Nat):Int))) (cI (tabL (sv (cRw R) 1 (caseN (fdI b p)).1 (caseN (fdI b p)).2) 1))=false:=hqla161_2
   rw [h8] at h9
   cases h9
 ·skip
  exact goes_leafA isN_e (goes_told Try.checked.mixed (known_la1 hw known_cab) 200 (T':=(qA41_6 R b k p y)) (e:=.normal) (ps:=[(!eqI ((0:Int)) 0)=false,inR IntKind.i64 (((cntL (cdH (cRw R) 1) (1 + 2 * p) ((k:Nat):Int):Nat):Int) + (((gotL (seeM (cRw R) 1 (padF (dgT 1 ((k:Nat):Int)))) (1 + 2 * p)).length:Nat):Int)),((26:Nat)=26),cR (gotL (seeM (cRw R) 1 (padF (dgT 1 ((k:Nat):Int)))) (1 + 2 * p))=cR (unR (cR (gotL (seeM (cRw R) 1 (padF (dgT 1 ((k:Nat):Int)))) (1 + 2 * p))))∧(gotL (seeM (cRw R) 1 (padF (dgT 1 ((k:Nat):Int)))) (1 + 2 * p)).length=(unR (cR (gotL (seeM (cRw R) 1 (padF (dgT 1 ((k:Nat):Int)))) (1 + 2 * p)))).length,(gotL (seeM (cRw R) 1 (padF (dgT 1 ((k:Nat):Int)))) (1 + 2 * p)).length≤1000,hsB (cR (gotL (seeM (cRw R) 1 (padF (dgT 1 ((k:Nat):Int)))) (1 + 2 * p))) (caseN (fdI b p)).fst (caseN (fdI b p)).snd=false]) [.go,.go,.b false,.go,.go,.go,.go,.go,.go,.go,.b false] (by kernel_rfl) (by kernel_rfl) ⟨rfl,(iRA41 (by omega) (by omega)),rfl,⟨by rw [unR_cR],by rw [unR_cR]⟩,(by have h9:=got_le (seeM (cRw R) 1 (padF (dgT 1 ((k:Nat):Int)))) (1 + 2 * p); omega),hqla161_1,trivial⟩ rfl) (Hd.en_bn (la1_64 y R p b hw hm hE hb hqla17_1 k hk1 hk2 hqla138_1 hf1 hqla161_1 w hs))
theorem la1_52 (y:Value) (R:List (Value×List Int)) (p:Nat) (b:Int) (hw:Known Try.prog (clsO wkC)) (hm:1=R.length) (hE:plE ((p:Nat):Int) (cRw R) 1=0) (hb:0≤b∧b≤255) (hqla17_1:(fnB (((p:Nat):Int)) (cRw R) 1)=true) (k:Nat) (hk1:k≤3) (hk2:True) (hqla138_1:(ltI (((k:Nat):Int)) ((3:Int)))=true) (w:World) (hs:List Nat):Goes Try.prog 97 la1K50 ((qA41_7 R b k p y)) (BaseW.H w hs) (Hd.AfterB Try.prog 97 3 la1K40 w (Hd.StepC Try.prog 97 2 (fun k:{k:Nat // k≤3∧True}=>⟨[(2,(.ptr 0 0)),(5,(.ptr 1 0)),(6,(.sl 2 0 1 1)),qA41_34,(10,(.v (.int .i64 ((cntL (cdH (cRw R) 1) (1 + 2 * p) ((k.1:Nat):Int):Nat):Int)))),(11,(.v (.int .i64 ((tmB (cdH (cRw R) 1) (fdI b p) ((k.1:Nat):Int):Nat):Int)))),(12,(.v (.int .i64 ((k.1:Nat):Int))))],[],3,[(qA41_29 R p y),(qA41_25 b p),(qA41_20 R b p)]⟩) (fun k:{k:Nat // k≤3∧True}=>3 - k.1) la1K27 w (OutH Try.prog Try.f10 97 (.bool true) w) (⟨k,hk1,hk2⟩:{k:Nat // k≤3∧True}))):=by
 obtain ⟨-,hp,-⟩:=plE_zero hE
 have hi:=fdI_lt (b:=b) (p:=p) hb
 have hca:=cas_ca (p:=p) (by omega) hi
 have ghqla138_1:=ltI_true hqla138_1
 have hcn:=cntL_le (cdH (cRw R) 1) ((k:Nat):Int) (1 + 2 * p)
 have hgl:=got_le (seeM (cRw R) 1 (padF (dgT 1 ((k:Nat):Int)))) (1 + 2 * p)
 have htb:tmB (cdH (cRw R) 1) (fdI b p) ((k:Nat):Int)≤1:=by unfold tmB; split <;> omega
 have hk3:((k:Nat):Int) < pw3 1:=ltI_true hqla138_1
 have hd0:=dg3 (x:=((k:Nat):Int)) (by omega)
 refine Hd.goes_seqA (by kernel_rfl) ?_
 rcases Nat.eq_zero_or_pos (gotL (seeM (cRw R) 1 (padF (dgT 1 ((k:Nat):Int)))) (1 + 2 * p)).length with hf0 | hf1
 ·skip
  exact goes_leafA isN_e (goes_told Try.checked.mixed (known_la1 hw known_caa) 200 (T':=(qA41_2 R b k p y)) (e:=.normal) (ps:=[0 + 1 * (0 + 1)≤([(.v (.int .i64 (((k:Nat):Int).tmod 3 - 1)))]:List AV).length,IsR 1 (cRw R),0 + 1=1∧List.take (1 * (0 + 1)) (List.drop 0 [AV.v (Value.int IntKind.i64 (((k:Nat):Int).tmod 3 - 1))])=cI (dgT 1 ((k:Nat):Int))∧1=(dgT 1 ((k:Nat):Int)).length,csE (((p:Nat):Int)) (cRw R) 1 (List.take (1 * (0 + 1)) (List.drop 0 [AV.v (Value.int IntKind.i64 (((k:Nat):Int).tmod 3 - 1))])) 1=0,(gotL (seeM (cRw R) 1 (padF (dgT 1 ((k:Nat):Int)))) (1 + 2 * p)).length=0]) [.go,.go,.go,.go,.go,.go,.go] (by kernel_rfl) (by kernel_rfl) ⟨(Nat.le_of_ble_eq_true rfl),⟨R,rfl,hm⟩,⟨rfl,rfl,rfl⟩,(csE_dg hE (by omega)),hf0,trivial⟩ rfl) (Hd.en_n (la1_55 y R p b hw hm hE hb hqla17_1 k hk1 hk2 hqla138_1 hf0 w hs))
 ·skip
  exact goes_leafA isN_e (goes_told Try.checked.mixed (known_la1 hw known_cab) 200 (T':=(qA41_1 R b k p y)) (e:=.normal) (ps:=[0 + 1 * (0 + 1)≤([(.v (.int .i64 (((k:Nat):Int).tmod 3 - 1)))]:List AV).length,IsR 1 (cRw R),0 + 1=1∧List.take (1 * (0 + 1)) (List.drop 0 [AV.v (Value.int IntKind.i64 (((k:Nat):Int).tmod 3 - 1))])=cI (dgT 1 ((k:Nat):Int))∧1=(dgT 1 ((k:Nat):Int)).length,csE (((p:Nat):Int)) (cRw R) 1 (List.take (1 * (0 + 1)) (List.drop 0 [AV.v (Value.int IntKind.i64 (((k:Nat):Int).tmod 3 - 1))])) 1=0,0 < (gotL (seeM (cRw R) 1 (padF (dgT 1 ((k:Nat):Int)))) (1 + 2 * p)).length]) [.go,.go,.go,.go,.go,.go,.go] (by kernel_rfl) (by kernel_rfl) ⟨(Nat.le_of_ble_eq_true rfl),⟨R,rfl,hm⟩,⟨rfl,rfl,rfl⟩,(csE_dg hE (by omega)),hf1,trivial⟩ rfl) (Hd.en_n (la1_60 y R p b hw hm hE hb hqla17_1 k hk1 hk2 hqla138_1 hf1 w hs))
theorem la1_49 (y:Value) (R:List (Value×List Int)) (p:Nat) (b:Int) (hw:Known Try.prog (clsO wkC)) (hm:1=R.length) (hE:plE ((p:Nat):Int) (cRw R) 1=0) (hb:0≤b∧b≤255) (hqla17_1:(fnB (((p:Nat):Int)) (cRw R) 1)=true) (k:Nat) (hk1:k≤3) (hk2:True) (hqla138_1:(ltI (((k:Nat):Int)) ((3:Int)))=true) (w:World) (hs:List Nat):Goes Try.prog 97 la1K47 ((qA41_8 R b k p y)) (BaseW.H w hs) (Hd.AfterB Try.prog 97 3 la1K40 w (Hd.StepC Try.prog 97 2 (fun k:{k:Nat // k≤3∧True}=>⟨[(2,(.ptr 0 0)),(5,(.ptr 1 0)),(6,(.sl 2 0 1 1)),qA41_34,(10,(.v (.int .i64 ((cntL (cdH (cRw R) 1) (1 + 2 * p) ((k.1:Nat):Int):Nat):Int)))),(11,(.v (.int .i64 ((tmB (cdH (cRw R) 1) (fdI b p) ((k.1:Nat):Int):Nat):Int)))),(12,(.v (.int .i64 ((k.1:Nat):Int))))],[],3,[(qA41_29 R p y),(qA41_25 b p),(qA41_20 R b p)]⟩) (fun k:{k:Nat // k≤3∧True}=>3 - k.1) la1K27 w (OutH Try.prog Try.f10 97 (.bool true) w) (⟨k,hk1,hk2⟩:{k:Nat // k≤3∧True}))):=by
 obtain ⟨-,hp,-⟩:=plE_zero hE
 have hi:=fdI_lt (b:=b) (p:=p) hb
 have hca:=cas_ca (p:=p) (by omega) hi
 have ghqla138_1:=ltI_true hqla138_1
 have hcn:=cntL_le (cdH (cRw R) 1) ((k:Nat):Int) (1 + 2 * p)
 have hgl:=got_le (seeM (cRw R) 1 (padF (dgT 1 ((k:Nat):Int)))) (1 + 2 * p)
 have htb:tmB (cdH (cRw R) 1) (fdI b p) ((k:Nat):Int)≤1:=by unfold tmB; split <;> omega
 have hk3:((k:Nat):Int) < pw3 1:=ltI_true hqla138_1
 have hd0:=dg3 (x:=((k:Nat):Int)) (by omega)
 refine Hd.goes_seqA (by kernel_rfl) ?_
 exact goes_leafA isN_e (goes_told Try.checked.mixed (known_la1 hw known_caa) 200 (T':=(qA41_7 R b k p y)) (e:=.normal) (ps:=[ltI 0 ((1:Nat):Int)=true,(3:Int)≠0,inR IntKind.i64 (((k:Nat):Int).tmod 3 - 1),(3:Int)≠0,inR IntKind.i64 (((k:Nat):Int).tdiv 3),inR IntKind.i64 (0 + 1),ltI (0 + 1) ((1:Nat):Int)=false]) [.go,.go,.go,.go,.go,.go,.b true,.go,.go,.go,.go,.go,.go,.go,.go,.go,.go,.go,.go,.go,.go,.go,.go,.go,.go,.b false] (by kernel_rfl) (by kernel_rfl) ⟨rfl,(by omega),(iRA41 (by omega) (by omega)),(by omega),(iRA41 (by omega) (by omega)),(iRA41 (by omega) (by omega)),rfl,trivial⟩ rfl) (Hd.en_n (la1_52 y R p b hw hm hE hb hqla17_1 k hk1 hk2 hqla138_1 w hs))
theorem la1_46 (y:Value) (R:List (Value×List Int)) (p:Nat) (b:Int) (hw:Known Try.prog (clsO wkC)) (hm:1=R.length) (hE:plE ((p:Nat):Int) (cRw R) 1=0) (hb:0≤b∧b≤255) (hqla17_1:(fnB (((p:Nat):Int)) (cRw R) 1)=true) (k:Nat) (hk1:k≤3) (hk2:True) (hqla138_1:(ltI (((k:Nat):Int)) ((3:Int)))=true) (w:World) (hs:List Nat):Goes Try.prog 97 la1K44 ((qA41_9 R b k p y)) (BaseW.H w hs) (Hd.AfterB Try.prog 97 3 la1K40 w (Hd.StepC Try.prog 97 2 (fun k:{k:Nat // k≤3∧True}=>⟨[(2,(.ptr 0 0)),(5,(.ptr 1 0)),(6,(.sl 2 0 1 1)),qA41_34,(10,(.v (.int .i64 ((cntL (cdH (cRw R) 1) (1 + 2 * p) ((k.1:Nat):Int):Nat):Int)))),(11,(.v (.int .i64 ((tmB (cdH (cRw R) 1) (fdI b p) ((k.1:Nat):Int):Nat):Int)))),(12,(.v (.int .i64 ((k.1:Nat):Int))))],[],3,[(qA41_29 R p y),(qA41_25 b p),(qA41_20 R b p)]⟩) (fun k:{k:Nat // k≤3∧True}=>3 - k.1) la1K27 w (OutH Try.prog Try.f10 97 (.bool true) w) (⟨k,hk1,hk2⟩:{k:Nat // k≤3∧True}))):=by
 obtain ⟨-,hp,-⟩:=plE_zero hE
 have hi:=fdI_lt (b:=b) (p:=p) hb
 have hca:=cas_ca (p:=p) (by omega) hi
 have ghqla138_1:=ltI_true hqla138_1
 have hcn:=cntL_le (cdH (cRw R) 1) ((k:Nat):Int) (1 + 2 * p)
 have hgl:=got_le (seeM (cRw R) 1 (padF (dgT 1 ((k:Nat):Int)))) (1 + 2 * p)
 have htb:tmB (cdH (cRw R) 1) (fdI b p) ((k:Nat):Int)≤1:=by unfold tmB; split <;> omega
 have hk3:((k:Nat):Int) < pw3 1:=ltI_true hqla138_1
 have hd0:=dg3 (x:=((k:Nat):Int)) (by omega)
 refine Hd.goes_seqA (by kernel_rfl) ?_
 exact goes_leafA isN_e (goes_told Try.checked.mixed (known_la1 hw known_caa) 200 (T':=(qA41_8 R b k p y)) (e:=.normal) (ps:=[]) [.go,.go] (by kernel_rfl) (by kernel_rfl) trivial rfl) (Hd.en_n (la1_49 y R p b hw hm hE hb hqla17_1 k hk1 hk2 hqla138_1 w hs))
theorem la1_43 (y:Value) (R:List (Value×List Int)) (p:Nat) (b:Int) (hw:Known Try.prog (clsO wkC)) (hm:1=R.length) (hE:plE ((p:Nat):Int) (cRw R) 1=0) (hb:0≤b∧b≤255) (hqla17_1:(fnB (((p:Nat):Int)) (cRw R) 1)=true) (k:Nat) (hk1:k≤3) (hk2:True) (hqla138_1:(ltI (((k:Nat):Int)) ((3:Int)))=true) (w:World) (hs:List Nat):Goes Try.prog 97 la1K42 ((qA41_13 R b k p y)) (BaseW.H w hs) (Hd.AfterB Try.prog 97 3 la1K40 w (Hd.StepC Try.prog 97 2 (fun k:{k:Nat // k≤3∧True}=>⟨[(2,(.ptr 0 0)),(5,(.ptr 1 0)),(6,(.sl 2 0 1 1)),qA41_34,(10,(.v (.int .i64 ((cntL (cdH (cRw R) 1) (1 + 2 * p) ((k.1:Nat):Int):Nat):Int)))),(11,(.v (.int .i64 ((tmB (cdH (cRw R) 1) (fdI b p) ((k.1:Nat):Int):Nat):Int)))),(12,(.v (.int .i64 ((k.1:Nat):Int))))],[],3,[(qA41_29 R p y),(qA41_25 b p),(qA41_20 R b p)]⟩) (fun k:{k:Nat // k≤3∧True}=>3 - k.1) la1K27 w (OutH Try.prog Try.f10 97 (.bool true) w) (⟨k,hk1,hk2⟩:{k:Nat // k≤3∧True}))):=by
 obtain ⟨-,hp,-⟩:=plE_zero hE
 have hi:=fdI_lt (b:=b) (p:=p) hb
 have hca:=cas_ca (p:=p) (by omega) hi
 have ghqla138_1:=ltI_true hqla138_1
 have hcn:=cntL_le (cdH (cRw R) 1) ((k:Nat):Int) (1 + 2 * p)
 have hgl:=got_le (seeM (cRw R) 1 (padF (dgT 1 ((k:Nat):Int)))) (1 + 2 * p)
 have htb:tmB (cdH (cRw R) 1) (fdI b p) ((k:Nat):Int)≤1:=by unfold tmB; split <;> omega
 have hk3:((k:Nat):Int) < pw3 1:=ltI_true hqla138_1
 have hd0:=dg3 (x:=((k:Nat):Int)) (by omega)
 refine Hd.goes_seqA (by kernel_rfl) ?_
 exact goes_leafA isN_e (goes_told Try.checked.mixed (known_la1 hw known_caa) 200 (T':=(qA41_9 R b k p y)) (e:=.normal) (ps:=[]) [.go] (by kernel_rfl) (by kernel_rfl) trivial rfl) (Hd.en_n (la1_46 y R p b hw hm hE hb hqla17_1 k hk1 hk2 hqla138_1 w hs))
theorem la1_41 (y:Value) (R:List (Value×List Int)) (p:Nat) (b:Int) (hw:Known Try.prog (clsO wkC)) (hm:1=R.length) (hE:plE ((p:Nat):Int) (cRw R) 1=0) (hb:0≤b∧b≤255) (hqla17_1:(fnB (((p:Nat):Int)) (cRw R) 1)=true) (k:Nat) (hk1:k≤3) (hk2:True) (hqla138_1:(ltI (((k:Nat):Int)) ((3:Int)))=true) (w:World) (hs:List Nat):Goes Try.prog 97 (hdC la1K37) ((qA41_13 R b k p y)) (BaseW.H w hs) (Hd.AfterN Try.prog 97 la1K40 w (Hd.StepC Try.prog 97 2 (fun k:{k:Nat // k≤3∧True}=>⟨[(2,(.ptr 0 0)),(5,(.ptr 1 0)),(6,(.sl 2 0 1 1)),qA41_34,(10,(.v (.int .i64 ((cntL (cdH (cRw R) 1) (1 + 2 * p) ((k.1:Nat):Int):Nat):Int)))),(11,(.v (.int .i64 ((tmB (cdH (cRw R) 1) (fdI b p) ((k.1:Nat):Int):Nat):Int)))),(12,(.v (.int .i64 ((k.1:Nat):Int))))],[],3,[(qA41_29 R p y),(qA41_25 b p),(qA41_20 R b p)]⟩) (fun k:{k:Nat // k≤3∧True}=>3 - k.1) la1K27 w (OutH Try.prog Try.f10 97 (.bool true) w) (⟨k,hk1,hk2⟩:{k:Nat // k≤3∧True}))):=by
 exact Hd.goes_blkA (id:=3) (by kernel_rfl) (by kernel_rfl) (la1_43 y R p b hw hm hE hb hqla17_1 k hk1 hk2 hqla138_1 w hs)
theorem la1_39 (y:Value) (R:List (Value×List Int)) (p:Nat) (b:Int) (hw:Known Try.prog (clsO wkC)) (hm:1=R.length) (hE:plE ((p:Nat):Int) (cRw R) 1=0) (hb:0≤b∧b≤255) (hqla17_1:(fnB (((p:Nat):Int)) (cRw R) 1)=true) (k:Nat) (hk1:k≤3) (hk2:True) (hqla138_1:(ltI (((k:Nat):Int)) ((3:Int)))=true) (w:World) (hs:List Nat):Goes Try.prog 97 la1K37 ((qA41_13 R b k p y)) (BaseW.H w hs) (Hd.StepC Try.prog 97 2 (fun k:{k:Nat // k≤3∧True}=>⟨[(2,(.ptr 0 0)),(5,(.ptr 1 0)),(6,(.sl 2 0 1 1)),qA41_34,(10,(.v (.int .i64 ((cntL (cdH (cRw R) 1) (1 + 2 * p) ((k.1:Nat):Int):Nat):Int)))),(11,(.v (.int .i64 ((tmB (cdH (cRw R) 1) (fdI b p) ((k.1:Nat):Int):Nat):Int)))),(12,(.v (.int .i64 ((k.1:Nat):Int))))],[],3,[(qA41_29 R p y),(qA41_25 b p),(qA41_20 R b p)]⟩) (fun k:{k:Nat // k≤3∧True}=>3 - k.1) la1K27 w (OutH Try.prog Try.f10 97 (.bool true) w) (⟨k,hk1,hk2⟩:{k:Nat // k≤3∧True})):=by
 exact Hd.goes_seqA (by kernel_rfl) (la1_41 y R p b hw hm hE hb hqla17_1 k hk1 hk2 hqla138_1 w hs)
theorem la1_66 (y:Value) (R:List (Value×List Int)) (p:Nat) (b:Int) (hw:Known Try.prog (clsO wkC)) (hm:1=R.length) (hE:plE ((p:Nat):Int) (cRw R) 1=0) (hb:0≤b∧b≤255) (hqla17_1:(fnB (((p:Nat):Int)) (cRw R) 1)=true) (h2b:True) (hqla138_1:(ltI (((3:Nat):Int)) ((3:Int)))=false) (w:World) (hs:List Nat):Goes Try.prog 97 la1K27 ((qA41_21 R b p y)) (BaseW.H w hs) (OutH Try.prog Try.f10 97 (.bool true) w):=by
 obtain ⟨-,hp,-⟩:=plE_zero hE
 have hi:=fdI_lt (b:=b) (p:=p) hb
 have hca:=cas_ca (p:=p) (by omega) hi
 have ghqla138_1:=ltI_false hqla138_1
 rcases Bool.eq_false_or_eq_true (eqI (((cntL (cdH (cRw R) 1) (1 + 2 * p) 3:Nat):Int)) (2 * ((p:Nat):Int) + 1)) with hqla167_1 | hqla167_1
 ·skip
  have ghqla167_1:=eqI_true hqla167_1
  rcases Bool.eq_false_or_eq_true (eqI (((tmB (cdH (cRw R) 1) (fdI b p) 3:Nat):Int)) 1) with hqla167_2 | hqla167_2
  ·skip
   have ghqla167_2:=eqI_true hqla167_2
   exact goes_leafA isR_e (goes_told Try.checked.mixed (known_la1 hw known_caa) 200 (T':=⟨[(4,(.v (.bool .true)))],[],3,[]⟩) (e:=.ret) (ps:=[inR IntKind.i64 (2 * ((p:Nat):Int)),inR IntKind.i64 (2 * ((p:Nat):Int) + 1),eqI (((cntL (cdH (cRw R) 1) (1 + 2 * p) 3:Nat):Int)) (2 * ((p:Nat):Int) + 1)=true,true=true,eqI (((tmB (cdH (cRw R) 1) (fdI b p) 3:Nat):Int)) 1=true]) [.go,.go,.go,.go,.go,.go,.go,.b true,.go,.b true,.go,.go,.go,.b true,.go,.go] (by kernel_rfl) (by kernel_rfl) ⟨(iRA41 (by omega) (by omega)),(iRA41 (by omega) (by omega)),hqla167_1,rfl,hqla167_2,trivial⟩ rfl) (Hd.en_eq (r:=(.bool .true)) (by rfl) (Hd.en_ret (v:=(.v (.bool .true))) (by kernel_rfl) rfl))
  ·skip
   have ghqla167_2:=eqI_false hqla167_2
   exfalso
   have h9:=eqI_false hqla167_2
   have h8:tmB (cdH (cRw R) 1) (fdI b p) (3:Int)=1:=tm_end hE hi
   rw [h8] at h9
   omega
 ·skip
  have ghqla167_1:=eqI_false hqla167_1
  exfalso
  have h9:=eqI_false hqla167_1
  have h8:cntL (cdH (cRw R) 1) (1 + 2 * p) (3:Int)=(1 + 2 * p):=al_end hE
  rw [h8] at h9
  omega
theorem la1_36 (y:Value) (R:List (Value×List Int)) (p:Nat) (b:Int) (hw:Known Try.prog (clsO wkC)) (hm:1=R.length) (hE:plE ((p:Nat):Int) (cRw R) 1=0) (hb:0≤b∧b≤255) (hqla17_1:(fnB (((p:Nat):Int)) (cRw R) 1)=true) (k:Nat) (hk1:k≤3) (hk2:True) (w:World) (hs:List Nat):Goes Try.prog 97 la1K34 (⟨[(2,(.ptr 0 0)),(5,(.ptr 1 0)),(6,(.sl 2 0 1 1)),qA41_34,(10,(.v (.int .i64 ((cntL (cdH (cRw R) 1) (1 + 2 * p) ((k:Nat):Int):Nat):Int)))),(11,(.v (.int .i64 ((tmB (cdH (cRw R) 1) (fdI b p) ((k:Nat):Int):Nat):Int)))),(12,(.v (.int .i64 ((k:Nat):Int))))],[],3,[(qA41_29 R p y),(qA41_25 b p),(qA41_20 R b p)]⟩) (BaseW.H w hs) (Hd.StepC Try.prog 97 2 (fun k:{k:Nat // k≤3∧True}=>⟨[(2,(.ptr 0 0)),(5,(.ptr 1 0)),(6,(.sl 2 0 1 1)),qA41_34,(10,(.v (.int .i64 ((cntL (cdH (cRw R) 1) (1 + 2 * p) ((k.1:Nat):Int):Nat):Int)))),(11,(.v (.int .i64 ((tmB (cdH (cRw R) 1) (fdI b p) ((k.1:Nat):Int):Nat):Int)))),(12,(.v (.int .i64 ((k.1:Nat):Int))))],[],3,[(qA41_29 R p y),(qA41_25 b p),(qA41_20 R b p)]⟩) (fun k:{k:Nat // k≤3∧True}=>3 - k.1) la1K27 w (OutH Try.prog Try.f10 97 (.bool true) w) (⟨k,hk1,hk2⟩:{k:Nat // k≤3∧True})):=by
 obtain ⟨-,hp,-⟩:=plE_zero hE
 have hi:=fdI_lt (b:=b) (p:=p) hb
 have hca:=cas_ca (p:=p) (by omega) hi
 refine Hd.goes_seqA (by kernel_rfl) ?_
 rcases Bool.eq_false_or_eq_true (ltI (((k:Nat):Int)) ((3:Int))) with hqla138_1 | hqla138_1
 ·skip
  have ghqla138_1:=ltI_true hqla138_1
  have hcn:=cntL_le (cdH (cRw R) 1) ((k:Nat):Int) (1 + 2 * p)
  have hgl:=got_le (seeM (cRw R) 1 (padF (dgT 1 ((k:Nat):Int)))) (1 + 2 * p)
  have htb:tmB (cdH (cRw R) 1) (fdI b p) ((k:Nat):Int)≤1:=by unfold tmB; split <;> omega
  have hk3:((k:Nat):Int) < pw3 1:=ltI_true hqla138_1
  have hd0:=dg3 (x:=((k:Nat):Int)) (by omega)
  exact goes_leafA isN_e (goes_told Try.checked.mixed (known_la1 hw known_caa) 200 (T':=(qA41_13 R b k p y)) (e:=.normal) (ps:=[ltI (((k:Nat):Int)) ((3:Int))=true]) [.go,.go,.go,.b true] (by kernel_rfl) (by kernel_rfl) ⟨hqla138_1,trivial⟩ rfl) (Hd.en_n (la1_39 y R p b hw hm hE hb hqla17_1 k hk1 hk2 hqla138_1 w hs))
 ·skip
  have ghqla138_1:=ltI_false hqla138_1
  obtain rfl:3=k:=by omega
  exact goes_leafA isX_e (goes_told Try.checked.mixed (known_la1 hw known_caa) 200 (T':=(qA41_21 R b p y)) (e:=.exit 2) (ps:=[ltI (((3:Nat):Int)) ((3:Int))=false]) [.go,.go,.go,.b false] (by kernel_rfl) (by kernel_rfl) ⟨hqla138_1,trivial⟩ rfl) (Hd.en_o (by intro h; cases h) (Hd.en_sx (la1_66 y R p b hw hm hE hb hqla17_1 hk2  hqla138_1 w hs)))
theorem la1_33 (y:Value) (R:List (Value×List Int)) (p:Nat) (b:Int) (hw:Known Try.prog (clsO wkC)) (hm:1=R.length) (hE:plE ((p:Nat):Int) (cRw R) 1=0) (hb:0≤b∧b≤255) (hqla17_1:(fnB (((p:Nat):Int)) (cRw R) 1)=true) (w:World) (hs:List Nat):Goes Try.prog 97 la1K30 ((qA41_14 R b p y)) (BaseW.H w hs) (Hd.AfterN Try.prog 97 la1K27 w (OutH Try.prog Try.f10 97 (.bool true) w)):=by
 obtain ⟨-,hp,-⟩:=plE_zero hE
 have hi:=fdI_lt (b:=b) (p:=p) hb
 have hca:=cas_ca (p:=p) (by omega) hi
 rw [show ((qA41_14 R b p y):Ev.Lit)=⟨[(2,(.ptr 0 0)),(5,(.ptr 1 0)),(6,(.sl 2 0 1 1)),qA41_34,(10,(.v (.int .i64 ((cntL (cdH (cRw R) 1) (1 + 2 * p) ((0:Nat):Int):Nat):Int)))),(11,(.v (.int .i64 ((tmB (cdH (cRw R) 1) (fdI b p) ((0:Nat):Int):Nat):Int)))),(12,(.v (.int .i64 ((0:Nat):Int))))],[],3,[(qA41_29 R p y),(qA41_25 b p),(qA41_20 R b p)]⟩ from by (rw [show cntL (cdH (cRw R) 1) (1 + 2 * p) ((0:Nat):Int)=0 from al_start hE,show tmB (cdH (cRw R) 1) (fdI b p) ((0:Nat):Int)=0 from tm_start hE hi]; rfl)]
 exact Hd.goes_loopA (id:=2) (by kernel_rfl) (by kernel_rfl) (fun k:{k:Nat // k≤3∧True}=>⟨[(2,(.ptr 0 0)),(5,(.ptr 1 0)),(6,(.sl 2 0 1 1)),qA41_34,(10,(.v (.int .i64 ((cntL (cdH (cRw R) 1) (1 + 2 * p) ((k.1:Nat):Int):Nat):Int)))),(11,(.v (.int .i64 ((tmB (cdH (cRw R) 1) (fdI b p) ((k.1:Nat):Int):Nat):Int)))),(12,(.v (.int .i64 ((k.1:Nat):Int))))],[],3,[(qA41_29 R p y),(qA41_25 b p),(qA41_20 R b p)]⟩) (fun k:{k:Nat // k≤3∧True}=>3 - k.1) (fun ix_ hs=>la1_36 y R p b hw hm hE hb hqla17_1 ix_.1 ix_.2.1 ix_.2.2 w hs) ⟨0,Nat.zero_le _,trivial⟩ hs
theorem la1_32 (y:Value) (R:List (Value×List Int)) (p:Nat) (b:Int) (hw:Known Try.prog (clsO wkC)) (hm:1=R.length) (hE:plE ((p:Nat):Int) (cRw R) 1=0) (hb:0≤b∧b≤255) (hqla17_1:(fnB (((p:Nat):Int)) (cRw R) 1)=true) (w:World) (hs:List Nat):Goes Try.prog 97 la1K30 ((qA41_14 R b p y)) (BaseW.H w hs) (Hd.AfterN Try.prog 97 la1K27 w (OutH Try.prog Try.f10 97 (.bool true) w)):=by
 exact la1_33 y R p b hw hm hE hb hqla17_1 w hs
theorem la1_29 (y:Value) (R:List (Value×List Int)) (p:Nat) (b:Int) (hw:Known Try.prog (clsO wkC)) (hm:1=R.length) (hE:plE ((p:Nat):Int) (cRw R) 1=0) (hb:0≤b∧b≤255) (hqla17_1:(fnB (((p:Nat):Int)) (cRw R) 1)=true) (w:World) (hs:List Nat):Goes Try.prog 97 la1K28 ((qA41_15 R b p y)) (BaseW.H w hs) (Hd.AfterN Try.prog 97 la1K27 w (OutH Try.prog Try.f10 97 (.bool true) w)):=by
 obtain ⟨-,hp,-⟩:=plE_zero hE
 have hi:=fdI_lt (b:=b) (p:=p) hb
 have hca:=cas_ca (p:=p) (by omega) hi
 refine Hd.goes_seqA (by kernel_rfl) ?_
 exact goes_leafA isN_e (goes_told Try.checked.mixed (known_la1 hw known_caa) 200 (T':=(qA41_14 R b p y)) (e:=.normal) (ps:=[]) [.go] (by kernel_rfl) (by kernel_rfl) trivial rfl) (Hd.en_n (la1_32 y R p b hw hm hE hb hqla17_1 w hs))
theorem la1_26 (y:Value) (R:List (Value×List Int)) (p:Nat) (b:Int) (hw:Known Try.prog (clsO wkC)) (hm:1=R.length) (hE:plE ((p:Nat):Int) (cRw R) 1=0) (hb:0≤b∧b≤255) (hqla17_1:(fnB (((p:Nat):Int)) (cRw R) 1)=true) (w:World) (hs:List Nat):Goes Try.prog 97 la1K24 ((qA41_15 R b p y)) (BaseW.H w hs) (OutH Try.prog Try.f10 97 (.bool true) w):=by
 exact Hd.goes_seqA (by kernel_rfl) (la1_29 y R p b hw hm hE hb hqla17_1 w hs)
theorem la1_23 (y:Value) (R:List (Value×List Int)) (p:Nat) (b:Int) (hw:Known Try.prog (clsO wkC)) (hm:1=R.length) (hE:plE ((p:Nat):Int) (cRw R) 1=0) (hb:0≤b∧b≤255) (hqla17_1:(fnB (((p:Nat):Int)) (cRw R) 1)=true) (w:World) (hs:List Nat):Goes Try.prog 97 la1K21 ((qA41_16 R b p y)) (BaseW.H w hs) (OutH Try.prog Try.f10 97 (.bool true) w):=by
 obtain ⟨-,hp,-⟩:=plE_zero hE
 have hi:=fdI_lt (b:=b) (p:=p) hb
 have hca:=cas_ca (p:=p) (by omega) hi
 refine Hd.goes_seqA (by kernel_rfl) ?_
 exact goes_leafA isN_e (goes_told Try.checked.mixed (known_la1 hw known_caa) 200 (T':=(qA41_15 R b p y)) (e:=.normal) (ps:=[]) [.go,.go] (by kernel_rfl) (by kernel_rfl) trivial rfl) (Hd.en_n (la1_26 y R p b hw hm hE hb hqla17_1 w hs))
theorem la1_20 (y:Value) (R:List (Value×List Int)) (p:Nat) (b:Int) (hw:Known Try.prog (clsO wkC)) (hm:1=R.length) (hE:plE ((p:Nat):Int) (cRw R) 1=0) (hb:0≤b∧b≤255) (hqla17_1:(fnB (((p:Nat):Int)) (cRw R) 1)=true) (w:World) (hs:List Nat):Goes Try.prog 97 la1K18 ((qA41_17 R b p y)) (BaseW.H w hs) (OutH Try.prog Try.f10 97 (.bool true) w):=by
 obtain ⟨-,hp,-⟩:=plE_zero hE
 have hi:=fdI_lt (b:=b) (p:=p) hb
 have hca:=cas_ca (p:=p) (by omega) hi
 refine Hd.goes_seqA (by kernel_rfl) ?_
 exact goes_leafA isN_e (goes_told Try.checked.mixed (known_la1 hw known_caa) 200 (T':=(qA41_16 R b p y)) (e:=.normal) (ps:=[ltI 0 ((1:Nat):Int)=true,inR IntKind.i64 ((1:Int) * 3),inR IntKind.i64 (0 + 1),ltI (0 + 1) ((1:Nat):Int)=false]) [.go,.go,.go,.go,.go,.go,.b true,.go,.go,.go,.go,.go,.go,.go,.go,.go,.go,.go,.b false] (by kernel_rfl) (by kernel_rfl) ⟨rfl,(iRA41 (by omega) (by omega)),(iRA41 (by omega) (by omega)),rfl,trivial⟩ rfl) (Hd.en_n (la1_23 y R p b hw hm hE hb hqla17_1 w hs))
theorem la1_17 (y:Value) (R:List (Value×List Int)) (p:Nat) (b:Int) (hw:Known Try.prog (clsO wkC)) (hm:1=R.length) (hE:plE ((p:Nat):Int) (cRw R) 1=0) (hb:0≤b∧b≤255) (hqla17_1:(fnB (((p:Nat):Int)) (cRw R) 1)=true) (w:World) (hs:List Nat):Goes Try.prog 97 la1K15 ((qA41_19 R b p y)) (BaseW.H w hs) (OutH Try.prog Try.f10 97 (.bool true) w):=by
 obtain ⟨-,hp,-⟩:=plE_zero hE
 have hi:=fdI_lt (b:=b) (p:=p) hb
 have hca:=cas_ca (p:=p) (by omega) hi
 refine Hd.goes_seqA (by kernel_rfl) ?_
 exact goes_leafA isN_e (goes_told Try.checked.mixed (known_la1 hw known_caa) 200 (T':=(qA41_17 R b p y)) (e:=.normal) (ps:=[]) [.go] (by kernel_rfl) (by kernel_rfl) trivial rfl) (Hd.en_n (la1_20 y R p b hw hm hE hb hqla17_1 w hs))
theorem la1_14 (y:Value) (R:List (Value×List Int)) (p:Nat) (b:Int) (hw:Known Try.prog (clsO wkC)) (hm:1=R.length) (hE:plE ((p:Nat):Int) (cRw R) 1=0) (hb:0≤b∧b≤255) (hqla17_1:(fnB (((p:Nat):Int)) (cRw R) 1)=true) (w:World) (hs:List Nat):Goes Try.prog 97 la1K12 ((qA41_18 R b p y)) (BaseW.H w hs) (OutH Try.prog Try.f10 97 (.bool true) w):=by
 obtain ⟨-,hp,-⟩:=plE_zero hE
 have hi:=fdI_lt (b:=b) (p:=p) hb
 have hca:=cas_ca (p:=p) (by omega) hi
 refine Hd.goes_seqA (by kernel_rfl) ?_
 exact goes_leafA isN_e (goes_told Try.checked.mixed (known_la1 hw known_caa) 200 (T':=(qA41_19 R b p y)) (e:=.normal) (ps:=[(!eqI ((0:Int)) 0)=false]) [.go,.go,.b false] (by kernel_rfl) (by kernel_rfl) ⟨rfl,trivial⟩ rfl) (Hd.en_n (la1_17 y R p b hw hm hE hb hqla17_1 w hs))
theorem la1_11 (y:Value) (R:List (Value×List Int)) (p:Nat) (b:Int) (hw:Known Try.prog (clsO wkC)) (hm:1=R.length) (hE:plE ((p:Nat):Int) (cRw R) 1=0) (hb:0≤b∧b≤255) (hqla17_1:(fnB (((p:Nat):Int)) (cRw R) 1)=true) (w:World) (hs:List Nat):Goes Try.prog 97 la1K9 ((qA41_22 R b p y)) (BaseW.H w hs) (OutH Try.prog Try.f10 97 (.bool true) w):=by
 obtain ⟨-,hp,-⟩:=plE_zero hE
 have hi:=fdI_lt (b:=b) (p:=p) hb
 have hca:=cas_ca (p:=p) (by omega) hi
 refine Hd.goes_seqA (by kernel_rfl) ?_
 exact goes_leafA isN_e (goes_told Try.checked.mixed (known_la1 hw known_caa) 200 (T':=(qA41_18 R b p y)) (e:=.normal) (ps:=[IsR 1 (cRw R),plE (((p:Nat):Int)) (cRw R) 1=0,caB (((p:Nat):Int)) (caseN (fdI b p)).fst (caseN (fdI b p)).snd=true]) [.go,.go,.go,.go,.go,.go,.go] (by kernel_rfl) (by kernel_rfl) ⟨⟨R,rfl,hm⟩,hE,hca,trivial⟩ rfl) (Hd.en_n (la1_14 y R p b hw hm hE hb hqla17_1 w hs))
theorem la1_8 (y:Value) (R:List (Value×List Int)) (p:Nat) (b:Int) (hw:Known Try.prog (clsO wkC)) (hm:1=R.length) (hE:plE ((p:Nat):Int) (cRw R) 1=0) (hb:0≤b∧b≤255) (hqla17_1:(fnB (((p:Nat):Int)) (cRw R) 1)=true) (w:World) (hs:List Nat):Goes Try.prog 97 la1K6 ((qA41_24 R b p y)) (BaseW.H w hs) (OutH Try.prog Try.f10 97 (.bool true) w):=by
 obtain ⟨-,hp,-⟩:=plE_zero hE
 have hi:=fdI_lt (b:=b) (p:=p) hb
 have hca:=cas_ca (p:=p) (by omega) hi
 refine Hd.goes_seqA (by kernel_rfl) ?_
 exact goes_leafA isN_e (goes_told Try.checked.mixed (known_la1 hw known_caa) 200 (T':=(qA41_22 R b p y)) (e:=.normal) (ps:=[IsR 1 (cRw R),plE (((p:Nat):Int)) (cRw R) 1=0,0≤b∧b≤255]) [.go,.go,.go,.go] (by kernel_rfl) (by kernel_rfl) ⟨⟨R,rfl,hm⟩,hE,hb,trivial⟩ rfl) (Hd.en_n (la1_11 y R p b hw hm hE hb hqla17_1 w hs))
theorem la1_5 (y:Value) (R:List (Value×List Int)) (p:Nat) (b:Int) (hw:Known Try.prog (clsO wkC)) (hm:1=R.length) (hE:plE ((p:Nat):Int) (cRw R) 1=0) (hb:0≤b∧b≤255) (w:World) (hs:List Nat):Goes Try.prog 97 la1K3 ((qA41_24 R b p y)) (BaseW.H w hs) (OutH Try.prog Try.f10 97 (.bool true) w):=by
 obtain ⟨-,hp,-⟩:=plE_zero hE
 have hi:=fdI_lt (b:=b) (p:=p) hb
 have hca:=cas_ca (p:=p) (by omega) hi
 refine Hd.goes_seqA (by kernel_rfl) ?_
 rcases Bool.eq_false_or_eq_true (fnB (((p:Nat):Int)) (cRw R) 1) with hqla17_1 | hqla17_1
 ·skip
  exact goes_leafA isN_e (goes_told Try.checked.mixed (known_la1 hw known_caa) 200 (T':=(qA41_24 R b p y)) (e:=.normal) (ps:=[IsR 1 (cRw R),(!fnB (((p:Nat):Int)) (cRw R) 1)=false]) [.go,.go,.b false] (by kernel_rfl) (by kernel_rfl) ⟨⟨R,rfl,hm⟩,(by rw [hqla17_1]; rfl),trivial⟩ rfl) (Hd.en_n (la1_8 y R p b hw hm hE hb hqla17_1 w hs))
 ·skip
  exact goes_leafA isR_e (goes_told Try.checked.mixed (known_la1 hw known_caa) 200 (T':=⟨[(4,(.v (.bool .true)))],[],1,[]⟩) (e:=.ret) (ps:=[IsR 1 (cRw R),(!fnB (((p:Nat):Int)) (cRw R) 1)=true]) [.go,.go,.b true,.go] (by kernel_rfl) (by kernel_rfl) ⟨⟨R,rfl,hm⟩,(by rw [hqla17_1]; rfl),trivial⟩ rfl) (Hd.en_o (by intro h; cases h) (Hd.en_eq (r:=(.bool .true)) (by rfl) (Hd.en_ret (v:=(.v (.bool .true))) (by kernel_rfl) rfl)))
theorem la1_2 (y:Value) (R:List (Value×List Int)) (p:Nat) (b:Int) (hw:Known Try.prog (clsO wkC)) (hm:1=R.length) (hE:plE ((p:Nat):Int) (cRw R) 1=0) (hb:0≤b∧b≤255) (w:World) (hs:List Nat):Goes Try.prog 97 la1K1 (⟨[(0,(.agg [.v (.int .i64 ((p:Nat):Int)),.xl y 1 1 (cRw R)])),(1,(.v (.int .u8 b)))],[],0,[]⟩) (BaseW.H w hs) (OutH Try.prog Try.f10 97 (.bool true) w):=by
 obtain ⟨-,hp,-⟩:=plE_zero hE
 have hi:=fdI_lt (b:=b) (p:=p) hb
 have hca:=cas_ca (p:=p) (by omega) hi
 refine Hd.goes_seqA (by kernel_rfl) ?_
 exact goes_leafA isN_e (goes_told Try.checked.mixed (known_la1 hw known_caa) 200 (T':=(qA41_24 R b p y)) (e:=.normal) (ps:=[]) [.go,.go] (by kernel_rfl) (by kernel_rfl) trivial rfl) (Hd.en_n (la1_5 y R p b hw hm hE hb w hs))
theorem all_l1 (y:Value) (R:List (Value×List Int)) (p:Nat) (b:Int) (hw:Known Try.prog (clsO wkC)) (hm:1=R.length) (hE:plE ((p:Nat):Int) (cRw R) 1=0) (hb:0≤b∧b≤255):GivesA Try.prog 10 [(.agg [.v (.int .i64 ((p:Nat):Int)),.xl y 1 1 (cRw R)]),(.v (.int .u8 b))] (.bool true) :=
 givesA_partsH 97 Try.func10 (by kernel_rfl) (by kernel_rfl) (by kernel_rfl) (fun w=>goes_less (by kernel_rfl) (by kernel_rfl) (by kernel_rfl) (by kernel_rfl) (la1_2 y R p b hw hm hE hb w []))
end
end Go.Proofs.Ytmankoikpadkpaa
