import Derived.Test.YtmankoikpadkpaaA3
set_option maxHeartbeats 4000000
set_option linter.all false
/- The law AtlasAll, 3 rows. -/
namespace Go.Proofs.Ytmankoikpadkpaa
open Go Ev
noncomputable section
theorem iRA43 {a:Int} (h : -9223372036854775808≤a) (k:a≤9223372036854775807):inR .i64 a:=⟨h,k⟩
section
variable (R : List (Value × List Int)) (b : Int) (k p : Nat) (y : Value)
@[reducible] def qA43_33:Nat×Ev.AV:=(8,(.v (.int .i64 (.ofNat 27))))
@[reducible] def qA43_28:Nat×Ev.AV:=(10,(.v (.int .i64 (((cntL (cdH (cRw R) 3) (1 + 2 * p) ((k:Nat):Int):Nat):Int)))))
@[reducible] def qA43_29:Nat×Ev.AV:=(11,(.v (.int .i64 (((tmB (cdH (cRw R) 3) (fdI b p) ((k:Nat):Int):Nat):Int)))))
@[reducible] def qA43_32:Nat×Ev.AV:=(12,(.v (.int .i64 (((k:Nat):Int)))))
@[reducible] def qA43_30:Nat×Ev.AB:=(0,(.cells [(.v (.int .i64 (((p:Nat):Int)))),(.xl (y) (3) 1 (cRw R))] 24))
@[reducible] def qA43_26:Nat×Ev.AB:=(1,(.cells [(.v (.int .i64 ((caseN (fdI b p)).fst))),(.v (.int .i64 ((caseN (fdI b p)).snd)))] 26))
@[reducible] def qA43_20:Nat×Ev.AB:=(2,(.cells [(.v (.int .i64 (sv (cRw R) 3 (caseN (fdI b p)).fst (caseN (fdI b p)).snd 0))),(.v (.int .i64 (sv (cRw R) 3 (caseN (fdI b p)).fst (caseN (fdI b p)).snd 1))),(.v (.int .i64 (sv (cRw R) 3 (caseN (fdI b p)).fst (caseN (fdI b p)).snd 2))),(.v (.int .i64 (sv (cRw R) 3 (caseN (fdI b p)).fst (caseN (fdI b p)).snd 3)))] 61))
@[reducible] def qA43_23:Nat×Ev.AB:=(8,(.row [(.v (.int .i64 (((k:Nat):Int).tmod 3 - 1))),(.v (.int .i64 ((((k:Nat):Int).tdiv 3).tmod 3 - 1))),(.v (.int .i64 (((((k:Nat):Int).tdiv 3).tdiv 3).tmod 3 - 1)))] 3 1))
@[reducible] def qA43_1:Ev.Lit:=⟨[(2,(.ptr 0 0)),(5,(.ptr 1 0)),(6,(.sl 2 0 3 3)),qA43_33,(qA43_28 R k p),(qA43_29 R b k p),(qA43_32 k),(13,(.slu 8 0 3 0)),(16,(.slu 9 0 ((gotL (seeM (cRw R) 3 (padF (dgT 3 ((k:Nat):Int)))) (1 + 2 * p)).length) 0)),(17,(.v (.int .i64 (.ofNat 0))))],[],10,[(qA43_30 R p y),(qA43_26 b p),(qA43_20 R b p),(qA43_23 k),(9,(.row (cR (gotL (seeM (cRw R) 3 (padF (dgT 3 ((k:Nat):Int)))) (1 + 2 * p))) 26 2))]⟩
@[reducible] def qA43_2:Ev.Lit:=⟨[(2,(.ptr 0 0)),(5,(.ptr 1 0)),(6,(.sl 2 0 3 3)),qA43_33,(qA43_28 R k p),(qA43_29 R b k p),(qA43_32 k),(13,(.slu 8 0 3 0)),(16,(.v (Value.slice none 0 0))),(17,(.v (.int .i64 (.ofNat 0))))],[],9,[(qA43_30 R p y),(qA43_26 b p),(qA43_20 R b p),(qA43_23 k)]⟩
@[reducible] def qA43_3:Ev.Lit:=⟨[(2,(.ptr 0 0)),(5,(.ptr 1 0)),(6,(.sl 2 0 3 3)),qA43_33,(qA43_28 R k p),(qA43_29 R b k p),(qA43_32 k),(13,(.slu 8 0 3 0))],[],9,[(qA43_30 R p y),(qA43_26 b p),(qA43_20 R b p),(qA43_23 k)]⟩
@[reducible] def qA43_24:Nat×Ev.AV:=(10,(.v (.int .i64 (((cntL (cdH (cRw R) 3) (1 + 2 * p) ((k:Nat):Int):Nat):Int) + (((gotL (seeM (cRw R) 3 (padF (dgT 3 ((k:Nat):Int)))) (1 + 2 * p)).length:Nat):Int)))))
@[reducible] def qA43_27:Nat×Ev.AV:=(11,(.v (.int .i64 (((tmB (cdH (cRw R) 3) (fdI b p) ((k:Nat):Int):Nat):Int) + 1))))
@[reducible] def qA43_31:Nat×Ev.AV:=(12,(.v (.int .i64 (((k + 1):Nat):Int))))
@[reducible] def qA43_4:Ev.Lit:=⟨[(2,(.ptr 0 0)),(5,(.ptr 1 0)),(6,(.sl 2 0 3 3)),qA43_33,(qA43_24 R k p),(qA43_27 R b k p),(qA43_31 k)],[],3,[(qA43_30 R p y),(qA43_26 b p),(qA43_20 R b p)]⟩
@[reducible] def qA43_5:Ev.Lit:=⟨[(2,(.ptr 0 0)),(5,(.ptr 1 0)),(6,(.sl 2 0 3 3)),qA43_33,(qA43_24 R k p),(qA43_27 R b k p),(qA43_32 k)],[],10,[(qA43_30 R p y),(qA43_26 b p),(qA43_20 R b p)]⟩
@[reducible] def qA43_6:Ev.Lit:=⟨[(2,(.ptr 0 0)),(5,(.ptr 1 0)),(6,(.sl 2 0 3 3)),qA43_33,(qA43_24 R k p),(qA43_29 R b k p),(qA43_31 k)],[],3,[(qA43_30 R p y),(qA43_26 b p),(qA43_20 R b p)]⟩
@[reducible] def qA43_7:Ev.Lit:=⟨[(2,(.ptr 0 0)),(5,(.ptr 1 0)),(6,(.sl 2 0 3 3)),qA43_33,(qA43_24 R k p),(qA43_29 R b k p),(qA43_32 k)],[],10,[(qA43_30 R p y),(qA43_26 b p),(qA43_20 R b p)]⟩
@[reducible] def qA43_8:Ev.Lit:=⟨[(2,(.ptr 0 0)),(5,(.ptr 1 0)),(6,(.sl 2 0 3 3)),qA43_33,(qA43_28 R k p),(qA43_29 R b k p),(qA43_32 k),(13,(.v (Value.slice none 0 0))),(14,(.v (.int .i64 (((k:Nat):Int)))))],[],3,[(qA43_30 R p y),(qA43_26 b p),(qA43_20 R b p)]⟩
@[reducible] def qA43_9:Ev.Lit:=⟨[(2,(.ptr 0 0)),(5,(.ptr 1 0)),(6,(.sl 2 0 3 3)),qA43_33,(qA43_28 R k p),(qA43_29 R b k p),(qA43_32 k),(13,(.v (Value.slice none 0 0)))],[],3,[(qA43_30 R p y),(qA43_26 b p),(qA43_20 R b p)]⟩
@[reducible] def qA43_10:Ev.Lit:=⟨[(2,(.ptr 0 0)),(5,(.ptr 1 0)),(6,(.sl 2 0 3 3)),qA43_33,(10,(.v (.int .i64 (((cntL (cdH (cRw R) 3) (1 + 2 * p) ((k:Nat):Int):Nat):Int) + ((0:Nat):Int))))),(qA43_29 R b k p),(qA43_32 k)],[],9,[(qA43_30 R p y),(qA43_26 b p),(qA43_20 R b p)]⟩
@[reducible] def qA43_11:Ev.Lit:=⟨[(2,(.ptr 0 0)),(5,(.ptr 1 0)),(6,(.sl 2 0 3 3)),qA43_33,(10,(.v (.int .i64 ((cntL (cdH (cRw R) 3) (1 + 2 * p) (((k + 1):Nat):Int):Nat):Int)))),(11,(.v (.int .i64 ((tmB (cdH (cRw R) 3) (fdI b p) (((k + 1):Nat):Int):Nat):Int)))),(qA43_31 k)],[],3,[(qA43_30 R p y),(qA43_26 b p),(qA43_20 R b p)]⟩
@[reducible] def qA43_12:Ev.Lit:=⟨[(2,(.ptr 0 0)),(5,(.ptr 1 0)),(6,(.sl 2 0 3 3)),qA43_33,(10,(.v (.int .i64 (((cntL (cdH (cRw R) 3) (1 + 2 * p) ((k:Nat):Int):Nat):Int) + 0)))),(qA43_29 R b k p),(qA43_31 k)],[],3,[(qA43_30 R p y),(qA43_26 b p),(qA43_20 R b p)]⟩
@[reducible] def qA43_13:Ev.Lit:=⟨[(2,(.ptr 0 0)),(5,(.ptr 1 0)),(6,(.sl 2 0 3 3)),qA43_33,(qA43_28 R k p),(qA43_29 R b k p),(qA43_32 k)],[],3,[(qA43_30 R p y),(qA43_26 b p),(qA43_20 R b p)]⟩
@[reducible] def qA43_14:Ev.Lit:=⟨[(2,(.ptr 0 0)),(5,(.ptr 1 0)),(6,(.sl 2 0 3 3)),qA43_33,(10,(.v (.int .i64 (.ofNat 0)))),(11,(.v (.int .i64 (.ofNat 0)))),(12,(.v (.int .i64 (.ofNat 0))))],[],3,[(qA43_30 R p y),(qA43_26 b p),(qA43_20 R b p)]⟩
@[reducible] def qA43_15:Ev.Lit:=⟨[(2,(.ptr 0 0)),(5,(.ptr 1 0)),(6,(.sl 2 0 3 3)),qA43_33,(10,(.v (.int .i64 (.ofNat 0)))),(11,(.v (.int .i64 (.ofNat 0))))],[],3,[(qA43_30 R p y),(qA43_26 b p),(qA43_20 R b p)]⟩
@[reducible] def qA43_16:Ev.Lit:=⟨[(2,(.ptr 0 0)),(5,(.ptr 1 0)),(6,(.sl 2 0 3 3)),qA43_33],[],3,[(qA43_30 R p y),(qA43_26 b p),(qA43_20 R b p)]⟩
@[reducible] def qA43_17:Ev.Lit:=⟨[(2,(.ptr 0 0)),(5,(.ptr 1 0)),(6,(.sl 2 0 3 3)),(8,(.v (.int .i64 (.ofNat 1))))],[],3,[(qA43_30 R p y),(qA43_26 b p),(qA43_20 R b p)]⟩
@[reducible] def qA43_18:Ev.Lit:=⟨[(2,(.ptr 0 0)),(5,(.ptr 1 0)),(6,(.sl 2 0 3 3)),(7,(.v (.int .i64 (.ofNat 0))))],[],3,[(qA43_30 R p y),(qA43_26 b p),(qA43_20 R b p)]⟩
@[reducible] def qA43_19:Ev.Lit:=⟨[(2,(.ptr 0 0)),(5,(.ptr 1 0)),(6,(.sl 2 0 3 3))],[],3,[(qA43_30 R p y),(qA43_26 b p),(qA43_20 R b p)]⟩
@[reducible] def qA43_21:Ev.Lit:=⟨[(2,(.ptr 0 0)),(10,(.v (.int .i64 (((cntL (cdH (cRw R) 3) (1 + 2 * p) ((27:Nat):Int):Nat):Int))))),(11,(.v (.int .i64 (((tmB (cdH (cRw R) 3) (fdI b p) ((27:Nat):Int):Nat):Int)))))],[],3,[(qA43_30 R p y)]⟩
@[reducible] def qA43_22:Ev.Lit:=⟨[(2,(.ptr 0 0)),(5,(.ptr 1 0))],[],2,[(qA43_30 R p y),(qA43_26 b p)]⟩
@[reducible] def qA43_25:Ev.Lit:=⟨[(1,(.v (.int .u8 (b)))),(2,(.ptr 0 0))],[],1,[(qA43_30 R p y)]⟩
end
noncomputable def la3K1:Code:=bodyC Try.f10
noncomputable def la3K3:Code:=tlC la3K1
noncomputable def la3K6:Code:=tlC la3K3
noncomputable def la3K9:Code:=tlC la3K6
noncomputable def la3K12:Code:=tlC la3K9
noncomputable def la3K15:Code:=tlC la3K12
noncomputable def la3K18:Code:=tlC la3K15
noncomputable def la3K21:Code:=tlC la3K18
noncomputable def la3K24:Code:=tlC la3K21
noncomputable def la3K27:Code:=tlC la3K24
noncomputable def la3K28:Code:=(hdC la3K24)
noncomputable def la3K30:Code:=tlC la3K28
noncomputable def la3K34:Code:=loopC la3K30
noncomputable def la3K37:Code:=tlC la3K34
noncomputable def la3K40:Code:=tlC la3K37
noncomputable def la3K42:Code:=blkB (hdC la3K37)
noncomputable def la3K44:Code:=tlC la3K42
noncomputable def la3K47:Code:=tlC la3K44
noncomputable def la3K50:Code:=tlC la3K47
noncomputable def la3K53:Code:=tlC la3K50
theorem la3_57 (y:Value) (R:List (Value×List Int)) (p:Nat) (b:Int) (hw:Known Try.prog (clsO wkC)) (hm:3=R.length) (hE:plE ((p:Nat):Int) (cRw R) 3=0) (hb:0≤b∧b≤255) (hqla37_1:(fnB (((p:Nat):Int)) (cRw R) 3)=true) (k:Nat) (hk1:k≤27) (hk2:True) (hqla338_1:(ltI (((k:Nat):Int)) ((27:Int)))=true) (hf0:(gotL (seeM (cRw R) 3 (padF (dgT 3 ((k:Nat):Int)))) (1 + 2 * p)).length=0) (w:World) (hs:List Nat):Goes Try.prog 97 la3K40 ((qA43_10 R b k p y)) (BaseW.H w hs) (Hd.StepC Try.prog 97 2 (fun k:{k:Nat // k≤27∧True}=>⟨[(2,(.ptr 0 0)),(5,(.ptr 1 0)),(6,(.sl 2 0 3 3)),qA43_33,(10,(.v (.int .i64 ((cntL (cdH (cRw R) 3) (1 + 2 * p) ((k.1:Nat):Int):Nat):Int)))),(11,(.v (.int .i64 ((tmB (cdH (cRw R) 3) (fdI b p) ((k.1:Nat):Int):Nat):Int)))),(12,(.v (.int .i64 ((k.1:Nat):Int))))],[],3,[(qA43_30 R p y),(qA43_26 b p),(qA43_20 R b p)]⟩) (fun k:{k:Nat // k≤27∧True}=>27 - k.1) la3K27 w (OutH Try.prog Try.f10 97 (.bool true) w) (⟨k,hk1,hk2⟩:{k:Nat // k≤27∧True})):=by
 obtain ⟨-,hp,-⟩:=plE_zero hE
 have hi:=fdI_lt (b:=b) (p:=p) hb
 have hca:=cas_ca (p:=p) (by omega) hi
 have ghqla338_1:=ltI_true hqla338_1
 have hcn:=cntL_le (cdH (cRw R) 3) ((k:Nat):Int) (1 + 2 * p)
 have hgl:=got_le (seeM (cRw R) 3 (padF (dgT 3 ((k:Nat):Int)))) (1 + 2 * p)
 have htb:tmB (cdH (cRw R) 3) (fdI b p) ((k:Nat):Int)≤1:=by unfold tmB; split <;> omega
 have hk3:((k:Nat):Int) < pw3 3:=ltI_true hqla338_1
 have hd0:=dg3 (x:=((k:Nat):Int)) (by omega)
 have hd1:=dg3 (x:=(Int.tdiv ((k:Nat):Int) 3)) (by omega)
 have hd2:=dg3 (x:=(Int.tdiv (Int.tdiv ((k:Nat):Int) 3) 3)) (by omega)
 exact goes_leafA isN_e (goes_cut Try.checked.mixed (known_la3 hw known_caa) 200 (T':=(qA43_12 R b k p y)) (e:=.normal) (m:=9) (ps:=[inR IntKind.i64 (((k:Nat):Int) + 1)]) [.go,.go,.go] (by kernel_rfl) (by kernel_rfl) ⟨(iRA43 (by omega) (by omega)),trivial⟩ rfl (by show 3≤9; decide) ⟨⟨nb_ptr (by show 0 < 3; decide),nb_ptr (by show 1 < 3; decide),nb_sl (by show 2 < 3; decide),nb_v _,nb_v _,nb_v _,nb_v _,trivial⟩,⟨⟨by show 0 < 3; decide,nbb_cells (nb_cons (nb_v _) (nb_cons (nb_free (freeL_xl (freeL_plainR _))) (fun _ hz=>absurd hz List.not_mem_nil)))⟩,⟨by show 1 < 3; decide,nbb_cells (nb_cons (nb_v _) (nb_cons (nb_v _) (fun _ hz=>absurd hz List.not_mem_nil)))⟩,⟨by show 2 < 3; decide,nbb_cells (nb_cons (nb_v _) (nb_cons (nb_v _) (nb_cons (nb_v _) (nb_cons (nb_v _) (fun _ hz=>absurd hz List.not_mem_nil)))))⟩,trivial⟩,rfl⟩) (Hd.en_on (⟨k + 1,by omega,trivial⟩) (by show 27 - (k + 1) < 27 - k; omega) (show ((qA43_12 R b k p y):Ev.Lit)=(qA43_11 R b k p y) from by have hz_:=congr (congrArg (fun (xq0:Ev.AV) (xq1:Ev.AV)=>(⟨[(2,(.ptr 0 0)),(5,(.ptr 1 0)),(6,(.sl 2 0 3 3)),qA43_33,(10,xq0),(11,xq1),(qA43_31 k)],[],3,[(qA43_30 R p y),(qA43_26 b p),(qA43_20 R b p)]⟩:Ev.Lit)) (congrArg (fun z=>Ev.AV.v (.int .i64 z)) (show ((((cntL (cdH (cRw R) 3) (1 + 2 * p) ((k:Nat):Int):Nat):Int) + 0):Int)=((cntL (cdH (cRw R) 3) (1 + 2 * p) (((k + 1):Nat):Int):Nat):Int) from by exact al_manyZ hE hk3 hf0))) (congrArg (fun z=>Ev.AV.v (.int .i64 z)) (show ((((tmB (cdH (cRw R) 3) (fdI b p) ((k:Nat):Int):Nat):Int)):Int)=((tmB (cdH (cRw R) 3) (fdI b p) (((k + 1):Nat):Int):Nat):Int) from by exact tm_no (al_z hE hk3 hi hf0))); exact hz_))
theorem la3_55 (y:Value) (R:List (Value×List Int)) (p:Nat) (b:Int) (hw:Known Try.prog (clsO wkC)) (hm:3=R.length) (hE:plE ((p:Nat):Int) (cRw R) 3=0) (hb:0≤b∧b≤255) (hqla37_1:(fnB (((p:Nat):Int)) (cRw R) 3)=true) (k:Nat) (hk1:k≤27) (hk2:True) (hqla338_1:(ltI (((k:Nat):Int)) ((27:Int)))=true) (hf0:(gotL (seeM (cRw R) 3 (padF (dgT 3 ((k:Nat):Int)))) (1 + 2 * p)).length=0) (w:World) (hs:List Nat):Goes Try.prog 97 la3K53 ((qA43_2 R b k p y)) (BaseW.H w hs) (Hd.AfterB Try.prog 97 3 la3K40 w (Hd.StepC Try.prog 97 2 (fun k:{k:Nat // k≤27∧True}=>⟨[(2,(.ptr 0 0)),(5,(.ptr 1 0)),(6,(.sl 2 0 3 3)),qA43_33,(10,(.v (.int .i64 ((cntL (cdH (cRw R) 3) (1 + 2 * p) ((k.1:Nat):Int):Nat):Int)))),(11,(.v (.int .i64 ((tmB (cdH (cRw R) 3) (fdI b p) ((k.1:Nat):Int):Nat):Int)))),(12,(.v (.int .i64 ((k.1:Nat):Int))))],[],3,[(qA43_30 R p y),(qA43_26 b p),(qA43_20 R b p)]⟩) (fun k:{k:Nat // k≤27∧True}=>27 - k.1) la3K27 w (OutH Try.prog Try.f10 97 (.bool true) w) (⟨k,hk1,hk2⟩:{k:Nat // k≤27∧True}))):=by
 obtain ⟨-,hp,-⟩:=plE_zero hE
 have hi:=fdI_lt (b:=b) (p:=p) hb
 have hca:=cas_ca (p:=p) (by omega) hi
 have ghqla338_1:=ltI_true hqla338_1
 have hcn:=cntL_le (cdH (cRw R) 3) ((k:Nat):Int) (1 + 2 * p)
 have hgl:=got_le (seeM (cRw R) 3 (padF (dgT 3 ((k:Nat):Int)))) (1 + 2 * p)
 have htb:tmB (cdH (cRw R) 3) (fdI b p) ((k:Nat):Int)≤1:=by unfold tmB; split <;> omega
 have hk3:((k:Nat):Int) < pw3 3:=ltI_true hqla338_1
 have hd0:=dg3 (x:=((k:Nat):Int)) (by omega)
 have hd1:=dg3 (x:=(Int.tdiv ((k:Nat):Int) 3)) (by omega)
 have hd2:=dg3 (x:=(Int.tdiv (Int.tdiv ((k:Nat):Int) 3) 3)) (by omega)
 exact goes_leafA isN_e (goes_told Try.checked.mixed (known_la3 hw known_caa) 200 (T':=(qA43_10 R b k p y)) (e:=.normal) (ps:=[(!eqI ((0:Int)) 0)=false,inR IntKind.i64 (((cntL (cdH (cRw R) 3) (1 + 2 * p) ((k:Nat):Int):Nat):Int) + ((0:Nat):Int)),false=false]) [.go,.go,.b false,.go,.go,.go,.go,.go,.go,.go,.b false] (by kernel_rfl) (by kernel_rfl) ⟨rfl,(iRA43 (by omega) (by omega)),rfl,trivial⟩ rfl) (Hd.en_bn (la3_57 y R p b hw hm hE hb hqla37_1 k hk1 hk2 hqla338_1 hf0 w hs))
theorem la3_62 (y:Value) (R:List (Value×List Int)) (p:Nat) (b:Int) (hw:Known Try.prog (clsO wkC)) (hm:3=R.length) (hE:plE ((p:Nat):Int) (cRw R) 3=0) (hb:0≤b∧b≤255) (hqla37_1:(fnB (((p:Nat):Int)) (cRw R) 3)=true) (k:Nat) (hk1:k≤27) (hk2:True) (hqla338_1:(ltI (((k:Nat):Int)) ((27:Int)))=true) (hf1:0 < (gotL (seeM (cRw R) 3 (padF (dgT 3 ((k:Nat):Int)))) (1 + 2 * p)).length) (hqla361_1:(hsB (cR (gotL (seeM (cRw R) 3 (padF (dgT 3 ((k:Nat):Int)))) (1 + 2 * p))) (caseN (fdI b p)).fst (caseN (fdI b p)).snd)=true) (hqla361_2:(smB (List.take (3 * (0 + 1)) (List.drop 0 [AV.v (Value.int IntKind.i64 (((k:Nat):Int).tmod 3 - 1)),AV.v (Value.int IntKind.i64 ((((k:Nat):Int).tdiv 3).tmod 3 - 1)),AV.v (Value.int IntKind.i64 (((((k:Nat):Int).tdiv 3).tdiv 3).tmod 3 - 1))])) (List.take (3 * (0 + 1)) (List.drop 0 [AV.v (Value.int IntKind.i64 (sv (cRw R) 3 (caseN (fdI b p)).fst (caseN (fdI b p)).snd 0)),AV.v (Value.int IntKind.i64 (sv (cRw R) 3 (caseN (fdI b p)).fst (caseN (fdI b p)).snd 1)),AV.v (Value.int IntKind.i64 (sv (cRw R) 3 (caseN (fdI b p)).fst (caseN (fdI b p)).snd 2)),AV.v (Value.int IntKind.i64 (sv (cRw R) 3 (caseN (fdI b p)).fst (caseN (fdI b p)).snd 3))])))=true) (w:World) (hs:List Nat):Goes Try.prog 97 la3K40 ((qA43_5 R b k p y)) (BaseW.H w hs) (Hd.StepC Try.prog 97 2 (fun k:{k:Nat // k≤27∧True}=>⟨[(2,(.ptr 0 0)),(5,(.ptr 1 0)),(6,(.sl 2 0 3 3)),qA43_33,(10,(.v (.int .i64 ((cntL (cdH (cRw R) 3) (1 + 2 * p) ((k.1:Nat):Int):Nat):Int)))),(11,(.v (.int .i64 ((tmB (cdH (cRw R) 3) (fdI b p) ((k.1:Nat):Int):Nat):Int)))),(12,(.v (.int .i64 ((k.1:Nat):Int))))],[],3,[(qA43_30 R p y),(qA43_26 b p),(qA43_20 R b p)]⟩) (fun k:{k:Nat // k≤27∧True}=>27 - k.1) la3K27 w (OutH Try.prog Try.f10 97 (.bool true) w) (⟨k,hk1,hk2⟩:{k:Nat // k≤27∧True})):=by
 obtain ⟨-,hp,-⟩:=plE_zero hE
 have hi:=fdI_lt (b:=b) (p:=p) hb
 have hca:=cas_ca (p:=p) (by omega) hi
 have ghqla338_1:=ltI_true hqla338_1
 have hcn:=cntL_le (cdH (cRw R) 3) ((k:Nat):Int) (1 + 2 * p)
 have hgl:=got_le (seeM (cRw R) 3 (padF (dgT 3 ((k:Nat):Int)))) (1 + 2 * p)
 have htb:tmB (cdH (cRw R) 3) (fdI b p) ((k:Nat):Int)≤1:=by unfold tmB; split <;> omega
 have hk3:((k:Nat):Int) < pw3 3:=ltI_true hqla338_1
 have hd0:=dg3 (x:=((k:Nat):Int)) (by omega)
 have hd1:=dg3 (x:=(Int.tdiv ((k:Nat):Int) 3)) (by omega)
 have hd2:=dg3 (x:=(Int.tdiv (Int.tdiv ((k:Nat):Int) 3) 3)) (by omega)
 exact goes_leafA isN_e (goes_cut Try.checked.mixed (known_la3 hw known_cab) 200 (T':=(qA43_4 R b k p y)) (e:=.normal) (m:=10) (ps:=[inR IntKind.i64 (((k:Nat):Int) + 1)]) [.go,.go,.go] (by kernel_rfl) (by kernel_rfl) ⟨(iRA43 (by omega) (by omega)),trivial⟩ rfl (by show 3≤10; decide) ⟨⟨nb_ptr (by show 0 < 3; decide),nb_ptr (by show 1 < 3; decide),nb_sl (by show 2 < 3; decide),nb_v _,nb_v _,nb_v _,nb_v _,trivial⟩,⟨⟨by show 0 < 3; decide,nbb_cells (nb_cons (nb_v _) (nb_cons (nb_free (freeL_xl (freeL_plainR _))) (fun _ hz=>absurd hz List.not_mem_nil)))⟩,⟨by show 1 < 3; decide,nbb_cells (nb_cons (nb_v _) (nb_cons (nb_v _) (fun _ hz=>absurd hz List.not_mem_nil)))⟩,⟨by show 2 < 3; decide,nbb_cells (nb_cons (nb_v _) (nb_cons (nb_v _) (nb_cons (nb_v _) (nb_cons (nb_v _) (fun _ hz=>absurd hz List.not_mem_nil)))))⟩,trivial⟩,rfl⟩) (Hd.en_on (⟨k + 1,by omega,trivial⟩) (by show 27 - (k + 1) < 27 - k; omega) (show ((qA43_4 R b k p y):Ev.Lit)=(qA43_11 R b k p y) from by have hz_:=congr (congrArg (fun (xq0:Ev.AV) (xq1:Ev.AV)=>(⟨[(2,(.ptr 0 0)),(5,(.ptr 1 0)),(6,(.sl 2 0 3 3)),qA43_33,(10,xq0),(11,xq1),(qA43_31 k)],[],3,[(qA43_30 R p y),(qA43_26 b p),(qA43_20 R b p)]⟩:Ev.Lit)) (congrArg (fun z=>Ev.AV.v (.int .i64 z)) (show ((((cntL (cdH (cRw R) 3) (1 + 2 * p) ((k:Nat):Int):Nat):Int) + (((gotL (seeM (cRw R) 3 (padF (dgT 3 ((k:Nat):Int)))) (1 + 2 * p)).length:Nat):Int)):Int)=((cntL (cdH (cRw R) 3) (1 + 2 * p) (((k + 1):Nat):Int):Nat):Int) from by exact al_many hE hk3))) (congrArg (fun z=>Ev.AV.v (.int .i64 z)) (show ((((tmB (cdH (cRw R) 3) (fdI b p) ((k:Nat):Int):Nat):Int) + 1):Int)=((tmB (cdH (cRw R) 3) (fdI b p) (((k + 1):Nat):Int):Nat):Int) from by exact tm_yes (al_t hE hk3 hi hqla361_1))); exact hz_))
theorem la3_64 (y:Value) (R:List (Value×List Int)) (p:Nat) (b:Int) (hw:Known Try.prog (clsO wkC)) (hm:3=R.length) (hE:plE ((p:Nat):Int) (cRw R) 3=0) (hb:0≤b∧b≤255) (hqla37_1:(fnB (((p:Nat):Int)) (cRw R) 3)=true) (k:Nat) (hk1:k≤27) (hk2:True) (hqla338_1:(ltI (((k:Nat):Int)) ((27:Int)))=true) (hf1:0 < (gotL (seeM (cRw R) 3 (padF (dgT 3 ((k:Nat):Int)))) (1 + 2 * p)).length) (hqla361_1:(hsB (cR (gotL (seeM (cRw R) 3 (padF (dgT 3 ((k:Nat):Int)))) (1 + 2 * p))) (caseN (fdI b p)).fst (caseN (fdI b p)).snd)=false) (w:World) (hs:List Nat):Goes Try.prog 97 la3K40 ((qA43_7 R b k p y)) (BaseW.H w hs) (Hd.StepC Try.prog 97 2 (fun k:{k:Nat // k≤27∧True}=>⟨[(2,(.ptr 0 0)),(5,(.ptr 1 0)),(6,(.sl 2 0 3 3)),qA43_33,(10,(.v (.int .i64 ((cntL (cdH (cRw R) 3) (1 + 2 * p) ((k.1:Nat):Int):Nat):Int)))),(11,(.v (.int .i64 ((tmB (cdH (cRw R) 3) (fdI b p) ((k.1:Nat):Int):Nat):Int)))),(12,(.v (.int .i64 ((k.1:Nat):Int))))],[],3,[(qA43_30 R p y),(qA43_26 b p),(qA43_20 R b p)]⟩) (fun k:{k:Nat // k≤27∧True}=>27 - k.1) la3K27 w (OutH Try.prog Try.f10 97 (.bool true) w) (⟨k,hk1,hk2⟩:{k:Nat // k≤27∧True})):=by
 obtain ⟨-,hp,-⟩:=plE_zero hE
 have hi:=fdI_lt (b:=b) (p:=p) hb
 have hca:=cas_ca (p:=p) (by omega) hi
 have ghqla338_1:=ltI_true hqla338_1
 have hcn:=cntL_le (cdH (cRw R) 3) ((k:Nat):Int) (1 + 2 * p)
 have hgl:=got_le (seeM (cRw R) 3 (padF (dgT 3 ((k:Nat):Int)))) (1 + 2 * p)
 have htb:tmB (cdH (cRw R) 3) (fdI b p) ((k:Nat):Int)≤1:=by unfold tmB; split <;> omega
 have hk3:((k:Nat):Int) < pw3 3:=ltI_true hqla338_1
 have hd0:=dg3 (x:=((k:Nat):Int)) (by omega)
 have hd1:=dg3 (x:=(Int.tdiv ((k:Nat):Int) 3)) (by omega)
 have hd2:=dg3 (x:=(Int.tdiv (Int.tdiv ((k:Nat):Int) 3) 3)) (by omega)
 exact goes_leafA isN_e (goes_cut Try.checked.mixed (known_la3 hw known_cab) 200 (T':=(qA43_6 R b k p y)) (e:=.normal) (m:=10) (ps:=[inR IntKind.i64 (((k:Nat):Int) + 1)]) [.go,.go,.go] (by kernel_rfl) (by kernel_rfl) ⟨(iRA43 (by omega) (by omega)),trivial⟩ rfl (by show 3≤10; decide) ⟨⟨nb_ptr (by show 0 < 3; decide),nb_ptr (by show 1 < 3; decide),nb_sl (by show 2 < 3; decide),nb_v _,nb_v _,nb_v _,nb_v _,trivial⟩,⟨⟨by show 0 < 3; decide,nbb_cells (nb_cons (nb_v _) (nb_cons (nb_free (freeL_xl (freeL_plainR _))) (fun _ hz=>absurd hz List.not_mem_nil)))⟩,⟨by show 1 < 3; decide,nbb_cells (nb_cons (nb_v _) (nb_cons (nb_v _) (fun _ hz=>absurd hz List.not_mem_nil)))⟩,⟨by show 2 < 3; decide,nbb_cells (nb_cons (nb_v _) (nb_cons (nb_v _) (nb_cons (nb_v _) (nb_cons (nb_v _) (fun _ hz=>absurd hz List.not_mem_nil)))))⟩,trivial⟩,rfl⟩) (Hd.en_on (⟨k + 1,by omega,trivial⟩) (by show 27 - (k + 1) < 27 - k; omega) (show ((qA43_6 R b k p y):Ev.Lit)=(qA43_11 R b k p y) from by have hz_:=congr (congrArg (fun (xq0:Ev.AV) (xq1:Ev.AV)=>(⟨[(2,(.ptr 0 0)),(5,(.ptr 1 0)),(6,(.sl 2 0 3 3)),qA43_33,(10,xq0),(11,xq1),(qA43_31 k)],[],3,[(qA43_30 R p y),(qA43_26 b p),(qA43_20 R b p)]⟩:Ev.Lit)) (congrArg (fun z=>Ev.AV.v (.int .i64 z)) (show ((((cntL (cdH (cRw R) 3) (1 + 2 * p) ((k:Nat):Int):Nat):Int) + (((gotL (seeM (cRw R) 3 (padF (dgT 3 ((k:Nat):Int)))) (1 + 2 * p)).length:Nat):Int)):Int)=((cntL (cdH (cRw R) 3) (1 + 2 * p) (((k + 1):Nat):Int):Nat):Int) from by exact al_many hE hk3))) (congrArg (fun z=>Ev.AV.v (.int .i64 z)) (show ((((tmB (cdH (cRw R) 3) (fdI b p) ((k:Nat):Int):Nat):Int)):Int)=((tmB (cdH (cRw R) 3) (fdI b p) (((k + 1):Nat):Int):Nat):Int) from by exact tm_no (al_f hE hk3 hi hqla361_1))); exact hz_))
theorem la3_60 (y:Value) (R:List (Value×List Int)) (p:Nat) (b:Int) (hw:Known Try.prog (clsO wkC)) (hm:3=R.length) (hE:plE ((p:Nat):Int) (cRw R) 3=0) (hb:0≤b∧b≤255) (hqla37_1:(fnB (((p:Nat):Int)) (cRw R) 3)=true) (k:Nat) (hk1:k≤27) (hk2:True) (hqla338_1:(ltI (((k:Nat):Int)) ((27:Int)))=true) (hf1:0 < (gotL (seeM (cRw R) 3 (padF (dgT 3 ((k:Nat):Int)))) (1 + 2 * p)).length) (w:World) (hs:List Nat):Goes Try.prog 97 la3K53 ((qA43_1 R b k p y)) (BaseW.H w hs) (Hd.AfterB Try.prog 97 3 la3K40 w (Hd.StepC Try.prog 97 2 (fun k:{k:Nat // k≤27∧True}=>⟨[(2,(.ptr 0 0)),(5,(.ptr 1 0)),(6,(.sl 2 0 3 3)),qA43_33,(10,(.v (.int .i64 ((cntL (cdH (cRw R) 3) (1 + 2 * p) ((k.1:Nat):Int):Nat):Int)))),(11,(.v (.int .i64 ((tmB (cdH (cRw R) 3) (fdI b p) ((k.1:Nat):Int):Nat):Int)))),(12,(.v (.int .i64 ((k.1:Nat):Int))))],[],3,[(qA43_30 R p y),(qA43_26 b p),(qA43_20 R b p)]⟩) (fun k:{k:Nat // k≤27∧True}=>27 - k.1) la3K27 w (OutH Try.prog Try.f10 97 (.bool true) w) (⟨k,hk1,hk2⟩:{k:Nat // k≤27∧True}))):=by
 obtain ⟨-,hp,-⟩:=plE_zero hE
 have hi:=fdI_lt (b:=b) (p:=p) hb
 have hca:=cas_ca (p:=p) (by omega) hi
 have ghqla338_1:=ltI_true hqla338_1
 have hcn:=cntL_le (cdH (cRw R) 3) ((k:Nat):Int) (1 + 2 * p)
 have hgl:=got_le (seeM (cRw R) 3 (padF (dgT 3 ((k:Nat):Int)))) (1 + 2 * p)
 have htb:tmB (cdH (cRw R) 3) (fdI b p) ((k:Nat):Int)≤1:=by unfold tmB; split <;> omega
 have hk3:((k:Nat):Int) < pw3 3:=ltI_true hqla338_1
 have hd0:=dg3 (x:=((k:Nat):Int)) (by omega)
 have hd1:=dg3 (x:=(Int.tdiv ((k:Nat):Int) 3)) (by omega)
 have hd2:=dg3 (x:=(Int.tdiv (Int.tdiv ((k:Nat):Int) 3) 3)) (by omega)
 rcases Bool.eq_false_or_eq_true (hsB (cR (gotL (seeM (cRw R) 3 (padF (dgT 3 ((k:Nat):Int)))) (1 + 2 * p))) (caseN (fdI b p)).fst (caseN (fdI b p)).snd) with hqla361_1 | hqla361_1
 ·skip
  rcases Bool.eq_false_or_eq_true (smB (List.take (3 * (0 + 1)) (List.drop 0 [AV.v (Value.int IntKind.i64 (((k:Nat):Int).tmod 3 - 1)),AV.v (Value.int IntKind.i64 ((((k:Nat):Int).tdiv 3).tmod 3 - 1)),AV.v (Value.int IntKind.i64 (((((k:Nat):Int).tdiv 3).tdiv 3).tmod 3 - 1))])) (List.take (3 * (0 + 1)) (List.drop 0 [AV.v (Value.int IntKind.i64 (sv (cRw R) 3 (caseN (fdI b p)).fst (caseN (fdI b p)).snd 0)),AV.v (Value.int IntKind.i64 (sv (cRw R) 3 (caseN (fdI b p)).fst (caseN (fdI b p)).snd 1)),AV.v (Value.int IntKind.i64 (sv (cRw R) 3 (caseN (fdI b p)).fst (caseN (fdI b p)).snd 2)),AV.v (Value.int IntKind.i64 (sv (cRw R) 3 (caseN (fdI b p)).fst (caseN (fdI b p)).snd 3))]))) with hqla361_2 | hqla361_2
  ·skip
   exact goes_leafA isN_e (goes_told Try.checked.mixed (known_la3 hw known_cab) 200 (T':=(qA43_5 R b k p y)) (e:=.normal) (ps:=[(!eqI ((0:Int)) 0)=false,inR IntKind.i64 (((cntL (cdH (cRw R) 3) (1 + 2 * p) ((k:Nat):Int):Nat):Int) + (((gotL (seeM (cRw R) 3 (padF (dgT 3 ((k:Nat):Int)))) (1 + 2 * p)).length:Nat):Int)),((26:Nat)=26),cR (gotL (seeM (cRw R) 3 (padF (dgT 3 ((k:Nat):Int)))) (1 + 2 * p))=cR (unR (cR (gotL (seeM (cRw R) 3 (padF (dgT 3 ((k:Nat):Int)))) (1 + 2 * p))))∧(gotL (seeM (cRw R) 3 (padF (dgT 3 ((k:Nat):Int)))) (1 + 2 * p)).length=(unR (cR (gotL (seeM (cRw R) 3 (padF (dgT 3 ((k:Nat):Int)))) (1 + 2 * p)))).length,(gotL (seeM (cRw R) 3 (padF (dgT 3 ((k:Nat):Int)))) (1 + 2 * p)).length≤1000,hsB (cR (gotL (seeM (cRw R) 3 (padF (dgT 3 ((k:Nat):Int)))) (1 + 2 * p))) (caseN (fdI b p)).fst (caseN (fdI b p)).snd=true,inR IntKind.i64 (((tmB (cdH (cRw R) 3) (fdI b p) ((k:Nat):Int):Nat):Int) + 1),0 + 3 * (0 + 1)≤([(.v (.int .i64 (((k:Nat):Int).tmod 3 - 1))),(.v (.int .i64 ((((k:Nat):Int).tdiv 3).tmod 3 - 1))),(.v (.int .i64 (((((k:Nat):Int).tdiv 3).tdiv 3).tmod 3 - 1)))]:List AV).length,0 + 3 * (0 + 1)≤([(.v (.int .i64 (sv (cRw R) 3 (caseN (fdI b p)).fst (caseN (fdI b p)).snd 0))),(.v (.int .i64 (sv (cRw R) 3 (caseN (fdI b p)).fst (caseN (fdI b p)).snd 1))),(.v (.int .i64 (sv (cRw R) 3 (caseN (fdI b p)).fst (caseN (fdI b p)).snd 2))),(.v (.int .i64 (sv (cRw R) 3 (caseN (fdI b p)).fst (caseN (fdI b p)).snd 3)))]:List AV).length,((3:Nat)≤3),IsI (0 + 1) 3 (List.take (3 * (0 + 1)) (List.drop 0 [AV.v (Value.int IntKind.i64 (((k:Nat):Int).tmod 3 - 1)),AV.v (Value.int IntKind.i64 ((((k:Nat):Int).tdiv 3).tmod 3 - 1)),AV.v (Value.int IntKind.i64 (((((k:Nat):Int).tdiv 3).tdiv 3).tmod 3 - 1))])),IsI (0 + 1) 3 (List.take (3 * (0 + 1)) (List.drop 0 [AV.v (Value.int IntKind.i64 (sv (cRw R) 3 (caseN (fdI b p)).fst (caseN (fdI b p)).snd 0)),AV.v (Value.int IntKind.i64 (sv (cRw R) 3 (caseN (fdI b p)).fst (caseN (fdI b p)).snd 1)),AV.v (Value.int IntKind.i64 (sv (cRw R) 3 (caseN (fdI b p)).fst (caseN (fdI b p)).snd 2)),AV.v (Value.int IntKind.i64 (sv (cRw R) 3 (caseN (fdI b p)).fst (caseN (fdI b p)).snd 3))])),((3:Nat)≤1000),(!smB (List.take (3 * (0 + 1)) (List.drop 0 [AV.v (Value.int IntKind.i64 (((k:Nat):Int).tmod 3 - 1)),AV.v (Value.int IntKind.i64 ((((k:Nat):Int).tdiv 3).tmod 3 - 1)),AV.v (Value.int IntKind.i64 (((((k:Nat):Int).tdiv 3).tdiv 3).tmod 3 - 1))])) (List.take (3 * (0 + 1)) (List.drop 0 [AV.v (Value.int IntKind.i64 (sv (cRw R) 3 (caseN (fdI b p)).fst (caseN (fdI b p)).snd 0)),AV.v (Value.int IntKind.i64 (sv (cRw R) 3 (caseN (fdI b p)).fst (caseN (fdI b p)).snd 1)),AV.v (Value.int IntKind.i64 (sv (cRw R) 3 (caseN (fdI b p)).fst (caseN (fdI b p)).snd 2)),AV.v (Value.int IntKind.i64 (sv (cRw R) 3 (caseN (fdI b p)).fst (caseN (fdI b p)).snd 3))])))=false]) [.go,.go,.b false,.go,.go,.go,.go,.go,.go,.go,.b true,.go,.go,.go,.go,.go,.go,.b false] (by kernel_rfl) (by kernel_rfl) ⟨rfl,(iRA43 (by omega) (by omega)),rfl,⟨by rw [unR_cR],by rw [unR_cR]⟩,(by have h9:=got_le (seeM (cRw R) 3 (padF (dgT 3 ((k:Nat):Int)))) (1 + 2 * p); omega),hqla361_1,(iRA43 (by omega) (by omega)),(Nat.le_of_ble_eq_true rfl),(Nat.le_of_ble_eq_true rfl),(by decide),⟨rfl,dgT 3 ((k:Nat):Int),rfl,rfl⟩,⟨rfl,tabL (sv (cRw R) 3 (caseN (fdI b p)).1 (caseN (fdI b p)).2) 3,rfl,rfl⟩,(by decide),(by rw [hqla361_2]; rfl),trivial⟩ rfl) (Hd.en_bn (la3_62 y R p b hw hm hE hb hqla37_1 k hk1 hk2 hqla338_1 hf1 hqla361_1 hqla361_2 w hs))
  ·skip
   exfalso
   have h9:=al_same hE hk3 hi (al_t hE hk3 hi hqla361_1)
   have h8:smB (cI (dgT 3 ((k:Nat):Int))) (cI (tabL (sv (cRw R) 3 (caseN (fdI b p)).1 (caseN (fdI b p)).2) 3))=false:=hqla361_2
   rw [h8] at h9
   cases h9
 ·skip
  exact goes_leafA isN_e (goes_told Try.checked.mixed (known_la3 hw known_cab) 200 (T':=(qA43_7 R b k p y)) (e:=.normal) (ps:=[(!eqI ((0:Int)) 0)=false,inR IntKind.i64 (((cntL (cdH (cRw R) 3) (1 + 2 * p) ((k:Nat):Int):Nat):Int) + (((gotL (seeM (cRw R) 3 (padF (dgT 3 ((k:Nat):Int)))) (1 + 2 * p)).length:Nat):Int)),((26:Nat)=26),cR (gotL (seeM (cRw R) 3 (padF (dgT 3 ((k:Nat):Int)))) (1 + 2 * p))=cR (unR (cR (gotL (seeM (cRw R) 3 (padF (dgT 3 ((k:Nat):Int)))) (1 + 2 * p))))∧(gotL (seeM (cRw R) 3 (padF (dgT 3 ((k:Nat):Int)))) (1 + 2 * p)).length=(unR (cR (gotL (seeM (cRw R) 3 (padF (dgT 3 ((k:Nat):Int)))) (1 + 2 * p)))).length,(gotL (seeM (cRw R) 3 (padF (dgT 3 ((k:Nat):Int)))) (1 + 2 * p)).length≤1000,hsB (cR (gotL (seeM (cRw R) 3 (padF (dgT 3 ((k:Nat):Int)))) (1 + 2 * p))) (caseN (fdI b p)).fst (caseN (fdI b p)).snd=false]) [.go,.go,.b false,.go,.go,.go,.go,.go,.go,.go,.b false] (by kernel_rfl) (by kernel_rfl) ⟨rfl,(iRA43 (by omega) (by omega)),rfl,⟨by rw [unR_cR],by rw [unR_cR]⟩,(by have h9:=got_le (seeM (cRw R) 3 (padF (dgT 3 ((k:Nat):Int)))) (1 + 2 * p); omega),hqla361_1,trivial⟩ rfl) (Hd.en_bn (la3_64 y R p b hw hm hE hb hqla37_1 k hk1 hk2 hqla338_1 hf1 hqla361_1 w hs))
theorem la3_52 (y:Value) (R:List (Value×List Int)) (p:Nat) (b:Int) (hw:Known Try.prog (clsO wkC)) (hm:3=R.length) (hE:plE ((p:Nat):Int) (cRw R) 3=0) (hb:0≤b∧b≤255) (hqla37_1:(fnB (((p:Nat):Int)) (cRw R) 3)=true) (k:Nat) (hk1:k≤27) (hk2:True) (hqla338_1:(ltI (((k:Nat):Int)) ((27:Int)))=true) (w:World) (hs:List Nat):Goes Try.prog 97 la3K50 ((qA43_3 R b k p y)) (BaseW.H w hs) (Hd.AfterB Try.prog 97 3 la3K40 w (Hd.StepC Try.prog 97 2 (fun k:{k:Nat // k≤27∧True}=>⟨[(2,(.ptr 0 0)),(5,(.ptr 1 0)),(6,(.sl 2 0 3 3)),qA43_33,(10,(.v (.int .i64 ((cntL (cdH (cRw R) 3) (1 + 2 * p) ((k.1:Nat):Int):Nat):Int)))),(11,(.v (.int .i64 ((tmB (cdH (cRw R) 3) (fdI b p) ((k.1:Nat):Int):Nat):Int)))),(12,(.v (.int .i64 ((k.1:Nat):Int))))],[],3,[(qA43_30 R p y),(qA43_26 b p),(qA43_20 R b p)]⟩) (fun k:{k:Nat // k≤27∧True}=>27 - k.1) la3K27 w (OutH Try.prog Try.f10 97 (.bool true) w) (⟨k,hk1,hk2⟩:{k:Nat // k≤27∧True}))):=by
 obtain ⟨-,hp,-⟩:=plE_zero hE
 have hi:=fdI_lt (b:=b) (p:=p) hb
 have hca:=cas_ca (p:=p) (by omega) hi
 have ghqla338_1:=ltI_true hqla338_1
 have hcn:=cntL_le (cdH (cRw R) 3) ((k:Nat):Int) (1 + 2 * p)
 have hgl:=got_le (seeM (cRw R) 3 (padF (dgT 3 ((k:Nat):Int)))) (1 + 2 * p)
 have htb:tmB (cdH (cRw R) 3) (fdI b p) ((k:Nat):Int)≤1:=by unfold tmB; split <;> omega
 have hk3:((k:Nat):Int) < pw3 3:=ltI_true hqla338_1
 have hd0:=dg3 (x:=((k:Nat):Int)) (by omega)
 have hd1:=dg3 (x:=(Int.tdiv ((k:Nat):Int) 3)) (by omega)
 have hd2:=dg3 (x:=(Int.tdiv (Int.tdiv ((k:Nat):Int) 3) 3)) (by omega)
 refine Hd.goes_seqA (by kernel_rfl) ?_
 rcases Nat.eq_zero_or_pos (gotL (seeM (cRw R) 3 (padF (dgT 3 ((k:Nat):Int)))) (1 + 2 * p)).length with hf0 | hf1
 ·skip
  exact goes_leafA isN_e (goes_told Try.checked.mixed (known_la3 hw known_caa) 200 (T':=(qA43_2 R b k p y)) (e:=.normal) (ps:=[0 + 3 * (0 + 1)≤([(.v (.int .i64 (((k:Nat):Int).tmod 3 - 1))),(.v (.int .i64 ((((k:Nat):Int).tdiv 3).tmod 3 - 1))),(.v (.int .i64 (((((k:Nat):Int).tdiv 3).tdiv 3).tmod 3 - 1)))]:List AV).length,IsR 3 (cRw R),0 + 1=1∧List.take (3 * (0 + 1)) (List.drop 0 [AV.v (Value.int IntKind.i64 (((k:Nat):Int).tmod 3 - 1)),AV.v (Value.int IntKind.i64 ((((k:Nat):Int).tdiv 3).tmod 3 - 1)),AV.v (Value.int IntKind.i64 (((((k:Nat):Int).tdiv 3).tdiv 3).tmod 3 - 1))])=cI (dgT 3 ((k:Nat):Int))∧3=(dgT 3 ((k:Nat):Int)).length,csE (((p:Nat):Int)) (cRw R) 3 (List.take (3 * (0 + 1)) (List.drop 0 [AV.v (Value.int IntKind.i64 (((k:Nat):Int).tmod 3 - 1)),AV.v (Value.int IntKind.i64 ((((k:Nat):Int).tdiv 3).tmod 3 - 1)),AV.v (Value.int IntKind.i64 (((((k:Nat):Int).tdiv 3).tdiv 3).tmod 3 - 1))])) 3=0,(gotL (seeM (cRw R) 3 (padF (dgT 3 ((k:Nat):Int)))) (1 + 2 * p)).length=0]) [.go,.go,.go,.go,.go,.go,.go] (by kernel_rfl) (by kernel_rfl) ⟨(Nat.le_of_ble_eq_true rfl),⟨R,rfl,hm⟩,⟨rfl,rfl,rfl⟩,(csE_dg hE (by omega)),hf0,trivial⟩ rfl) (Hd.en_n (la3_55 y R p b hw hm hE hb hqla37_1 k hk1 hk2 hqla338_1 hf0 w hs))
 ·skip
  exact goes_leafA isN_e (goes_told Try.checked.mixed (known_la3 hw known_cab) 200 (T':=(qA43_1 R b k p y)) (e:=.normal) (ps:=[0 + 3 * (0 + 1)≤([(.v (.int .i64 (((k:Nat):Int).tmod 3 - 1))),(.v (.int .i64 ((((k:Nat):Int).tdiv 3).tmod 3 - 1))),(.v (.int .i64 (((((k:Nat):Int).tdiv 3).tdiv 3).tmod 3 - 1)))]:List AV).length,IsR 3 (cRw R),0 + 1=1∧List.take (3 * (0 + 1)) (List.drop 0 [AV.v (Value.int IntKind.i64 (((k:Nat):Int).tmod 3 - 1)),AV.v (Value.int IntKind.i64 ((((k:Nat):Int).tdiv 3).tmod 3 - 1)),AV.v (Value.int IntKind.i64 (((((k:Nat):Int).tdiv 3).tdiv 3).tmod 3 - 1))])=cI (dgT 3 ((k:Nat):Int))∧3=(dgT 3 ((k:Nat):Int)).length,csE (((p:Nat):Int)) (cRw R) 3 (List.take (3 * (0 + 1)) (List.drop 0 [AV.v (Value.int IntKind.i64 (((k:Nat):Int).tmod 3 - 1)),AV.v (Value.int IntKind.i64 ((((k:Nat):Int).tdiv 3).tmod 3 - 1)),AV.v (Value.int IntKind.i64 (((((k:Nat):Int).tdiv 3).tdiv 3).tmod 3 - 1))])) 3=0,0 < (gotL (seeM (cRw R) 3 (padF (dgT 3 ((k:Nat):Int)))) (1 + 2 * p)).length]) [.go,.go,.go,.go,.go,.go,.go] (by kernel_rfl) (by kernel_rfl) ⟨(Nat.le_of_ble_eq_true rfl),⟨R,rfl,hm⟩,⟨rfl,rfl,rfl⟩,(csE_dg hE (by omega)),hf1,trivial⟩ rfl) (Hd.en_n (la3_60 y R p b hw hm hE hb hqla37_1 k hk1 hk2 hqla338_1 hf1 w hs))
theorem la3_49 (y:Value) (R:List (Value×List Int)) (p:Nat) (b:Int) (hw:Known Try.prog (clsO wkC)) (hm:3=R.length) (hE:plE ((p:Nat):Int) (cRw R) 3=0) (hb:0≤b∧b≤255) (hqla37_1:(fnB (((p:Nat):Int)) (cRw R) 3)=true) (k:Nat) (hk1:k≤27) (hk2:True) (hqla338_1:(ltI (((k:Nat):Int)) ((27:Int)))=true) (w:World) (hs:List Nat):Goes Try.prog 97 la3K47 ((qA43_8 R b k p y)) (BaseW.H w hs) (Hd.AfterB Try.prog 97 3 la3K40 w (Hd.StepC Try.prog 97 2 (fun k:{k:Nat // k≤27∧True}=>⟨[(2,(.ptr 0 0)),(5,(.ptr 1 0)),(6,(.sl 2 0 3 3)),qA43_33,(10,(.v (.int .i64 ((cntL (cdH (cRw R) 3) (1 + 2 * p) ((k.1:Nat):Int):Nat):Int)))),(11,(.v (.int .i64 ((tmB (cdH (cRw R) 3) (fdI b p) ((k.1:Nat):Int):Nat):Int)))),(12,(.v (.int .i64 ((k.1:Nat):Int))))],[],3,[(qA43_30 R p y),(qA43_26 b p),(qA43_20 R b p)]⟩) (fun k:{k:Nat // k≤27∧True}=>27 - k.1) la3K27 w (OutH Try.prog Try.f10 97 (.bool true) w) (⟨k,hk1,hk2⟩:{k:Nat // k≤27∧True}))):=by
 obtain ⟨-,hp,-⟩:=plE_zero hE
 have hi:=fdI_lt (b:=b) (p:=p) hb
 have hca:=cas_ca (p:=p) (by omega) hi
 have ghqla338_1:=ltI_true hqla338_1
 have hcn:=cntL_le (cdH (cRw R) 3) ((k:Nat):Int) (1 + 2 * p)
 have hgl:=got_le (seeM (cRw R) 3 (padF (dgT 3 ((k:Nat):Int)))) (1 + 2 * p)
 have htb:tmB (cdH (cRw R) 3) (fdI b p) ((k:Nat):Int)≤1:=by unfold tmB; split <;> omega
 have hk3:((k:Nat):Int) < pw3 3:=ltI_true hqla338_1
 have hd0:=dg3 (x:=((k:Nat):Int)) (by omega)
 have hd1:=dg3 (x:=(Int.tdiv ((k:Nat):Int) 3)) (by omega)
 have hd2:=dg3 (x:=(Int.tdiv (Int.tdiv ((k:Nat):Int) 3) 3)) (by omega)
 refine Hd.goes_seqA (by kernel_rfl) ?_
 exact goes_leafA isN_e (goes_told Try.checked.mixed (known_la3 hw known_caa) 200 (T':=(qA43_3 R b k p y)) (e:=.normal) (ps:=[ltI 0 ((3:Nat):Int)=true,(3:Int)≠0,inR IntKind.i64 (((k:Nat):Int).tmod 3 - 1),(3:Int)≠0,inR IntKind.i64 (((k:Nat):Int).tdiv 3),inR IntKind.i64 (0 + 1),ltI (0 + 1) ((3:Nat):Int)=true,(3:Int)≠0,inR IntKind.i64 ((((k:Nat):Int).tdiv 3).tmod 3 - 1),(3:Int)≠0,inR IntKind.i64 ((((k:Nat):Int).tdiv 3).tdiv 3),inR IntKind.i64 (0 + 1 + 1),ltI (0 + 1 + 1) ((3:Nat):Int)=true,(3:Int)≠0,inR IntKind.i64 (((((k:Nat):Int).tdiv 3).tdiv 3).tmod 3 - 1),(3:Int)≠0,inR IntKind.i64 (((((k:Nat):Int).tdiv 3).tdiv 3).tdiv 3),inR IntKind.i64 (0 + 1 + 1 + 1),ltI (0 + 1 + 1 + 1) ((3:Nat):Int)=false]) [.go,.go,.go,.go,.go,.go,.b true,.go,.go,.go,.go,.go,.go,.go,.go,.go,.go,.go,.go,.go,.go,.go,.go,.go,.go,.b true,.go,.go,.go,.go,.go,.go,.go,.go,.go,.go,.go,.go,.go,.go,.go,.go,.go,.go,.b true,.go,.go,.go,.go,.go,.go,.go,.go,.go,.go,.go,.go,.go,.go,.go,.go,.go,.go,.b false] (by kernel_rfl) (by kernel_rfl) ⟨rfl,(by omega),(iRA43 (by omega) (by omega)),(by omega),(iRA43 (by omega) (by omega)),(iRA43 (by omega) (by omega)),rfl,(by omega),(iRA43 (by omega) (by omega)),(by omega),(iRA43 (by omega) (by omega)),(iRA43 (by omega) (by omega)),rfl,(by omega),(iRA43 (by omega) (by omega)),(by omega),(iRA43 (by omega) (by omega)),(iRA43 (by omega) (by omega)),rfl,trivial⟩ rfl) (Hd.en_n (la3_52 y R p b hw hm hE hb hqla37_1 k hk1 hk2 hqla338_1 w hs))
theorem la3_46 (y:Value) (R:List (Value×List Int)) (p:Nat) (b:Int) (hw:Known Try.prog (clsO wkC)) (hm:3=R.length) (hE:plE ((p:Nat):Int) (cRw R) 3=0) (hb:0≤b∧b≤255) (hqla37_1:(fnB (((p:Nat):Int)) (cRw R) 3)=true) (k:Nat) (hk1:k≤27) (hk2:True) (hqla338_1:(ltI (((k:Nat):Int)) ((27:Int)))=true) (w:World) (hs:List Nat):Goes Try.prog 97 la3K44 ((qA43_9 R b k p y)) (BaseW.H w hs) (Hd.AfterB Try.prog 97 3 la3K40 w (Hd.StepC Try.prog 97 2 (fun k:{k:Nat // k≤27∧True}=>⟨[(2,(.ptr 0 0)),(5,(.ptr 1 0)),(6,(.sl 2 0 3 3)),qA43_33,(10,(.v (.int .i64 ((cntL (cdH (cRw R) 3) (1 + 2 * p) ((k.1:Nat):Int):Nat):Int)))),(11,(.v (.int .i64 ((tmB (cdH (cRw R) 3) (fdI b p) ((k.1:Nat):Int):Nat):Int)))),(12,(.v (.int .i64 ((k.1:Nat):Int))))],[],3,[(qA43_30 R p y),(qA43_26 b p),(qA43_20 R b p)]⟩) (fun k:{k:Nat // k≤27∧True}=>27 - k.1) la3K27 w (OutH Try.prog Try.f10 97 (.bool true) w) (⟨k,hk1,hk2⟩:{k:Nat // k≤27∧True}))):=by
 obtain ⟨-,hp,-⟩:=plE_zero hE
 have hi:=fdI_lt (b:=b) (p:=p) hb
 have hca:=cas_ca (p:=p) (by omega) hi
 have ghqla338_1:=ltI_true hqla338_1
 have hcn:=cntL_le (cdH (cRw R) 3) ((k:Nat):Int) (1 + 2 * p)
 have hgl:=got_le (seeM (cRw R) 3 (padF (dgT 3 ((k:Nat):Int)))) (1 + 2 * p)
 have htb:tmB (cdH (cRw R) 3) (fdI b p) ((k:Nat):Int)≤1:=by unfold tmB; split <;> omega
 have hk3:((k:Nat):Int) < pw3 3:=ltI_true hqla338_1
 have hd0:=dg3 (x:=((k:Nat):Int)) (by omega)
 have hd1:=dg3 (x:=(Int.tdiv ((k:Nat):Int) 3)) (by omega)
 have hd2:=dg3 (x:=(Int.tdiv (Int.tdiv ((k:Nat):Int) 3) 3)) (by omega)
 refine Hd.goes_seqA (by kernel_rfl) ?_
 exact goes_leafA isN_e (goes_told Try.checked.mixed (known_la3 hw known_caa) 200 (T':=(qA43_8 R b k p y)) (e:=.normal) (ps:=[]) [.go,.go] (by kernel_rfl) (by kernel_rfl) trivial rfl) (Hd.en_n (la3_49 y R p b hw hm hE hb hqla37_1 k hk1 hk2 hqla338_1 w hs))
theorem la3_43 (y:Value) (R:List (Value×List Int)) (p:Nat) (b:Int) (hw:Known Try.prog (clsO wkC)) (hm:3=R.length) (hE:plE ((p:Nat):Int) (cRw R) 3=0) (hb:0≤b∧b≤255) (hqla37_1:(fnB (((p:Nat):Int)) (cRw R) 3)=true) (k:Nat) (hk1:k≤27) (hk2:True) (hqla338_1:(ltI (((k:Nat):Int)) ((27:Int)))=true) (w:World) (hs:List Nat):Goes Try.prog 97 la3K42 ((qA43_13 R b k p y)) (BaseW.H w hs) (Hd.AfterB Try.prog 97 3 la3K40 w (Hd.StepC Try.prog 97 2 (fun k:{k:Nat // k≤27∧True}=>⟨[(2,(.ptr 0 0)),(5,(.ptr 1 0)),(6,(.sl 2 0 3 3)),qA43_33,(10,(.v (.int .i64 ((cntL (cdH (cRw R) 3) (1 + 2 * p) ((k.1:Nat):Int):Nat):Int)))),(11,(.v (.int .i64 ((tmB (cdH (cRw R) 3) (fdI b p) ((k.1:Nat):Int):Nat):Int)))),(12,(.v (.int .i64 ((k.1:Nat):Int))))],[],3,[(qA43_30 R p y),(qA43_26 b p),(qA43_20 R b p)]⟩) (fun k:{k:Nat // k≤27∧True}=>27 - k.1) la3K27 w (OutH Try.prog Try.f10 97 (.bool true) w) (⟨k,hk1,hk2⟩:{k:Nat // k≤27∧True}))):=by
 obtain ⟨-,hp,-⟩:=plE_zero hE
 have hi:=fdI_lt (b:=b) (p:=p) hb
 have hca:=cas_ca (p:=p) (by omega) hi
 have ghqla338_1:=ltI_true hqla338_1
 have hcn:=cntL_le (cdH (cRw R) 3) ((k:Nat):Int) (1 + 2 * p)
 have hgl:=got_le (seeM (cRw R) 3 (padF (dgT 3 ((k:Nat):Int)))) (1 + 2 * p)
 have htb:tmB (cdH (cRw R) 3) (fdI b p) ((k:Nat):Int)≤1:=by unfold tmB; split <;> omega
 have hk3:((k:Nat):Int) < pw3 3:=ltI_true hqla338_1
 have hd0:=dg3 (x:=((k:Nat):Int)) (by omega)
 have hd1:=dg3 (x:=(Int.tdiv ((k:Nat):Int) 3)) (by omega)
 have hd2:=dg3 (x:=(Int.tdiv (Int.tdiv ((k:Nat):Int) 3) 3)) (by omega)
 refine Hd.goes_seqA (by kernel_rfl) ?_
 exact goes_leafA isN_e (goes_told Try.checked.mixed (known_la3 hw known_caa) 200 (T':=(qA43_9 R b k p y)) (e:=.normal) (ps:=[]) [.go] (by kernel_rfl) (by kernel_rfl) trivial rfl) (Hd.en_n (la3_46 y R p b hw hm hE hb hqla37_1 k hk1 hk2 hqla338_1 w hs))
theorem la3_41 (y:Value) (R:List (Value×List Int)) (p:Nat) (b:Int) (hw:Known Try.prog (clsO wkC)) (hm:3=R.length) (hE:plE ((p:Nat):Int) (cRw R) 3=0) (hb:0≤b∧b≤255) (hqla37_1:(fnB (((p:Nat):Int)) (cRw R) 3)=true) (k:Nat) (hk1:k≤27) (hk2:True) (hqla338_1:(ltI (((k:Nat):Int)) ((27:Int)))=true) (w:World) (hs:List Nat):Goes Try.prog 97 (hdC la3K37) ((qA43_13 R b k p y)) (BaseW.H w hs) (Hd.AfterN Try.prog 97 la3K40 w (Hd.StepC Try.prog 97 2 (fun k:{k:Nat // k≤27∧True}=>⟨[(2,(.ptr 0 0)),(5,(.ptr 1 0)),(6,(.sl 2 0 3 3)),qA43_33,(10,(.v (.int .i64 ((cntL (cdH (cRw R) 3) (1 + 2 * p) ((k.1:Nat):Int):Nat):Int)))),(11,(.v (.int .i64 ((tmB (cdH (cRw R) 3) (fdI b p) ((k.1:Nat):Int):Nat):Int)))),(12,(.v (.int .i64 ((k.1:Nat):Int))))],[],3,[(qA43_30 R p y),(qA43_26 b p),(qA43_20 R b p)]⟩) (fun k:{k:Nat // k≤27∧True}=>27 - k.1) la3K27 w (OutH Try.prog Try.f10 97 (.bool true) w) (⟨k,hk1,hk2⟩:{k:Nat // k≤27∧True}))):=by
 exact Hd.goes_blkA (id:=3) (by kernel_rfl) (by kernel_rfl) (la3_43 y R p b hw hm hE hb hqla37_1 k hk1 hk2 hqla338_1 w hs)
theorem la3_39 (y:Value) (R:List (Value×List Int)) (p:Nat) (b:Int) (hw:Known Try.prog (clsO wkC)) (hm:3=R.length) (hE:plE ((p:Nat):Int) (cRw R) 3=0) (hb:0≤b∧b≤255) (hqla37_1:(fnB (((p:Nat):Int)) (cRw R) 3)=true) (k:Nat) (hk1:k≤27) (hk2:True) (hqla338_1:(ltI (((k:Nat):Int)) ((27:Int)))=true) (w:World) (hs:List Nat):Goes Try.prog 97 la3K37 ((qA43_13 R b k p y)) (BaseW.H w hs) (Hd.StepC Try.prog 97 2 (fun k:{k:Nat // k≤27∧True}=>⟨[(2,(.ptr 0 0)),(5,(.ptr 1 0)),(6,(.sl 2 0 3 3)),qA43_33,(10,(.v (.int .i64 ((cntL (cdH (cRw R) 3) (1 + 2 * p) ((k.1:Nat):Int):Nat):Int)))),(11,(.v (.int .i64 ((tmB (cdH (cRw R) 3) (fdI b p) ((k.1:Nat):Int):Nat):Int)))),(12,(.v (.int .i64 ((k.1:Nat):Int))))],[],3,[(qA43_30 R p y),(qA43_26 b p),(qA43_20 R b p)]⟩) (fun k:{k:Nat // k≤27∧True}=>27 - k.1) la3K27 w (OutH Try.prog Try.f10 97 (.bool true) w) (⟨k,hk1,hk2⟩:{k:Nat // k≤27∧True})):=by
 exact Hd.goes_seqA (by kernel_rfl) (la3_41 y R p b hw hm hE hb hqla37_1 k hk1 hk2 hqla338_1 w hs)
theorem la3_66 (y:Value) (R:List (Value×List Int)) (p:Nat) (b:Int) (hw:Known Try.prog (clsO wkC)) (hm:3=R.length) (hE:plE ((p:Nat):Int) (cRw R) 3=0) (hb:0≤b∧b≤255) (hqla37_1:(fnB (((p:Nat):Int)) (cRw R) 3)=true) (h2b:True) (hqla338_1:(ltI (((27:Nat):Int)) ((27:Int)))=false) (w:World) (hs:List Nat):Goes Try.prog 97 la3K27 ((qA43_21 R b p y)) (BaseW.H w hs) (OutH Try.prog Try.f10 97 (.bool true) w):=by
 obtain ⟨-,hp,-⟩:=plE_zero hE
 have hi:=fdI_lt (b:=b) (p:=p) hb
 have hca:=cas_ca (p:=p) (by omega) hi
 have ghqla338_1:=ltI_false hqla338_1
 rcases Bool.eq_false_or_eq_true (eqI (((cntL (cdH (cRw R) 3) (1 + 2 * p) 27:Nat):Int)) (2 * ((p:Nat):Int) + 1)) with hqla367_1 | hqla367_1
 ·skip
  have ghqla367_1:=eqI_true hqla367_1
  rcases Bool.eq_false_or_eq_true (eqI (((tmB (cdH (cRw R) 3) (fdI b p) 27:Nat):Int)) 1) with hqla367_2 | hqla367_2
  ·skip
   have ghqla367_2:=eqI_true hqla367_2
   exact goes_leafA isR_e (goes_told Try.checked.mixed (known_la3 hw known_caa) 200 (T':=⟨[(4,(.v (.bool .true)))],[],3,[]⟩) (e:=.ret) (ps:=[inR IntKind.i64 (2 * ((p:Nat):Int)),inR IntKind.i64 (2 * ((p:Nat):Int) + 1),eqI (((cntL (cdH (cRw R) 3) (1 + 2 * p) 27:Nat):Int)) (2 * ((p:Nat):Int) + 1)=true,true=true,eqI (((tmB (cdH (cRw R) 3) (fdI b p) 27:Nat):Int)) 1=true]) [.go,.go,.go,.go,.go,.go,.go,.b true,.go,.b true,.go,.go,.go,.b true,.go,.go] (by kernel_rfl) (by kernel_rfl) ⟨(iRA43 (by omega) (by omega)),(iRA43 (by omega) (by omega)),hqla367_1,rfl,hqla367_2,trivial⟩ rfl) (Hd.en_eq (r:=(.bool .true)) (by rfl) (Hd.en_ret (v:=(.v (.bool .true))) (by kernel_rfl) rfl))
  ·skip
   have ghqla367_2:=eqI_false hqla367_2
   exfalso
   have h9:=eqI_false hqla367_2
   have h8:tmB (cdH (cRw R) 3) (fdI b p) (27:Int)=1:=tm_end hE hi
   rw [h8] at h9
   omega
 ·skip
  have ghqla367_1:=eqI_false hqla367_1
  exfalso
  have h9:=eqI_false hqla367_1
  have h8:cntL (cdH (cRw R) 3) (1 + 2 * p) (27:Int)=(1 + 2 * p):=al_end hE
  rw [h8] at h9
  omega
theorem la3_36 (y:Value) (R:List (Value×List Int)) (p:Nat) (b:Int) (hw:Known Try.prog (clsO wkC)) (hm:3=R.length) (hE:plE ((p:Nat):Int) (cRw R) 3=0) (hb:0≤b∧b≤255) (hqla37_1:(fnB (((p:Nat):Int)) (cRw R) 3)=true) (k:Nat) (hk1:k≤27) (hk2:True) (w:World) (hs:List Nat):Goes Try.prog 97 la3K34 (⟨[(2,(.ptr 0 0)),(5,(.ptr 1 0)),(6,(.sl 2 0 3 3)),qA43_33,(10,(.v (.int .i64 ((cntL (cdH (cRw R) 3) (1 + 2 * p) ((k:Nat):Int):Nat):Int)))),(11,(.v (.int .i64 ((tmB (cdH (cRw R) 3) (fdI b p) ((k:Nat):Int):Nat):Int)))),(12,(.v (.int .i64 ((k:Nat):Int))))],[],3,[(qA43_30 R p y),(qA43_26 b p),(qA43_20 R b p)]⟩) (BaseW.H w hs) (Hd.StepC Try.prog 97 2 (fun k:{k:Nat // k≤27∧True}=>⟨[(2,(.ptr 0 0)),(5,(.ptr 1 0)),(6,(.sl 2 0 3 3)),qA43_33,(10,(.v (.int .i64 ((cntL (cdH (cRw R) 3) (1 + 2 * p) ((k.1:Nat):Int):Nat):Int)))),(11,(.v (.int .i64 ((tmB (cdH (cRw R) 3) (fdI b p) ((k.1:Nat):Int):Nat):Int)))),(12,(.v (.int .i64 ((k.1:Nat):Int))))],[],3,[(qA43_30 R p y),(qA43_26 b p),(qA43_20 R b p)]⟩) (fun k:{k:Nat // k≤27∧True}=>27 - k.1) la3K27 w (OutH Try.prog Try.f10 97 (.bool true) w) (⟨k,hk1,hk2⟩:{k:Nat // k≤27∧True})):=by
 obtain ⟨-,hp,-⟩:=plE_zero hE
 have hi:=fdI_lt (b:=b) (p:=p) hb
 have hca:=cas_ca (p:=p) (by omega) hi
 refine Hd.goes_seqA (by kernel_rfl) ?_
 rcases Bool.eq_false_or_eq_true (ltI (((k:Nat):Int)) ((27:Int))) with hqla338_1 | hqla338_1
 ·skip
  have ghqla338_1:=ltI_true hqla338_1
  have hcn:=cntL_le (cdH (cRw R) 3) ((k:Nat):Int) (1 + 2 * p)
  have hgl:=got_le (seeM (cRw R) 3 (padF (dgT 3 ((k:Nat):Int)))) (1 + 2 * p)
  have htb:tmB (cdH (cRw R) 3) (fdI b p) ((k:Nat):Int)≤1:=by unfold tmB; split <;> omega
  have hk3:((k:Nat):Int) < pw3 3:=ltI_true hqla338_1
  have hd0:=dg3 (x:=((k:Nat):Int)) (by omega)
  have hd1:=dg3 (x:=(Int.tdiv ((k:Nat):Int) 3)) (by omega)
  have hd2:=dg3 (x:=(Int.tdiv (Int.tdiv ((k:Nat):Int) 3) 3)) (by omega)
  exact goes_leafA isN_e (goes_told Try.checked.mixed (known_la3 hw known_caa) 200 (T':=(qA43_13 R b k p y)) (e:=.normal) (ps:=[ltI (((k:Nat):Int)) ((27:Int))=true]) [.go,.go,.go,.b true] (by kernel_rfl) (by kernel_rfl) ⟨hqla338_1,trivial⟩ rfl) (Hd.en_n (la3_39 y R p b hw hm hE hb hqla37_1 k hk1 hk2 hqla338_1 w hs))
 ·skip
  have ghqla338_1:=ltI_false hqla338_1
  obtain rfl:27=k:=by omega
  exact goes_leafA isX_e (goes_told Try.checked.mixed (known_la3 hw known_caa) 200 (T':=(qA43_21 R b p y)) (e:=.exit 2) (ps:=[ltI (((27:Nat):Int)) ((27:Int))=false]) [.go,.go,.go,.b false] (by kernel_rfl) (by kernel_rfl) ⟨hqla338_1,trivial⟩ rfl) (Hd.en_o (by intro h; cases h) (Hd.en_sx (la3_66 y R p b hw hm hE hb hqla37_1 hk2  hqla338_1 w hs)))
theorem la3_33 (y:Value) (R:List (Value×List Int)) (p:Nat) (b:Int) (hw:Known Try.prog (clsO wkC)) (hm:3=R.length) (hE:plE ((p:Nat):Int) (cRw R) 3=0) (hb:0≤b∧b≤255) (hqla37_1:(fnB (((p:Nat):Int)) (cRw R) 3)=true) (w:World) (hs:List Nat):Goes Try.prog 97 la3K30 ((qA43_14 R b p y)) (BaseW.H w hs) (Hd.AfterN Try.prog 97 la3K27 w (OutH Try.prog Try.f10 97 (.bool true) w)):=by
 obtain ⟨-,hp,-⟩:=plE_zero hE
 have hi:=fdI_lt (b:=b) (p:=p) hb
 have hca:=cas_ca (p:=p) (by omega) hi
 rw [show ((qA43_14 R b p y):Ev.Lit)=⟨[(2,(.ptr 0 0)),(5,(.ptr 1 0)),(6,(.sl 2 0 3 3)),qA43_33,(10,(.v (.int .i64 ((cntL (cdH (cRw R) 3) (1 + 2 * p) ((0:Nat):Int):Nat):Int)))),(11,(.v (.int .i64 ((tmB (cdH (cRw R) 3) (fdI b p) ((0:Nat):Int):Nat):Int)))),(12,(.v (.int .i64 ((0:Nat):Int))))],[],3,[(qA43_30 R p y),(qA43_26 b p),(qA43_20 R b p)]⟩ from by (rw [show cntL (cdH (cRw R) 3) (1 + 2 * p) ((0:Nat):Int)=0 from al_start hE,show tmB (cdH (cRw R) 3) (fdI b p) ((0:Nat):Int)=0 from tm_start hE hi]; rfl)]
 exact Hd.goes_loopA (id:=2) (by kernel_rfl) (by kernel_rfl) (fun k:{k:Nat // k≤27∧True}=>⟨[(2,(.ptr 0 0)),(5,(.ptr 1 0)),(6,(.sl 2 0 3 3)),qA43_33,(10,(.v (.int .i64 ((cntL (cdH (cRw R) 3) (1 + 2 * p) ((k.1:Nat):Int):Nat):Int)))),(11,(.v (.int .i64 ((tmB (cdH (cRw R) 3) (fdI b p) ((k.1:Nat):Int):Nat):Int)))),(12,(.v (.int .i64 ((k.1:Nat):Int))))],[],3,[(qA43_30 R p y),(qA43_26 b p),(qA43_20 R b p)]⟩) (fun k:{k:Nat // k≤27∧True}=>27 - k.1) (fun ix_ hs=>la3_36 y R p b hw hm hE hb hqla37_1 ix_.1 ix_.2.1 ix_.2.2 w hs) ⟨0,Nat.zero_le _,trivial⟩ hs
theorem la3_32 (y:Value) (R:List (Value×List Int)) (p:Nat) (b:Int) (hw:Known Try.prog (clsO wkC)) (hm:3=R.length) (hE:plE ((p:Nat):Int) (cRw R) 3=0) (hb:0≤b∧b≤255) (hqla37_1:(fnB (((p:Nat):Int)) (cRw R) 3)=true) (w:World) (hs:List Nat):Goes Try.prog 97 la3K30 ((qA43_14 R b p y)) (BaseW.H w hs) (Hd.AfterN Try.prog 97 la3K27 w (OutH Try.prog Try.f10 97 (.bool true) w)):=by
 exact la3_33 y R p b hw hm hE hb hqla37_1 w hs
theorem la3_29 (y:Value) (R:List (Value×List Int)) (p:Nat) (b:Int) (hw:Known Try.prog (clsO wkC)) (hm:3=R.length) (hE:plE ((p:Nat):Int) (cRw R) 3=0) (hb:0≤b∧b≤255) (hqla37_1:(fnB (((p:Nat):Int)) (cRw R) 3)=true) (w:World) (hs:List Nat):Goes Try.prog 97 la3K28 ((qA43_15 R b p y)) (BaseW.H w hs) (Hd.AfterN Try.prog 97 la3K27 w (OutH Try.prog Try.f10 97 (.bool true) w)):=by
 obtain ⟨-,hp,-⟩:=plE_zero hE
 have hi:=fdI_lt (b:=b) (p:=p) hb
 have hca:=cas_ca (p:=p) (by omega) hi
 refine Hd.goes_seqA (by kernel_rfl) ?_
 exact goes_leafA isN_e (goes_told Try.checked.mixed (known_la3 hw known_caa) 200 (T':=(qA43_14 R b p y)) (e:=.normal) (ps:=[]) [.go] (by kernel_rfl) (by kernel_rfl) trivial rfl) (Hd.en_n (la3_32 y R p b hw hm hE hb hqla37_1 w hs))
theorem la3_26 (y:Value) (R:List (Value×List Int)) (p:Nat) (b:Int) (hw:Known Try.prog (clsO wkC)) (hm:3=R.length) (hE:plE ((p:Nat):Int) (cRw R) 3=0) (hb:0≤b∧b≤255) (hqla37_1:(fnB (((p:Nat):Int)) (cRw R) 3)=true) (w:World) (hs:List Nat):Goes Try.prog 97 la3K24 ((qA43_15 R b p y)) (BaseW.H w hs) (OutH Try.prog Try.f10 97 (.bool true) w):=by
 exact Hd.goes_seqA (by kernel_rfl) (la3_29 y R p b hw hm hE hb hqla37_1 w hs)
theorem la3_23 (y:Value) (R:List (Value×List Int)) (p:Nat) (b:Int) (hw:Known Try.prog (clsO wkC)) (hm:3=R.length) (hE:plE ((p:Nat):Int) (cRw R) 3=0) (hb:0≤b∧b≤255) (hqla37_1:(fnB (((p:Nat):Int)) (cRw R) 3)=true) (w:World) (hs:List Nat):Goes Try.prog 97 la3K21 ((qA43_16 R b p y)) (BaseW.H w hs) (OutH Try.prog Try.f10 97 (.bool true) w):=by
 obtain ⟨-,hp,-⟩:=plE_zero hE
 have hi:=fdI_lt (b:=b) (p:=p) hb
 have hca:=cas_ca (p:=p) (by omega) hi
 refine Hd.goes_seqA (by kernel_rfl) ?_
 exact goes_leafA isN_e (goes_told Try.checked.mixed (known_la3 hw known_caa) 200 (T':=(qA43_15 R b p y)) (e:=.normal) (ps:=[]) [.go,.go] (by kernel_rfl) (by kernel_rfl) trivial rfl) (Hd.en_n (la3_26 y R p b hw hm hE hb hqla37_1 w hs))
theorem la3_20 (y:Value) (R:List (Value×List Int)) (p:Nat) (b:Int) (hw:Known Try.prog (clsO wkC)) (hm:3=R.length) (hE:plE ((p:Nat):Int) (cRw R) 3=0) (hb:0≤b∧b≤255) (hqla37_1:(fnB (((p:Nat):Int)) (cRw R) 3)=true) (w:World) (hs:List Nat):Goes Try.prog 97 la3K18 ((qA43_17 R b p y)) (BaseW.H w hs) (OutH Try.prog Try.f10 97 (.bool true) w):=by
 obtain ⟨-,hp,-⟩:=plE_zero hE
 have hi:=fdI_lt (b:=b) (p:=p) hb
 have hca:=cas_ca (p:=p) (by omega) hi
 refine Hd.goes_seqA (by kernel_rfl) ?_
 exact goes_leafA isN_e (goes_told Try.checked.mixed (known_la3 hw known_caa) 200 (T':=(qA43_16 R b p y)) (e:=.normal) (ps:=[ltI 0 ((3:Nat):Int)=true,inR IntKind.i64 ((1:Int) * 3),inR IntKind.i64 (0 + 1),ltI (0 + 1) ((3:Nat):Int)=true,inR IntKind.i64 ((1:Int) * 3 * 3),inR IntKind.i64 (0 + 1 + 1),ltI (0 + 1 + 1) ((3:Nat):Int)=true,inR IntKind.i64 ((1:Int) * 3 * 3 * 3),inR IntKind.i64 (0 + 1 + 1 + 1),ltI (0 + 1 + 1 + 1) ((3:Nat):Int)=false]) [.go,.go,.go,.go,.go,.go,.b true,.go,.go,.go,.go,.go,.go,.go,.go,.go,.go,.go,.b true,.go,.go,.go,.go,.go,.go,.go,.go,.go,.go,.go,.b true,.go,.go,.go,.go,.go,.go,.go,.go,.go,.go,.go,.b false] (by kernel_rfl) (by kernel_rfl) ⟨rfl,(iRA43 (by omega) (by omega)),(iRA43 (by omega) (by omega)),rfl,(iRA43 (by omega) (by omega)),(iRA43 (by omega) (by omega)),rfl,(iRA43 (by omega) (by omega)),(iRA43 (by omega) (by omega)),rfl,trivial⟩ rfl) (Hd.en_n (la3_23 y R p b hw hm hE hb hqla37_1 w hs))
theorem la3_17 (y:Value) (R:List (Value×List Int)) (p:Nat) (b:Int) (hw:Known Try.prog (clsO wkC)) (hm:3=R.length) (hE:plE ((p:Nat):Int) (cRw R) 3=0) (hb:0≤b∧b≤255) (hqla37_1:(fnB (((p:Nat):Int)) (cRw R) 3)=true) (w:World) (hs:List Nat):Goes Try.prog 97 la3K15 ((qA43_19 R b p y)) (BaseW.H w hs) (OutH Try.prog Try.f10 97 (.bool true) w):=by
 obtain ⟨-,hp,-⟩:=plE_zero hE
 have hi:=fdI_lt (b:=b) (p:=p) hb
 have hca:=cas_ca (p:=p) (by omega) hi
 refine Hd.goes_seqA (by kernel_rfl) ?_
 exact goes_leafA isN_e (goes_told Try.checked.mixed (known_la3 hw known_caa) 200 (T':=(qA43_17 R b p y)) (e:=.normal) (ps:=[]) [.go] (by kernel_rfl) (by kernel_rfl) trivial rfl) (Hd.en_n (la3_20 y R p b hw hm hE hb hqla37_1 w hs))
theorem la3_14 (y:Value) (R:List (Value×List Int)) (p:Nat) (b:Int) (hw:Known Try.prog (clsO wkC)) (hm:3=R.length) (hE:plE ((p:Nat):Int) (cRw R) 3=0) (hb:0≤b∧b≤255) (hqla37_1:(fnB (((p:Nat):Int)) (cRw R) 3)=true) (w:World) (hs:List Nat):Goes Try.prog 97 la3K12 ((qA43_18 R b p y)) (BaseW.H w hs) (OutH Try.prog Try.f10 97 (.bool true) w):=by
 obtain ⟨-,hp,-⟩:=plE_zero hE
 have hi:=fdI_lt (b:=b) (p:=p) hb
 have hca:=cas_ca (p:=p) (by omega) hi
 refine Hd.goes_seqA (by kernel_rfl) ?_
 exact goes_leafA isN_e (goes_told Try.checked.mixed (known_la3 hw known_caa) 200 (T':=(qA43_19 R b p y)) (e:=.normal) (ps:=[(!eqI ((0:Int)) 0)=false]) [.go,.go,.b false] (by kernel_rfl) (by kernel_rfl) ⟨rfl,trivial⟩ rfl) (Hd.en_n (la3_17 y R p b hw hm hE hb hqla37_1 w hs))
theorem la3_11 (y:Value) (R:List (Value×List Int)) (p:Nat) (b:Int) (hw:Known Try.prog (clsO wkC)) (hm:3=R.length) (hE:plE ((p:Nat):Int) (cRw R) 3=0) (hb:0≤b∧b≤255) (hqla37_1:(fnB (((p:Nat):Int)) (cRw R) 3)=true) (w:World) (hs:List Nat):Goes Try.prog 97 la3K9 ((qA43_22 R b p y)) (BaseW.H w hs) (OutH Try.prog Try.f10 97 (.bool true) w):=by
 obtain ⟨-,hp,-⟩:=plE_zero hE
 have hi:=fdI_lt (b:=b) (p:=p) hb
 have hca:=cas_ca (p:=p) (by omega) hi
 refine Hd.goes_seqA (by kernel_rfl) ?_
 exact goes_leafA isN_e (goes_told Try.checked.mixed (known_la3 hw known_caa) 200 (T':=(qA43_18 R b p y)) (e:=.normal) (ps:=[IsR 3 (cRw R),plE (((p:Nat):Int)) (cRw R) 3=0,caB (((p:Nat):Int)) (caseN (fdI b p)).fst (caseN (fdI b p)).snd=true]) [.go,.go,.go,.go,.go,.go,.go] (by kernel_rfl) (by kernel_rfl) ⟨⟨R,rfl,hm⟩,hE,hca,trivial⟩ rfl) (Hd.en_n (la3_14 y R p b hw hm hE hb hqla37_1 w hs))
theorem la3_8 (y:Value) (R:List (Value×List Int)) (p:Nat) (b:Int) (hw:Known Try.prog (clsO wkC)) (hm:3=R.length) (hE:plE ((p:Nat):Int) (cRw R) 3=0) (hb:0≤b∧b≤255) (hqla37_1:(fnB (((p:Nat):Int)) (cRw R) 3)=true) (w:World) (hs:List Nat):Goes Try.prog 97 la3K6 ((qA43_25 R b p y)) (BaseW.H w hs) (OutH Try.prog Try.f10 97 (.bool true) w):=by
 obtain ⟨-,hp,-⟩:=plE_zero hE
 have hi:=fdI_lt (b:=b) (p:=p) hb
 have hca:=cas_ca (p:=p) (by omega) hi
 refine Hd.goes_seqA (by kernel_rfl) ?_
 exact goes_leafA isN_e (goes_told Try.checked.mixed (known_la3 hw known_caa) 200 (T':=(qA43_22 R b p y)) (e:=.normal) (ps:=[IsR 3 (cRw R),plE (((p:Nat):Int)) (cRw R) 3=0,0≤b∧b≤255]) [.go,.go,.go,.go] (by kernel_rfl) (by kernel_rfl) ⟨⟨R,rfl,hm⟩,hE,hb,trivial⟩ rfl) (Hd.en_n (la3_11 y R p b hw hm hE hb hqla37_1 w hs))
theorem la3_5 (y:Value) (R:List (Value×List Int)) (p:Nat) (b:Int) (hw:Known Try.prog (clsO wkC)) (hm:3=R.length) (hE:plE ((p:Nat):Int) (cRw R) 3=0) (hb:0≤b∧b≤255) (w:World) (hs:List Nat):Goes Try.prog 97 la3K3 ((qA43_25 R b p y)) (BaseW.H w hs) (OutH Try.prog Try.f10 97 (.bool true) w):=by
 obtain ⟨-,hp,-⟩:=plE_zero hE
 have hi:=fdI_lt (b:=b) (p:=p) hb
 have hca:=cas_ca (p:=p) (by omega) hi
 refine Hd.goes_seqA (by kernel_rfl) ?_
 rcases Bool.eq_false_or_eq_true (fnB (((p:Nat):Int)) (cRw R) 3) with hqla37_1 | hqla37_1
 ·skip
  exact goes_leafA isN_e (goes_told Try.checked.mixed (known_la3 hw known_caa) 200 (T':=(qA43_25 R b p y)) (e:=.normal) (ps:=[IsR 3 (cRw R),(!fnB (((p:Nat):Int)) (cRw R) 3)=false]) [.go,.go,.b false] (by kernel_rfl) (by kernel_rfl) ⟨⟨R,rfl,hm⟩,(by rw [hqla37_1]; rfl),trivial⟩ rfl) (Hd.en_n (la3_8 y R p b hw hm hE hb hqla37_1 w hs))
 ·skip
  exact goes_leafA isR_e (goes_told Try.checked.mixed (known_la3 hw known_caa) 200 (T':=⟨[(4,(.v (.bool .true)))],[],1,[]⟩) (e:=.ret) (ps:=[IsR 3 (cRw R),(!fnB (((p:Nat):Int)) (cRw R) 3)=true]) [.go,.go,.b true,.go] (by kernel_rfl) (by kernel_rfl) ⟨⟨R,rfl,hm⟩,(by rw [hqla37_1]; rfl),trivial⟩ rfl) (Hd.en_o (by intro h; cases h) (Hd.en_eq (r:=(.bool .true)) (by rfl) (Hd.en_ret (v:=(.v (.bool .true))) (by kernel_rfl) rfl)))
theorem la3_2 (y:Value) (R:List (Value×List Int)) (p:Nat) (b:Int) (hw:Known Try.prog (clsO wkC)) (hm:3=R.length) (hE:plE ((p:Nat):Int) (cRw R) 3=0) (hb:0≤b∧b≤255) (w:World) (hs:List Nat):Goes Try.prog 97 la3K1 (⟨[(0,(.agg [.v (.int .i64 ((p:Nat):Int)),.xl y 3 1 (cRw R)])),(1,(.v (.int .u8 b)))],[],0,[]⟩) (BaseW.H w hs) (OutH Try.prog Try.f10 97 (.bool true) w):=by
 obtain ⟨-,hp,-⟩:=plE_zero hE
 have hi:=fdI_lt (b:=b) (p:=p) hb
 have hca:=cas_ca (p:=p) (by omega) hi
 refine Hd.goes_seqA (by kernel_rfl) ?_
 exact goes_leafA isN_e (goes_told Try.checked.mixed (known_la3 hw known_caa) 200 (T':=(qA43_25 R b p y)) (e:=.normal) (ps:=[]) [.go,.go] (by kernel_rfl) (by kernel_rfl) trivial rfl) (Hd.en_n (la3_5 y R p b hw hm hE hb w hs))
theorem all_l3 (y:Value) (R:List (Value×List Int)) (p:Nat) (b:Int) (hw:Known Try.prog (clsO wkC)) (hm:3=R.length) (hE:plE ((p:Nat):Int) (cRw R) 3=0) (hb:0≤b∧b≤255):GivesA Try.prog 10 [(.agg [.v (.int .i64 ((p:Nat):Int)),.xl y 3 1 (cRw R)]),(.v (.int .u8 b))] (.bool true) :=
 givesA_partsH 97 Try.func10 (by kernel_rfl) (by kernel_rfl) (by kernel_rfl) (fun w=>goes_less (by kernel_rfl) (by kernel_rfl) (by kernel_rfl) (by kernel_rfl) (la3_2 y R p b hw hm hE hb w []))
end
end Go.Proofs.Ytmankoikpadkpaa
