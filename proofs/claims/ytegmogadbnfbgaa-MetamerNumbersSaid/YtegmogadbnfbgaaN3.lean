import Derived.Test.YtegmogadbnfbgaaN2
set_option maxHeartbeats 4000000
set_option linter.all false
/- The errors of truths and chips, on both sides. -/
namespace Go.Proofs.Ytegmogadbnfbgaa
open Go Ev
noncomputable section
theorem iRN3 {a:Int} (h : -9223372036854775808≤a) (k:a≤9223372036854775807):inR .i64 a:=⟨h,k⟩
section
variable (E : List (Value × List (Int × Int))) (L : List (Int × Int)) (M : List Int) (X : List (Value × List Int)) (Y : List Int) (b : Nat) (u ul y yl z : Value)
@[reducible] def qN3_22:Nat×Ev.AV:=(5,(.v (.int .i64 L.length)))
@[reducible] def qN3_28:Nat×Ev.AV:=(7,(.v (.int .i64 b)))
@[reducible] def qN3_30:Nat×Ev.AV:=(54,(.xl (ul) (Y.length) 1 (cI Y)))
@[reducible] def qN3_27:Nat×Ev.AV:=(55,(.v (.int .i64 b)))
@[reducible] def qN3_25:Nat×Ev.AV:=(57,(.v (.int .i64 (intAt (cI Y) (b * 1)))))
@[reducible] def qN3_29:Nat×Ev.AV:=(59,(.xl (yl) (L.length) 2 (cR L)))
@[reducible] def qN3_26:Nat×Ev.AV:=(60,(.v (.int .i64 b)))
@[reducible] def qN3_20:Nat×Ev.AV:=(63,(.v (.int .i64 (intAt (cR L) (b * 2 + 1)))))
@[reducible] def qN3_14:Nat×Ev.AV:=(64,(.v (.bool (ltI (intAt (cR L) (b * 2 + 1)) (intAt (cI Y) (b * 1))))))
@[reducible] def qN3_13:Nat×Ev.AB:=(0,(.cells [(.xl (y) (E.length) 1 (cQw E)),(.xl (yl) (L.length) 2 (cR L))] 25))
@[reducible] def qN3_12:Nat×Ev.AB:=(1,(.cells [(.xl (u) (X.length) 1 (cRw X)),(.xl (ul) (Y.length) 1 (cI Y))] 29))
@[reducible] def qN3_1:Ev.Lit:=⟨[(2,(.ptr 0 0)),(3,(.ptr 1 0)),(qN3_22 L),(qN3_28 b),(8,(.v (.int .i64 (.ofNat 0)))),(53,(.ptr 1 1)),(qN3_30 Y ul),(qN3_27 b),(56,(AV.xp ul Y.length 1 (cI Y) (b * 1))),(qN3_25 Y b),(58,(.ptr 0 1)),(qN3_29 L yl),(qN3_26 b),(61,(AV.xp yl L.length 2 (cR L) (b * 2))),(62,(AV.xp yl L.length 2 (cR L) (b * 2 + 1))),(qN3_20 L b),(qN3_14 L Y b)],[],2,[(qN3_13 E L y yl),(qN3_12 X Y u ul)]⟩
@[reducible] def qN3_2:Ev.Lit:=⟨[(2,(.ptr 0 0)),(3,(.ptr 1 0)),(qN3_22 L),(qN3_28 b),(53,(.ptr 1 1)),(qN3_30 Y ul),(qN3_27 b),(56,(AV.xp ul Y.length 1 (cI Y) (b * 1))),(qN3_25 Y b),(58,(.ptr 0 1)),(qN3_29 L yl),(qN3_26 b),(61,(AV.xp yl L.length 2 (cR L) (b * 2))),(62,(AV.xp yl L.length 2 (cR L) (b * 2 + 1))),(qN3_20 L b),(qN3_14 L Y b)],[],2,[(qN3_13 E L y yl),(qN3_12 X Y u ul)]⟩
@[reducible] def qN3_3:Ev.Lit:=⟨[(2,(.ptr 0 0)),(3,(.ptr 1 0)),(qN3_22 L),(qN3_28 b)],[],2,[(qN3_13 E L y yl),(qN3_12 X Y u ul)]⟩
@[reducible] def qN3_4:Ev.Lit:=⟨[(2,(.ptr 0 0)),(3,(.ptr 1 0)),(qN3_22 L),(7,(.v (.int .i64 (.ofNat 0))))],[],2,[(qN3_13 E L y yl),(qN3_12 X Y u ul)]⟩
@[reducible] def qN3_5:Ev.Lit:=⟨[(2,(.ptr 0 0)),(3,(.ptr 1 0)),(qN3_22 L),(6,(.v (.int .i64 (.ofNat 0))))],[],2,[(qN3_13 E L y yl),(qN3_12 X Y u ul)]⟩
@[reducible] def qN3_6:Ev.Lit:=⟨[(2,(.ptr 0 0)),(3,(.ptr 1 0)),(qN3_22 L)],[],2,[(qN3_13 E L y yl),(qN3_12 X Y u ul)]⟩
@[reducible] def qN3_31:Nat×Ev.AV:=(30,(.xl (y) (E.length) 1 (cQw E)))
@[reducible] def qN3_21:Nat×Ev.AV:=(31,(.v (.int .i64 E.length)))
@[reducible] def qN3_7:Ev.Lit:=⟨[(3,(.ptr 1 0)),(qN3_31 E y),(qN3_21 E),(32,(.v (.int .i64 (.ofNat 0))))],[],2,[(qN3_12 X Y u ul)]⟩
@[reducible] def qN3_8:Ev.Lit:=⟨[(2,(.ptr 0 0)),(3,(.ptr 1 0))],[],2,[(qN3_13 E L y yl),(qN3_12 X Y u ul)]⟩
@[reducible] def qN3_33:Nat×Ev.AV:=(1,(.xl (z) (M.length) 1 (cI M)))
@[reducible] def qN3_9:Ev.Lit:=⟨[(qN3_33 M z),(2,(.ptr 0 0))],[],1,[(qN3_13 E L y yl)]⟩
@[reducible] def qN3_16:Ev.AV:=(.agg [.xl y E.length 1 (cQw E),.xl yl L.length 2 (cR L)])
@[reducible] def qN3_15:Nat×Ev.AV:=(0,(qN3_16 E L y yl))
@[reducible] def qN3_17:Ev.AV:=(.agg [.xl u X.length 1 (cRw X),.xl ul Y.length 1 (cI Y)])
@[reducible] def qN3_10:Ev.Lit:=⟨[(qN3_15 E L y yl),(1,(qN3_17 X Y u ul))],[],0,[]⟩
@[reducible] def qN3_11:Ev.Lit:=⟨[(qN3_33 M z),(5,(.v (.int .i64 (.ofNat 0))))],[],1,[]⟩
@[reducible] def qN3_18:=(eqI Y.length L.length)
@[reducible] def qN3_19:=(eqI M.length L.length)
@[reducible] def qN3_34:Nat×Ev.AV:=(4,(.v (.int .i64 (.ofNat 15))))
@[reducible] def qN3_23:Ev.Lit:=⟨[qN3_34],[],2,[]⟩
@[reducible] def qN3_24:Ev.Lit:=⟨[(4,(.v (.int .i64 (.ofNat 3))))],[],2,[]⟩
@[reducible] def qN3_32:=(eqI X.length 3)
end
noncomputable def ctoK1:Code:=bodyC Try.f52
noncomputable def ctoK3:Code:=tlC ctoK1
noncomputable def ctoK6:Code:=tlC ctoK3
noncomputable def ctoK9:Code:=tlC ctoK6
noncomputable def ctoK12:Code:=tlC ctoK9
noncomputable def ctoK13:Code:=(hdC ctoK9)
noncomputable def ctoK15:Code:=tlC ctoK13
noncomputable def ctoK19:Code:=loopC ctoK15
theorem cto_22 (y:Value) (E:List (Value×List (Int×Int))) (yl:Value) (L:List (Int×Int)) (u:Value) (X:List (Value×List Int)) (ul:Value) (Y:List Int) (hC:ccE (cQw E) E.length (cR L) L.length=0) (hX:X.length≤1000) (hqcto7_1:(qN3_18 L Y)=true) (hqcto7_2:(eyB (cRw X) X.length L.length)=true) (hqcto10_1:(allB (wiAt (cR L) (cI Y)) L.length)=true) (h0b:∀ k,k < (E.length)→allB (wiAt (xlC (cQw E) (k * 1)) (xlC (cRw X) (k * 1))) L.length=true) (hqcto21_1:(ltI E.length E.length)=false) (w:World) (hs:List Nat):Goes Try.prog 46 ctoK12 (⟨[],[],2,[]⟩) (BaseW.H w hs) (OutH Try.prog Try.f52 46 (.int .i64 (ctE (cQw E) (cR L) L.length (cRw X) X.length (cI Y) Y.length)) w):=by
 have hcl_L:=cR_len L
 have hcl_Y:=cI_len Y
 obtain ⟨hn,hm3,hrow,hlam,hcur⟩:=ccE_zero hC
 have ghqcto7_1:=eqI_true hqcto7_1
 have hxr:=(eyB_true.1 hqcto7_2).2
 have hx3:=(eyB_true.1 hqcto7_2).1
 have ghqcto21_1:=ltI_false hqcto21_1
 exact goes_leafA isR_e (goes_told Try.checked.mixed (known_or known_aw known_iei) 200 (T':=⟨[(4,(.v (.int .i64 (.ofNat 0))))],[],2,[]⟩) (e:=.ret) (ps:=[]) [.go] (by kernel_rfl) (by kernel_rfl) trivial rfl) (Hd.en_eq (r:=(.int .i64 0)) (by rw [ctE_ok (cE:=cQw E) (cL:=cR L) (n:=L.length) (cX:=cRw X) (m:=X.length) (cY:=cI Y) (k:=Y.length) (by omega) hqcto7_2 hqcto10_1 (fun i hi=>h0b i (by omega))]) (Hd.en_ret (v:=(.v (.int .i64 (.ofNat 0)))) (by kernel_rfl) rfl))
theorem cto_20 (y:Value) (E:List (Value×List (Int×Int))) (yl:Value) (L:List (Int×Int)) (u:Value) (X:List (Value×List Int)) (ul:Value) (Y:List Int) (hC:ccE (cQw E) E.length (cR L) L.length=0) (hX:X.length≤1000) (hqcto7_1:(qN3_18 L Y)=true) (hqcto7_2:(eyB (cRw X) X.length L.length)=true) (hqcto10_1:(allB (wiAt (cR L) (cI Y)) L.length)=true) (i:Nat) (hi1:i≤E.length) (hi2:∀ k,k < i→allB (wiAt (xlC (cQw E) (k * 1)) (xlC (cRw X) (k * 1))) L.length=true) (w:World) (hs:List Nat):Goes Try.prog 46 ctoK19 (⟨[(3,(.ptr 1 0)),(qN3_31 E y),(qN3_21 E),(32,(.v (.int .i64 i)))],[],2,[(qN3_12 X Y u ul)]⟩) (BaseW.H w hs) (Hd.StepC Try.prog 46 0 (fun i:{i:Nat // i≤E.length∧∀ k,k < i→allB (wiAt (xlC (cQw E) (k * 1)) (xlC (cRw X) (k * 1))) L.length=true}=>⟨[(3,(.ptr 1 0)),(qN3_31 E y),(qN3_21 E),(32,(.v (.int .i64 i.1)))],[],2,[(qN3_12 X Y u ul)]⟩) (fun i:{i:Nat // i≤E.length∧∀ k,k < i→allB (wiAt (xlC (cQw E) (k * 1)) (xlC (cRw X) (k * 1))) L.length=true}=>E.length - i.1) ctoK12 w (OutH Try.prog Try.f52 46 (.int .i64 (ctE (cQw E) (cR L) L.length (cRw X) X.length (cI Y) Y.length)) w) (⟨i,hi1,hi2⟩:{i:Nat // i≤E.length∧∀ k,k < i→allB (wiAt (xlC (cQw E) (k * 1)) (xlC (cRw X) (k * 1))) L.length=true})):=by
 have hcl_L:=cR_len L
 have hcl_Y:=cI_len Y
 obtain ⟨hn,hm3,hrow,hlam,hcur⟩:=ccE_zero hC
 have ghqcto7_1:=eqI_true hqcto7_1
 have hxr:=(eyB_true.1 hqcto7_2).2
 have hx3:=(eyB_true.1 hqcto7_2).1
 rcases Bool.eq_false_or_eq_true (ltI i E.length) with hqcto21_1 | hqcto21_1
 ·skip
  have ghqcto21_1:=ltI_true hqcto21_1
  rcases Bool.eq_false_or_eq_true (allB (wiAt (xlC (cQw E) (i * 1)) (xlC (cRw X) (i * 1))) (xlN (cQw E) (i * 1))) with hqcto21_2 | hqcto21_2
  ·skip
   exact goes_leafA isN_e (goes_told Try.checked.mixed (known_or known_aw known_iei) 200 (T':=⟨[(3,(.ptr 1 0)),(qN3_31 E y),(qN3_21 E),(32,(.v (.int .i64 (((i + 1):Nat):Int))))],[],2,[(qN3_12 X Y u ul)]⟩) (e:=.normal) (ps:=[ltI i E.length=true,i < E.length,loadL Try.prog (cQw E) (i * 1) 23=some (AV.xl (xlY (cQw E) (i * 1)) (xlN (cQw E) (i * 1)) 2 (xlC (cQw E) (i * 1))),i < X.length,loadL Try.prog (cRw X) (i * 1) 27=some (AV.xl (xlY (cRw X) (i * 1)) (xlN (cRw X) (i * 1)) 1 (xlC (cRw X) (i * 1))),IsPr 2 (xlN (cQw E) (i * 1)) (xlC (cQw E) (i * 1)),IsI 1 (xlN (cRw X) (i * 1)) (xlC (cRw X) (i * 1)),xlN (cQw E) (i * 1)≤1000,xlN (cQw E) (i * 1)≤xlN (cRw X) (i * 1),(!allB (wiAt (xlC (cQw E) (i * 1)) (xlC (cRw X) (i * 1))) (xlN (cQw E) (i * 1)))=false,inR IntKind.i64 (((i:Nat):Int) + 1)]) [.go,.b true,.go,.sym,.sym,.go,.go,.go,.go,.go,.go,.sym,.sym,.go,.b false,.go,.go] (by kernel_rfl) (by kernel_rfl) ⟨hqcto21_1,(by omega),(by rw [Nat.mul_one]; exact cQw_load (by omega) 23 (Try.underlying23) rfl),(by omega),(by rw [Nat.mul_one]; exact cRw_load (by omega) 27 (Try.underlying27) rfl),(cQw_isP (by omega)),(cRw_isI (by omega)),(by have h9:=hrow i (by omega); have h8:=hxr i (by omega); omega),(by have h9:=hrow i (by omega); have h8:=hxr i (by omega); omega),(by rw [hqcto21_2]; rfl),(iRN3 (by omega) (by omega)),trivial⟩ rfl) (Hd.en_on (⟨i + 1,by omega,(up_next (q:=fun k=>allB (wiAt (xlC (cQw E) (k * 1)) (xlC (cRw X) (k * 1))) L.length=true) hi2 (by have h9:=hrow i (by omega); rw [← h9]; exact hqcto21_2))⟩) (by show E.length - (i + 1) < E.length - i; omega) rfl)
  ·skip
   exact goes_leafA isR_e (goes_told Try.checked.mixed (known_or known_aw known_iei) 200 (T':=qN3_24) (e:=.ret) (ps:=[ltI i E.length=true,i < E.length,loadL Try.prog (cQw E) (i * 1) 23=some (AV.xl (xlY (cQw E) (i * 1)) (xlN (cQw E) (i * 1)) 2 (xlC (cQw E) (i * 1))),i < X.length,loadL Try.prog (cRw X) (i * 1) 27=some (AV.xl (xlY (cRw X) (i * 1)) (xlN (cRw X) (i * 1)) 1 (xlC (cRw X) (i * 1))),IsPr 2 (xlN (cQw E) (i * 1)) (xlC (cQw E) (i * 1)),IsI 1 (xlN (cRw X) (i * 1)) (xlC (cRw X) (i * 1)),xlN (cQw E) (i * 1)≤1000,xlN (cQw E) (i * 1)≤xlN (cRw X) (i * 1),(!allB (wiAt (xlC (cQw E) (i * 1)) (xlC (cRw X) (i * 1))) (xlN (cQw E) (i * 1)))=true]) [.go,.b true,.go,.sym,.sym,.go,.go,.go,.go,.go,.go,.sym,.sym,.go,.b true,.go] (by kernel_rfl) (by kernel_rfl) ⟨hqcto21_1,(by omega),(by rw [Nat.mul_one]; exact cQw_load (by omega) 23 (Try.underlying23) rfl),(by omega),(by rw [Nat.mul_one]; exact cRw_load (by omega) 27 (Try.underlying27) rfl),(cQw_isP (by omega)),(cRw_isI (by omega)),(by have h9:=hrow i (by omega); have h8:=hxr i (by omega); omega),(by have h9:=hrow i (by omega); have h8:=hxr i (by omega); omega),(by rw [hqcto21_2]; rfl),trivial⟩ rfl) (Hd.en_so (by intro h; cases h) (by intro h; cases h) (Hd.en_eq (r:=(.int .i64 3)) (by rw [ctE_curve (cE:=cQw E) (cL:=cR L) (n:=L.length) (cX:=cRw X) (m:=X.length) (cY:=cI Y) (k:=Y.length) (by omega) hqcto7_2 (i:=i) (by omega) (by have h9:=hrow i (by omega); rw [← h9,hqcto21_2]; decide)]) (Hd.en_ret (v:=(.v (.int .i64 (.ofNat 3)))) (by kernel_rfl) rfl)))
 ·skip
  have ghqcto21_1:=ltI_false hqcto21_1
  obtain rfl:i=E.length:=by omega
  exact goes_leafA isX_e (goes_told Try.checked.mixed (known_or known_aw known_iei) 200 (T':=⟨[],[],2,[]⟩) (e:=.exit 0) (ps:=[ltI E.length E.length=false]) [.go,.b false] (by kernel_rfl) (by kernel_rfl) ⟨hqcto21_1,trivial⟩ rfl) (Hd.en_sx (cto_22 y E yl L u X ul Y hC hX hqcto7_1 hqcto7_2 hqcto10_1 hi2  hqcto21_1 w hs))
theorem cto_18 (y:Value) (E:List (Value×List (Int×Int))) (yl:Value) (L:List (Int×Int)) (u:Value) (X:List (Value×List Int)) (ul:Value) (Y:List Int) (hC:ccE (cQw E) E.length (cR L) L.length=0) (hX:X.length≤1000) (hqcto7_1:(qN3_18 L Y)=true) (hqcto7_2:(eyB (cRw X) X.length L.length)=true) (hqcto10_1:(allB (wiAt (cR L) (cI Y)) L.length)=true) (w:World) (hs:List Nat):Goes Try.prog 46 ctoK15 ((qN3_7 E X Y u ul y)) (BaseW.H w hs) (Hd.AfterN Try.prog 46 ctoK12 w (OutH Try.prog Try.f52 46 (.int .i64 (ctE (cQw E) (cR L) L.length (cRw X) X.length (cI Y) Y.length)) w)):=by
 have hcl_L:=cR_len L
 have hcl_Y:=cI_len Y
 obtain ⟨hn,hm3,hrow,hlam,hcur⟩:=ccE_zero hC
 have ghqcto7_1:=eqI_true hqcto7_1
 have hxr:=(eyB_true.1 hqcto7_2).2
 have hx3:=(eyB_true.1 hqcto7_2).1
 exact Hd.goes_loopA (id:=0) (by kernel_rfl) (by kernel_rfl) (fun i:{i:Nat // i≤E.length∧∀ k,k < i→allB (wiAt (xlC (cQw E) (k * 1)) (xlC (cRw X) (k * 1))) L.length=true}=>⟨[(3,(.ptr 1 0)),(qN3_31 E y),(qN3_21 E),(32,(.v (.int .i64 i.1)))],[],2,[(qN3_12 X Y u ul)]⟩) (fun i:{i:Nat // i≤E.length∧∀ k,k < i→allB (wiAt (xlC (cQw E) (k * 1)) (xlC (cRw X) (k * 1))) L.length=true}=>E.length - i.1) (fun ix_ hs=>cto_20 y E yl L u X ul Y hC hX hqcto7_1 hqcto7_2 hqcto10_1 ix_.1 ix_.2.1 ix_.2.2 w hs) ⟨0,Nat.zero_le _,(fun j hj=>by omega)⟩ hs
theorem cto_17 (y:Value) (E:List (Value×List (Int×Int))) (yl:Value) (L:List (Int×Int)) (u:Value) (X:List (Value×List Int)) (ul:Value) (Y:List Int) (hC:ccE (cQw E) E.length (cR L) L.length=0) (hX:X.length≤1000) (hqcto7_1:(qN3_18 L Y)=true) (hqcto7_2:(eyB (cRw X) X.length L.length)=true) (hqcto10_1:(allB (wiAt (cR L) (cI Y)) L.length)=true) (w:World) (hs:List Nat):Goes Try.prog 46 ctoK15 ((qN3_7 E X Y u ul y)) (BaseW.H w hs) (Hd.AfterN Try.prog 46 ctoK12 w (OutH Try.prog Try.f52 46 (.int .i64 (ctE (cQw E) (cR L) L.length (cRw X) X.length (cI Y) Y.length)) w)):=by
 exact cto_18 y E yl L u X ul Y hC hX hqcto7_1 hqcto7_2 hqcto10_1 w hs
theorem cto_14 (y:Value) (E:List (Value×List (Int×Int))) (yl:Value) (L:List (Int×Int)) (u:Value) (X:List (Value×List Int)) (ul:Value) (Y:List Int) (hC:ccE (cQw E) E.length (cR L) L.length=0) (hX:X.length≤1000) (hqcto7_1:(qN3_18 L Y)=true) (hqcto7_2:(eyB (cRw X) X.length L.length)=true) (hqcto10_1:(allB (wiAt (cR L) (cI Y)) L.length)=true) (w:World) (hs:List Nat):Goes Try.prog 46 ctoK13 ((qN3_8 E L X Y u ul y yl)) (BaseW.H w hs) (Hd.AfterN Try.prog 46 ctoK12 w (OutH Try.prog Try.f52 46 (.int .i64 (ctE (cQw E) (cR L) L.length (cRw X) X.length (cI Y) Y.length)) w)):=by
 have hcl_L:=cR_len L
 have hcl_Y:=cI_len Y
 obtain ⟨hn,hm3,hrow,hlam,hcur⟩:=ccE_zero hC
 have ghqcto7_1:=eqI_true hqcto7_1
 have hxr:=(eyB_true.1 hqcto7_2).2
 have hx3:=(eyB_true.1 hqcto7_2).1
 refine Hd.goes_seqA (by kernel_rfl) ?_
 exact goes_leafA isN_e (goes_told Try.checked.mixed (known_or known_aw known_iei) 200 (T':=(qN3_7 E X Y u ul y)) (e:=.normal) (ps:=[]) [.go,.go,.go,.go] (by kernel_rfl) (by kernel_rfl) trivial rfl) (Hd.en_n (cto_17 y E yl L u X ul Y hC hX hqcto7_1 hqcto7_2 hqcto10_1 w hs))
theorem cto_11 (y:Value) (E:List (Value×List (Int×Int))) (yl:Value) (L:List (Int×Int)) (u:Value) (X:List (Value×List Int)) (ul:Value) (Y:List Int) (hC:ccE (cQw E) E.length (cR L) L.length=0) (hX:X.length≤1000) (hqcto7_1:(qN3_18 L Y)=true) (hqcto7_2:(eyB (cRw X) X.length L.length)=true) (hqcto10_1:(allB (wiAt (cR L) (cI Y)) L.length)=true) (w:World) (hs:List Nat):Goes Try.prog 46 ctoK9 ((qN3_8 E L X Y u ul y yl)) (BaseW.H w hs) (OutH Try.prog Try.f52 46 (.int .i64 (ctE (cQw E) (cR L) L.length (cRw X) X.length (cI Y) Y.length)) w):=by
 exact Hd.goes_seqA (by kernel_rfl) (cto_14 y E yl L u X ul Y hC hX hqcto7_1 hqcto7_2 hqcto10_1 w hs)
theorem cto_8 (y:Value) (E:List (Value×List (Int×Int))) (yl:Value) (L:List (Int×Int)) (u:Value) (X:List (Value×List Int)) (ul:Value) (Y:List Int) (hC:ccE (cQw E) E.length (cR L) L.length=0) (hX:X.length≤1000) (hqcto7_1:(qN3_18 L Y)=true) (hqcto7_2:(eyB (cRw X) X.length L.length)=true) (w:World) (hs:List Nat):Goes Try.prog 46 ctoK6 ((qN3_8 E L X Y u ul y yl)) (BaseW.H w hs) (OutH Try.prog Try.f52 46 (.int .i64 (ctE (cQw E) (cR L) L.length (cRw X) X.length (cI Y) Y.length)) w):=by
 have hcl_L:=cR_len L
 have hcl_Y:=cI_len Y
 obtain ⟨hn,hm3,hrow,hlam,hcur⟩:=ccE_zero hC
 have ghqcto7_1:=eqI_true hqcto7_1
 have hxr:=(eyB_true.1 hqcto7_2).2
 have hx3:=(eyB_true.1 hqcto7_2).1
 refine Hd.goes_seqA (by kernel_rfl) ?_
 rcases Bool.eq_false_or_eq_true (allB (wiAt (cR L) (cI Y)) L.length) with hqcto10_1 | hqcto10_1
 ·skip
  exact goes_leafA isN_e (goes_told Try.checked.mixed (known_or known_aw known_iei) 200 (T':=(qN3_8 E L X Y u ul y yl)) (e:=.normal) (ps:=[IsPr 2 L.length (cR L),IsI 1 Y.length (cI Y),L.length≤1000,L.length≤Y.length,(!allB (wiAt (cR L) (cI Y)) L.length)=false]) [.go,.go,.go,.go,.go,.b false] (by kernel_rfl) (by kernel_rfl) ⟨⟨rfl,L,rfl,rfl⟩,⟨rfl,Y,rfl,rfl⟩,(by omega),(by omega),(by rw [hqcto10_1]; rfl),trivial⟩ rfl) (Hd.en_n (cto_11 y E yl L u X ul Y hC hX hqcto7_1 hqcto7_2 hqcto10_1 w hs))
 ·skip
  exact goes_leafA isR_e (goes_told Try.checked.mixed (known_or known_aw known_iei) 200 (T':=qN3_24) (e:=.ret) (ps:=[IsPr 2 L.length (cR L),IsI 1 Y.length (cI Y),L.length≤1000,L.length≤Y.length,(!allB (wiAt (cR L) (cI Y)) L.length)=true]) [.go,.go,.go,.go,.go,.b true,.go] (by kernel_rfl) (by kernel_rfl) ⟨⟨rfl,L,rfl,rfl⟩,⟨rfl,Y,rfl,rfl⟩,(by omega),(by omega),(by rw [hqcto10_1]; rfl),trivial⟩ rfl) (Hd.en_o (by intro h; cases h) (Hd.en_eq (r:=(.int .i64 3)) (by rw [ctE_lamp (cE:=cQw E) (cL:=cR L) (n:=L.length) (cX:=cRw X) (m:=X.length) (cY:=cI Y) (k:=Y.length) (by omega) hqcto7_2 (by rw [hqcto10_1]; decide)]) (Hd.en_ret (v:=(.v (.int .i64 (.ofNat 3)))) (by kernel_rfl) rfl)))
theorem cto_5 (y:Value) (E:List (Value×List (Int×Int))) (yl:Value) (L:List (Int×Int)) (u:Value) (X:List (Value×List Int)) (ul:Value) (Y:List Int) (hC:ccE (cQw E) E.length (cR L) L.length=0) (hX:X.length≤1000) (w:World) (hs:List Nat):Goes Try.prog 46 ctoK3 ((qN3_8 E L X Y u ul y yl)) (BaseW.H w hs) (OutH Try.prog Try.f52 46 (.int .i64 (ctE (cQw E) (cR L) L.length (cRw X) X.length (cI Y) Y.length)) w):=by
 have hcl_L:=cR_len L
 have hcl_Y:=cI_len Y
 obtain ⟨hn,hm3,hrow,hlam,hcur⟩:=ccE_zero hC
 refine Hd.goes_seqA (by kernel_rfl) ?_
 rcases Bool.eq_false_or_eq_true (eqI Y.length L.length) with hqcto7_1 | hqcto7_1
 ·skip
  have ghqcto7_1:=eqI_true hqcto7_1
  rcases Bool.eq_false_or_eq_true (eyB (cRw X) X.length L.length) with hqcto7_2 | hqcto7_2
  ·skip
   have hxr:=(eyB_true.1 hqcto7_2).2
   have hx3:=(eyB_true.1 hqcto7_2).1
   exact goes_leafA isN_e (goes_told Try.checked.mixed (known_or known_aw known_iei) 200 (T':=(qN3_8 E L X Y u ul y yl)) (e:=.normal) (ps:=[(!eqI Y.length L.length)=false,false=false,false=false,false=false,false=false,false=false,IsEi 1 (cRw X) X.length,(0:Int)≤((L.length:Nat):Int),X.length≤1000,false=false,(!eyB (cRw X) X.length L.length)=false]) [.go,.go,.go,.go,.go,.go,.go,.go,.b false,.go,.b false,.go,.b false,.go,.b false,.go,.b false,.go,.b false,.b false,.go,.go,.b false] (by kernel_rfl) (by kernel_rfl) ⟨(by rw [hqcto7_1]; rfl),rfl,rfl,rfl,rfl,rfl,⟨rfl,X,rfl,rfl⟩,(by omega),hX,rfl,(by rw [hqcto7_2]; rfl),trivial⟩ rfl) (Hd.en_n (cto_8 y E yl L u X ul Y hC hX hqcto7_1 hqcto7_2 w hs))
  ·skip
   exact goes_leafA isR_e (goes_told Try.checked.mixed (known_or known_aw known_iei) 200 (T':=qN3_23) (e:=.ret) (ps:=[(!eqI Y.length L.length)=false,false=false,false=false,false=false,false=false,false=false,IsEi 1 (cRw X) X.length,(0:Int)≤((L.length:Nat):Int),X.length≤1000,false=false,(!eyB (cRw X) X.length L.length)=true]) [.go,.go,.go,.go,.go,.go,.go,.go,.b false,.go,.b false,.go,.b false,.go,.b false,.go,.b false,.go,.b false,.b false,.go,.go,.b true,.go] (by kernel_rfl) (by kernel_rfl) ⟨(by rw [hqcto7_1]; rfl),rfl,rfl,rfl,rfl,rfl,⟨rfl,X,rfl,rfl⟩,(by omega),hX,rfl,(by rw [hqcto7_2]; rfl),trivial⟩ rfl) (Hd.en_o (by intro h; cases h) (Hd.en_eq (r:=(.int .i64 15)) (by rw [ctE_len (cE:=cQw E) (cL:=cR L) (n:=L.length) (cX:=cRw X) (m:=X.length) (cY:=cI Y) (k:=Y.length) (fun h9=>by first | omega | (rw [h9.2] at hqcto7_2; cases hqcto7_2))]) (Hd.en_ret (v:=(.v (.int .i64 (.ofNat 15)))) (by kernel_rfl) rfl)))
 ·skip
  have ghqcto7_1:=eqI_false hqcto7_1
  exact goes_leafA isR_e (goes_told Try.checked.mixed (known_or known_aw known_iei) 200 (T':=qN3_23) (e:=.ret) (ps:=[(!eqI Y.length L.length)=true,true=true,true=true,true=true,true=true,true=true,true=true,true=true]) [.go,.go,.go,.go,.go,.go,.go,.go,.b true,.b true,.b true,.b true,.b true,.b true,.b true,.go,.b true,.go] (by kernel_rfl) (by kernel_rfl) ⟨(by rw [hqcto7_1]; rfl),rfl,rfl,rfl,rfl,rfl,rfl,rfl,trivial⟩ rfl) (Hd.en_o (by intro h; cases h) (Hd.en_eq (r:=(.int .i64 15)) (by rw [ctE_len (cE:=cQw E) (cL:=cR L) (n:=L.length) (cX:=cRw X) (m:=X.length) (cY:=cI Y) (k:=Y.length) (by omega)]) (Hd.en_ret (v:=(.v (.int .i64 (.ofNat 15)))) (by kernel_rfl) rfl)))
theorem cto_2 (y:Value) (E:List (Value×List (Int×Int))) (yl:Value) (L:List (Int×Int)) (u:Value) (X:List (Value×List Int)) (ul:Value) (Y:List Int) (hC:ccE (cQw E) E.length (cR L) L.length=0) (hX:X.length≤1000) (w:World) (hs:List Nat):Goes Try.prog 46 ctoK1 ((qN3_10 E L X Y u ul y yl)) (BaseW.H w hs) (OutH Try.prog Try.f52 46 (.int .i64 (ctE (cQw E) (cR L) L.length (cRw X) X.length (cI Y) Y.length)) w):=by
 have hcl_L:=cR_len L
 have hcl_Y:=cI_len Y
 obtain ⟨hn,hm3,hrow,hlam,hcur⟩:=ccE_zero hC
 refine Hd.goes_seqA (by kernel_rfl) ?_
 exact goes_leafA isN_e (goes_told Try.checked.mixed (known_or known_aw known_iei) 200 (T':=(qN3_8 E L X Y u ul y yl)) (e:=.normal) (ps:=[]) [.go,.go,.go] (by kernel_rfl) (by kernel_rfl) trivial rfl) (Hd.en_n (cto_5 y E yl L u X ul Y hC hX w hs))
theorem cto_g (y:Value) (E:List (Value×List (Int×Int))) (yl:Value) (L:List (Int×Int)) (u:Value) (X:List (Value×List Int)) (ul:Value) (Y:List Int) (hC:ccE (cQw E) E.length (cR L) L.length=0) (hX:X.length≤1000):GivesA Try.prog 52 [(qN3_16 E L y yl),(qN3_17 X Y u ul)] (.int .i64 (ctE (cQw E) (cR L) L.length (cRw X) X.length (cI Y) Y.length)) :=
 givesA_partsH 46 Try.func52 (by kernel_rfl) (by kernel_rfl) (by kernel_rfl) (fun w=>goes_less (by kernel_rfl) (by kernel_rfl) (by kernel_rfl) (by kernel_rfl) (cto_2 y E yl L u X ul Y hC hX w []))
noncomputable def ctrK1:Code:=bodyC Try.f30
noncomputable def ctrK3:Code:=tlC ctrK1
noncomputable def ctrK6:Code:=tlC ctrK3
noncomputable def ctrK9:Code:=tlC ctrK6
noncomputable def ctrK12:Code:=tlC ctrK9
noncomputable def ctrK13:Code:=(hdC ctrK9)
noncomputable def ctrK15:Code:=tlC ctrK13
noncomputable def ctrK19:Code:=loopC ctrK15
noncomputable def ctrK23:Code:=tlC ctrK12
noncomputable def ctrK24:Code:=(hdC ctrK12)
noncomputable def ctrK26:Code:=tlC ctrK24
noncomputable def ctrK30:Code:=loopC ctrK26
noncomputable def ctrK33:Code:=tlC ctrK30
noncomputable def ctrK36:Code:=tlC ctrK33
noncomputable def ctrK38:Code:=blkB (hdC ctrK33)
noncomputable def ctrK40:Code:=tlC ctrK38
noncomputable def ctrK43:Code:=tlC ctrK40
noncomputable def ctrK47:Code:=loopC ctrK43
theorem ctr_50 (y:Value) (E:List (Value×List (Int×Int))) (yl:Value) (L:List (Int×Int)) (u:Value) (X:List (Value×List Int)) (ul:Value) (Y:List Int) (hC:ccE (cQw E) E.length (cR L) L.length=0) (hX:X.length≤1000) (hqctr10_1:(qN3_18 L Y)=true) (hqctr10_2:(qN3_32 X)=true) (h0b:∀ k,k < (3)→xlN (cRw X) (k * 1)=L.length) (hqctr21_1:(ltI 3 3)=false) (b:Nat) (hb1:b≤L.length) (hb2:∀ k,k < b→wiAt (cR L) (cI Y) k∧∀ i,i < 3→wiAt (xlC (cQw E) (i * 1)) (xlC (cRw X) (i * 1)) k) (hqctr34_1:(ltI b L.length)=true) (hqctr41_1:(ltI (intAt (cI Y) (b * 1)) (intAt (cR L) (b * 2 + 0)))=false) (hqctr41_2:(ltI (intAt (cR L) (b * 2 + 1)) (intAt (cI Y) (b * 1)))=false) (hi2:∀ k,k < (3)→wiAt (xlC (cQw E) (k * 1)) (xlC (cRw X) (k * 1)) b) (hqctr49_1:(ltI 3 3)=false) (w:World) (hs:List Nat):Goes Try.prog 108 ctrK36 ((qN3_2 E L X Y b u ul y yl)) (BaseW.H w hs) (Hd.StepC Try.prog 108 2 (fun b:{b:Nat // b≤L.length∧∀ k,k < b→wiAt (cR L) (cI Y) k∧∀ i,i < 3→wiAt (xlC (cQw E) (i * 1)) (xlC (cRw X) (i * 1)) k}=>⟨[(2,(.ptr 0 0)),(3,(.ptr 1 0)),(qN3_22 L),(7,(.v (.int .i64 b.1)))],[],2,[(qN3_13 E L y yl),(qN3_12 X Y u ul)]⟩) (fun b:{b:Nat // b≤L.length∧∀ k,k < b→wiAt (cR L) (cI Y) k∧∀ i,i < 3→wiAt (xlC (cQw E) (i * 1)) (xlC (cRw X) (i * 1)) k}=>L.length - b.1) ctrK23 w (OutH Try.prog Try.f30 108 (.int .i64 (ctE (cQw E) (cR L) L.length (cRw X) X.length (cI Y) Y.length)) w) (⟨b,hb1,hb2⟩:{b:Nat // b≤L.length∧∀ k,k < b→wiAt (cR L) (cI Y) k∧∀ i,i < 3→wiAt (xlC (cQw E) (i * 1)) (xlC (cRw X) (i * 1)) k})):=by
 have hcl_L:=cR_len L
 have hcl_Y:=cI_len Y
 obtain ⟨hn,hm3,hrow,hlam,hcur⟩:=ccE_zero hC
 have ghqctr10_1:=eqI_true hqctr10_1
 have ghqctr10_2:=eqI_true hqctr10_2
 have ghqctr49_1:=ltI_false hqctr49_1
 have ghqctr34_1:=ltI_true hqctr34_1
 have hxr:∀ i,i < 3→xlN (cRw X) (i * 1)=L.length:=h0b
 have ghqctr41_1:=ltI_false hqctr41_1
 have ghqctr41_2:=ltI_false hqctr41_2
 exact goes_leafA isN_e (goes_told Try.checked.mixed (known_none) 200 (T':=⟨[(2,(.ptr 0 0)),(3,(.ptr 1 0)),(qN3_22 L),(7,(.v (.int .i64 (((b + 1):Nat):Int))))],[],2,[(qN3_13 E L y yl),(qN3_12 X Y u ul)]⟩) (e:=.normal) (ps:=[inR IntKind.i64 (((b:Nat):Int) + 1)]) [.go,.go,.go] (by kernel_rfl) (by kernel_rfl) ⟨(iRN3 (by omega) (by omega)),trivial⟩ rfl) (Hd.en_on (⟨b + 1,by omega,(up_next (q:=fun k=>wiAt (cR L) (cI Y) k∧∀ i,i < 3→wiAt (xlC (cQw E) (i * 1)) (xlC (cRw X) (i * 1)) k) hb2 ⟨by unfold wiAt; omega,hi2⟩)⟩) (by show L.length - (b + 1) < L.length - b; omega) rfl)
theorem ctr_48 (y:Value) (E:List (Value×List (Int×Int))) (yl:Value) (L:List (Int×Int)) (u:Value) (X:List (Value×List Int)) (ul:Value) (Y:List Int) (hC:ccE (cQw E) E.length (cR L) L.length=0) (hX:X.length≤1000) (hqctr10_1:(qN3_18 L Y)=true) (hqctr10_2:(qN3_32 X)=true) (h0b:∀ k,k < (3)→xlN (cRw X) (k * 1)=L.length) (hqctr21_1:(ltI 3 3)=false) (b:Nat) (hb1:b≤L.length) (hb2:∀ k,k < b→wiAt (cR L) (cI Y) k∧∀ i,i < 3→wiAt (xlC (cQw E) (i * 1)) (xlC (cRw X) (i * 1)) k) (hqctr34_1:(ltI b L.length)=true) (hqctr41_1:(ltI (intAt (cI Y) (b * 1)) (intAt (cR L) (b * 2 + 0)))=false) (hqctr41_2:(ltI (intAt (cR L) (b * 2 + 1)) (intAt (cI Y) (b * 1)))=false) (i:Nat) (hi1:i≤3) (hi2:∀ k,k < i→wiAt (xlC (cQw E) (k * 1)) (xlC (cRw X) (k * 1)) b) (w:World) (hs:List Nat):Goes Try.prog 108 ctrK47 (⟨[(2,(.ptr 0 0)),(3,(.ptr 1 0)),(qN3_22 L),(qN3_28 b),(8,(.v (.int .i64 i))),(53,(.ptr 1 1)),(qN3_30 Y ul),(qN3_27 b),(56,(AV.xp ul Y.length 1 (cI Y) (b * 1))),(qN3_25 Y b),(58,(.ptr 0 1)),(qN3_29 L yl),(qN3_26 b),(61,(AV.xp yl L.length 2 (cR L) (b * 2))),(62,(AV.xp yl L.length 2 (cR L) (b * 2 + 1))),(qN3_20 L b),(qN3_14 L Y b)],[],2,[(qN3_13 E L y yl),(qN3_12 X Y u ul)]⟩) (BaseW.H w hs) (Hd.StepL 108 4 (fun i:{i:Nat // i≤3∧∀ k,k < i→wiAt (xlC (cQw E) (k * 1)) (xlC (cRw X) (k * 1)) b}=>⟨[(2,(.ptr 0 0)),(3,(.ptr 1 0)),(qN3_22 L),(qN3_28 b),(8,(.v (.int .i64 i.1))),(53,(.ptr 1 1)),(qN3_30 Y ul),(qN3_27 b),(56,(AV.xp ul Y.length 1 (cI Y) (b * 1))),(qN3_25 Y b),(58,(.ptr 0 1)),(qN3_29 L yl),(qN3_26 b),(61,(AV.xp yl L.length 2 (cR L) (b * 2))),(62,(AV.xp yl L.length 2 (cR L) (b * 2 + 1))),(qN3_20 L b),(qN3_14 L Y b)],[],2,[(qN3_13 E L y yl),(qN3_12 X Y u ul)]⟩) (fun i:{i:Nat // i≤3∧∀ k,k < i→wiAt (xlC (cQw E) (k * 1)) (xlC (cRw X) (k * 1)) b}=>3 - i.1) w (Hd.AfterB Try.prog 108 3 ctrK36 w (Hd.StepC Try.prog 108 2 (fun b:{b:Nat // b≤L.length∧∀ k,k < b→wiAt (cR L) (cI Y) k∧∀ i,i < 3→wiAt (xlC (cQw E) (i * 1)) (xlC (cRw X) (i * 1)) k}=>⟨[(2,(.ptr 0 0)),(3,(.ptr 1 0)),(qN3_22 L),(7,(.v (.int .i64 b.1)))],[],2,[(qN3_13 E L y yl),(qN3_12 X Y u ul)]⟩) (fun b:{b:Nat // b≤L.length∧∀ k,k < b→wiAt (cR L) (cI Y) k∧∀ i,i < 3→wiAt (xlC (cQw E) (i * 1)) (xlC (cRw X) (i * 1)) k}=>L.length - b.1) ctrK23 w (OutH Try.prog Try.f30 108 (.int .i64 (ctE (cQw E) (cR L) L.length (cRw X) X.length (cI Y) Y.length)) w) (⟨b,hb1,hb2⟩:{b:Nat // b≤L.length∧∀ k,k < b→wiAt (cR L) (cI Y) k∧∀ i,i < 3→wiAt (xlC (cQw E) (i * 1)) (xlC (cRw X) (i * 1)) k}))) (⟨i,hi1,hi2⟩:{i:Nat // i≤3∧∀ k,k < i→wiAt (xlC (cQw E) (k * 1)) (xlC (cRw X) (k * 1)) b})):=by
 have hcl_L:=cR_len L
 have hcl_Y:=cI_len Y
 obtain ⟨hn,hm3,hrow,hlam,hcur⟩:=ccE_zero hC
 have ghqctr10_1:=eqI_true hqctr10_1
 have ghqctr10_2:=eqI_true hqctr10_2
 have ghqctr21_1:=ltI_false hqctr21_1
 have ghqctr34_1:=ltI_true hqctr34_1
 have hxr:∀ i,i < 3→xlN (cRw X) (i * 1)=L.length:=h0b
 have ghqctr41_1:=ltI_false hqctr41_1
 have ghqctr41_2:=ltI_false hqctr41_2
 rcases Bool.eq_false_or_eq_true (ltI i 3) with hqctr49_1 | hqctr49_1
 ·skip
  have ghqctr49_1:=ltI_true hqctr49_1
  rcases Bool.eq_false_or_eq_true (ltI (intAt (xlC (cRw X) (i * 1)) (b * 1)) (intAt (xlC (cQw E) (i * 1)) (b * 2 + 0))) with hqctr49_2 | hqctr49_2
  ·skip
   have ghqctr49_2:=ltI_true hqctr49_2
   exact goes_leafA isR_e (goes_told Try.checked.mixed (known_none) 200 (T':=qN3_24) (e:=.ret) (ps:=[ltI i 3=true,i < X.length,loadL Try.prog (cRw X) (i * 1) 27=some (AV.xl (xlY (cRw X) (i * 1)) (xlN (cRw X) (i * 1)) 1 (xlC (cRw X) (i * 1))),b < xlN (cRw X) (i * 1),loadL Try.prog (xlC (cRw X) (i * 1)) (b * 1) 2=some (AV.v (Value.int IntKind.i64 (intAt (xlC (cRw X) (i * 1)) (b * 1)))),i < E.length,loadL Try.prog (cQw E) (i * 1) 23=some (AV.xl (xlY (cQw E) (i * 1)) (xlN (cQw E) (i * 1)) 2 (xlC (cQw E) (i * 1))),b < xlN (cQw E) (i * 1),b * 2 + 0 < ((xlC (cQw E) (i * 1)):List AV).length,loadL Try.prog (xlC (cQw E) (i * 1)) (b * 2 + 0) 2=some (AV.v (Value.int IntKind.i64 (intAt (xlC (cQw E) (i * 1)) (b * 2 + 0)))),ltI (intAt (xlC (cRw X) (i * 1)) (b * 1)) (intAt (xlC (cQw E) (i * 1)) (b * 2 + 0))=true,true=true,true=true,true=true,true=true,true=true,true=true,true=true,true=true,true=true,true=true,true=true,true=true,true=true,true=true,true=true,true=true,true=true,true=true]) [.go,.go,.b true,.go,.go,.go,.sym,.sym,.go,.sym,.sym,.go,.go,.go,.sym,.sym,.go,.sym,.sym,.sym,.go,.go,.b true,.b true,.b true,.b true,.b true,.b true,.b true,.b true,.b true,.b true,.b true,.b true,.b true,.b true,.b true,.b true,.b true,.b true,.go,.b true,.go] (by kernel_rfl) (by kernel_rfl) ⟨hqctr49_1,(by omega),(by rw [Nat.mul_one]; exact cRw_load (by omega) 27 (Try.underlying27) rfl),(by have h9:=hrow i (by omega); have h8:=hxr i (by omega); omega),(by have h8:=hxr i (by omega); obtain ⟨-,L9,e9,n9⟩:=cRw_isI (R:=X) (i:=i) (by omega); rw [e9,Nat.mul_one]; exact cI_load (by omega) 2 (Try.underlying2) rfl),(by omega),(by rw [Nat.mul_one]; exact cQw_load (by omega) 23 (Try.underlying23) rfl),(by have h9:=hrow i (by omega); have h8:=hxr i (by omega); omega),(by have h8:=hrow i (by omega); obtain ⟨-,P9,e9,n9⟩:=cQw_isP (R:=E) (i:=i) (by omega); rw [e9,cR_len]; omega),(by have h8:=hrow i (by omega); obtain ⟨-,P9,e9,n9⟩:=cQw_isP (R:=E) (i:=i) (by omega); rw [e9]; exact cR_ld (i:=b) (by omega) (by omega) 2 (Try.underlying2) rfl),hqctr49_2,rfl,rfl,rfl,rfl,rfl,rfl,rfl,rfl,rfl,rfl,rfl,rfl,rfl,rfl,rfl,rfl,rfl,rfl,trivial⟩ rfl) (Hd.en_to (by intro h; cases h) (by intro h; cases h) (Hd.en_bo (by intro h; cases h) (by intro h; cases h) (Hd.en_so (by intro h; cases h) (by intro h; cases h) (Hd.en_eq (r:=(.int .i64 3)) (by rw [ctE_curve (cE:=cQw E) (cL:=cR L) (n:=L.length) (cX:=cRw X) (m:=X.length) (cY:=cI Y) (k:=Y.length) (by omega) (eyB_true.2 ⟨by omega,fun i hi=>h0b i (by omega)⟩) (i:=i) (by omega) (fun h9=>by have h8:=allB_true.1 h9 b (by omega); unfold wiAt at h8; omega)]) (Hd.en_ret (v:=(.v (.int .i64 (.ofNat 3)))) (by kernel_rfl) rfl)))))
  ·skip
   have ghqctr49_2:=ltI_false hqctr49_2
   rcases Bool.eq_false_or_eq_true (ltI (intAt (xlC (cQw E) (i * 1)) (b * 2 + 1)) (intAt (xlC (cRw X) (i * 1)) (b * 1))) with hqctr49_3 | hqctr49_3
   ·skip
    have ghqctr49_3:=ltI_true hqctr49_3
    exact goes_leafA isR_e (goes_told Try.checked.mixed (known_none) 200 (T':=qN3_24) (e:=.ret) (ps:=[ltI i 3=true,i < X.length,loadL Try.prog (cRw X) (i * 1) 27=some (AV.xl (xlY (cRw X) (i * 1)) (xlN (cRw X) (i * 1)) 1 (xlC (cRw X) (i * 1))),b < xlN (cRw X) (i * 1),loadL Try.prog (xlC (cRw X) (i * 1)) (b * 1) 2=some (AV.v (Value.int IntKind.i64 (intAt (xlC (cRw X) (i * 1)) (b * 1)))),i < E.length,loadL Try.prog (cQw E) (i * 1) 23=some (AV.xl (xlY (cQw E) (i * 1)) (xlN (cQw E) (i * 1)) 2 (xlC (cQw E) (i * 1))),b < xlN (cQw E) (i * 1),b * 2 + 0 < ((xlC (cQw E) (i * 1)):List AV).length,loadL Try.prog (xlC (cQw E) (i * 1)) (b * 2 + 0) 2=some (AV.v (Value.int IntKind.i64 (intAt (xlC (cQw E) (i * 1)) (b * 2 + 0)))),ltI (intAt (xlC (cRw X) (i * 1)) (b * 1)) (intAt (xlC (cQw E) (i * 1)) (b * 2 + 0))=false,false=false,false=false,false=false,i < X.length,false=false,loadL Try.prog (cRw X) (i * 1) 27=some (AV.xl (xlY (cRw X) (i * 1)) (xlN (cRw X) (i * 1)) 1 (xlC (cRw X) (i * 1))),false=false,false=false,b < xlN (cRw X) (i * 1),false=false,loadL Try.prog (xlC (cRw X) (i * 1)) (b * 1) 2=some (AV.v (Value.int IntKind.i64 (intAt (xlC (cRw X) (i * 1)) (b * 1)))),false=false,false=false,false=false,false=false,i < E.length,false=false,loadL Try.prog (cQw E) (i * 1) 23=some (AV.xl (xlY (cQw E) (i * 1)) (xlN (cQw E) (i * 1)) 2 (xlC (cQw E) (i * 1))),false=false,false=false,b < xlN (cQw E) (i * 1),false=false,b * 2 + 1 < ((xlC (cQw E) (i * 1)):List AV).length,false=false,loadL Try.prog (xlC (cQw E) (i * 1)) (b * 2 + 1) 2=some (AV.v (Value.int IntKind.i64 (intAt (xlC (cQw E) (i * 1)) (b * 2 + 1)))),false=false,ltI (intAt (xlC (cQw E) (i * 1)) (b * 2 + 1)) (intAt (xlC (cRw X) (i * 1)) (b * 1))=true]) [.go,.go,.b true,.go,.go,.go,.sym,.sym,.go,.sym,.sym,.go,.go,.go,.sym,.sym,.go,.sym,.sym,.sym,.go,.go,.b false,.go,.b false,.go,.b false,.go,.b false,.sym,.b false,.sym,.b false,.go,.b false,.sym,.b false,.sym,.b false,.go,.b false,.go,.b false,.go,.b false,.sym,.b false,.sym,.b false,.go,.b false,.sym,.b false,.sym,.b false,.sym,.b false,.go,.go,.b true,.go] (by kernel_rfl) (by kernel_rfl) ⟨hqctr49_1,(by omega),(by rw [Nat.mul_one]; exact cRw_load (by omega) 27 (Try.underlying27) rfl),(by have h9:=hrow i (by omega); have h8:=hxr i (by omega); omega),(by have h8:=hxr i (by omega); obtain ⟨-,L9,e9,n9⟩:=cRw_isI (R:=X) (i:=i) (by omega); rw [e9,Nat.mul_one]; exact cI_load (by omega) 2 (Try.underlying2) rfl),(by omega),(by rw [Nat.mul_one]; exact cQw_load (by omega) 23 (Try.underlying23) rfl),(by have h9:=hrow i (by omega); have h8:=hxr i (by omega); omega),(by have h8:=hrow i (by omega); obtain ⟨-,P9,e9,n9⟩:=cQw_isP (R:=E) (i:=i) (by omega); rw [e9,cR_len]; omega),(by have h8:=hrow i (by omega); obtain ⟨-,P9,e9,n9⟩:=cQw_isP (R:=E) (i:=i) (by omega); rw [e9]; exact cR_ld (i:=b) (by omega) (by omega) 2 (Try.underlying2) rfl),hqctr49_2,rfl,rfl,rfl,(by omega),rfl,(by rw [Nat.mul_one]; exact cRw_load (by omega) 27 (Try.underlying27) rfl),rfl,rfl,(by have h9:=hrow i (by omega); have h8:=hxr i (by omega); omega),rfl,(by have h8:=hxr i (by omega); obtain ⟨-,L9,e9,n9⟩:=cRw_isI (R:=X) (i:=i) (by omega); rw [e9,Nat.mul_one]; exact cI_load (by omega) 2 (Try.underlying2) rfl),rfl,rfl,rfl,rfl,(by omega),rfl,(by rw [Nat.mul_one]; exact cQw_load (by omega) 23 (Try.underlying23) rfl),rfl,rfl,(by have h9:=hrow i (by omega); have h8:=hxr i (by omega); omega),rfl,(by have h8:=hrow i (by omega); obtain ⟨-,P9,e9,n9⟩:=cQw_isP (R:=E) (i:=i) (by omega); rw [e9,cR_len]; omega),rfl,(by have h8:=hrow i (by omega); obtain ⟨-,P9,e9,n9⟩:=cQw_isP (R:=E) (i:=i) (by omega); rw [e9]; exact cR_ld (i:=b) (by omega) (by omega) 2 (Try.underlying2) rfl),rfl,hqctr49_3,trivial⟩ rfl) (Hd.en_to (by intro h; cases h) (by intro h; cases h) (Hd.en_bo (by intro h; cases h) (by intro h; cases h) (Hd.en_so (by intro h; cases h) (by intro h; cases h) (Hd.en_eq (r:=(.int .i64 3)) (by rw [ctE_curve (cE:=cQw E) (cL:=cR L) (n:=L.length) (cX:=cRw X) (m:=X.length) (cY:=cI Y) (k:=Y.length) (by omega) (eyB_true.2 ⟨by omega,fun i hi=>h0b i (by omega)⟩) (i:=i) (by omega) (fun h9=>by have h8:=allB_true.1 h9 b (by omega); unfold wiAt at h8; omega)]) (Hd.en_ret (v:=(.v (.int .i64 (.ofNat 3)))) (by kernel_rfl) rfl)))))
   ·skip
    have ghqctr49_3:=ltI_false hqctr49_3
    exact goes_leafA isN_e (goes_told Try.checked.mixed (known_none) 200 (T':=⟨[(2,(.ptr 0 0)),(3,(.ptr 1 0)),(qN3_22 L),(qN3_28 b),(8,(.v (.int .i64 (((i + 1):Nat):Int)))),(53,(.ptr 1 1)),(qN3_30 Y ul),(qN3_27 b),(56,(AV.xp ul Y.length 1 (cI Y) (b * 1))),(qN3_25 Y b),(58,(.ptr 0 1)),(qN3_29 L yl),(qN3_26 b),(61,(AV.xp yl L.length 2 (cR L) (b * 2))),(62,(AV.xp yl L.length 2 (cR L) (b * 2 + 1))),(qN3_20 L b),(qN3_14 L Y b)],[],2,[(qN3_13 E L y yl),(qN3_12 X Y u ul)]⟩) (e:=.normal) (ps:=[ltI i 3=true,i < X.length,loadL Try.prog (cRw X) (i * 1) 27=some (AV.xl (xlY (cRw X) (i * 1)) (xlN (cRw X) (i * 1)) 1 (xlC (cRw X) (i * 1))),b < xlN (cRw X) (i * 1),loadL Try.prog (xlC (cRw X) (i * 1)) (b * 1) 2=some (AV.v (Value.int IntKind.i64 (intAt (xlC (cRw X) (i * 1)) (b * 1)))),i < E.length,loadL Try.prog (cQw E) (i * 1) 23=some (AV.xl (xlY (cQw E) (i * 1)) (xlN (cQw E) (i * 1)) 2 (xlC (cQw E) (i * 1))),b < xlN (cQw E) (i * 1),b * 2 + 0 < ((xlC (cQw E) (i * 1)):List AV).length,loadL Try.prog (xlC (cQw E) (i * 1)) (b * 2 + 0) 2=some (AV.v (Value.int IntKind.i64 (intAt (xlC (cQw E) (i * 1)) (b * 2 + 0)))),ltI (intAt (xlC (cRw X) (i * 1)) (b * 1)) (intAt (xlC (cQw E) (i * 1)) (b * 2 + 0))=false,false=false,false=false,false=false,i < X.length,false=false,loadL Try.prog (cRw X) (i * 1) 27=some (AV.xl (xlY (cRw X) (i * 1)) (xlN (cRw X) (i * 1)) 1 (xlC (cRw X) (i * 1))),false=false,false=false,b < xlN (cRw X) (i * 1),false=false,loadL Try.prog (xlC (cRw X) (i * 1)) (b * 1) 2=some (AV.v (Value.int IntKind.i64 (intAt (xlC (cRw X) (i * 1)) (b * 1)))),false=false,false=false,false=false,false=false,i < E.length,false=false,loadL Try.prog (cQw E) (i * 1) 23=some (AV.xl (xlY (cQw E) (i * 1)) (xlN (cQw E) (i * 1)) 2 (xlC (cQw E) (i * 1))),false=false,false=false,b < xlN (cQw E) (i * 1),false=false,b * 2 + 1 < ((xlC (cQw E) (i * 1)):List AV).length,false=false,loadL Try.prog (xlC (cQw E) (i * 1)) (b * 2 + 1) 2=some (AV.v (Value.int IntKind.i64 (intAt (xlC (cQw E) (i * 1)) (b * 2 + 1)))),false=false,ltI (intAt (xlC (cQw E) (i * 1)) (b * 2 + 1)) (intAt (xlC (cRw X) (i * 1)) (b * 1))=false,inR IntKind.i64 (((i:Nat):Int) + 1)]) [.go,.go,.b true,.go,.go,.go,.sym,.sym,.go,.sym,.sym,.go,.go,.go,.sym,.sym,.go,.sym,.sym,.sym,.go,.go,.b false,.go,.b false,.go,.b false,.go,.b false,.sym,.b false,.sym,.b false,.go,.b false,.sym,.b false,.sym,.b false,.go,.b false,.go,.b false,.go,.b false,.sym,.b false,.sym,.b false,.go,.b false,.sym,.b false,.sym,.b false,.sym,.b false,.go,.go,.b false,.go,.go,.go] (by kernel_rfl) (by kernel_rfl) ⟨hqctr49_1,(by omega),(by rw [Nat.mul_one]; exact cRw_load (by omega) 27 (Try.underlying27) rfl),(by have h9:=hrow i (by omega); have h8:=hxr i (by omega); omega),(by have h8:=hxr i (by omega); obtain ⟨-,L9,e9,n9⟩:=cRw_isI (R:=X) (i:=i) (by omega); rw [e9,Nat.mul_one]; exact cI_load (by omega) 2 (Try.underlying2) rfl),(by omega),(by rw [Nat.mul_one]; exact cQw_load (by omega) 23 (Try.underlying23) rfl),(by have h9:=hrow i (by omega); have h8:=hxr i (by omega); omega),(by have h8:=hrow i (by omega); obtain ⟨-,P9,e9,n9⟩:=cQw_isP (R:=E) (i:=i) (by omega); rw [e9,cR_len]; omega),(by have h8:=hrow i (by omega); obtain ⟨-,P9,e9,n9⟩:=cQw_isP (R:=E) (i:=i) (by omega); rw [e9]; exact cR_ld (i:=b) (by omega) (by omega) 2 (Try.underlying2) rfl),hqctr49_2,rfl,rfl,rfl,(by omega),rfl,(by rw [Nat.mul_one]; exact cRw_load (by omega) 27 (Try.underlying27) rfl),rfl,rfl,(by have h9:=hrow i (by omega); have h8:=hxr i (by omega); omega),rfl,(by have h8:=hxr i (by omega); obtain ⟨-,L9,e9,n9⟩:=cRw_isI (R:=X) (i:=i) (by omega); rw [e9,Nat.mul_one]; exact cI_load (by omega) 2 (Try.underlying2) rfl),rfl,rfl,rfl,rfl,(by omega),rfl,(by rw [Nat.mul_one]; exact cQw_load (by omega) 23 (Try.underlying23) rfl),rfl,rfl,(by have h9:=hrow i (by omega); have h8:=hxr i (by omega); omega),rfl,(by have h8:=hrow i (by omega); obtain ⟨-,P9,e9,n9⟩:=cQw_isP (R:=E) (i:=i) (by omega); rw [e9,cR_len]; omega),rfl,(by have h8:=hrow i (by omega); obtain ⟨-,P9,e9,n9⟩:=cQw_isP (R:=E) (i:=i) (by omega); rw [e9]; exact cR_ld (i:=b) (by omega) (by omega) 2 (Try.underlying2) rfl),rfl,hqctr49_3,(iRN3 (by omega) (by omega)),trivial⟩ rfl) (Hd.en_tn (⟨i + 1,by omega,(up_next (q:=fun k=>wiAt (xlC (cQw E) (k * 1)) (xlC (cRw X) (k * 1)) b) hi2 (by unfold wiAt; omega))⟩) (by show 3 - (i + 1) < 3 - i; omega) rfl)
 ·skip
  have ghqctr49_1:=ltI_false hqctr49_1
  obtain rfl:3=i:=by omega
  exact goes_leafA isX_e (goes_told Try.checked.mixed (known_none) 200 (T':=(qN3_2 E L X Y b u ul y yl)) (e:=.exit 4) (ps:=[ltI 3 3=false]) [.go,.go,.b false] (by kernel_rfl) (by kernel_rfl) ⟨hqctr49_1,trivial⟩ rfl) (Hd.en_tx (Hd.en_bn (ctr_50 y E yl L u X ul Y hC hX hqctr10_1 hqctr10_2 h0b hqctr21_1 b hb1 hb2 hqctr34_1 hqctr41_1 hqctr41_2 hi2 hqctr49_1 w hs)))
theorem ctr_46 (y:Value) (E:List (Value×List (Int×Int))) (yl:Value) (L:List (Int×Int)) (u:Value) (X:List (Value×List Int)) (ul:Value) (Y:List Int) (hC:ccE (cQw E) E.length (cR L) L.length=0) (hX:X.length≤1000) (hqctr10_1:(qN3_18 L Y)=true) (hqctr10_2:(qN3_32 X)=true) (h0b:∀ k,k < (3)→xlN (cRw X) (k * 1)=L.length) (hqctr21_1:(ltI 3 3)=false) (b:Nat) (hb1:b≤L.length) (hb2:∀ k,k < b→wiAt (cR L) (cI Y) k∧∀ i,i < 3→wiAt (xlC (cQw E) (i * 1)) (xlC (cRw X) (i * 1)) k) (hqctr34_1:(ltI b L.length)=true) (hqctr41_1:(ltI (intAt (cI Y) (b * 1)) (intAt (cR L) (b * 2 + 0)))=false) (hqctr41_2:(ltI (intAt (cR L) (b * 2 + 1)) (intAt (cI Y) (b * 1)))=false) (w:World) (hs:List Nat):Goes Try.prog 108 ctrK43 ((qN3_1 E L X Y b u ul y yl)) (BaseW.H w hs) (Hd.AfterB Try.prog 108 3 ctrK36 w (Hd.StepC Try.prog 108 2 (fun b:{b:Nat // b≤L.length∧∀ k,k < b→wiAt (cR L) (cI Y) k∧∀ i,i < 3→wiAt (xlC (cQw E) (i * 1)) (xlC (cRw X) (i * 1)) k}=>⟨[(2,(.ptr 0 0)),(3,(.ptr 1 0)),(qN3_22 L),(7,(.v (.int .i64 b.1)))],[],2,[(qN3_13 E L y yl),(qN3_12 X Y u ul)]⟩) (fun b:{b:Nat // b≤L.length∧∀ k,k < b→wiAt (cR L) (cI Y) k∧∀ i,i < 3→wiAt (xlC (cQw E) (i * 1)) (xlC (cRw X) (i * 1)) k}=>L.length - b.1) ctrK23 w (OutH Try.prog Try.f30 108 (.int .i64 (ctE (cQw E) (cR L) L.length (cRw X) X.length (cI Y) Y.length)) w) (⟨b,hb1,hb2⟩:{b:Nat // b≤L.length∧∀ k,k < b→wiAt (cR L) (cI Y) k∧∀ i,i < 3→wiAt (xlC (cQw E) (i * 1)) (xlC (cRw X) (i * 1)) k}))):=by
 have hcl_L:=cR_len L
 have hcl_Y:=cI_len Y
 obtain ⟨hn,hm3,hrow,hlam,hcur⟩:=ccE_zero hC
 have ghqctr10_1:=eqI_true hqctr10_1
 have ghqctr10_2:=eqI_true hqctr10_2
 have ghqctr21_1:=ltI_false hqctr21_1
 have ghqctr34_1:=ltI_true hqctr34_1
 have hxr:∀ i,i < 3→xlN (cRw X) (i * 1)=L.length:=h0b
 have ghqctr41_1:=ltI_false hqctr41_1
 have ghqctr41_2:=ltI_false hqctr41_2
 exact Hd.goes_loopL (id:=4) (by kernel_rfl) (by kernel_rfl) (fun i:{i:Nat // i≤3∧∀ k,k < i→wiAt (xlC (cQw E) (k * 1)) (xlC (cRw X) (k * 1)) b}=>⟨[(2,(.ptr 0 0)),(3,(.ptr 1 0)),(qN3_22 L),(qN3_28 b),(8,(.v (.int .i64 i.1))),(53,(.ptr 1 1)),(qN3_30 Y ul),(qN3_27 b),(56,(AV.xp ul Y.length 1 (cI Y) (b * 1))),(qN3_25 Y b),(58,(.ptr 0 1)),(qN3_29 L yl),(qN3_26 b),(61,(AV.xp yl L.length 2 (cR L) (b * 2))),(62,(AV.xp yl L.length 2 (cR L) (b * 2 + 1))),(qN3_20 L b),(qN3_14 L Y b)],[],2,[(qN3_13 E L y yl),(qN3_12 X Y u ul)]⟩) (fun i:{i:Nat // i≤3∧∀ k,k < i→wiAt (xlC (cQw E) (k * 1)) (xlC (cRw X) (k * 1)) b}=>3 - i.1) (fun ix_ hs=>ctr_48 y E yl L u X ul Y hC hX hqctr10_1 hqctr10_2 h0b hqctr21_1 b hb1 hb2 hqctr34_1 hqctr41_1 hqctr41_2 ix_.1 ix_.2.1 ix_.2.2 w hs) ⟨0,Nat.zero_le _,(fun j hj=>by omega)⟩ hs
theorem ctr_45 (y:Value) (E:List (Value×List (Int×Int))) (yl:Value) (L:List (Int×Int)) (u:Value) (X:List (Value×List Int)) (ul:Value) (Y:List Int) (hC:ccE (cQw E) E.length (cR L) L.length=0) (hX:X.length≤1000) (hqctr10_1:(qN3_18 L Y)=true) (hqctr10_2:(qN3_32 X)=true) (h0b:∀ k,k < (3)→xlN (cRw X) (k * 1)=L.length) (hqctr21_1:(ltI 3 3)=false) (b:Nat) (hb1:b≤L.length) (hb2:∀ k,k < b→wiAt (cR L) (cI Y) k∧∀ i,i < 3→wiAt (xlC (cQw E) (i * 1)) (xlC (cRw X) (i * 1)) k) (hqctr34_1:(ltI b L.length)=true) (hqctr41_1:(ltI (intAt (cI Y) (b * 1)) (intAt (cR L) (b * 2 + 0)))=false) (hqctr41_2:(ltI (intAt (cR L) (b * 2 + 1)) (intAt (cI Y) (b * 1)))=false) (w:World) (hs:List Nat):Goes Try.prog 108 ctrK43 ((qN3_1 E L X Y b u ul y yl)) (BaseW.H w hs) (Hd.AfterB Try.prog 108 3 ctrK36 w (Hd.StepC Try.prog 108 2 (fun b:{b:Nat // b≤L.length∧∀ k,k < b→wiAt (cR L) (cI Y) k∧∀ i,i < 3→wiAt (xlC (cQw E) (i * 1)) (xlC (cRw X) (i * 1)) k}=>⟨[(2,(.ptr 0 0)),(3,(.ptr 1 0)),(qN3_22 L),(7,(.v (.int .i64 b.1)))],[],2,[(qN3_13 E L y yl),(qN3_12 X Y u ul)]⟩) (fun b:{b:Nat // b≤L.length∧∀ k,k < b→wiAt (cR L) (cI Y) k∧∀ i,i < 3→wiAt (xlC (cQw E) (i * 1)) (xlC (cRw X) (i * 1)) k}=>L.length - b.1) ctrK23 w (OutH Try.prog Try.f30 108 (.int .i64 (ctE (cQw E) (cR L) L.length (cRw X) X.length (cI Y) Y.length)) w) (⟨b,hb1,hb2⟩:{b:Nat // b≤L.length∧∀ k,k < b→wiAt (cR L) (cI Y) k∧∀ i,i < 3→wiAt (xlC (cQw E) (i * 1)) (xlC (cRw X) (i * 1)) k}))):=by
 exact ctr_46 y E yl L u X ul Y hC hX hqctr10_1 hqctr10_2 h0b hqctr21_1 b hb1 hb2 hqctr34_1 hqctr41_1 hqctr41_2 w hs
theorem ctr_42 (y:Value) (E:List (Value×List (Int×Int))) (yl:Value) (L:List (Int×Int)) (u:Value) (X:List (Value×List Int)) (ul:Value) (Y:List Int) (hC:ccE (cQw E) E.length (cR L) L.length=0) (hX:X.length≤1000) (hqctr10_1:(qN3_18 L Y)=true) (hqctr10_2:(qN3_32 X)=true) (h0b:∀ k,k < (3)→xlN (cRw X) (k * 1)=L.length) (hqctr21_1:(ltI 3 3)=false) (b:Nat) (hb1:b≤L.length) (hb2:∀ k,k < b→wiAt (cR L) (cI Y) k∧∀ i,i < 3→wiAt (xlC (cQw E) (i * 1)) (xlC (cRw X) (i * 1)) k) (hqctr34_1:(ltI b L.length)=true) (hqctr41_1:(ltI (intAt (cI Y) (b * 1)) (intAt (cR L) (b * 2 + 0)))=false) (hqctr41_2:(ltI (intAt (cR L) (b * 2 + 1)) (intAt (cI Y) (b * 1)))=false) (w:World) (hs:List Nat):Goes Try.prog 108 ctrK40 ((qN3_2 E L X Y b u ul y yl)) (BaseW.H w hs) (Hd.AfterB Try.prog 108 3 ctrK36 w (Hd.StepC Try.prog 108 2 (fun b:{b:Nat // b≤L.length∧∀ k,k < b→wiAt (cR L) (cI Y) k∧∀ i,i < 3→wiAt (xlC (cQw E) (i * 1)) (xlC (cRw X) (i * 1)) k}=>⟨[(2,(.ptr 0 0)),(3,(.ptr 1 0)),(qN3_22 L),(7,(.v (.int .i64 b.1)))],[],2,[(qN3_13 E L y yl),(qN3_12 X Y u ul)]⟩) (fun b:{b:Nat // b≤L.length∧∀ k,k < b→wiAt (cR L) (cI Y) k∧∀ i,i < 3→wiAt (xlC (cQw E) (i * 1)) (xlC (cRw X) (i * 1)) k}=>L.length - b.1) ctrK23 w (OutH Try.prog Try.f30 108 (.int .i64 (ctE (cQw E) (cR L) L.length (cRw X) X.length (cI Y) Y.length)) w) (⟨b,hb1,hb2⟩:{b:Nat // b≤L.length∧∀ k,k < b→wiAt (cR L) (cI Y) k∧∀ i,i < 3→wiAt (xlC (cQw E) (i * 1)) (xlC (cRw X) (i * 1)) k}))):=by
 have hcl_L:=cR_len L
 have hcl_Y:=cI_len Y
 obtain ⟨hn,hm3,hrow,hlam,hcur⟩:=ccE_zero hC
 have ghqctr10_1:=eqI_true hqctr10_1
 have ghqctr10_2:=eqI_true hqctr10_2
 have ghqctr21_1:=ltI_false hqctr21_1
 have ghqctr34_1:=ltI_true hqctr34_1
 have hxr:∀ i,i < 3→xlN (cRw X) (i * 1)=L.length:=h0b
 have ghqctr41_1:=ltI_false hqctr41_1
 have ghqctr41_2:=ltI_false hqctr41_2
 refine Hd.goes_seqA (by kernel_rfl) ?_
 exact goes_leafA isN_e (goes_told Try.checked.mixed (known_none) 200 (T':=(qN3_1 E L X Y b u ul y yl)) (e:=.normal) (ps:=[]) [.go] (by kernel_rfl) (by kernel_rfl) trivial rfl) (Hd.en_n (ctr_45 y E yl L u X ul Y hC hX hqctr10_1 hqctr10_2 h0b hqctr21_1 b hb1 hb2 hqctr34_1 hqctr41_1 hqctr41_2 w hs))
theorem ctr_39 (y:Value) (E:List (Value×List (Int×Int))) (yl:Value) (L:List (Int×Int)) (u:Value) (X:List (Value×List Int)) (ul:Value) (Y:List Int) (hC:ccE (cQw E) E.length (cR L) L.length=0) (hX:X.length≤1000) (hqctr10_1:(qN3_18 L Y)=true) (hqctr10_2:(qN3_32 X)=true) (h0b:∀ k,k < (3)→xlN (cRw X) (k * 1)=L.length) (hqctr21_1:(ltI 3 3)=false) (b:Nat) (hb1:b≤L.length) (hb2:∀ k,k < b→wiAt (cR L) (cI Y) k∧∀ i,i < 3→wiAt (xlC (cQw E) (i * 1)) (xlC (cRw X) (i * 1)) k) (hqctr34_1:(ltI b L.length)=true) (w:World) (hs:List Nat):Goes Try.prog 108 ctrK38 ((qN3_3 E L X Y b u ul y yl)) (BaseW.H w hs) (Hd.AfterB Try.prog 108 3 ctrK36 w (Hd.StepC Try.prog 108 2 (fun b:{b:Nat // b≤L.length∧∀ k,k < b→wiAt (cR L) (cI Y) k∧∀ i,i < 3→wiAt (xlC (cQw E) (i * 1)) (xlC (cRw X) (i * 1)) k}=>⟨[(2,(.ptr 0 0)),(3,(.ptr 1 0)),(qN3_22 L),(7,(.v (.int .i64 b.1)))],[],2,[(qN3_13 E L y yl),(qN3_12 X Y u ul)]⟩) (fun b:{b:Nat // b≤L.length∧∀ k,k < b→wiAt (cR L) (cI Y) k∧∀ i,i < 3→wiAt (xlC (cQw E) (i * 1)) (xlC (cRw X) (i * 1)) k}=>L.length - b.1) ctrK23 w (OutH Try.prog Try.f30 108 (.int .i64 (ctE (cQw E) (cR L) L.length (cRw X) X.length (cI Y) Y.length)) w) (⟨b,hb1,hb2⟩:{b:Nat // b≤L.length∧∀ k,k < b→wiAt (cR L) (cI Y) k∧∀ i,i < 3→wiAt (xlC (cQw E) (i * 1)) (xlC (cRw X) (i * 1)) k}))):=by
 have hcl_L:=cR_len L
 have hcl_Y:=cI_len Y
 obtain ⟨hn,hm3,hrow,hlam,hcur⟩:=ccE_zero hC
 have ghqctr10_1:=eqI_true hqctr10_1
 have ghqctr10_2:=eqI_true hqctr10_2
 have ghqctr21_1:=ltI_false hqctr21_1
 have ghqctr34_1:=ltI_true hqctr34_1
 have hxr:∀ i,i < 3→xlN (cRw X) (i * 1)=L.length:=h0b
 refine Hd.goes_seqA (by kernel_rfl) ?_
 rcases Bool.eq_false_or_eq_true (ltI (intAt (cI Y) (b * 1)) (intAt (cR L) (b * 2 + 0))) with hqctr41_1 | hqctr41_1
 ·skip
  have ghqctr41_1:=ltI_true hqctr41_1
  exact goes_leafA isR_e (goes_told Try.checked.mixed (known_none) 200 (T':=qN3_24) (e:=.ret) (ps:=[b < Y.length,loadL Try.prog (cI Y) (b * 1) 2=some (AV.v (Value.int IntKind.i64 (intAt (cI Y) (b * 1)))),b < L.length,b * 2 + 0 < ((cR L):List AV).length,loadL Try.prog (cR L) (b * 2 + 0) 2=some (AV.v (Value.int IntKind.i64 (intAt (cR L) (b * 2 + 0)))),ltI (intAt (cI Y) (b * 1)) (intAt (cR L) (b * 2 + 0))=true,true=true,true=true,true=true,true=true,true=true,true=true,true=true,true=true,true=true,true=true,true=true,true=true]) [.go,.go,.go,.sym,.sym,.go,.go,.go,.sym,.sym,.sym,.go,.go,.b true,.b true,.b true,.b true,.b true,.b true,.b true,.b true,.b true,.b true,.b true,.b true,.go,.b true,.go] (by kernel_rfl) (by kernel_rfl) ⟨(by omega),(by rw [Nat.mul_one]; exact cI_load (show _ < Y.length by omega) 2 (Try.underlying2) rfl),(by omega),(by rw [cR_len]; omega),(cR_ld (i:=b) (by omega) (by omega) 2 (Try.underlying2) rfl),hqctr41_1,rfl,rfl,rfl,rfl,rfl,rfl,rfl,rfl,rfl,rfl,rfl,rfl,trivial⟩ rfl) (Hd.en_o (by intro h; cases h) (Hd.en_bo (by intro h; cases h) (by intro h; cases h) (Hd.en_so (by intro h; cases h) (by intro h; cases h) (Hd.en_eq (r:=(.int .i64 3)) (by rw [ctE_lamp (cE:=cQw E) (cL:=cR L) (n:=L.length) (cX:=cRw X) (m:=X.length) (cY:=cI Y) (k:=Y.length) (by omega) (eyB_true.2 ⟨by omega,fun i hi=>h0b i (by omega)⟩) (fun h9=>by have h8:=allB_true.1 h9 b (by omega); unfold wiAt at h8; omega)]) (Hd.en_ret (v:=(.v (.int .i64 (.ofNat 3)))) (by kernel_rfl) rfl)))))
 ·skip
  have ghqctr41_1:=ltI_false hqctr41_1
  rcases Bool.eq_false_or_eq_true (ltI (intAt (cR L) (b * 2 + 1)) (intAt (cI Y) (b * 1))) with hqctr41_2 | hqctr41_2
  ·skip
   have ghqctr41_2:=ltI_true hqctr41_2
   exact goes_leafA isR_e (goes_told Try.checked.mixed (known_none) 200 (T':=qN3_24) (e:=.ret) (ps:=[b < Y.length,loadL Try.prog (cI Y) (b * 1) 2=some (AV.v (Value.int IntKind.i64 (intAt (cI Y) (b * 1)))),b < L.length,b * 2 + 0 < ((cR L):List AV).length,loadL Try.prog (cR L) (b * 2 + 0) 2=some (AV.v (Value.int IntKind.i64 (intAt (cR L) (b * 2 + 0)))),ltI (intAt (cI Y) (b * 1)) (intAt (cR L) (b * 2 + 0))=false,false=false,false=false,false=false,b < Y.length,false=false,loadL Try.prog (cI Y) (b * 1) 2=some (AV.v (Value.int IntKind.i64 (intAt (cI Y) (b * 1)))),false=false,false=false,false=false,false=false,b < L.length,false=false,b * 2 + 1 < ((cR L):List AV).length,false=false,loadL Try.prog (cR L) (b * 2 + 1) 2=some (AV.v (Value.int IntKind.i64 (intAt (cR L) (b * 2 + 1)))),false=false,ltI (intAt (cR L) (b * 2 + 1)) (intAt (cI Y) (b * 1))=true]) [.go,.go,.go,.sym,.sym,.go,.go,.go,.sym,.sym,.sym,.go,.go,.b false,.go,.b false,.go,.b false,.go,.b false,.sym,.b false,.sym,.b false,.go,.b false,.go,.b false,.go,.b false,.sym,.b false,.sym,.b false,.sym,.b false,.go,.go,.b true,.go] (by kernel_rfl) (by kernel_rfl) ⟨(by omega),(by rw [Nat.mul_one]; exact cI_load (show _ < Y.length by omega) 2 (Try.underlying2) rfl),(by omega),(by rw [cR_len]; omega),(cR_ld (i:=b) (by omega) (by omega) 2 (Try.underlying2) rfl),hqctr41_1,rfl,rfl,rfl,(by omega),rfl,(by rw [Nat.mul_one]; exact cI_load (show _ < Y.length by omega) 2 (Try.underlying2) rfl),rfl,rfl,rfl,rfl,(by omega),rfl,(by rw [cR_len]; omega),rfl,(cR_ld (i:=b) (by omega) (by omega) 2 (Try.underlying2) rfl),rfl,hqctr41_2,trivial⟩ rfl) (Hd.en_o (by intro h; cases h) (Hd.en_bo (by intro h; cases h) (by intro h; cases h) (Hd.en_so (by intro h; cases h) (by intro h; cases h) (Hd.en_eq (r:=(.int .i64 3)) (by rw [ctE_lamp (cE:=cQw E) (cL:=cR L) (n:=L.length) (cX:=cRw X) (m:=X.length) (cY:=cI Y) (k:=Y.length) (by omega) (eyB_true.2 ⟨by omega,fun i hi=>h0b i (by omega)⟩) (fun h9=>by have h8:=allB_true.1 h9 b (by omega); unfold wiAt at h8; omega)]) (Hd.en_ret (v:=(.v (.int .i64 (.ofNat 3)))) (by kernel_rfl) rfl)))))
  ·skip
   have ghqctr41_2:=ltI_false hqctr41_2
   exact goes_leafA isN_e (goes_told Try.checked.mixed (known_none) 200 (T':=(qN3_2 E L X Y b u ul y yl)) (e:=.normal) (ps:=[b < Y.length,loadL Try.prog (cI Y) (b * 1) 2=some (AV.v (Value.int IntKind.i64 (intAt (cI Y) (b * 1)))),b < L.length,b * 2 + 0 < ((cR L):List AV).length,loadL Try.prog (cR L) (b * 2 + 0) 2=some (AV.v (Value.int IntKind.i64 (intAt (cR L) (b * 2 + 0)))),ltI (intAt (cI Y) (b * 1)) (intAt (cR L) (b * 2 + 0))=false,false=false,false=false,false=false,b < Y.length,false=false,loadL Try.prog (cI Y) (b * 1) 2=some (AV.v (Value.int IntKind.i64 (intAt (cI Y) (b * 1)))),false=false,false=false,false=false,false=false,b < L.length,false=false,b * 2 + 1 < ((cR L):List AV).length,false=false,loadL Try.prog (cR L) (b * 2 + 1) 2=some (AV.v (Value.int IntKind.i64 (intAt (cR L) (b * 2 + 1)))),false=false,ltI (intAt (cR L) (b * 2 + 1)) (intAt (cI Y) (b * 1))=false]) [.go,.go,.go,.sym,.sym,.go,.go,.go,.sym,.sym,.sym,.go,.go,.b false,.go,.b false,.go,.b false,.go,.b false,.sym,.b false,.sym,.b false,.go,.b false,.go,.b false,.go,.b false,.sym,.b false,.sym,.b false,.sym,.b false,.go,.go,.b false] (by kernel_rfl) (by kernel_rfl) ⟨(by omega),(by rw [Nat.mul_one]; exact cI_load (show _ < Y.length by omega) 2 (Try.underlying2) rfl),(by omega),(by rw [cR_len]; omega),(cR_ld (i:=b) (by omega) (by omega) 2 (Try.underlying2) rfl),hqctr41_1,rfl,rfl,rfl,(by omega),rfl,(by rw [Nat.mul_one]; exact cI_load (show _ < Y.length by omega) 2 (Try.underlying2) rfl),rfl,rfl,rfl,rfl,(by omega),rfl,(by rw [cR_len]; omega),rfl,(cR_ld (i:=b) (by omega) (by omega) 2 (Try.underlying2) rfl),rfl,hqctr41_2,trivial⟩ rfl) (Hd.en_n (ctr_42 y E yl L u X ul Y hC hX hqctr10_1 hqctr10_2 h0b hqctr21_1 b hb1 hb2 hqctr34_1 hqctr41_1 hqctr41_2 w hs))
theorem ctr_37 (y:Value) (E:List (Value×List (Int×Int))) (yl:Value) (L:List (Int×Int)) (u:Value) (X:List (Value×List Int)) (ul:Value) (Y:List Int) (hC:ccE (cQw E) E.length (cR L) L.length=0) (hX:X.length≤1000) (hqctr10_1:(qN3_18 L Y)=true) (hqctr10_2:(qN3_32 X)=true) (h0b:∀ k,k < (3)→xlN (cRw X) (k * 1)=L.length) (hqctr21_1:(ltI 3 3)=false) (b:Nat) (hb1:b≤L.length) (hb2:∀ k,k < b→wiAt (cR L) (cI Y) k∧∀ i,i < 3→wiAt (xlC (cQw E) (i * 1)) (xlC (cRw X) (i * 1)) k) (hqctr34_1:(ltI b L.length)=true) (w:World) (hs:List Nat):Goes Try.prog 108 (hdC ctrK33) ((qN3_3 E L X Y b u ul y yl)) (BaseW.H w hs) (Hd.AfterN Try.prog 108 ctrK36 w (Hd.StepC Try.prog 108 2 (fun b:{b:Nat // b≤L.length∧∀ k,k < b→wiAt (cR L) (cI Y) k∧∀ i,i < 3→wiAt (xlC (cQw E) (i * 1)) (xlC (cRw X) (i * 1)) k}=>⟨[(2,(.ptr 0 0)),(3,(.ptr 1 0)),(qN3_22 L),(7,(.v (.int .i64 b.1)))],[],2,[(qN3_13 E L y yl),(qN3_12 X Y u ul)]⟩) (fun b:{b:Nat // b≤L.length∧∀ k,k < b→wiAt (cR L) (cI Y) k∧∀ i,i < 3→wiAt (xlC (cQw E) (i * 1)) (xlC (cRw X) (i * 1)) k}=>L.length - b.1) ctrK23 w (OutH Try.prog Try.f30 108 (.int .i64 (ctE (cQw E) (cR L) L.length (cRw X) X.length (cI Y) Y.length)) w) (⟨b,hb1,hb2⟩:{b:Nat // b≤L.length∧∀ k,k < b→wiAt (cR L) (cI Y) k∧∀ i,i < 3→wiAt (xlC (cQw E) (i * 1)) (xlC (cRw X) (i * 1)) k}))):=by
 exact Hd.goes_blkA (id:=3) (by kernel_rfl) (by kernel_rfl) (ctr_39 y E yl L u X ul Y hC hX hqctr10_1 hqctr10_2 h0b hqctr21_1 b hb1 hb2 hqctr34_1 w hs)
theorem ctr_35 (y:Value) (E:List (Value×List (Int×Int))) (yl:Value) (L:List (Int×Int)) (u:Value) (X:List (Value×List Int)) (ul:Value) (Y:List Int) (hC:ccE (cQw E) E.length (cR L) L.length=0) (hX:X.length≤1000) (hqctr10_1:(qN3_18 L Y)=true) (hqctr10_2:(qN3_32 X)=true) (h0b:∀ k,k < (3)→xlN (cRw X) (k * 1)=L.length) (hqctr21_1:(ltI 3 3)=false) (b:Nat) (hb1:b≤L.length) (hb2:∀ k,k < b→wiAt (cR L) (cI Y) k∧∀ i,i < 3→wiAt (xlC (cQw E) (i * 1)) (xlC (cRw X) (i * 1)) k) (hqctr34_1:(ltI b L.length)=true) (w:World) (hs:List Nat):Goes Try.prog 108 ctrK33 ((qN3_3 E L X Y b u ul y yl)) (BaseW.H w hs) (Hd.StepC Try.prog 108 2 (fun b:{b:Nat // b≤L.length∧∀ k,k < b→wiAt (cR L) (cI Y) k∧∀ i,i < 3→wiAt (xlC (cQw E) (i * 1)) (xlC (cRw X) (i * 1)) k}=>⟨[(2,(.ptr 0 0)),(3,(.ptr 1 0)),(qN3_22 L),(7,(.v (.int .i64 b.1)))],[],2,[(qN3_13 E L y yl),(qN3_12 X Y u ul)]⟩) (fun b:{b:Nat // b≤L.length∧∀ k,k < b→wiAt (cR L) (cI Y) k∧∀ i,i < 3→wiAt (xlC (cQw E) (i * 1)) (xlC (cRw X) (i * 1)) k}=>L.length - b.1) ctrK23 w (OutH Try.prog Try.f30 108 (.int .i64 (ctE (cQw E) (cR L) L.length (cRw X) X.length (cI Y) Y.length)) w) (⟨b,hb1,hb2⟩:{b:Nat // b≤L.length∧∀ k,k < b→wiAt (cR L) (cI Y) k∧∀ i,i < 3→wiAt (xlC (cQw E) (i * 1)) (xlC (cRw X) (i * 1)) k})):=by
 exact Hd.goes_seqA (by kernel_rfl) (ctr_37 y E yl L u X ul Y hC hX hqctr10_1 hqctr10_2 h0b hqctr21_1 b hb1 hb2 hqctr34_1 w hs)
theorem ctr_52 (y:Value) (E:List (Value×List (Int×Int))) (yl:Value) (L:List (Int×Int)) (u:Value) (X:List (Value×List Int)) (ul:Value) (Y:List Int) (hC:ccE (cQw E) E.length (cR L) L.length=0) (hX:X.length≤1000) (hqctr10_1:(qN3_18 L Y)=true) (hqctr10_2:(qN3_32 X)=true) (h0b:∀ k,k < (3)→xlN (cRw X) (k * 1)=L.length) (hqctr21_1:(ltI 3 3)=false) (h2b:∀ k,k < (L.length)→wiAt (cR L) (cI Y) k∧∀ i,i < 3→wiAt (xlC (cQw E) (i * 1)) (xlC (cRw X) (i * 1)) k) (hqctr34_1:(ltI L.length L.length)=false) (w:World) (hs:List Nat):Goes Try.prog 108 ctrK23 (⟨[],[],2,[]⟩) (BaseW.H w hs) (OutH Try.prog Try.f30 108 (.int .i64 (ctE (cQw E) (cR L) L.length (cRw X) X.length (cI Y) Y.length)) w):=by
 have hcl_L:=cR_len L
 have hcl_Y:=cI_len Y
 obtain ⟨hn,hm3,hrow,hlam,hcur⟩:=ccE_zero hC
 have ghqctr10_1:=eqI_true hqctr10_1
 have ghqctr10_2:=eqI_true hqctr10_2
 have ghqctr21_1:=ltI_false hqctr21_1
 have ghqctr34_1:=ltI_false hqctr34_1
 exact goes_leafA isR_e (goes_told Try.checked.mixed (known_none) 200 (T':=⟨[(4,(.v (.int .i64 (.ofNat 0))))],[],2,[]⟩) (e:=.ret) (ps:=[]) [.go] (by kernel_rfl) (by kernel_rfl) trivial rfl) (Hd.en_eq (r:=(.int .i64 0)) (by rw [ctE_ok (cE:=cQw E) (cL:=cR L) (n:=L.length) (cX:=cRw X) (m:=X.length) (cY:=cI Y) (k:=Y.length) (by omega) (eyB_true.2 ⟨by omega,fun i hi=>h0b i (by omega)⟩) (allB_true.2 fun b hb=>(h2b b (by omega)).1) (fun i hi=>allB_true.2 fun b hb=>(h2b b (by omega)).2 i (by omega))]) (Hd.en_ret (v:=(.v (.int .i64 (.ofNat 0)))) (by kernel_rfl) rfl))
theorem ctr_32 (y:Value) (E:List (Value×List (Int×Int))) (yl:Value) (L:List (Int×Int)) (u:Value) (X:List (Value×List Int)) (ul:Value) (Y:List Int) (hC:ccE (cQw E) E.length (cR L) L.length=0) (hX:X.length≤1000) (hqctr10_1:(qN3_18 L Y)=true) (hqctr10_2:(qN3_32 X)=true) (h0b:∀ k,k < (3)→xlN (cRw X) (k * 1)=L.length) (hqctr21_1:(ltI 3 3)=false) (b:Nat) (hb1:b≤L.length) (hb2:∀ k,k < b→wiAt (cR L) (cI Y) k∧∀ i,i < 3→wiAt (xlC (cQw E) (i * 1)) (xlC (cRw X) (i * 1)) k) (w:World) (hs:List Nat):Goes Try.prog 108 ctrK30 (⟨[(2,(.ptr 0 0)),(3,(.ptr 1 0)),(qN3_22 L),(7,(.v (.int .i64 b)))],[],2,[(qN3_13 E L y yl),(qN3_12 X Y u ul)]⟩) (BaseW.H w hs) (Hd.StepC Try.prog 108 2 (fun b:{b:Nat // b≤L.length∧∀ k,k < b→wiAt (cR L) (cI Y) k∧∀ i,i < 3→wiAt (xlC (cQw E) (i * 1)) (xlC (cRw X) (i * 1)) k}=>⟨[(2,(.ptr 0 0)),(3,(.ptr 1 0)),(qN3_22 L),(7,(.v (.int .i64 b.1)))],[],2,[(qN3_13 E L y yl),(qN3_12 X Y u ul)]⟩) (fun b:{b:Nat // b≤L.length∧∀ k,k < b→wiAt (cR L) (cI Y) k∧∀ i,i < 3→wiAt (xlC (cQw E) (i * 1)) (xlC (cRw X) (i * 1)) k}=>L.length - b.1) ctrK23 w (OutH Try.prog Try.f30 108 (.int .i64 (ctE (cQw E) (cR L) L.length (cRw X) X.length (cI Y) Y.length)) w) (⟨b,hb1,hb2⟩:{b:Nat // b≤L.length∧∀ k,k < b→wiAt (cR L) (cI Y) k∧∀ i,i < 3→wiAt (xlC (cQw E) (i * 1)) (xlC (cRw X) (i * 1)) k})):=by
 have hcl_L:=cR_len L
 have hcl_Y:=cI_len Y
 obtain ⟨hn,hm3,hrow,hlam,hcur⟩:=ccE_zero hC
 have ghqctr10_1:=eqI_true hqctr10_1
 have ghqctr10_2:=eqI_true hqctr10_2
 have ghqctr21_1:=ltI_false hqctr21_1
 refine Hd.goes_seqA (by kernel_rfl) ?_
 rcases Bool.eq_false_or_eq_true (ltI b L.length) with hqctr34_1 | hqctr34_1
 ·skip
  have ghqctr34_1:=ltI_true hqctr34_1
  have hxr:∀ i,i < 3→xlN (cRw X) (i * 1)=L.length:=h0b
  exact goes_leafA isN_e (goes_told Try.checked.mixed (known_none) 200 (T':=(qN3_3 E L X Y b u ul y yl)) (e:=.normal) (ps:=[ltI b L.length=true]) [.go,.go,.go,.b true] (by kernel_rfl) (by kernel_rfl) ⟨hqctr34_1,trivial⟩ rfl) (Hd.en_n (ctr_35 y E yl L u X ul Y hC hX hqctr10_1 hqctr10_2 h0b hqctr21_1 b hb1 hb2 hqctr34_1 w hs))
 ·skip
  have ghqctr34_1:=ltI_false hqctr34_1
  obtain rfl:b=L.length:=by omega
  exact goes_leafA isX_e (goes_told Try.checked.mixed (known_none) 200 (T':=⟨[],[],2,[]⟩) (e:=.exit 2) (ps:=[ltI L.length L.length=false]) [.go,.go,.go,.b false] (by kernel_rfl) (by kernel_rfl) ⟨hqctr34_1,trivial⟩ rfl) (Hd.en_o (by intro h; cases h) (Hd.en_sx (ctr_52 y E yl L u X ul Y hC hX hqctr10_1 hqctr10_2 h0b hqctr21_1 hb2  hqctr34_1 w hs)))
theorem ctr_29 (y:Value) (E:List (Value×List (Int×Int))) (yl:Value) (L:List (Int×Int)) (u:Value) (X:List (Value×List Int)) (ul:Value) (Y:List Int) (hC:ccE (cQw E) E.length (cR L) L.length=0) (hX:X.length≤1000) (hqctr10_1:(qN3_18 L Y)=true) (hqctr10_2:(qN3_32 X)=true) (h0b:∀ k,k < (3)→xlN (cRw X) (k * 1)=L.length) (hqctr21_1:(ltI 3 3)=false) (w:World) (hs:List Nat):Goes Try.prog 108 ctrK26 ((qN3_4 E L X Y u ul y yl)) (BaseW.H w hs) (Hd.AfterN Try.prog 108 ctrK23 w (OutH Try.prog Try.f30 108 (.int .i64 (ctE (cQw E) (cR L) L.length (cRw X) X.length (cI Y) Y.length)) w)):=by
 have hcl_L:=cR_len L
 have hcl_Y:=cI_len Y
 obtain ⟨hn,hm3,hrow,hlam,hcur⟩:=ccE_zero hC
 have ghqctr10_1:=eqI_true hqctr10_1
 have ghqctr10_2:=eqI_true hqctr10_2
 have ghqctr21_1:=ltI_false hqctr21_1
 exact Hd.goes_loopA (id:=2) (by kernel_rfl) (by kernel_rfl) (fun b:{b:Nat // b≤L.length∧∀ k,k < b→wiAt (cR L) (cI Y) k∧∀ i,i < 3→wiAt (xlC (cQw E) (i * 1)) (xlC (cRw X) (i * 1)) k}=>⟨[(2,(.ptr 0 0)),(3,(.ptr 1 0)),(qN3_22 L),(7,(.v (.int .i64 b.1)))],[],2,[(qN3_13 E L y yl),(qN3_12 X Y u ul)]⟩) (fun b:{b:Nat // b≤L.length∧∀ k,k < b→wiAt (cR L) (cI Y) k∧∀ i,i < 3→wiAt (xlC (cQw E) (i * 1)) (xlC (cRw X) (i * 1)) k}=>L.length - b.1) (fun ix_ hs=>ctr_32 y E yl L u X ul Y hC hX hqctr10_1 hqctr10_2 h0b hqctr21_1 ix_.1 ix_.2.1 ix_.2.2 w hs) ⟨0,Nat.zero_le _,(fun j hj=>by omega)⟩ hs
theorem ctr_28 (y:Value) (E:List (Value×List (Int×Int))) (yl:Value) (L:List (Int×Int)) (u:Value) (X:List (Value×List Int)) (ul:Value) (Y:List Int) (hC:ccE (cQw E) E.length (cR L) L.length=0) (hX:X.length≤1000) (hqctr10_1:(qN3_18 L Y)=true) (hqctr10_2:(qN3_32 X)=true) (h0b:∀ k,k < (3)→xlN (cRw X) (k * 1)=L.length) (hqctr21_1:(ltI 3 3)=false) (w:World) (hs:List Nat):Goes Try.prog 108 ctrK26 ((qN3_4 E L X Y u ul y yl)) (BaseW.H w hs) (Hd.AfterN Try.prog 108 ctrK23 w (OutH Try.prog Try.f30 108 (.int .i64 (ctE (cQw E) (cR L) L.length (cRw X) X.length (cI Y) Y.length)) w)):=by
 exact ctr_29 y E yl L u X ul Y hC hX hqctr10_1 hqctr10_2 h0b hqctr21_1 w hs
theorem ctr_25 (y:Value) (E:List (Value×List (Int×Int))) (yl:Value) (L:List (Int×Int)) (u:Value) (X:List (Value×List Int)) (ul:Value) (Y:List Int) (hC:ccE (cQw E) E.length (cR L) L.length=0) (hX:X.length≤1000) (hqctr10_1:(qN3_18 L Y)=true) (hqctr10_2:(qN3_32 X)=true) (h0b:∀ k,k < (3)→xlN (cRw X) (k * 1)=L.length) (hqctr21_1:(ltI 3 3)=false) (w:World) (hs:List Nat):Goes Try.prog 108 ctrK24 ((qN3_6 E L X Y u ul y yl)) (BaseW.H w hs) (Hd.AfterN Try.prog 108 ctrK23 w (OutH Try.prog Try.f30 108 (.int .i64 (ctE (cQw E) (cR L) L.length (cRw X) X.length (cI Y) Y.length)) w)):=by
 have hcl_L:=cR_len L
 have hcl_Y:=cI_len Y
 obtain ⟨hn,hm3,hrow,hlam,hcur⟩:=ccE_zero hC
 have ghqctr10_1:=eqI_true hqctr10_1
 have ghqctr10_2:=eqI_true hqctr10_2
 have ghqctr21_1:=ltI_false hqctr21_1
 refine Hd.goes_seqA (by kernel_rfl) ?_
 exact goes_leafA isN_e (goes_told Try.checked.mixed (known_none) 200 (T':=(qN3_4 E L X Y u ul y yl)) (e:=.normal) (ps:=[]) [.go] (by kernel_rfl) (by kernel_rfl) trivial rfl) (Hd.en_n (ctr_28 y E yl L u X ul Y hC hX hqctr10_1 hqctr10_2 h0b hqctr21_1 w hs))
theorem ctr_22 (y:Value) (E:List (Value×List (Int×Int))) (yl:Value) (L:List (Int×Int)) (u:Value) (X:List (Value×List Int)) (ul:Value) (Y:List Int) (hC:ccE (cQw E) E.length (cR L) L.length=0) (hX:X.length≤1000) (hqctr10_1:(qN3_18 L Y)=true) (hqctr10_2:(qN3_32 X)=true) (h0b:∀ k,k < (3)→xlN (cRw X) (k * 1)=L.length) (hqctr21_1:(ltI 3 3)=false) (w:World) (hs:List Nat):Goes Try.prog 108 ctrK12 ((qN3_6 E L X Y u ul y yl)) (BaseW.H w hs) (OutH Try.prog Try.f30 108 (.int .i64 (ctE (cQw E) (cR L) L.length (cRw X) X.length (cI Y) Y.length)) w):=by
 exact Hd.goes_seqA (by kernel_rfl) (ctr_25 y E yl L u X ul Y hC hX hqctr10_1 hqctr10_2 h0b hqctr21_1 w hs)
theorem ctr_20 (y:Value) (E:List (Value×List (Int×Int))) (yl:Value) (L:List (Int×Int)) (u:Value) (X:List (Value×List Int)) (ul:Value) (Y:List Int) (hC:ccE (cQw E) E.length (cR L) L.length=0) (hX:X.length≤1000) (hqctr10_1:(qN3_18 L Y)=true) (hqctr10_2:(qN3_32 X)=true) (i:Nat) (hi1:i≤3) (hi2:∀ k,k < i→xlN (cRw X) (k * 1)=L.length) (w:World) (hs:List Nat):Goes Try.prog 108 ctrK19 (⟨[(2,(.ptr 0 0)),(3,(.ptr 1 0)),(qN3_22 L),(6,(.v (.int .i64 i)))],[],2,[(qN3_13 E L y yl),(qN3_12 X Y u ul)]⟩) (BaseW.H w hs) (Hd.StepC Try.prog 108 0 (fun i:{i:Nat // i≤3∧∀ k,k < i→xlN (cRw X) (k * 1)=L.length}=>⟨[(2,(.ptr 0 0)),(3,(.ptr 1 0)),(qN3_22 L),(6,(.v (.int .i64 i.1)))],[],2,[(qN3_13 E L y yl),(qN3_12 X Y u ul)]⟩) (fun i:{i:Nat // i≤3∧∀ k,k < i→xlN (cRw X) (k * 1)=L.length}=>3 - i.1) ctrK12 w (OutH Try.prog Try.f30 108 (.int .i64 (ctE (cQw E) (cR L) L.length (cRw X) X.length (cI Y) Y.length)) w) (⟨i,hi1,hi2⟩:{i:Nat // i≤3∧∀ k,k < i→xlN (cRw X) (k * 1)=L.length})):=by
 have hcl_L:=cR_len L
 have hcl_Y:=cI_len Y
 obtain ⟨hn,hm3,hrow,hlam,hcur⟩:=ccE_zero hC
 have ghqctr10_1:=eqI_true hqctr10_1
 have ghqctr10_2:=eqI_true hqctr10_2
 rcases Bool.eq_false_or_eq_true (ltI i 3) with hqctr21_1 | hqctr21_1
 ·skip
  have ghqctr21_1:=ltI_true hqctr21_1
  rcases Bool.eq_false_or_eq_true (eqI ((xlN (cRw X) (i * 1):Nat):Int) L.length) with hqctr21_2 | hqctr21_2
  ·skip
   have ghqctr21_2:=eqI_true hqctr21_2
   exact goes_leafA isN_e (goes_told Try.checked.mixed (known_none) 200 (T':=⟨[(2,(.ptr 0 0)),(3,(.ptr 1 0)),(qN3_22 L),(6,(.v (.int .i64 (((i + 1):Nat):Int))))],[],2,[(qN3_13 E L y yl),(qN3_12 X Y u ul)]⟩) (e:=.normal) (ps:=[ltI i 3=true,i < X.length,loadL Try.prog (cRw X) (i * 1) 27=some (AV.xl (xlY (cRw X) (i * 1)) (xlN (cRw X) (i * 1)) 1 (xlC (cRw X) (i * 1))),(!eqI ((xlN (cRw X) (i * 1):Nat):Int) L.length)=false,inR IntKind.i64 (((i:Nat):Int) + 1)]) [.go,.go,.b true,.go,.go,.go,.sym,.sym,.go,.go,.go,.b false,.go,.go,.go] (by kernel_rfl) (by kernel_rfl) ⟨hqctr21_1,(by omega),(by rw [Nat.mul_one]; exact cRw_load (by omega) 27 (Try.underlying27) rfl),(by rw [hqctr21_2]; rfl),(iRN3 (by omega) (by omega)),trivial⟩ rfl) (Hd.en_on (⟨i + 1,by omega,(up_next (q:=fun k=>xlN (cRw X) (k * 1)=L.length) hi2 (by omega))⟩) (by show 3 - (i + 1) < 3 - i; omega) rfl)
  ·skip
   have ghqctr21_2:=eqI_false hqctr21_2
   exact goes_leafA isR_e (goes_told Try.checked.mixed (known_none) 200 (T':=qN3_23) (e:=.ret) (ps:=[ltI i 3=true,i < X.length,loadL Try.prog (cRw X) (i * 1) 27=some (AV.xl (xlY (cRw X) (i * 1)) (xlN (cRw X) (i * 1)) 1 (xlC (cRw X) (i * 1))),(!eqI ((xlN (cRw X) (i * 1):Nat):Int) L.length)=true]) [.go,.go,.b true,.go,.go,.go,.sym,.sym,.go,.go,.go,.b true,.go] (by kernel_rfl) (by kernel_rfl) ⟨hqctr21_1,(by omega),(by rw [Nat.mul_one]; exact cRw_load (by omega) 27 (Try.underlying27) rfl),(by rw [hqctr21_2]; rfl),trivial⟩ rfl) (Hd.en_so (by intro h; cases h) (by intro h; cases h) (Hd.en_eq (r:=(.int .i64 15)) (by rw [ctE_len (cE:=cQw E) (cL:=cR L) (n:=L.length) (cX:=cRw X) (m:=X.length) (cY:=cI Y) (k:=Y.length) (fun h9=>by have h8:=(eyB_true.1 h9.2).2 i (by omega); omega)]) (Hd.en_ret (v:=(.v (.int .i64 (.ofNat 15)))) (by kernel_rfl) rfl)))
 ·skip
  have ghqctr21_1:=ltI_false hqctr21_1
  obtain rfl:3=i:=by omega
  exact goes_leafA isX_e (goes_told Try.checked.mixed (known_none) 200 (T':=(qN3_6 E L X Y u ul y yl)) (e:=.exit 0) (ps:=[ltI 3 3=false]) [.go,.go,.b false] (by kernel_rfl) (by kernel_rfl) ⟨hqctr21_1,trivial⟩ rfl) (Hd.en_sx (ctr_22 y E yl L u X ul Y hC hX hqctr10_1 hqctr10_2 hi2  hqctr21_1 w hs))
theorem ctr_18 (y:Value) (E:List (Value×List (Int×Int))) (yl:Value) (L:List (Int×Int)) (u:Value) (X:List (Value×List Int)) (ul:Value) (Y:List Int) (hC:ccE (cQw E) E.length (cR L) L.length=0) (hX:X.length≤1000) (hqctr10_1:(qN3_18 L Y)=true) (hqctr10_2:(qN3_32 X)=true) (w:World) (hs:List Nat):Goes Try.prog 108 ctrK15 ((qN3_5 E L X Y u ul y yl)) (BaseW.H w hs) (Hd.AfterN Try.prog 108 ctrK12 w (OutH Try.prog Try.f30 108 (.int .i64 (ctE (cQw E) (cR L) L.length (cRw X) X.length (cI Y) Y.length)) w)):=by
 have hcl_L:=cR_len L
 have hcl_Y:=cI_len Y
 obtain ⟨hn,hm3,hrow,hlam,hcur⟩:=ccE_zero hC
 have ghqctr10_1:=eqI_true hqctr10_1
 have ghqctr10_2:=eqI_true hqctr10_2
 exact Hd.goes_loopA (id:=0) (by kernel_rfl) (by kernel_rfl) (fun i:{i:Nat // i≤3∧∀ k,k < i→xlN (cRw X) (k * 1)=L.length}=>⟨[(2,(.ptr 0 0)),(3,(.ptr 1 0)),(qN3_22 L),(6,(.v (.int .i64 i.1)))],[],2,[(qN3_13 E L y yl),(qN3_12 X Y u ul)]⟩) (fun i:{i:Nat // i≤3∧∀ k,k < i→xlN (cRw X) (k * 1)=L.length}=>3 - i.1) (fun ix_ hs=>ctr_20 y E yl L u X ul Y hC hX hqctr10_1 hqctr10_2 ix_.1 ix_.2.1 ix_.2.2 w hs) ⟨0,Nat.zero_le _,(fun j hj=>by omega)⟩ hs
theorem ctr_17 (y:Value) (E:List (Value×List (Int×Int))) (yl:Value) (L:List (Int×Int)) (u:Value) (X:List (Value×List Int)) (ul:Value) (Y:List Int) (hC:ccE (cQw E) E.length (cR L) L.length=0) (hX:X.length≤1000) (hqctr10_1:(qN3_18 L Y)=true) (hqctr10_2:(qN3_32 X)=true) (w:World) (hs:List Nat):Goes Try.prog 108 ctrK15 ((qN3_5 E L X Y u ul y yl)) (BaseW.H w hs) (Hd.AfterN Try.prog 108 ctrK12 w (OutH Try.prog Try.f30 108 (.int .i64 (ctE (cQw E) (cR L) L.length (cRw X) X.length (cI Y) Y.length)) w)):=by
 exact ctr_18 y E yl L u X ul Y hC hX hqctr10_1 hqctr10_2 w hs
theorem ctr_14 (y:Value) (E:List (Value×List (Int×Int))) (yl:Value) (L:List (Int×Int)) (u:Value) (X:List (Value×List Int)) (ul:Value) (Y:List Int) (hC:ccE (cQw E) E.length (cR L) L.length=0) (hX:X.length≤1000) (hqctr10_1:(qN3_18 L Y)=true) (hqctr10_2:(qN3_32 X)=true) (w:World) (hs:List Nat):Goes Try.prog 108 ctrK13 ((qN3_6 E L X Y u ul y yl)) (BaseW.H w hs) (Hd.AfterN Try.prog 108 ctrK12 w (OutH Try.prog Try.f30 108 (.int .i64 (ctE (cQw E) (cR L) L.length (cRw X) X.length (cI Y) Y.length)) w)):=by
 have hcl_L:=cR_len L
 have hcl_Y:=cI_len Y
 obtain ⟨hn,hm3,hrow,hlam,hcur⟩:=ccE_zero hC
 have ghqctr10_1:=eqI_true hqctr10_1
 have ghqctr10_2:=eqI_true hqctr10_2
 refine Hd.goes_seqA (by kernel_rfl) ?_
 exact goes_leafA isN_e (goes_told Try.checked.mixed (known_none) 200 (T':=(qN3_5 E L X Y u ul y yl)) (e:=.normal) (ps:=[]) [.go] (by kernel_rfl) (by kernel_rfl) trivial rfl) (Hd.en_n (ctr_17 y E yl L u X ul Y hC hX hqctr10_1 hqctr10_2 w hs))
theorem ctr_11 (y:Value) (E:List (Value×List (Int×Int))) (yl:Value) (L:List (Int×Int)) (u:Value) (X:List (Value×List Int)) (ul:Value) (Y:List Int) (hC:ccE (cQw E) E.length (cR L) L.length=0) (hX:X.length≤1000) (hqctr10_1:(qN3_18 L Y)=true) (hqctr10_2:(qN3_32 X)=true) (w:World) (hs:List Nat):Goes Try.prog 108 ctrK9 ((qN3_6 E L X Y u ul y yl)) (BaseW.H w hs) (OutH Try.prog Try.f30 108 (.int .i64 (ctE (cQw E) (cR L) L.length (cRw X) X.length (cI Y) Y.length)) w):=by
 exact Hd.goes_seqA (by kernel_rfl) (ctr_14 y E yl L u X ul Y hC hX hqctr10_1 hqctr10_2 w hs)
theorem ctr_8 (y:Value) (E:List (Value×List (Int×Int))) (yl:Value) (L:List (Int×Int)) (u:Value) (X:List (Value×List Int)) (ul:Value) (Y:List Int) (hC:ccE (cQw E) E.length (cR L) L.length=0) (hX:X.length≤1000) (w:World) (hs:List Nat):Goes Try.prog 108 ctrK6 ((qN3_6 E L X Y u ul y yl)) (BaseW.H w hs) (OutH Try.prog Try.f30 108 (.int .i64 (ctE (cQw E) (cR L) L.length (cRw X) X.length (cI Y) Y.length)) w):=by
 have hcl_L:=cR_len L
 have hcl_Y:=cI_len Y
 obtain ⟨hn,hm3,hrow,hlam,hcur⟩:=ccE_zero hC
 refine Hd.goes_seqA (by kernel_rfl) ?_
 rcases Bool.eq_false_or_eq_true (eqI Y.length L.length) with hqctr10_1 | hqctr10_1
 ·skip
  have ghqctr10_1:=eqI_true hqctr10_1
  rcases Bool.eq_false_or_eq_true (eqI X.length 3) with hqctr10_2 | hqctr10_2
  ·skip
   have ghqctr10_2:=eqI_true hqctr10_2
   exact goes_leafA isN_e (goes_told Try.checked.mixed (known_none) 200 (T':=(qN3_6 E L X Y u ul y yl)) (e:=.normal) (ps:=[(!eqI Y.length L.length)=false,false=false,false=false,false=false,(!eqI X.length 3)=false]) [.go,.go,.go,.go,.go,.go,.b false,.go,.b false,.go,.b false,.go,.b false,.go,.go,.b false] (by kernel_rfl) (by kernel_rfl) ⟨(by rw [hqctr10_1]; rfl),rfl,rfl,rfl,(by rw [hqctr10_2]; rfl),trivial⟩ rfl) (Hd.en_n (ctr_11 y E yl L u X ul Y hC hX hqctr10_1 hqctr10_2 w hs))
  ·skip
   have ghqctr10_2:=eqI_false hqctr10_2
   exact goes_leafA isR_e (goes_told Try.checked.mixed (known_none) 200 (T':=qN3_23) (e:=.ret) (ps:=[(!eqI Y.length L.length)=false,false=false,false=false,false=false,(!eqI X.length 3)=true]) [.go,.go,.go,.go,.go,.go,.b false,.go,.b false,.go,.b false,.go,.b false,.go,.go,.b true,.go] (by kernel_rfl) (by kernel_rfl) ⟨(by rw [hqctr10_1]; rfl),rfl,rfl,rfl,(by rw [hqctr10_2]; rfl),trivial⟩ rfl) (Hd.en_o (by intro h; cases h) (Hd.en_eq (r:=(.int .i64 15)) (by rw [ctE_len (cE:=cQw E) (cL:=cR L) (n:=L.length) (cX:=cRw X) (m:=X.length) (cY:=cI Y) (k:=Y.length) (fun h9=>by have h8:=(eyB_true.1 h9.2).1; have h7:=h9.1; omega)]) (Hd.en_ret (v:=(.v (.int .i64 (.ofNat 15)))) (by kernel_rfl) rfl)))
 ·skip
  have ghqctr10_1:=eqI_false hqctr10_1
  exact goes_leafA isR_e (goes_told Try.checked.mixed (known_none) 200 (T':=qN3_23) (e:=.ret) (ps:=[(!eqI Y.length L.length)=true,true=true,true=true,true=true,true=true]) [.go,.go,.go,.go,.go,.go,.b true,.b true,.b true,.b true,.go,.b true,.go] (by kernel_rfl) (by kernel_rfl) ⟨(by rw [hqctr10_1]; rfl),rfl,rfl,rfl,rfl,trivial⟩ rfl) (Hd.en_o (by intro h; cases h) (Hd.en_eq (r:=(.int .i64 15)) (by rw [ctE_len (cE:=cQw E) (cL:=cR L) (n:=L.length) (cX:=cRw X) (m:=X.length) (cY:=cI Y) (k:=Y.length) (fun h9=>by have h8:=(eyB_true.1 h9.2).1; have h7:=h9.1; omega)]) (Hd.en_ret (v:=(.v (.int .i64 (.ofNat 15)))) (by kernel_rfl) rfl)))
theorem ctr_5 (y:Value) (E:List (Value×List (Int×Int))) (yl:Value) (L:List (Int×Int)) (u:Value) (X:List (Value×List Int)) (ul:Value) (Y:List Int) (hC:ccE (cQw E) E.length (cR L) L.length=0) (hX:X.length≤1000) (w:World) (hs:List Nat):Goes Try.prog 108 ctrK3 ((qN3_8 E L X Y u ul y yl)) (BaseW.H w hs) (OutH Try.prog Try.f30 108 (.int .i64 (ctE (cQw E) (cR L) L.length (cRw X) X.length (cI Y) Y.length)) w):=by
 have hcl_L:=cR_len L
 have hcl_Y:=cI_len Y
 obtain ⟨hn,hm3,hrow,hlam,hcur⟩:=ccE_zero hC
 refine Hd.goes_seqA (by kernel_rfl) ?_
 exact goes_leafA isN_e (goes_told Try.checked.mixed (known_none) 200 (T':=(qN3_6 E L X Y u ul y yl)) (e:=.normal) (ps:=[]) [.go,.go,.go,.go] (by kernel_rfl) (by kernel_rfl) trivial rfl) (Hd.en_n (ctr_8 y E yl L u X ul Y hC hX w hs))
theorem ctr_2 (y:Value) (E:List (Value×List (Int×Int))) (yl:Value) (L:List (Int×Int)) (u:Value) (X:List (Value×List Int)) (ul:Value) (Y:List Int) (hC:ccE (cQw E) E.length (cR L) L.length=0) (hX:X.length≤1000) (w:World) (hs:List Nat):Goes Try.prog 108 ctrK1 ((qN3_10 E L X Y u ul y yl)) (BaseW.H w hs) (OutH Try.prog Try.f30 108 (.int .i64 (ctE (cQw E) (cR L) L.length (cRw X) X.length (cI Y) Y.length)) w):=by
 have hcl_L:=cR_len L
 have hcl_Y:=cI_len Y
 obtain ⟨hn,hm3,hrow,hlam,hcur⟩:=ccE_zero hC
 refine Hd.goes_seqA (by kernel_rfl) ?_
 exact goes_leafA isN_e (goes_told Try.checked.mixed (known_none) 200 (T':=(qN3_8 E L X Y u ul y yl)) (e:=.normal) (ps:=[]) [.go,.go,.go] (by kernel_rfl) (by kernel_rfl) trivial rfl) (Hd.en_n (ctr_5 y E yl L u X ul Y hC hX w hs))
theorem ctr_g (y:Value) (E:List (Value×List (Int×Int))) (yl:Value) (L:List (Int×Int)) (u:Value) (X:List (Value×List Int)) (ul:Value) (Y:List Int) (hC:ccE (cQw E) E.length (cR L) L.length=0) (hX:X.length≤1000):GivesA Try.prog 30 [(qN3_16 E L y yl),(qN3_17 X Y u ul)] (.int .i64 (ctE (cQw E) (cR L) L.length (cRw X) X.length (cI Y) Y.length)) :=
 givesA_partsH 108 Try.func30 (by kernel_rfl) (by kernel_rfl) (by kernel_rfl) (fun w=>goes_less (by kernel_rfl) (by kernel_rfl) (by kernel_rfl) (by kernel_rfl) (ctr_2 y E yl L u X ul Y hC hX w []))
noncomputable def cpK1:Code:=bodyC Try.f56
noncomputable def cpK3:Code:=tlC cpK1
noncomputable def cpK6:Code:=tlC cpK3
noncomputable def cpK9:Code:=tlC cpK6
noncomputable def cpK10:Code:=(hdC cpK6)
noncomputable def cpK12:Code:=tlC cpK10
noncomputable def cpK16:Code:=loopC cpK12
theorem cp_19 (y:Value) (E:List (Value×List (Int×Int))) (yl:Value) (L:List (Int×Int)) (z:Value) (M:List Int) (hL:L.length≤1000) (hqcp7_1:(qN3_19 L M)=true) (h0b:∀ j,j < (M.length)→0≤intAt (cI M) (j * 1)∧intAt (cI M) (j * 1)≤1000) (hqcp18_1:(ltI M.length M.length)=false) (w:World) (hs:List Nat):Goes Try.prog 30 cpK9 (⟨[],[],1,[]⟩) (BaseW.H w hs) (OutH Try.prog Try.f56 30 (.int .i64 (chE L.length (cI M) M.length)) w):=by
 have hcl_L:=cR_len L
 have hcl_M:=cI_len M
 have ghqcp7_1:=eqI_true hqcp7_1
 have ghqcp18_1:=ltI_false hqcp18_1
 exact goes_leafA isR_e (goes_told Try.checked.mixed (known_none) 200 (T':=⟨[(4,(.v (.int .i64 (.ofNat 0))))],[],1,[]⟩) (e:=.ret) (ps:=[]) [.go] (by kernel_rfl) (by kernel_rfl) trivial rfl) (Hd.en_eq (r:=(.int .i64 0)) (by rw [chE_ok (n:=L.length) (d:=cI M) (k:=M.length) (by omega) (afB_true.2 h0b)]) (Hd.en_ret (v:=(.v (.int .i64 (.ofNat 0)))) (by kernel_rfl) rfl))
theorem cp_17 (y:Value) (E:List (Value×List (Int×Int))) (yl:Value) (L:List (Int×Int)) (z:Value) (M:List Int) (hL:L.length≤1000) (hqcp7_1:(qN3_19 L M)=true) (i:Nat) (hi1:i≤M.length) (hi2:∀ j,j < i→0≤intAt (cI M) (j * 1)∧intAt (cI M) (j * 1)≤1000) (w:World) (hs:List Nat):Goes Try.prog 30 cpK16 (⟨[(qN3_33 M z),(5,(.v (.int .i64 i)))],[],1,[]⟩) (BaseW.H w hs) (Hd.StepC Try.prog 30 0 (fun i:{i:Nat // i≤M.length∧∀ j,j < i→0≤intAt (cI M) (j * 1)∧intAt (cI M) (j * 1)≤1000}=>⟨[(qN3_33 M z),(5,(.v (.int .i64 i.1)))],[],1,[]⟩) (fun i:{i:Nat // i≤M.length∧∀ j,j < i→0≤intAt (cI M) (j * 1)∧intAt (cI M) (j * 1)≤1000}=>M.length - i.1) cpK9 w (OutH Try.prog Try.f56 30 (.int .i64 (chE L.length (cI M) M.length)) w) (⟨i,hi1,hi2⟩:{i:Nat // i≤M.length∧∀ j,j < i→0≤intAt (cI M) (j * 1)∧intAt (cI M) (j * 1)≤1000})):=by
 have hcl_L:=cR_len L
 have hcl_M:=cI_len M
 have ghqcp7_1:=eqI_true hqcp7_1
 rcases Bool.eq_false_or_eq_true (ltI i M.length) with hqcp18_1 | hqcp18_1
 ·skip
  have ghqcp18_1:=ltI_true hqcp18_1
  rcases Bool.eq_false_or_eq_true (ltI (intAt (cI M) (i * 1)) 0) with hqcp18_2 | hqcp18_2
  ·skip
   have ghqcp18_2:=ltI_true hqcp18_2
   exact goes_leafA isR_e (goes_told Try.checked.mixed (known_none) 200 (T':=⟨[(4,(.v (.int .i64 (.ofNat 2))))],[],1,[]⟩) (e:=.ret) (ps:=[ltI i M.length=true,i < M.length,loadL Try.prog (cI M) (i * 1) 2=some (AV.v (Value.int IntKind.i64 (intAt (cI M) (i * 1)))),ltI (intAt (cI M) (i * 1)) 0=true,true=true,true=true,true=true,true=true,true=true]) [.go,.go,.go,.go,.b true,.go,.go,.sym,.sym,.go,.go,.b true,.b true,.b true,.b true,.b true,.go,.b true,.go] (by kernel_rfl) (by kernel_rfl) ⟨hqcp18_1,(by omega),(by rw [Nat.mul_one]; exact cI_load (show _ < M.length by omega) 2 (Try.underlying2) rfl),hqcp18_2,rfl,rfl,rfl,rfl,rfl,trivial⟩ rfl) (Hd.en_so (by intro h; cases h) (by intro h; cases h) (Hd.en_eq (r:=(.int .i64 2)) (by rw [chE_bad (n:=L.length) (d:=cI M) (k:=M.length) (by omega) (by rw [afB_no (c:=cI M) (lo:=0) (hi:=1000) (n:=M.length) (i:=i) (by omega) (by omega)]; decide)]) (Hd.en_ret (v:=(.v (.int .i64 (.ofNat 2)))) (by kernel_rfl) rfl)))
  ·skip
   have ghqcp18_2:=ltI_false hqcp18_2
   rcases Bool.eq_false_or_eq_true (ltI 1000 (intAt (cI M) (i * 1))) with hqcp18_3 | hqcp18_3
   ·skip
    have ghqcp18_3:=ltI_true hqcp18_3
    exact goes_leafA isR_e (goes_told Try.checked.mixed (known_none) 200 (T':=⟨[(4,(.v (.int .i64 (.ofNat 2))))],[],1,[]⟩) (e:=.ret) (ps:=[ltI i M.length=true,i < M.length,loadL Try.prog (cI M) (i * 1) 2=some (AV.v (Value.int IntKind.i64 (intAt (cI M) (i * 1)))),ltI (intAt (cI M) (i * 1)) 0=false,false=false,false=false,i < M.length,false=false,loadL Try.prog (cI M) (i * 1) 2=some (AV.v (Value.int IntKind.i64 (intAt (cI M) (i * 1)))),false=false,ltI 1000 (intAt (cI M) (i * 1))=true]) [.go,.go,.go,.go,.b true,.go,.go,.sym,.sym,.go,.go,.b false,.go,.b false,.go,.b false,.sym,.b false,.sym,.b false,.go,.go,.b true,.go] (by kernel_rfl) (by kernel_rfl) ⟨hqcp18_1,(by omega),(by rw [Nat.mul_one]; exact cI_load (show _ < M.length by omega) 2 (Try.underlying2) rfl),hqcp18_2,rfl,rfl,(by omega),rfl,(by rw [Nat.mul_one]; exact cI_load (show _ < M.length by omega) 2 (Try.underlying2) rfl),rfl,hqcp18_3,trivial⟩ rfl) (Hd.en_so (by intro h; cases h) (by intro h; cases h) (Hd.en_eq (r:=(.int .i64 2)) (by rw [chE_bad (n:=L.length) (d:=cI M) (k:=M.length) (by omega) (by rw [afB_no (c:=cI M) (lo:=0) (hi:=1000) (n:=M.length) (i:=i) (by omega) (by omega)]; decide)]) (Hd.en_ret (v:=(.v (.int .i64 (.ofNat 2)))) (by kernel_rfl) rfl)))
   ·skip
    have ghqcp18_3:=ltI_false hqcp18_3
    exact goes_leafA isN_e (goes_told Try.checked.mixed (known_none) 200 (T':=⟨[(qN3_33 M z),(5,(.v (.int .i64 (((i + 1):Nat):Int))))],[],1,[]⟩) (e:=.normal) (ps:=[ltI i M.length=true,i < M.length,loadL Try.prog (cI M) (i * 1) 2=some (AV.v (Value.int IntKind.i64 (intAt (cI M) (i * 1)))),ltI (intAt (cI M) (i * 1)) 0=false,false=false,false=false,i < M.length,false=false,loadL Try.prog (cI M) (i * 1) 2=some (AV.v (Value.int IntKind.i64 (intAt (cI M) (i * 1)))),false=false,ltI 1000 (intAt (cI M) (i * 1))=false,inR IntKind.i64 (((i:Nat):Int) + 1)]) [.go,.go,.go,.go,.b true,.go,.go,.sym,.sym,.go,.go,.b false,.go,.b false,.go,.b false,.sym,.b false,.sym,.b false,.go,.go,.b false,.go,.go,.go] (by kernel_rfl) (by kernel_rfl) ⟨hqcp18_1,(by omega),(by rw [Nat.mul_one]; exact cI_load (show _ < M.length by omega) 2 (Try.underlying2) rfl),hqcp18_2,rfl,rfl,(by omega),rfl,(by rw [Nat.mul_one]; exact cI_load (show _ < M.length by omega) 2 (Try.underlying2) rfl),rfl,hqcp18_3,(iRN3 (by omega) (by omega)),trivial⟩ rfl) (Hd.en_on (⟨i + 1,by omega,(up_next (q:=fun j=>0≤intAt (cI M) (j * 1)∧intAt (cI M) (j * 1)≤1000) hi2 (by constructor <;> omega))⟩) (by show M.length - (i + 1) < M.length - i; omega) rfl)
 ·skip
  have ghqcp18_1:=ltI_false hqcp18_1
  obtain rfl:i=M.length:=by omega
  exact goes_leafA isX_e (goes_told Try.checked.mixed (known_none) 200 (T':=⟨[],[],1,[]⟩) (e:=.exit 0) (ps:=[ltI M.length M.length=false]) [.go,.go,.go,.go,.b false] (by kernel_rfl) (by kernel_rfl) ⟨hqcp18_1,trivial⟩ rfl) (Hd.en_sx (cp_19 y E yl L z M hL hqcp7_1 hi2  hqcp18_1 w hs))
theorem cp_15 (y:Value) (E:List (Value×List (Int×Int))) (yl:Value) (L:List (Int×Int)) (z:Value) (M:List Int) (hL:L.length≤1000) (hqcp7_1:(qN3_19 L M)=true) (w:World) (hs:List Nat):Goes Try.prog 30 cpK12 ((qN3_11 M z)) (BaseW.H w hs) (Hd.AfterN Try.prog 30 cpK9 w (OutH Try.prog Try.f56 30 (.int .i64 (chE L.length (cI M) M.length)) w)):=by
 have hcl_L:=cR_len L
 have hcl_M:=cI_len M
 have ghqcp7_1:=eqI_true hqcp7_1
 exact Hd.goes_loopA (id:=0) (by kernel_rfl) (by kernel_rfl) (fun i:{i:Nat // i≤M.length∧∀ j,j < i→0≤intAt (cI M) (j * 1)∧intAt (cI M) (j * 1)≤1000}=>⟨[(qN3_33 M z),(5,(.v (.int .i64 i.1)))],[],1,[]⟩) (fun i:{i:Nat // i≤M.length∧∀ j,j < i→0≤intAt (cI M) (j * 1)∧intAt (cI M) (j * 1)≤1000}=>M.length - i.1) (fun ix_ hs=>cp_17 y E yl L z M hL hqcp7_1 ix_.1 ix_.2.1 ix_.2.2 w hs) ⟨0,Nat.zero_le _,(fun j hj=>by omega)⟩ hs
theorem cp_14 (y:Value) (E:List (Value×List (Int×Int))) (yl:Value) (L:List (Int×Int)) (z:Value) (M:List Int) (hL:L.length≤1000) (hqcp7_1:(qN3_19 L M)=true) (w:World) (hs:List Nat):Goes Try.prog 30 cpK12 ((qN3_11 M z)) (BaseW.H w hs) (Hd.AfterN Try.prog 30 cpK9 w (OutH Try.prog Try.f56 30 (.int .i64 (chE L.length (cI M) M.length)) w)):=by
 exact cp_15 y E yl L z M hL hqcp7_1 w hs
theorem cp_11 (y:Value) (E:List (Value×List (Int×Int))) (yl:Value) (L:List (Int×Int)) (z:Value) (M:List Int) (hL:L.length≤1000) (hqcp7_1:(qN3_19 L M)=true) (w:World) (hs:List Nat):Goes Try.prog 30 cpK10 (⟨[(qN3_33 M z)],[],1,[]⟩) (BaseW.H w hs) (Hd.AfterN Try.prog 30 cpK9 w (OutH Try.prog Try.f56 30 (.int .i64 (chE L.length (cI M) M.length)) w)):=by
 have hcl_L:=cR_len L
 have hcl_M:=cI_len M
 have ghqcp7_1:=eqI_true hqcp7_1
 refine Hd.goes_seqA (by kernel_rfl) ?_
 exact goes_leafA isN_e (goes_told Try.checked.mixed (known_none) 200 (T':=(qN3_11 M z)) (e:=.normal) (ps:=[]) [.go] (by kernel_rfl) (by kernel_rfl) trivial rfl) (Hd.en_n (cp_14 y E yl L z M hL hqcp7_1 w hs))
theorem cp_8 (y:Value) (E:List (Value×List (Int×Int))) (yl:Value) (L:List (Int×Int)) (z:Value) (M:List Int) (hL:L.length≤1000) (hqcp7_1:(qN3_19 L M)=true) (w:World) (hs:List Nat):Goes Try.prog 30 cpK6 (⟨[(qN3_33 M z)],[],1,[]⟩) (BaseW.H w hs) (OutH Try.prog Try.f56 30 (.int .i64 (chE L.length (cI M) M.length)) w):=by
 exact Hd.goes_seqA (by kernel_rfl) (cp_11 y E yl L z M hL hqcp7_1 w hs)
theorem cp_5 (y:Value) (E:List (Value×List (Int×Int))) (yl:Value) (L:List (Int×Int)) (z:Value) (M:List Int) (hL:L.length≤1000) (w:World) (hs:List Nat):Goes Try.prog 30 cpK3 ((qN3_9 E L M y yl z)) (BaseW.H w hs) (OutH Try.prog Try.f56 30 (.int .i64 (chE L.length (cI M) M.length)) w):=by
 have hcl_L:=cR_len L
 have hcl_M:=cI_len M
 refine Hd.goes_seqA (by kernel_rfl) ?_
 rcases Bool.eq_false_or_eq_true (eqI M.length L.length) with hqcp7_1 | hqcp7_1
 ·skip
  have ghqcp7_1:=eqI_true hqcp7_1
  exact goes_leafA isN_e (goes_told Try.checked.mixed (known_none) 200 (T':=⟨[(qN3_33 M z)],[],1,[]⟩) (e:=.normal) (ps:=[(!eqI M.length L.length)=false]) [.go,.go,.go,.go,.go,.go,.b false] (by kernel_rfl) (by kernel_rfl) ⟨(by rw [hqcp7_1]; rfl),trivial⟩ rfl) (Hd.en_n (cp_8 y E yl L z M hL hqcp7_1 w hs))
 ·skip
  have ghqcp7_1:=eqI_false hqcp7_1
  exact goes_leafA isR_e (goes_told Try.checked.mixed (known_none) 200 (T':=⟨[qN3_34],[],1,[]⟩) (e:=.ret) (ps:=[(!eqI M.length L.length)=true]) [.go,.go,.go,.go,.go,.go,.b true,.go] (by kernel_rfl) (by kernel_rfl) ⟨(by rw [hqcp7_1]; rfl),trivial⟩ rfl) (Hd.en_o (by intro h; cases h) (Hd.en_eq (r:=(.int .i64 15)) (by rw [chE_len (n:=L.length) (d:=cI M) (k:=M.length) (by omega)]) (Hd.en_ret (v:=(.v (.int .i64 (.ofNat 15)))) (by kernel_rfl) rfl)))
theorem cp_2 (y:Value) (E:List (Value×List (Int×Int))) (yl:Value) (L:List (Int×Int)) (z:Value) (M:List Int) (hL:L.length≤1000) (w:World) (hs:List Nat):Goes Try.prog 30 cpK1 (⟨[(qN3_15 E L y yl),(1,(.xl z M.length 1 (cI M)))],[],0,[]⟩) (BaseW.H w hs) (OutH Try.prog Try.f56 30 (.int .i64 (chE L.length (cI M) M.length)) w):=by
 have hcl_L:=cR_len L
 have hcl_M:=cI_len M
 refine Hd.goes_seqA (by kernel_rfl) ?_
 exact goes_leafA isN_e (goes_told Try.checked.mixed (known_none) 200 (T':=(qN3_9 E L M y yl z)) (e:=.normal) (ps:=[]) [.go,.go] (by kernel_rfl) (by kernel_rfl) trivial rfl) (Hd.en_n (cp_5 y E yl L z M hL w hs))
theorem cp_g (y:Value) (E:List (Value×List (Int×Int))) (yl:Value) (L:List (Int×Int)) (z:Value) (M:List Int) (hL:L.length≤1000):GivesA Try.prog 56 [(qN3_16 E L y yl),(.xl z M.length 1 (cI M))] (.int .i64 (chE L.length (cI M) M.length)) :=
 givesA_partsH 30 Try.func56 (by kernel_rfl) (by kernel_rfl) (by kernel_rfl) (fun w=>goes_less (by kernel_rfl) (by kernel_rfl) (by kernel_rfl) (by kernel_rfl) (cp_2 y E yl L z M hL w []))
end
end Go.Proofs.Ytegmogadbnfbgaa
