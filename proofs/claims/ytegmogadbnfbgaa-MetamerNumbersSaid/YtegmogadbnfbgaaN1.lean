import Derived.Test.YtegmogadbnfbgaaN0
set_option maxHeartbeats 4000000
set_option linter.all false
/- Checks of ranges, eyes and numbers. -/
namespace Go.Proofs.Ytegmogadbnfbgaa
open Go Ev
noncomputable section
theorem iRN1 {a:Int} (h : -9223372036854775808≤a) (k:a≤9223372036854775807):inR .i64 a:=⟨h,k⟩
section
variable (E : List (Value × List (Int × Int))) (P : List (Int × Int)) (X : List (Value × List Int)) (Y : List Int) (i : Nat) (m : Int) (n : Nat) (u y : Value)
@[reducible] def qN1_16:Nat×Ev.AV:=(0,(.xl (y) (E.length) 1 (cQw E)))
@[reducible] def qN1_13:Nat×Ev.AV:=(1,(.v (.int .i64 n)))
@[reducible] def qN1_18:Nat×Ev.AV:=(7,(.xl (y) (E.length) 1 (cQw E)))
@[reducible] def qN1_11:Nat×Ev.AV:=(8,(.v (.int .i64 E.length)))
@[reducible] def qN1_22:Nat×Ev.AV:=(9,(.v (.int .i64 (.ofNat 0))))
@[reducible] def qN1_1:Ev.Lit:=⟨[(qN1_16 E y),(qN1_13 n),(qN1_18 E y),(qN1_11 E),qN1_22],[],0,[]⟩
@[reducible] def qN1_17:Nat×Ev.AV:=(0,(.xl (u) (X.length) 1 (cRw X)))
@[reducible] def qN1_19:Nat×Ev.AV:=(7,(.xl (u) (X.length) 1 (cRw X)))
@[reducible] def qN1_10:Nat×Ev.AV:=(8,(.v (.int .i64 X.length)))
@[reducible] def qN1_2:Ev.Lit:=⟨[(qN1_17 X u),(qN1_13 n),(qN1_19 X u),(qN1_10 X),qN1_22],[],0,[]⟩
@[reducible] def qN1_21:Nat×Ev.AV:=(1,(.xl (u) (Y.length) 1 (cI Y)))
@[reducible] def qN1_20:Nat×Ev.AV:=(7,(.xl (y) (P.length) 2 (cR P)))
@[reducible] def qN1_9:Nat×Ev.AV:=(8,(.v (.int .i64 P.length)))
@[reducible] def qN1_3:Ev.Lit:=⟨[(qN1_21 Y u),(qN1_20 P y),(qN1_9 P),qN1_22],[],0,[]⟩
@[reducible] def qN1_4:Ev.Lit:=⟨[(0,(.v (.int .i64 (m)))),(qN1_20 P y),(qN1_9 P),qN1_22],[],0,[]⟩
@[reducible] def qN1_5:Ev.Lit:=⟨[(qN1_16 E y),(qN1_13 n)],[],0,[]⟩
@[reducible] def qN1_6:Ev.Lit:=⟨[(qN1_17 X u),(qN1_13 n)],[],0,[]⟩
@[reducible] def qN1_7:Ev.Lit:=⟨[(0,(.xl (y) (P.length) 2 (cR P))),(qN1_21 Y u)],[],0,[]⟩
@[reducible] def qN1_8:Ev.Lit:=⟨[(0,(.v (.int .i64 (m)))),(1,(.xl (y) (P.length) 2 (cR P)))],[],0,[]⟩
@[reducible] def qN1_12:Nat×Ev.AV:=(9,(.v (.int .i64 (((i + 1):Nat):Int))))
@[reducible] def qN1_14:Ev.Lit:=⟨[(4,(.v (.bool .false)))],[],1,[]⟩
@[reducible] def qN1_15:Nat×Ev.AV:=(9,(.v (.int .i64 i)))
end
noncomputable def arK1:Code:=bodyC Try.f62
noncomputable def arK3:Code:=tlC arK1
noncomputable def arK6:Code:=tlC arK3
noncomputable def arK7:Code:=(hdC arK3)
noncomputable def arK9:Code:=tlC arK7
noncomputable def arK13:Code:=loopC arK9
theorem ar_16 (y:Value) (P:List (Int×Int)) (m:Int) (hP:P.length≤1000) (h0b:∀ j,j < (P.length)→rngAt m (cR P) j) (hqar15_1:(ltI P.length P.length)=false) (w:World) (hs:List Nat):Goes Try.prog 30 arK6 (⟨[],[],0,[]⟩) (BaseW.H w hs) (OutH Try.prog Try.f62 30 (.bool (allB (rngAt m (cR P)) P.length)) w):=by
 have hcl_P:=cR_len P
 have ghqar15_1:=ltI_false hqar15_1
 exact goes_leafA isR_e (goes_told Try.checked.mixed (known_none) 200 (T':=⟨[(4,(.v (.bool .true)))],[],0,[]⟩) (e:=.ret) (ps:=[]) [.go] (by kernel_rfl) (by kernel_rfl) trivial rfl) (Hd.en_eq (r:=(.bool .true)) (by rw [allB_true.2 (show ∀ i,i < P.length→rngAt m (cR P) i from h0b)]) (Hd.en_ret (v:=(.v (.bool .true))) (by kernel_rfl) rfl))
theorem ar_14 (y:Value) (P:List (Int×Int)) (m:Int) (hP:P.length≤1000) (i:Nat) (hi1:i≤P.length) (hi2:∀ j,j < i→rngAt m (cR P) j) (w:World) (hs:List Nat):Goes Try.prog 30 arK13 (⟨[(0,(.v (.int .i64 (m)))),(qN1_20 P y),(qN1_9 P),(qN1_15 i)],[],0,[]⟩) (BaseW.H w hs) (Hd.StepC Try.prog 30 0 (fun i:{i:Nat // i≤P.length∧∀ j,j < i→rngAt m (cR P) j}=>⟨[(0,(.v (.int .i64 (m)))),(qN1_20 P y),(qN1_9 P),(9,(.v (.int .i64 i.1)))],[],0,[]⟩) (fun i:{i:Nat // i≤P.length∧∀ j,j < i→rngAt m (cR P) j}=>P.length - i.1) arK6 w (OutH Try.prog Try.f62 30 (.bool (allB (rngAt m (cR P)) P.length)) w) (⟨i,hi1,hi2⟩:{i:Nat // i≤P.length∧∀ j,j < i→rngAt m (cR P) j})):=by
 have hcl_P:=cR_len P
 rcases Bool.eq_false_or_eq_true (ltI i P.length) with hqar15_1 | hqar15_1
 ·skip
  have ghqar15_1:=ltI_true hqar15_1
  rcases Bool.eq_false_or_eq_true (ltI (intAt (cR P) (i * 2 + 0)) 0) with hqar15_2 | hqar15_2
  ·skip
   have ghqar15_2:=ltI_true hqar15_2
   exact goes_leafA isR_e (goes_told Try.checked.mixed (known_none) 200 (T':=qN1_14) (e:=.ret) (ps:=[ltI i P.length=true,i < P.length,loadL Try.prog (cR P) (i * 2) 65=some (AV.agg [AV.v (Value.int IntKind.i64 (intAt (cR P) (i * 2 + 0))),AV.v (Value.int IntKind.i64 (intAt (cR P) (i * 2 + 1)))]),ltI (intAt (cR P) (i * 2 + 0)) 0=true,true=true,true=true,true=true,true=true,true=true,true=true,true=true,true=true,true=true]) [.go,.b true,.sym,.sym,.go,.go,.go,.go,.go,.go,.b true,.b true,.b true,.b true,.b true,.go,.go,.b true,.b true,.b true,.b true,.go,.b true,.go] (by kernel_rfl) (by kernel_rfl) ⟨hqar15_1,(by omega),(cR_load (by omega) 65 (Try.underlying65) rfl (inf:=(Try.prog.info? 65).getD default) (by kernel_rfl) (by kernel_rfl)),hqar15_2,rfl,rfl,rfl,rfl,rfl,rfl,rfl,rfl,rfl,trivial⟩ rfl) (Hd.en_so (by intro h; cases h) (by intro h; cases h) (Hd.en_eq (r:=(.bool .false)) (by rw [allB_no (Q:=rngAt m (cR P)) (i:=i) (by omega) (by unfold rngAt; omega)]) (Hd.en_ret (v:=(.v (.bool .false))) (by kernel_rfl) rfl)))
  ·skip
   have ghqar15_2:=ltI_false hqar15_2
   rcases Bool.eq_false_or_eq_true (ltI (intAt (cR P) (i * 2 + 1)) (intAt (cR P) (i * 2 + 0))) with hqar15_3 | hqar15_3
   ·skip
    have ghqar15_3:=ltI_true hqar15_3
    exact goes_leafA isR_e (goes_told Try.checked.mixed (known_none) 200 (T':=qN1_14) (e:=.ret) (ps:=[ltI i P.length=true,i < P.length,loadL Try.prog (cR P) (i * 2) 65=some (AV.agg [AV.v (Value.int IntKind.i64 (intAt (cR P) (i * 2 + 0))),AV.v (Value.int IntKind.i64 (intAt (cR P) (i * 2 + 1)))]),ltI (intAt (cR P) (i * 2 + 0)) 0=false,false=false,false=false,false=false,false=false,ltI (intAt (cR P) (i * 2 + 1)) (intAt (cR P) (i * 2 + 0))=true,true=true,true=true,true=true,true=true]) [.go,.b true,.sym,.sym,.go,.go,.go,.go,.go,.go,.b false,.go,.b false,.go,.b false,.go,.b false,.go,.b false,.go,.go,.go,.b true,.b true,.b true,.b true,.go,.b true,.go] (by kernel_rfl) (by kernel_rfl) ⟨hqar15_1,(by omega),(cR_load (by omega) 65 (Try.underlying65) rfl (inf:=(Try.prog.info? 65).getD default) (by kernel_rfl) (by kernel_rfl)),hqar15_2,rfl,rfl,rfl,rfl,hqar15_3,rfl,rfl,rfl,rfl,trivial⟩ rfl) (Hd.en_so (by intro h; cases h) (by intro h; cases h) (Hd.en_eq (r:=(.bool .false)) (by rw [allB_no (Q:=rngAt m (cR P)) (i:=i) (by omega) (by unfold rngAt; omega)]) (Hd.en_ret (v:=(.v (.bool .false))) (by kernel_rfl) rfl)))
   ·skip
    have ghqar15_3:=ltI_false hqar15_3
    rcases Bool.eq_false_or_eq_true (ltI m (intAt (cR P) (i * 2 + 1))) with hqar15_4 | hqar15_4
    ·skip
     have ghqar15_4:=ltI_true hqar15_4
     exact goes_leafA isR_e (goes_told Try.checked.mixed (known_none) 200 (T':=qN1_14) (e:=.ret) (ps:=[ltI i P.length=true,i < P.length,loadL Try.prog (cR P) (i * 2) 65=some (AV.agg [AV.v (Value.int IntKind.i64 (intAt (cR P) (i * 2 + 0))),AV.v (Value.int IntKind.i64 (intAt (cR P) (i * 2 + 1)))]),ltI (intAt (cR P) (i * 2 + 0)) 0=false,false=false,false=false,false=false,false=false,ltI (intAt (cR P) (i * 2 + 1)) (intAt (cR P) (i * 2 + 0))=false,false=false,false=false,false=false,ltI m (intAt (cR P) (i * 2 + 1))=true]) [.go,.b true,.sym,.sym,.go,.go,.go,.go,.go,.go,.b false,.go,.b false,.go,.b false,.go,.b false,.go,.b false,.go,.go,.go,.b false,.go,.b false,.go,.b false,.go,.b false,.go,.go,.b true,.go] (by kernel_rfl) (by kernel_rfl) ⟨hqar15_1,(by omega),(cR_load (by omega) 65 (Try.underlying65) rfl (inf:=(Try.prog.info? 65).getD default) (by kernel_rfl) (by kernel_rfl)),hqar15_2,rfl,rfl,rfl,rfl,hqar15_3,rfl,rfl,rfl,hqar15_4,trivial⟩ rfl) (Hd.en_so (by intro h; cases h) (by intro h; cases h) (Hd.en_eq (r:=(.bool .false)) (by rw [allB_no (Q:=rngAt m (cR P)) (i:=i) (by omega) (by unfold rngAt; omega)]) (Hd.en_ret (v:=(.v (.bool .false))) (by kernel_rfl) rfl)))
    ·skip
     have ghqar15_4:=ltI_false hqar15_4
     exact goes_leafA isN_e (goes_cut Try.checked.mixed (known_none) 200 (T':=⟨[(0,(.v (.int .i64 (m)))),(qN1_20 P y),(qN1_9 P),(qN1_12 i)],[],0,[]⟩) (e:=.normal) (m:=1) (ps:=[ltI i P.length=true,i < P.length,loadL Try.prog (cR P) (i * 2) 65=some (AV.agg [AV.v (Value.int IntKind.i64 (intAt (cR P) (i * 2 + 0))),AV.v (Value.int IntKind.i64 (intAt (cR P) (i * 2 + 1)))]),ltI (intAt (cR P) (i * 2 + 0)) 0=false,false=false,false=false,false=false,false=false,ltI (intAt (cR P) (i * 2 + 1)) (intAt (cR P) (i * 2 + 0))=false,false=false,false=false,false=false,ltI m (intAt (cR P) (i * 2 + 1))=false,inR IntKind.i64 (((i:Nat):Int) + 1)]) [.go,.b true,.sym,.sym,.go,.go,.go,.go,.go,.go,.b false,.go,.b false,.go,.b false,.go,.b false,.go,.b false,.go,.go,.go,.b false,.go,.b false,.go,.b false,.go,.b false,.go,.go,.b false,.go,.go] (by kernel_rfl) (by kernel_rfl) ⟨hqar15_1,(by omega),(cR_load (by omega) 65 (Try.underlying65) rfl (inf:=(Try.prog.info? 65).getD default) (by kernel_rfl) (by kernel_rfl)),hqar15_2,rfl,rfl,rfl,rfl,hqar15_3,rfl,rfl,rfl,hqar15_4,(iRN1 (by omega) (by omega)),trivial⟩ rfl (by show 0≤1; decide) ⟨⟨nb_v _,nb_xl (cR_plain P),nb_v _,nb_v _,trivial⟩,trivial,rfl⟩) (Hd.en_on (⟨i + 1,by omega,(up_next (q:=rngAt m (cR P)) hi2 (by unfold rngAt; omega))⟩) (by show P.length - (i + 1) < P.length - i; omega) rfl)
 ·skip
  have ghqar15_1:=ltI_false hqar15_1
  obtain rfl:i=P.length:=by omega
  exact goes_leafA isX_e (goes_told Try.checked.mixed (known_none) 200 (T':=⟨[],[],0,[]⟩) (e:=.exit 0) (ps:=[ltI P.length P.length=false]) [.go,.b false] (by kernel_rfl) (by kernel_rfl) ⟨hqar15_1,trivial⟩ rfl) (Hd.en_sx (ar_16 y P m hP hi2  hqar15_1 w hs))
theorem ar_12 (y:Value) (P:List (Int×Int)) (m:Int) (hP:P.length≤1000) (w:World) (hs:List Nat):Goes Try.prog 30 arK9 ((qN1_4 P m y)) (BaseW.H w hs) (Hd.AfterN Try.prog 30 arK6 w (OutH Try.prog Try.f62 30 (.bool (allB (rngAt m (cR P)) P.length)) w)):=by
 have hcl_P:=cR_len P
 exact Hd.goes_loopA (id:=0) (by kernel_rfl) (by kernel_rfl) (fun i:{i:Nat // i≤P.length∧∀ j,j < i→rngAt m (cR P) j}=>⟨[(0,(.v (.int .i64 (m)))),(qN1_20 P y),(qN1_9 P),(9,(.v (.int .i64 i.1)))],[],0,[]⟩) (fun i:{i:Nat // i≤P.length∧∀ j,j < i→rngAt m (cR P) j}=>P.length - i.1) (fun ix_ hs=>ar_14 y P m hP ix_.1 ix_.2.1 ix_.2.2 w hs) ⟨0,Nat.zero_le _,(fun j hj=>by omega)⟩ hs
theorem ar_11 (y:Value) (P:List (Int×Int)) (m:Int) (hP:P.length≤1000) (w:World) (hs:List Nat):Goes Try.prog 30 arK9 ((qN1_4 P m y)) (BaseW.H w hs) (Hd.AfterN Try.prog 30 arK6 w (OutH Try.prog Try.f62 30 (.bool (allB (rngAt m (cR P)) P.length)) w)):=by
 exact ar_12 y P m hP w hs
theorem ar_8 (y:Value) (P:List (Int×Int)) (m:Int) (hP:P.length≤1000) (w:World) (hs:List Nat):Goes Try.prog 30 arK7 ((qN1_8 P m y)) (BaseW.H w hs) (Hd.AfterN Try.prog 30 arK6 w (OutH Try.prog Try.f62 30 (.bool (allB (rngAt m (cR P)) P.length)) w)):=by
 have hcl_P:=cR_len P
 refine Hd.goes_seqA (by kernel_rfl) ?_
 exact goes_leafA isN_e (goes_told Try.checked.mixed (known_none) 200 (T':=(qN1_4 P m y)) (e:=.normal) (ps:=[]) [.go,.go,.go] (by kernel_rfl) (by kernel_rfl) trivial rfl) (Hd.en_n (ar_11 y P m hP w hs))
theorem ar_5 (y:Value) (P:List (Int×Int)) (m:Int) (hP:P.length≤1000) (w:World) (hs:List Nat):Goes Try.prog 30 arK3 ((qN1_8 P m y)) (BaseW.H w hs) (OutH Try.prog Try.f62 30 (.bool (allB (rngAt m (cR P)) P.length)) w):=by
 exact Hd.goes_seqA (by kernel_rfl) (ar_8 y P m hP w hs)
theorem ar_2 (y:Value) (P:List (Int×Int)) (m:Int) (hP:P.length≤1000) (w:World) (hs:List Nat):Goes Try.prog 30 arK1 (⟨[(0,(.v (.int .i64 m))),(1,(.xl y P.length 2 (cR P)))],[],0,[]⟩) (BaseW.H w hs) (OutH Try.prog Try.f62 30 (.bool (allB (rngAt m (cR P)) P.length)) w):=by
 have hcl_P:=cR_len P
 refine Hd.goes_seqA (by kernel_rfl) ?_
 exact goes_leafA isN_e (goes_told Try.checked.mixed (known_none) 200 (T':=(qN1_8 P m y)) (e:=.normal) (ps:=[]) [.go] (by kernel_rfl) (by kernel_rfl) trivial rfl) (Hd.en_n (ar_5 y P m hP w hs))
theorem ar_g (y:Value) (P:List (Int×Int)) (m:Int) (hP:P.length≤1000):GivesA Try.prog 62 [(.v (.int .i64 m)),(.xl y P.length 2 (cR P))] (.bool (allB (rngAt m (cR P)) P.length)) :=
 givesA_partsH 30 Try.func62 (by kernel_rfl) (by kernel_rfl) (by kernel_rfl) (fun w=>goes_less (by kernel_rfl) (by kernel_rfl) (by kernel_rfl) (by kernel_rfl) (ar_2 y P m hP w []))
noncomputable def ieqK1:Code:=bodyC Try.f61
noncomputable def ieqK3:Code:=tlC ieqK1
noncomputable def ieqK6:Code:=tlC ieqK3
noncomputable def ieqK7:Code:=(hdC ieqK3)
noncomputable def ieqK9:Code:=tlC ieqK7
noncomputable def ieqK13:Code:=loopC ieqK9
theorem ieq_16 (y:Value) (E:List (Value×List (Int×Int))) (n:Nat) (hE:E.length≤1000) (h0b:∀ j,j < (E.length)→xlN (cQw E) (j * 1)=n) (hqieq15_1:(ltI E.length E.length)=false) (w:World) (hs:List Nat):Goes Try.prog 21 ieqK6 (⟨[(qN1_16 E y)],[],0,[]⟩) (BaseW.H w hs) (OutH Try.prog Try.f61 21 (.bool (eyB (cQw E) E.length n)) w):=by
 have ghqieq15_1:=ltI_false hqieq15_1
 exact goes_leafA isR_e (goes_told Try.checked.mixed (known_none) 200 (T':=⟨[(4,(.v (.bool (eqI E.length 3))))],[],0,[]⟩) (e:=.ret) (ps:=[]) [.go,.go,.go,.go] (by kernel_rfl) (by kernel_rfl) trivial rfl) (Hd.en_eq (r:=(.bool (eqI E.length 3))) (by rw [eyB_all (c:=(cQw E)) (m:=E.length) (n:=n) h0b]) (Hd.en_ret (v:=(.v (.bool (eqI E.length 3)))) (by kernel_rfl) rfl))
theorem ieq_14 (y:Value) (E:List (Value×List (Int×Int))) (n:Nat) (hE:E.length≤1000) (i:Nat) (hi1:i≤E.length) (hi2:∀ j,j < i→xlN (cQw E) (j * 1)=n) (w:World) (hs:List Nat):Goes Try.prog 21 ieqK13 (⟨[(qN1_16 E y),(qN1_13 n),(qN1_18 E y),(qN1_11 E),(qN1_15 i)],[],0,[]⟩) (BaseW.H w hs) (Hd.StepC Try.prog 21 0 (fun i:{i:Nat // i≤E.length∧∀ j,j < i→xlN (cQw E) (j * 1)=n}=>⟨[(qN1_16 E y),(qN1_13 n),(qN1_18 E y),(qN1_11 E),(9,(.v (.int .i64 i.1)))],[],0,[]⟩) (fun i:{i:Nat // i≤E.length∧∀ j,j < i→xlN (cQw E) (j * 1)=n}=>E.length - i.1) ieqK6 w (OutH Try.prog Try.f61 21 (.bool (eyB (cQw E) E.length n)) w) (⟨i,hi1,hi2⟩:{i:Nat // i≤E.length∧∀ j,j < i→xlN (cQw E) (j * 1)=n})):=by
 rcases Bool.eq_false_or_eq_true (ltI i E.length) with hqieq15_1 | hqieq15_1
 ·skip
  have ghqieq15_1:=ltI_true hqieq15_1
  rcases Bool.eq_false_or_eq_true (eqI ((xlN (cQw E) (i * 1):Nat):Int) n) with hqieq15_2 | hqieq15_2
  ·skip
   have ghqieq15_2:=eqI_true hqieq15_2
   exact goes_leafA isN_e (goes_told Try.checked.mixed (known_none) 200 (T':=⟨[(qN1_16 E y),(qN1_13 n),(qN1_18 E y),(qN1_11 E),(qN1_12 i)],[],0,[]⟩) (e:=.normal) (ps:=[ltI i E.length=true,i < E.length,loadL Try.prog (cQw E) (i * 1) 23=some (AV.xl (xlY (cQw E) (i * 1)) (xlN (cQw E) (i * 1)) 2 (xlC (cQw E) (i * 1))),(!eqI ((xlN (cQw E) (i * 1):Nat):Int) n)=false,inR IntKind.i64 (((i:Nat):Int) + 1)]) [.go,.b true,.sym,.sym,.go,.go,.go,.go,.go,.b false,.go,.go] (by kernel_rfl) (by kernel_rfl) ⟨hqieq15_1,(by omega),(by rw [Nat.mul_one]; exact cQw_load (by omega) 23 (Try.underlying23) rfl),(by rw [hqieq15_2]; rfl),(iRN1 (by omega) (by omega)),trivial⟩ rfl) (Hd.en_on (⟨i + 1,by omega,(up_next (q:=fun j=>xlN (cQw E) (j * 1)=n) hi2 (by omega))⟩) (by show E.length - (i + 1) < E.length - i; omega) rfl)
  ·skip
   have ghqieq15_2:=eqI_false hqieq15_2
   exact goes_leafA isR_e (goes_told Try.checked.mixed (known_none) 200 (T':=⟨[(4,(.v (.bool .false)))],[],0,[]⟩) (e:=.ret) (ps:=[ltI i E.length=true,i < E.length,loadL Try.prog (cQw E) (i * 1) 23=some (AV.xl (xlY (cQw E) (i * 1)) (xlN (cQw E) (i * 1)) 2 (xlC (cQw E) (i * 1))),(!eqI ((xlN (cQw E) (i * 1):Nat):Int) n)=true]) [.go,.b true,.sym,.sym,.go,.go,.go,.go,.go,.b true,.go] (by kernel_rfl) (by kernel_rfl) ⟨hqieq15_1,(by omega),(by rw [Nat.mul_one]; exact cQw_load (by omega) 23 (Try.underlying23) rfl),(by rw [hqieq15_2]; rfl),trivial⟩ rfl) (Hd.en_so (by intro h; cases h) (by intro h; cases h) (Hd.en_eq (r:=(.bool .false)) (by rw [eyB_no (c:=(cQw E)) (m:=E.length) (n:=n) (i:=i) (by omega) (by omega)]) (Hd.en_ret (v:=(.v (.bool .false))) (by kernel_rfl) rfl)))
 ·skip
  have ghqieq15_1:=ltI_false hqieq15_1
  obtain rfl:i=E.length:=by omega
  exact goes_leafA isX_e (goes_told Try.checked.mixed (known_none) 200 (T':=⟨[(qN1_16 E y)],[],0,[]⟩) (e:=.exit 0) (ps:=[ltI E.length E.length=false]) [.go,.b false] (by kernel_rfl) (by kernel_rfl) ⟨hqieq15_1,trivial⟩ rfl) (Hd.en_sx (ieq_16 y E n hE hi2  hqieq15_1 w hs))
theorem ieq_12 (y:Value) (E:List (Value×List (Int×Int))) (n:Nat) (hE:E.length≤1000) (w:World) (hs:List Nat):Goes Try.prog 21 ieqK9 ((qN1_1 E n y)) (BaseW.H w hs) (Hd.AfterN Try.prog 21 ieqK6 w (OutH Try.prog Try.f61 21 (.bool (eyB (cQw E) E.length n)) w)):=by
 exact Hd.goes_loopA (id:=0) (by kernel_rfl) (by kernel_rfl) (fun i:{i:Nat // i≤E.length∧∀ j,j < i→xlN (cQw E) (j * 1)=n}=>⟨[(qN1_16 E y),(qN1_13 n),(qN1_18 E y),(qN1_11 E),(9,(.v (.int .i64 i.1)))],[],0,[]⟩) (fun i:{i:Nat // i≤E.length∧∀ j,j < i→xlN (cQw E) (j * 1)=n}=>E.length - i.1) (fun ix_ hs=>ieq_14 y E n hE ix_.1 ix_.2.1 ix_.2.2 w hs) ⟨0,Nat.zero_le _,(fun j hj=>by omega)⟩ hs
theorem ieq_11 (y:Value) (E:List (Value×List (Int×Int))) (n:Nat) (hE:E.length≤1000) (w:World) (hs:List Nat):Goes Try.prog 21 ieqK9 ((qN1_1 E n y)) (BaseW.H w hs) (Hd.AfterN Try.prog 21 ieqK6 w (OutH Try.prog Try.f61 21 (.bool (eyB (cQw E) E.length n)) w)):=by
 exact ieq_12 y E n hE w hs
theorem ieq_8 (y:Value) (E:List (Value×List (Int×Int))) (n:Nat) (hE:E.length≤1000) (w:World) (hs:List Nat):Goes Try.prog 21 ieqK7 ((qN1_5 E n y)) (BaseW.H w hs) (Hd.AfterN Try.prog 21 ieqK6 w (OutH Try.prog Try.f61 21 (.bool (eyB (cQw E) E.length n)) w)):=by
 refine Hd.goes_seqA (by kernel_rfl) ?_
 exact goes_leafA isN_e (goes_told Try.checked.mixed (known_none) 200 (T':=(qN1_1 E n y)) (e:=.normal) (ps:=[]) [.go,.go,.go] (by kernel_rfl) (by kernel_rfl) trivial rfl) (Hd.en_n (ieq_11 y E n hE w hs))
theorem ieq_5 (y:Value) (E:List (Value×List (Int×Int))) (n:Nat) (hE:E.length≤1000) (w:World) (hs:List Nat):Goes Try.prog 21 ieqK3 ((qN1_5 E n y)) (BaseW.H w hs) (OutH Try.prog Try.f61 21 (.bool (eyB (cQw E) E.length n)) w):=by
 exact Hd.goes_seqA (by kernel_rfl) (ieq_8 y E n hE w hs)
theorem ieq_2 (y:Value) (E:List (Value×List (Int×Int))) (n:Nat) (hE:E.length≤1000) (w:World) (hs:List Nat):Goes Try.prog 21 ieqK1 (⟨[(0,(.xl y E.length 1 (cQw E))),(1,(.v (.int .i64 n)))],[],0,[]⟩) (BaseW.H w hs) (OutH Try.prog Try.f61 21 (.bool (eyB (cQw E) E.length n)) w):=by
 refine Hd.goes_seqA (by kernel_rfl) ?_
 exact goes_leafA isN_e (goes_told Try.checked.mixed (known_none) 200 (T':=(qN1_5 E n y)) (e:=.normal) (ps:=[]) [.go] (by kernel_rfl) (by kernel_rfl) trivial rfl) (Hd.en_n (ieq_5 y E n hE w hs))
theorem ieq_g (y:Value) (E:List (Value×List (Int×Int))) (n:Nat) (hE:E.length≤1000):GivesA Try.prog 61 [(.xl y E.length 1 (cQw E)),(.v (.int .i64 n))] (.bool (eyB (cQw E) E.length n)) :=
 givesA_partsH 21 Try.func61 (by kernel_rfl) (by kernel_rfl) (by kernel_rfl) (fun w=>goes_less (by kernel_rfl) (by kernel_rfl) (by kernel_rfl) (by kernel_rfl) (ieq_2 y E n hE w []))
noncomputable def ieiK1:Code:=bodyC Try.f76
noncomputable def ieiK3:Code:=tlC ieiK1
noncomputable def ieiK6:Code:=tlC ieiK3
noncomputable def ieiK7:Code:=(hdC ieiK3)
noncomputable def ieiK9:Code:=tlC ieiK7
noncomputable def ieiK13:Code:=loopC ieiK9
theorem iei_16 (u:Value) (X:List (Value×List Int)) (n:Nat) (hE:X.length≤1000) (h0b:∀ j,j < (X.length)→xlN (cRw X) (j * 1)=n) (hqiei15_1:(ltI X.length X.length)=false) (w:World) (hs:List Nat):Goes Try.prog 21 ieiK6 (⟨[(qN1_17 X u)],[],0,[]⟩) (BaseW.H w hs) (OutH Try.prog Try.f76 21 (.bool (eyB (cRw X) X.length n)) w):=by
 have ghqiei15_1:=ltI_false hqiei15_1
 exact goes_leafA isR_e (goes_told Try.checked.mixed (known_none) 200 (T':=⟨[(4,(.v (.bool (eqI X.length 3))))],[],0,[]⟩) (e:=.ret) (ps:=[]) [.go,.go,.go,.go] (by kernel_rfl) (by kernel_rfl) trivial rfl) (Hd.en_eq (r:=(.bool (eqI X.length 3))) (by rw [eyB_all (c:=(cRw X)) (m:=X.length) (n:=n) h0b]) (Hd.en_ret (v:=(.v (.bool (eqI X.length 3)))) (by kernel_rfl) rfl))
theorem iei_14 (u:Value) (X:List (Value×List Int)) (n:Nat) (hE:X.length≤1000) (i:Nat) (hi1:i≤X.length) (hi2:∀ j,j < i→xlN (cRw X) (j * 1)=n) (w:World) (hs:List Nat):Goes Try.prog 21 ieiK13 (⟨[(qN1_17 X u),(qN1_13 n),(qN1_19 X u),(qN1_10 X),(qN1_15 i)],[],0,[]⟩) (BaseW.H w hs) (Hd.StepC Try.prog 21 0 (fun i:{i:Nat // i≤X.length∧∀ j,j < i→xlN (cRw X) (j * 1)=n}=>⟨[(qN1_17 X u),(qN1_13 n),(qN1_19 X u),(qN1_10 X),(9,(.v (.int .i64 i.1)))],[],0,[]⟩) (fun i:{i:Nat // i≤X.length∧∀ j,j < i→xlN (cRw X) (j * 1)=n}=>X.length - i.1) ieiK6 w (OutH Try.prog Try.f76 21 (.bool (eyB (cRw X) X.length n)) w) (⟨i,hi1,hi2⟩:{i:Nat // i≤X.length∧∀ j,j < i→xlN (cRw X) (j * 1)=n})):=by
 rcases Bool.eq_false_or_eq_true (ltI i X.length) with hqiei15_1 | hqiei15_1
 ·skip
  have ghqiei15_1:=ltI_true hqiei15_1
  rcases Bool.eq_false_or_eq_true (eqI ((xlN (cRw X) (i * 1):Nat):Int) n) with hqiei15_2 | hqiei15_2
  ·skip
   have ghqiei15_2:=eqI_true hqiei15_2
   exact goes_leafA isN_e (goes_told Try.checked.mixed (known_none) 200 (T':=⟨[(qN1_17 X u),(qN1_13 n),(qN1_19 X u),(qN1_10 X),(qN1_12 i)],[],0,[]⟩) (e:=.normal) (ps:=[ltI i X.length=true,i < X.length,loadL Try.prog (cRw X) (i * 1) 27=some (AV.xl (xlY (cRw X) (i * 1)) (xlN (cRw X) (i * 1)) 1 (xlC (cRw X) (i * 1))),(!eqI ((xlN (cRw X) (i * 1):Nat):Int) n)=false,inR IntKind.i64 (((i:Nat):Int) + 1)]) [.go,.b true,.sym,.sym,.go,.go,.go,.go,.go,.b false,.go,.go] (by kernel_rfl) (by kernel_rfl) ⟨hqiei15_1,(by omega),(by rw [Nat.mul_one]; exact cRw_load (by omega) 27 (Try.underlying27) rfl),(by rw [hqiei15_2]; rfl),(iRN1 (by omega) (by omega)),trivial⟩ rfl) (Hd.en_on (⟨i + 1,by omega,(up_next (q:=fun j=>xlN (cRw X) (j * 1)=n) hi2 (by omega))⟩) (by show X.length - (i + 1) < X.length - i; omega) rfl)
  ·skip
   have ghqiei15_2:=eqI_false hqiei15_2
   exact goes_leafA isR_e (goes_told Try.checked.mixed (known_none) 200 (T':=⟨[(4,(.v (.bool .false)))],[],0,[]⟩) (e:=.ret) (ps:=[ltI i X.length=true,i < X.length,loadL Try.prog (cRw X) (i * 1) 27=some (AV.xl (xlY (cRw X) (i * 1)) (xlN (cRw X) (i * 1)) 1 (xlC (cRw X) (i * 1))),(!eqI ((xlN (cRw X) (i * 1):Nat):Int) n)=true]) [.go,.b true,.sym,.sym,.go,.go,.go,.go,.go,.b true,.go] (by kernel_rfl) (by kernel_rfl) ⟨hqiei15_1,(by omega),(by rw [Nat.mul_one]; exact cRw_load (by omega) 27 (Try.underlying27) rfl),(by rw [hqiei15_2]; rfl),trivial⟩ rfl) (Hd.en_so (by intro h; cases h) (by intro h; cases h) (Hd.en_eq (r:=(.bool .false)) (by rw [eyB_no (c:=(cRw X)) (m:=X.length) (n:=n) (i:=i) (by omega) (by omega)]) (Hd.en_ret (v:=(.v (.bool .false))) (by kernel_rfl) rfl)))
 ·skip
  have ghqiei15_1:=ltI_false hqiei15_1
  obtain rfl:i=X.length:=by omega
  exact goes_leafA isX_e (goes_told Try.checked.mixed (known_none) 200 (T':=⟨[(qN1_17 X u)],[],0,[]⟩) (e:=.exit 0) (ps:=[ltI X.length X.length=false]) [.go,.b false] (by kernel_rfl) (by kernel_rfl) ⟨hqiei15_1,trivial⟩ rfl) (Hd.en_sx (iei_16 u X n hE hi2  hqiei15_1 w hs))
theorem iei_12 (u:Value) (X:List (Value×List Int)) (n:Nat) (hE:X.length≤1000) (w:World) (hs:List Nat):Goes Try.prog 21 ieiK9 ((qN1_2 X n u)) (BaseW.H w hs) (Hd.AfterN Try.prog 21 ieiK6 w (OutH Try.prog Try.f76 21 (.bool (eyB (cRw X) X.length n)) w)):=by
 exact Hd.goes_loopA (id:=0) (by kernel_rfl) (by kernel_rfl) (fun i:{i:Nat // i≤X.length∧∀ j,j < i→xlN (cRw X) (j * 1)=n}=>⟨[(qN1_17 X u),(qN1_13 n),(qN1_19 X u),(qN1_10 X),(9,(.v (.int .i64 i.1)))],[],0,[]⟩) (fun i:{i:Nat // i≤X.length∧∀ j,j < i→xlN (cRw X) (j * 1)=n}=>X.length - i.1) (fun ix_ hs=>iei_14 u X n hE ix_.1 ix_.2.1 ix_.2.2 w hs) ⟨0,Nat.zero_le _,(fun j hj=>by omega)⟩ hs
theorem iei_11 (u:Value) (X:List (Value×List Int)) (n:Nat) (hE:X.length≤1000) (w:World) (hs:List Nat):Goes Try.prog 21 ieiK9 ((qN1_2 X n u)) (BaseW.H w hs) (Hd.AfterN Try.prog 21 ieiK6 w (OutH Try.prog Try.f76 21 (.bool (eyB (cRw X) X.length n)) w)):=by
 exact iei_12 u X n hE w hs
theorem iei_8 (u:Value) (X:List (Value×List Int)) (n:Nat) (hE:X.length≤1000) (w:World) (hs:List Nat):Goes Try.prog 21 ieiK7 ((qN1_6 X n u)) (BaseW.H w hs) (Hd.AfterN Try.prog 21 ieiK6 w (OutH Try.prog Try.f76 21 (.bool (eyB (cRw X) X.length n)) w)):=by
 refine Hd.goes_seqA (by kernel_rfl) ?_
 exact goes_leafA isN_e (goes_told Try.checked.mixed (known_none) 200 (T':=(qN1_2 X n u)) (e:=.normal) (ps:=[]) [.go,.go,.go] (by kernel_rfl) (by kernel_rfl) trivial rfl) (Hd.en_n (iei_11 u X n hE w hs))
theorem iei_5 (u:Value) (X:List (Value×List Int)) (n:Nat) (hE:X.length≤1000) (w:World) (hs:List Nat):Goes Try.prog 21 ieiK3 ((qN1_6 X n u)) (BaseW.H w hs) (OutH Try.prog Try.f76 21 (.bool (eyB (cRw X) X.length n)) w):=by
 exact Hd.goes_seqA (by kernel_rfl) (iei_8 u X n hE w hs)
theorem iei_2 (u:Value) (X:List (Value×List Int)) (n:Nat) (hE:X.length≤1000) (w:World) (hs:List Nat):Goes Try.prog 21 ieiK1 (⟨[(0,(.xl u X.length 1 (cRw X))),(1,(.v (.int .i64 n)))],[],0,[]⟩) (BaseW.H w hs) (OutH Try.prog Try.f76 21 (.bool (eyB (cRw X) X.length n)) w):=by
 refine Hd.goes_seqA (by kernel_rfl) ?_
 exact goes_leafA isN_e (goes_told Try.checked.mixed (known_none) 200 (T':=(qN1_6 X n u)) (e:=.normal) (ps:=[]) [.go] (by kernel_rfl) (by kernel_rfl) trivial rfl) (Hd.en_n (iei_5 u X n hE w hs))
theorem iei_g (u:Value) (X:List (Value×List Int)) (n:Nat) (hE:X.length≤1000):GivesA Try.prog 76 [(.xl u X.length 1 (cRw X)),(.v (.int .i64 n))] (.bool (eyB (cRw X) X.length n)) :=
 givesA_partsH 21 Try.func76 (by kernel_rfl) (by kernel_rfl) (by kernel_rfl) (fun w=>goes_less (by kernel_rfl) (by kernel_rfl) (by kernel_rfl) (by kernel_rfl) (iei_2 u X n hE w []))
noncomputable def awK1:Code:=bodyC Try.f77
noncomputable def awK3:Code:=tlC awK1
noncomputable def awK6:Code:=tlC awK3
noncomputable def awK7:Code:=(hdC awK3)
noncomputable def awK9:Code:=tlC awK7
noncomputable def awK13:Code:=loopC awK9
theorem aw_16 (y:Value) (P:List (Int×Int)) (u:Value) (Y:List Int) (hP:P.length≤1000) (hY:P.length≤Y.length) (h0b:∀ j,j < (P.length)→wiAt (cR P) (cI Y) j) (hqaw15_1:(ltI P.length P.length)=false) (w:World) (hs:List Nat):Goes Try.prog 25 awK6 (⟨[],[],0,[]⟩) (BaseW.H w hs) (OutH Try.prog Try.f77 25 (.bool (allB (wiAt (cR P) (cI Y)) P.length)) w):=by
 have hcl_P:=cR_len P
 have hcl_Y:=cI_len Y
 have ghqaw15_1:=ltI_false hqaw15_1
 exact goes_leafA isR_e (goes_told Try.checked.mixed (known_none) 200 (T':=⟨[(4,(.v (.bool .true)))],[],0,[]⟩) (e:=.ret) (ps:=[]) [.go] (by kernel_rfl) (by kernel_rfl) trivial rfl) (Hd.en_eq (r:=(.bool .true)) (by rw [allB_true.2 (show ∀ i,i < P.length→wiAt (cR P) (cI Y) i from h0b)]) (Hd.en_ret (v:=(.v (.bool .true))) (by kernel_rfl) rfl))
theorem aw_14 (y:Value) (P:List (Int×Int)) (u:Value) (Y:List Int) (hP:P.length≤1000) (hY:P.length≤Y.length) (i:Nat) (hi1:i≤P.length) (hi2:∀ j,j < i→wiAt (cR P) (cI Y) j) (w:World) (hs:List Nat):Goes Try.prog 25 awK13 (⟨[(qN1_21 Y u),(qN1_20 P y),(qN1_9 P),(qN1_15 i)],[],0,[]⟩) (BaseW.H w hs) (Hd.StepC Try.prog 25 0 (fun i:{i:Nat // i≤P.length∧∀ j,j < i→wiAt (cR P) (cI Y) j}=>⟨[(qN1_21 Y u),(qN1_20 P y),(qN1_9 P),(9,(.v (.int .i64 i.1)))],[],0,[]⟩) (fun i:{i:Nat // i≤P.length∧∀ j,j < i→wiAt (cR P) (cI Y) j}=>P.length - i.1) awK6 w (OutH Try.prog Try.f77 25 (.bool (allB (wiAt (cR P) (cI Y)) P.length)) w) (⟨i,hi1,hi2⟩:{i:Nat // i≤P.length∧∀ j,j < i→wiAt (cR P) (cI Y) j})):=by
 have hcl_P:=cR_len P
 have hcl_Y:=cI_len Y
 rcases Bool.eq_false_or_eq_true (ltI i P.length) with hqaw15_1 | hqaw15_1
 ·skip
  have ghqaw15_1:=ltI_true hqaw15_1
  rcases Bool.eq_false_or_eq_true (ltI (intAt (cI Y) (i * 1)) (intAt (cR P) (i * 2 + 0))) with hqaw15_2 | hqaw15_2
  ·skip
   have ghqaw15_2:=ltI_true hqaw15_2
   exact goes_leafA isR_e (goes_told Try.checked.mixed (known_none) 200 (T':=qN1_14) (e:=.ret) (ps:=[ltI i P.length=true,i < P.length,loadL Try.prog (cR P) (i * 2) 65=some (AV.agg [AV.v (Value.int IntKind.i64 (intAt (cR P) (i * 2 + 0))),AV.v (Value.int IntKind.i64 (intAt (cR P) (i * 2 + 1)))]),i < Y.length,loadL Try.prog (cI Y) (i * 1) 2=some (AV.v (Value.int IntKind.i64 (intAt (cI Y) (i * 1)))),(!ltI (intAt (cI Y) (i * 1)) (intAt (cR P) (i * 2 + 0)))=false,false=false,false=false,(!false)=true]) [.go,.b true,.go,.sym,.sym,.go,.go,.go,.go,.go,.sym,.sym,.go,.go,.go,.go,.go,.go,.go,.go,.go,.b false,.b false,.b false,.go,.go,.go,.b true,.go] (by kernel_rfl) (by kernel_rfl) ⟨hqaw15_1,(by omega),(cR_load (by omega) 65 (Try.underlying65) rfl (inf:=(Try.prog.info? 65).getD default) (by kernel_rfl) (by kernel_rfl)),(by omega),(by rw [Nat.mul_one]; exact cI_load (show _ < Y.length by omega) 2 (Try.underlying2) rfl),(by rw [hqaw15_2]; rfl),rfl,rfl,rfl,trivial⟩ rfl) (Hd.en_so (by intro h; cases h) (by intro h; cases h) (Hd.en_eq (r:=(.bool .false)) (by rw [allB_no (Q:=wiAt (cR P) (cI Y)) (i:=i) (by omega) (by unfold wiAt; omega)]) (Hd.en_ret (v:=(.v (.bool .false))) (by kernel_rfl) rfl)))
  ·skip
   have ghqaw15_2:=ltI_false hqaw15_2
   rcases Bool.eq_false_or_eq_true (ltI (intAt (cR P) (i * 2 + 1)) (intAt (cI Y) (i * 1))) with hqaw15_3 | hqaw15_3
   ·skip
    have ghqaw15_3:=ltI_true hqaw15_3
    exact goes_leafA isR_e (goes_told Try.checked.mixed (known_none) 200 (T':=qN1_14) (e:=.ret) (ps:=[ltI i P.length=true,i < P.length,loadL Try.prog (cR P) (i * 2) 65=some (AV.agg [AV.v (Value.int IntKind.i64 (intAt (cR P) (i * 2 + 0))),AV.v (Value.int IntKind.i64 (intAt (cR P) (i * 2 + 1)))]),i < Y.length,loadL Try.prog (cI Y) (i * 1) 2=some (AV.v (Value.int IntKind.i64 (intAt (cI Y) (i * 1)))),(!ltI (intAt (cI Y) (i * 1)) (intAt (cR P) (i * 2 + 0)))=true,true=true,true=true,(!!ltI (intAt (cR P) (i * 2 + 1)) (intAt (cI Y) (i * 1)))=true]) [.go,.b true,.go,.sym,.sym,.go,.go,.go,.go,.go,.sym,.sym,.go,.go,.go,.go,.go,.go,.go,.go,.go,.b true,.go,.b true,.go,.b true,.go,.go,.go,.go,.b true,.go] (by kernel_rfl) (by kernel_rfl) ⟨hqaw15_1,(by omega),(cR_load (by omega) 65 (Try.underlying65) rfl (inf:=(Try.prog.info? 65).getD default) (by kernel_rfl) (by kernel_rfl)),(by omega),(by rw [Nat.mul_one]; exact cI_load (show _ < Y.length by omega) 2 (Try.underlying2) rfl),(by rw [hqaw15_2]; rfl),rfl,rfl,(by rw [hqaw15_3]; rfl),trivial⟩ rfl) (Hd.en_so (by intro h; cases h) (by intro h; cases h) (Hd.en_eq (r:=(.bool .false)) (by rw [allB_no (Q:=wiAt (cR P) (cI Y)) (i:=i) (by omega) (by unfold wiAt; omega)]) (Hd.en_ret (v:=(.v (.bool .false))) (by kernel_rfl) rfl)))
   ·skip
    have ghqaw15_3:=ltI_false hqaw15_3
    exact goes_leafA isN_e (goes_cut Try.checked.mixed (known_none) 200 (T':=⟨[(qN1_21 Y u),(qN1_20 P y),(qN1_9 P),(qN1_12 i)],[],0,[]⟩) (e:=.normal) (m:=1) (ps:=[ltI i P.length=true,i < P.length,loadL Try.prog (cR P) (i * 2) 65=some (AV.agg [AV.v (Value.int IntKind.i64 (intAt (cR P) (i * 2 + 0))),AV.v (Value.int IntKind.i64 (intAt (cR P) (i * 2 + 1)))]),i < Y.length,loadL Try.prog (cI Y) (i * 1) 2=some (AV.v (Value.int IntKind.i64 (intAt (cI Y) (i * 1)))),(!ltI (intAt (cI Y) (i * 1)) (intAt (cR P) (i * 2 + 0)))=true,true=true,true=true,(!!ltI (intAt (cR P) (i * 2 + 1)) (intAt (cI Y) (i * 1)))=false,inR IntKind.i64 (((i:Nat):Int) + 1)]) [.go,.b true,.go,.sym,.sym,.go,.go,.go,.go,.go,.sym,.sym,.go,.go,.go,.go,.go,.go,.go,.go,.go,.b true,.go,.b true,.go,.b true,.go,.go,.go,.go,.b false,.go,.go] (by kernel_rfl) (by kernel_rfl) ⟨hqaw15_1,(by omega),(cR_load (by omega) 65 (Try.underlying65) rfl (inf:=(Try.prog.info? 65).getD default) (by kernel_rfl) (by kernel_rfl)),(by omega),(by rw [Nat.mul_one]; exact cI_load (show _ < Y.length by omega) 2 (Try.underlying2) rfl),(by rw [hqaw15_2]; rfl),rfl,rfl,(by rw [hqaw15_3]; rfl),(iRN1 (by omega) (by omega)),trivial⟩ rfl (by show 0≤1; decide) ⟨⟨nb_xl (cI_plain Y),nb_xl (cR_plain P),nb_v _,nb_v _,trivial⟩,trivial,rfl⟩) (Hd.en_on (⟨i + 1,by omega,(up_next (q:=wiAt (cR P) (cI Y)) hi2 (by unfold wiAt; omega))⟩) (by show P.length - (i + 1) < P.length - i; omega) rfl)
 ·skip
  have ghqaw15_1:=ltI_false hqaw15_1
  obtain rfl:i=P.length:=by omega
  exact goes_leafA isX_e (goes_told Try.checked.mixed (known_none) 200 (T':=⟨[],[],0,[]⟩) (e:=.exit 0) (ps:=[ltI P.length P.length=false]) [.go,.b false] (by kernel_rfl) (by kernel_rfl) ⟨hqaw15_1,trivial⟩ rfl) (Hd.en_sx (aw_16 y P u Y hP hY hi2  hqaw15_1 w hs))
theorem aw_12 (y:Value) (P:List (Int×Int)) (u:Value) (Y:List Int) (hP:P.length≤1000) (hY:P.length≤Y.length) (w:World) (hs:List Nat):Goes Try.prog 25 awK9 ((qN1_3 P Y u y)) (BaseW.H w hs) (Hd.AfterN Try.prog 25 awK6 w (OutH Try.prog Try.f77 25 (.bool (allB (wiAt (cR P) (cI Y)) P.length)) w)):=by
 have hcl_P:=cR_len P
 have hcl_Y:=cI_len Y
 exact Hd.goes_loopA (id:=0) (by kernel_rfl) (by kernel_rfl) (fun i:{i:Nat // i≤P.length∧∀ j,j < i→wiAt (cR P) (cI Y) j}=>⟨[(qN1_21 Y u),(qN1_20 P y),(qN1_9 P),(9,(.v (.int .i64 i.1)))],[],0,[]⟩) (fun i:{i:Nat // i≤P.length∧∀ j,j < i→wiAt (cR P) (cI Y) j}=>P.length - i.1) (fun ix_ hs=>aw_14 y P u Y hP hY ix_.1 ix_.2.1 ix_.2.2 w hs) ⟨0,Nat.zero_le _,(fun j hj=>by omega)⟩ hs
theorem aw_11 (y:Value) (P:List (Int×Int)) (u:Value) (Y:List Int) (hP:P.length≤1000) (hY:P.length≤Y.length) (w:World) (hs:List Nat):Goes Try.prog 25 awK9 ((qN1_3 P Y u y)) (BaseW.H w hs) (Hd.AfterN Try.prog 25 awK6 w (OutH Try.prog Try.f77 25 (.bool (allB (wiAt (cR P) (cI Y)) P.length)) w)):=by
 exact aw_12 y P u Y hP hY w hs
theorem aw_8 (y:Value) (P:List (Int×Int)) (u:Value) (Y:List Int) (hP:P.length≤1000) (hY:P.length≤Y.length) (w:World) (hs:List Nat):Goes Try.prog 25 awK7 ((qN1_7 P Y u y)) (BaseW.H w hs) (Hd.AfterN Try.prog 25 awK6 w (OutH Try.prog Try.f77 25 (.bool (allB (wiAt (cR P) (cI Y)) P.length)) w)):=by
 have hcl_P:=cR_len P
 have hcl_Y:=cI_len Y
 refine Hd.goes_seqA (by kernel_rfl) ?_
 exact goes_leafA isN_e (goes_told Try.checked.mixed (known_none) 200 (T':=(qN1_3 P Y u y)) (e:=.normal) (ps:=[]) [.go,.go,.go] (by kernel_rfl) (by kernel_rfl) trivial rfl) (Hd.en_n (aw_11 y P u Y hP hY w hs))
theorem aw_5 (y:Value) (P:List (Int×Int)) (u:Value) (Y:List Int) (hP:P.length≤1000) (hY:P.length≤Y.length) (w:World) (hs:List Nat):Goes Try.prog 25 awK3 ((qN1_7 P Y u y)) (BaseW.H w hs) (OutH Try.prog Try.f77 25 (.bool (allB (wiAt (cR P) (cI Y)) P.length)) w):=by
 exact Hd.goes_seqA (by kernel_rfl) (aw_8 y P u Y hP hY w hs)
theorem aw_2 (y:Value) (P:List (Int×Int)) (u:Value) (Y:List Int) (hP:P.length≤1000) (hY:P.length≤Y.length) (w:World) (hs:List Nat):Goes Try.prog 25 awK1 (⟨[(0,(.xl y P.length 2 (cR P))),(1,(.xl u Y.length 1 (cI Y)))],[],0,[]⟩) (BaseW.H w hs) (OutH Try.prog Try.f77 25 (.bool (allB (wiAt (cR P) (cI Y)) P.length)) w):=by
 have hcl_P:=cR_len P
 have hcl_Y:=cI_len Y
 refine Hd.goes_seqA (by kernel_rfl) ?_
 exact goes_leafA isN_e (goes_told Try.checked.mixed (known_none) 200 (T':=(qN1_7 P Y u y)) (e:=.normal) (ps:=[]) [.go] (by kernel_rfl) (by kernel_rfl) trivial rfl) (Hd.en_n (aw_5 y P u Y hP hY w hs))
theorem aw_g (y:Value) (P:List (Int×Int)) (u:Value) (Y:List Int) (hP:P.length≤1000) (hY:P.length≤Y.length):GivesA Try.prog 77 [(.xl y P.length 2 (cR P)),(.xl u Y.length 1 (cI Y))] (.bool (allB (wiAt (cR P) (cI Y)) P.length)) :=
 givesA_partsH 25 Try.func77 (by kernel_rfl) (by kernel_rfl) (by kernel_rfl) (fun w=>goes_less (by kernel_rfl) (by kernel_rfl) (by kernel_rfl) (by kernel_rfl) (aw_2 y P u Y hP hY w []))
end
end Go.Proofs.Ytegmogadbnfbgaa
