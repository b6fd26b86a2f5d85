import Derived.Test.YtldekgkjofgacaaZ27
set_option maxHeartbeats 4000000
set_option linter.all false
/- Lights behind a coating. -/
namespace Go.Proofs.Ytldekgkjofgacaa
open Go Ev
theorem hcZ28 (A:List Int) (B:List Bool) (L:List (Int×Int)) (W:List Int):(cI A).length=A.length∧(cR L).length=L.length * 2∧(cB B).length=B.length∧(cI W).length=W.length:=⟨cI_len A,cR_len L,cB_len B,cI_len W⟩
theorem iRZ28 {a:Int} (h : -9223372036854775808≤a) (k:a≤9223372036854775807):inR .i64 a:=⟨h,k⟩
section
variable (A : List Int) (B : List Bool) (L : List (Int × Int)) (W : List Int) (eb : Nat → Option Nat) (ec : Nat → Nat) (hi : Nat → Int) (i : Nat) (lo : Nat → Int) (p q : Int) (v : BaseW) (ya yf yl yw : Value)
@[reducible] def q28_38:Nat×Ev.AV:=(1,(.fn (.func 67) [] [(.ptr 0 0),(.ptr 1 0)]))
@[reducible] def q28_33:List Ev.AV:=[AV.xl ya A.length 1 (cI A),AV.xl yl L.length 2 (cR L),AV.xl yf B.length 1 (cB B),AV.xl yw W.length 1 (cI W)]
@[reducible] def q28_44:Nat×Ev.AV:=(9,(.xl (yw) (W.length) 1 (cI W)))
@[reducible] def q28_37:Nat×Ev.AV:=(10,(.v (.int .i64 (((W.length:Nat):Int)))))
@[reducible] def q28_40:Nat×Ev.AV:=(11,(.v (.int .i64 (((i + 1):Nat):Int))))
@[reducible] def q28_30:List Ev.AV:=[(.xl (ya) (A.length) 1 (cI A)),(.xl (yl) (L.length) 2 (cR L)),(.xl (yf) (B.length) 1 (cB B)),(.xl (yw) (W.length) 1 (cI W))]
@[reducible] def q28_25:Nat×Ev.AB:=(0,(.cells (bdT (q28_30 A B L W ya yf yl yw) (lo) (hi)) 95))
@[reducible] def q28_35:Nat×Ev.AB:=(1,(.cells [(.v (.int .i64 (p))),(.v (.int .i64 (q)))] 40))
@[reducible] def q28_1:Ev.Lit:=⟨[q28_38,(5,(.v (.int .i64 (sumG (cI W) (fun k=>(hi k * q).tdiv 1000) i + intAt (cI W) (i * 1) * (intAt (bdT (q28_33 A B L W ya yf yl yw) lo hi) (0 + 4 + 91 + i * 1) * q).tdiv 1000)))),(q28_44 W yw),(q28_37 W),(q28_40 i)],[],3,[(q28_25 A B L W hi lo ya yf yl yw),(q28_35 p q)]⟩
@[reducible] def q28_39:Nat×Ev.AV:=(1,(.fn (.func 65) [] [(.ptr 0 0),(.ptr 1 0)]))
@[reducible] def q28_2:Ev.Lit:=⟨[q28_39,(5,(.v (.int .i64 (sumG (cI W) (fun k=>(lo k * p).tdiv 1000) i + intAt (cI W) (i * 1) * (intAt (bdT (q28_33 A B L W ya yf yl yw) lo hi) (0 + 4 + 0 + i * 1) * p).tdiv 1000)))),(q28_44 W yw),(q28_37 W),(q28_40 i)],[],3,[(q28_25 A B L W hi lo ya yf yl yw),(q28_35 p q)]⟩
@[reducible] def q28_42:Nat×Ev.AV:=(1,(.fn (.func 68) [(.ptr 0 0)] []))
@[reducible] def q28_3:Ev.Lit:=⟨[q28_42,(5,(.v (.int .i64 (sumG (cI W) hi i + intAt (cI W) (i * 1) * intAt (bdT (q28_33 A B L W ya yf yl yw) lo hi) (0 + 4 + 91 + i * 1))))),(q28_44 W yw),(q28_37 W),(q28_40 i)],[],2,[(q28_25 A B L W hi lo ya yf yl yw)]⟩
@[reducible] def q28_43:Nat×Ev.AV:=(1,(.fn (.func 66) [(.ptr 0 0)] []))
@[reducible] def q28_4:Ev.Lit:=⟨[q28_43,(5,(.v (.int .i64 (sumG (cI W) lo i + intAt (cI W) (i * 1) * intAt (bdT (q28_33 A B L W ya yf yl yw) lo hi) (0 + 4 + 0 + i * 1))))),(q28_44 W yw),(q28_37 W),(q28_40 i)],[],2,[(q28_25 A B L W hi lo ya yf yl yw)]⟩
@[reducible] def q28_28:Ev.AB:=(.cells (q28_30 A B L W ya yf yl yw) 26)
@[reducible] def q28_26:Nat×Ev.AB:=(2,(q28_28 A B L W ya yf yl yw))
@[reducible] def q28_5:Ev.Lit:=⟨[q28_38,(2,(.ptr 2 0)),(5,(.v (.int .i64 (.ofNat 0))))],[],3,[(q28_25 A B L W hi lo ya yf yl yw),(q28_35 p q),(q28_26 A B L W ya yf yl yw)]⟩
@[reducible] def q28_6:Ev.Lit:=⟨[q28_39,(2,(.ptr 2 0)),(5,(.v (.int .i64 (.ofNat 0))))],[],3,[(q28_25 A B L W hi lo ya yf yl yw),(q28_35 p q),(q28_26 A B L W ya yf yl yw)]⟩
@[reducible] def q28_7:Ev.Lit:=⟨[q28_38,(2,(.ptr 2 0))],[],3,[(q28_25 A B L W hi lo ya yf yl yw),(q28_35 p q),(q28_26 A B L W ya yf yl yw)]⟩
@[reducible] def q28_8:Ev.Lit:=⟨[q28_39,(2,(.ptr 2 0))],[],3,[(q28_25 A B L W hi lo ya yf yl yw),(q28_35 p q),(q28_26 A B L W ya yf yl yw)]⟩
@[reducible] def q28_9:Ev.Lit:=⟨[q28_38,(5,(.v (.int .i64 (.ofNat 0)))),(q28_44 W yw),(q28_37 W),(11,(.v (.int .i64 (.ofNat 0))))],[],3,[(q28_25 A B L W hi lo ya yf yl yw),(q28_35 p q)]⟩
@[reducible] def q28_10:Ev.Lit:=⟨[q28_39,(5,(.v (.int .i64 (.ofNat 0)))),(q28_44 W yw),(q28_37 W),(11,(.v (.int .i64 (.ofNat 0))))],[],3,[(q28_25 A B L W hi lo ya yf yl yw),(q28_35 p q)]⟩
@[reducible] def q28_27:Nat×Ev.AB:=(1,(q28_28 A B L W ya yf yl yw))
@[reducible] def q28_11:Ev.Lit:=⟨[q28_42,(2,(.ptr 1 0)),(5,(.v (.int .i64 (.ofNat 0))))],[],2,[(q28_25 A B L W hi lo ya yf yl yw),(q28_27 A B L W ya yf yl yw)]⟩
@[reducible] def q28_12:Ev.Lit:=⟨[q28_43,(2,(.ptr 1 0)),(5,(.v (.int .i64 (.ofNat 0))))],[],2,[(q28_25 A B L W hi lo ya yf yl yw),(q28_27 A B L W ya yf yl yw)]⟩
@[reducible] def q28_13:Ev.Lit:=⟨[q28_42,(2,(.ptr 1 0))],[],2,[(q28_25 A B L W hi lo ya yf yl yw),(q28_27 A B L W ya yf yl yw)]⟩
@[reducible] def q28_14:Ev.Lit:=⟨[q28_43,(2,(.ptr 1 0))],[],2,[(q28_25 A B L W hi lo ya yf yl yw),(q28_27 A B L W ya yf yl yw)]⟩
@[reducible] def q28_15:Ev.Lit:=⟨[q28_42,(5,(.v (.int .i64 (.ofNat 0)))),(q28_44 W yw),(q28_37 W),(11,(.v (.int .i64 (.ofNat 0))))],[],2,[(q28_25 A B L W hi lo ya yf yl yw)]⟩
@[reducible] def q28_16:Ev.Lit:=⟨[q28_43,(5,(.v (.int .i64 (.ofNat 0)))),(q28_44 W yw),(q28_37 W),(11,(.v (.int .i64 (.ofNat 0))))],[],2,[(q28_25 A B L W hi lo ya yf yl yw)]⟩
@[reducible] def q28_17:Ev.Lit:=⟨[(5,(.v (.int .i64 (sumG (cI W) (fun k=>(lo k * p).tdiv 1000) (W.length)))))],[],3,[(q28_25 A B L W hi lo ya yf yl yw),(q28_35 p q)]⟩
@[reducible] def q28_18:Ev.Lit:=⟨[(5,(.v (.int .i64 (sumG (cI W) (fun k=>(hi k * q).tdiv 1000) (W.length)))))],[],3,[(q28_25 A B L W hi lo ya yf yl yw),(q28_35 p q)]⟩
@[reducible] def q28_34:List Ev.AV:=[.xl ya A.length 1 (cI A),.xl yl L.length 2 (cR L),.xl yf B.length 1 (cB B),.xl yw W.length 1 (cI W)]
@[reducible] def q28_31:Ev.AB:=(.cells (bdT (q28_34 A B L W ya yf yl yw) lo hi) 95)
@[reducible] def q28_36:Ev.AB:=(.cells [(.v (.int .i64 p)),(.v (.int .i64 q))] 40)
@[reducible] def q28_19:=(OutN Try.prog Try.f46 25 (.int .i64 (sumG (cI W) (fun k=>(lo k * p).tdiv 1000) W.length)) [(q28_31 A B L W hi lo ya yf yl yw),(q28_36 p q)] (bw v 2 eb ec))
@[reducible] def q28_20:=(OutN Try.prog Try.f46 25 (.int .i64 (sumG (cI W) (fun k=>(hi k * q).tdiv 1000) W.length)) [(q28_31 A B L W hi lo ya yf yl yw),(q28_36 p q)] (bw v 2 eb ec))
@[reducible] def q28_21:Ev.Lit:=⟨[(5,(.v (.int .i64 (sumG (cI W) lo (W.length)))))],[],2,[(q28_25 A B L W hi lo ya yf yl yw)]⟩
@[reducible] def q28_22:Ev.Lit:=⟨[(5,(.v (.int .i64 (sumG (cI W) hi (W.length)))))],[],2,[(q28_25 A B L W hi lo ya yf yl yw)]⟩
@[reducible] def q28_23:=(OutN Try.prog Try.f46 25 (.int .i64 (sumG (cI W) lo W.length)) [(q28_31 A B L W hi lo ya yf yl yw)] (bw v 1 eb ec))
@[reducible] def q28_24:=(OutN Try.prog Try.f46 25 (.int .i64 (sumG (cI W) hi W.length)) [(q28_31 A B L W hi lo ya yf yl yw)] (bw v 1 eb ec))
@[reducible] def q28_29:Nat×Ev.AB:=(0,(q28_31 A B L W hi lo ya yf yl yw))
@[reducible] def q28_32:Nat×Ev.AV:=(0,.agg (q28_34 A B L W ya yf yl yw))
@[reducible] def q28_41:Nat×Ev.AV:=(11,(.v (.int .i64 ((i:Nat):Int))))
end
theorem coat_bd {a b:Int} (h:0≤a∧a≤200) (k:0≤b∧b≤1000):0≤(a * b).tdiv 1000∧(a * b).tdiv 1000≤200:=by
 have h1:=Int.mul_nonneg h.1 k.1
 have h2:a * b≤200 * 1000:=Int.mul_le_mul h.2 k.2 k.1 (by omega)
 rw [Int.tdiv_eq_ediv_of_nonneg h1]
 omega
end Go.Proofs.Ytldekgkjofgacaa
namespace Go.Proofs.Ytldekgkjofgacaa
open Go Ev
noncomputable section
noncomputable def flK1:Code:=bodyC Try.f46
noncomputable def flK3:Code:=tlC flK1
noncomputable def flK6:Code:=tlC flK3
noncomputable def flK9:Code:=tlC flK6
noncomputable def flK10:Code:=(hdC flK6)
noncomputable def flK12:Code:=tlC flK10
noncomputable def flK16:Code:=loopC flK12
theorem fl_19 (ya yl yf yw:Value) (A:List Int) (L:List (Int×Int)) (B:List Bool) (W:List Int) (lo hi:Nat→Int) (hz:clE (cI A) A.length (cR L) L.length B.length (cI W) W.length=0) (hlo:∀ k,k < 91→0≤lo k∧lo k≤200) (hhi:∀ k,k < 91→0≤hi k∧hi k≤200) (h0b:True) (hqfl18_1:(ltI ((W.length:Nat):Int) ((W.length:Nat):Int))=false) (v:BaseW) (eb:Nat→Option Nat) (ec:Nat→Nat) (hs:List Nat):Goes Try.prog 25 flK9 ((q28_21 A B L W hi lo ya yf yl yw)) (BaseW.H (bw v 1 eb ec) hs) (q28_23 A B L W eb ec hi lo v ya yf yl yw):=by
 obtain ⟨hcl_A,hcl_L,hcl_B,hcl_W⟩:=hcZ28 A B L W
 obtain ⟨hn,ha,he,hl,hw⟩:=clE_zero hz
 have he2:=he
 unfold eqP degI at he2
 have hl4:((q28_34 A B L W ya yf yl yw):List AV).length=4:=rfl
 have ghqfl18_1:=ltI_false hqfl18_1
 exact goes_leafA isR_e (goes_told Try.checked.mixed (known_none) 200 (T':=⟨[(4,(.v (.int .i64 (sumG (cI W) lo W.length))))],[],2,[(q28_25 A B L W hi lo ya yf yl yw)]⟩) (e:=.ret) (ps:=[]) [.go,.go] (by kernel_rfl) (by kernel_rfl) trivial rfl) (en_eqN (r:=(.int .i64 (sumG (cI W) lo W.length))) (by rfl) (en_retR (v:=(.v (.int .i64 (sumG (cI W) lo W.length)))) (by kernel_rfl) (by kernel_rfl) rfl (.inr rfl)))
theorem fl_17 (ya yl yf yw:Value) (A:List Int) (L:List (Int×Int)) (B:List Bool) (W:List Int) (lo hi:Nat→Int) (hz:clE (cI A) A.length (cR L) L.length B.length (cI W) W.length=0) (hlo:∀ k,k < 91→0≤lo k∧lo k≤200) (hhi:∀ k,k < 91→0≤hi k∧hi k≤200) (i:Nat) (hi1:i≤W.length) (hi2:True) (v:BaseW) (eb:Nat→Option Nat) (ec:Nat→Nat) (hs:List Nat):Goes Try.prog 25 flK16 (⟨[q28_43,(5,(.v (.int .i64 (sumG (cI W) lo i)))),(q28_44 W yw),(q28_37 W),(q28_41 i)],[],2,[(q28_25 A B L W hi lo ya yf yl yw)]⟩) (BaseW.H (bw v 1 eb ec) hs) (Hd.StepC Try.prog 25 0 (fun i:{i:Nat // i≤W.length∧True}=>⟨[q28_43,(5,(.v (.int .i64 (sumG (cI W) lo i.1)))),(q28_44 W yw),(q28_37 W),(11,(.v (.int .i64 ((i.1:Nat):Int))))],[],2,[(q28_25 A B L W hi lo ya yf yl yw)]⟩) (fun i:{i:Nat // i≤W.length∧True}=>W.length - i.1) flK9 (bw v 1 eb ec) (OutN Try.prog Try.f46 25 (.int .i64 (sumG (cI W) lo W.length)) [(q28_31 A B L W hi lo ya yf yl yw)] (bw v 1 eb ec)) (⟨i,hi1,hi2⟩:{i:Nat // i≤W.length∧True})):=by
 obtain ⟨hcl_A,hcl_L,hcl_B,hcl_W⟩:=hcZ28 A B L W
 obtain ⟨hn,ha,he,hl,hw⟩:=clE_zero hz
 have he2:=he
 unfold eqP degI at he2
 have hl4:((q28_34 A B L W ya yf yl yw):List AV).length=4:=rfl
 rcases Bool.eq_false_or_eq_true (ltI ((i:Nat):Int) ((W.length:Nat):Int)) with hqfl18_1 | hqfl18_1
 ·skip
  have ghqfl18_1:=ltI_true hqfl18_1
  have hd0:=deg_bd hn ha he 0 (by omega)
  have hwi:=hw i (by omega)
  unfold wgtAt at hwi
  have hli:=hlo i (by omega)
  have eL:=bdT_lo (l:=(q28_34 A B L W ya yf yl yw)) (lo:=lo) (hi:=hi) (i:=0 + 4 + i * 1) (j:=i) rfl (by omega) (by omega)
  have hm:=mul_bdG hwi hli
  have hs:=sumG_bd (c:=cI W) (f:=lo) i (fun k hk=>by have:=hw k (by omega); unfold wgtAt at this; exact this) (fun k hk=>hlo k (by omega))
  exact goes_leafA isN_e (goes_told Try.checked.mixed (known_none) 200 (T':=(q28_4 A B L W hi i lo ya yf yl yw)) (e:=.normal) (ps:=[ltI ((i:Nat):Int) ((W.length:Nat):Int)=true,i < W.length,loadL Try.prog (cI W) (i * 1) 2=some (AV.v (Value.int IntKind.i64 (intAt (cI W) (i * 1)))),i < 91,loadL Try.prog (bdT (q28_33 A B L W ya yf yl yw) lo hi) (0 + 4 + 0 + i * 1) 2=some (AV.v (Value.int IntKind.i64 (intAt (bdT (q28_33 A B L W ya yf yl yw) lo hi) (0 + 4 + 0 + i * 1)))),inR IntKind.i64 (intAt (cI W) (i * 1) * intAt (bdT (q28_33 A B L W ya yf yl yw) lo hi) (0 + 4 + 0 + i * 1)),inR IntKind.i64 (sumG (cI W) lo i + intAt (cI W) (i * 1) * intAt (bdT (q28_33 A B L W ya yf yl yw) lo hi) (0 + 4 + 0 + i * 1)),inR IntKind.i64 (((i:Nat):Int) + 1)]) [.go,.b true,.go,.sym,.sym,.go,.go,.go,.go,.go,.go,.go,.go,.go,.go,.go,.go,.sym,.sym,.go,.go,.go,.go,.go,.go] (by kernel_rfl) (by kernel_rfl) ⟨hqfl18_1,(by omega),(cI_ld (by omega) 2 (Try.underlying2) rfl),(by omega),(bdT_ld rfl (by omega) (by omega) 2 (Try.underlying2) rfl),(by show -9223372036854775808≤_∧_≤9223372036854775807; rw [eL]; constructor <;> omega),(by show -9223372036854775808≤_∧_≤9223372036854775807; rw [eL]; constructor <;> omega),(iRZ28 (by omega) (by omega)),trivial⟩ rfl) (Hd.en_on (⟨i + 1,by omega,trivial⟩) (by show W.length - (i + 1) < W.length - i; omega) (show ((q28_4 A B L W hi i lo ya yf yl yw):Ev.Lit)=⟨[q28_43,(5,(.v (.int .i64 (sumG (cI W) lo (i + 1))))),(q28_44 W yw),(q28_37 W),(q28_40 i)],[],2,[(q28_25 A B L W hi lo ya yf yl yw)]⟩ from by have hz_:=congrArg (fun (xq0:Ev.AV)=>(⟨[q28_43,(5,xq0),(q28_44 W yw),(q28_37 W),(q28_40 i)],[],2,[(q28_25 A B L W hi lo ya yf yl yw)]⟩:Ev.Lit)) (congrArg (fun z=>Ev.AV.v (.int .i64 z)) (show ((sumG (cI W) lo i + intAt (cI W) (i * 1) * intAt (bdT (q28_33 A B L W ya yf yl yw) lo hi) (0 + 4 + 0 + i * 1)):Int)=(sumG (cI W) lo (i + 1)) from by rw [eL]; rfl)); exact hz_))
 ·skip
  have ghqfl18_1:=ltI_false hqfl18_1
  obtain rfl:i=W.length:=by omega
  exact goes_leafA isX_e (goes_told Try.checked.mixed (known_none) 200 (T':=(q28_21 A B L W hi lo ya yf yl yw)) (e:=.exit 0) (ps:=[ltI ((W.length:Nat):Int) ((W.length:Nat):Int)=false]) [.go,.b false] (by kernel_rfl) (by kernel_rfl) ⟨hqfl18_1,trivial⟩ rfl) (Hd.en_sx (fl_19 ya yl yf yw A L B W lo hi hz hlo hhi hi2  hqfl18_1 v eb ec hs))
theorem fl_15 (ya yl yf yw:Value) (A:List Int) (L:List (Int×Int)) (B:List Bool) (W:List Int) (lo hi:Nat→Int) (hz:clE (cI A) A.length (cR L) L.length B.length (cI W) W.length=0) (hlo:∀ k,k < 91→0≤lo k∧lo k≤200) (hhi:∀ k,k < 91→0≤hi k∧hi k≤200) (v:BaseW) (eb:Nat→Option Nat) (ec:Nat→Nat) (hs:List Nat):Goes Try.prog 25 flK12 ((q28_16 A B L W hi lo ya yf yl yw)) (BaseW.H (bw v 1 eb ec) hs) (Hd.AfterN Try.prog 25 flK9 (bw v 1 eb ec) (q28_23 A B L W eb ec hi lo v ya yf yl yw)):=by
 obtain ⟨hcl_A,hcl_L,hcl_B,hcl_W⟩:=hcZ28 A B L W
 obtain ⟨hn,ha,he,hl,hw⟩:=clE_zero hz
 have he2:=he
 unfold eqP degI at he2
 have hl4:((q28_34 A B L W ya yf yl yw):List AV).length=4:=rfl
 exact Hd.goes_loopA (id:=0) (by kernel_rfl) (by kernel_rfl) (fun i:{i:Nat // i≤W.length∧True}=>⟨[q28_43,(5,(.v (.int .i64 (sumG (cI W) lo i.1)))),(q28_44 W yw),(q28_37 W),(11,(.v (.int .i64 ((i.1:Nat):Int))))],[],2,[(q28_25 A B L W hi lo ya yf yl yw)]⟩) (fun i:{i:Nat // i≤W.length∧True}=>W.length - i.1) (fun i hs=>fl_17 ya yl yf yw A L B W lo hi hz hlo hhi i.1 i.2.1 i.2.2 v eb ec hs) ⟨0,Nat.zero_le _,trivial⟩ hs
theorem fl_14 (ya yl yf yw:Value) (A:List Int) (L:List (Int×Int)) (B:List Bool) (W:List Int) (lo hi:Nat→Int) (hz:clE (cI A) A.length (cR L) L.length B.length (cI W) W.length=0) (hlo:∀ k,k < 91→0≤lo k∧lo k≤200) (hhi:∀ k,k < 91→0≤hi k∧hi k≤200) (v:BaseW) (eb:Nat→Option Nat) (ec:Nat→Nat) (hs:List Nat):Goes Try.prog 25 flK12 ((q28_16 A B L W hi lo ya yf yl yw)) (BaseW.H (bw v 1 eb ec) hs) (Hd.AfterN Try.prog 25 flK9 (bw v 1 eb ec) (q28_23 A B L W eb ec hi lo v ya yf yl yw)):=by
 exact fl_15 ya yl yf yw A L B W lo hi hz hlo hhi v eb ec hs
theorem fl_11 (ya yl yf yw:Value) (A:List Int) (L:List (Int×Int)) (B:List Bool) (W:List Int) (lo hi:Nat→Int) (hz:clE (cI A) A.length (cR L) L.length B.length (cI W) W.length=0) (hlo:∀ k,k < 91→0≤lo k∧lo k≤200) (hhi:∀ k,k < 91→0≤hi k∧hi k≤200) (v:BaseW) (eb:Nat→Option Nat) (ec:Nat→Nat) (hs:List Nat):Goes Try.prog 25 flK10 ((q28_12 A B L W hi lo ya yf yl yw)) (BaseW.H (bw v 1 eb ec) hs) (Hd.AfterN Try.prog 25 flK9 (bw v 1 eb ec) (q28_23 A B L W eb ec hi lo v ya yf yl yw)):=by
 obtain ⟨hcl_A,hcl_L,hcl_B,hcl_W⟩:=hcZ28 A B L W
 obtain ⟨hn,ha,he,hl,hw⟩:=clE_zero hz
 have he2:=he
 unfold eqP degI at he2
 have hl4:((q28_34 A B L W ya yf yl yw):List AV).length=4:=rfl
 refine Hd.goes_seqA (by kernel_rfl) ?_
 exact goes_leafA isN_e (goes_told Try.checked.mixed (known_none) 200 (T':=(q28_16 A B L W hi lo ya yf yl yw)) (e:=.normal) (ps:=[]) [.go,.go,.go,.go] (by kernel_rfl) (by kernel_rfl) trivial rfl) (Hd.en_n (fl_14 ya yl yf yw A L B W lo hi hz hlo hhi v eb ec hs))
theorem fl_8 (ya yl yf yw:Value) (A:List Int) (L:List (Int×Int)) (B:List Bool) (W:List Int) (lo hi:Nat→Int) (hz:clE (cI A) A.length (cR L) L.length B.length (cI W) W.length=0) (hlo:∀ k,k < 91→0≤lo k∧lo k≤200) (hhi:∀ k,k < 91→0≤hi k∧hi k≤200) (v:BaseW) (eb:Nat→Option Nat) (ec:Nat→Nat) (hs:List Nat):Goes Try.prog 25 flK6 ((q28_12 A B L W hi lo ya yf yl yw)) (BaseW.H (bw v 1 eb ec) hs) (q28_23 A B L W eb ec hi lo v ya yf yl yw):=by
 exact Hd.goes_seqA (by kernel_rfl) (fl_11 ya yl yf yw A L B W lo hi hz hlo hhi v eb ec hs)
theorem fl_5 (ya yl yf yw:Value) (A:List Int) (L:List (Int×Int)) (B:List Bool) (W:List Int) (lo hi:Nat→Int) (hz:clE (cI A) A.length (cR L) L.length B.length (cI W) W.length=0) (hlo:∀ k,k < 91→0≤lo k∧lo k≤200) (hhi:∀ k,k < 91→0≤hi k∧hi k≤200) (v:BaseW) (eb:Nat→Option Nat) (ec:Nat→Nat) (hs:List Nat):Goes Try.prog 25 flK3 ((q28_14 A B L W hi lo ya yf yl yw)) (BaseW.H (bw v 1 eb ec) hs) (q28_23 A B L W eb ec hi lo v ya yf yl yw):=by
 obtain ⟨hcl_A,hcl_L,hcl_B,hcl_W⟩:=hcZ28 A B L W
 obtain ⟨hn,ha,he,hl,hw⟩:=clE_zero hz
 have he2:=he
 unfold eqP degI at he2
 have hl4:((q28_34 A B L W ya yf yl yw):List AV).length=4:=rfl
 refine Hd.goes_seqA (by kernel_rfl) ?_
 exact goes_leafA isN_e (goes_told Try.checked.mixed (known_none) 200 (T':=(q28_12 A B L W hi lo ya yf yl yw)) (e:=.normal) (ps:=[]) [.go] (by kernel_rfl) (by kernel_rfl) trivial rfl) (Hd.en_n (fl_8 ya yl yf yw A L B W lo hi hz hlo hhi v eb ec hs))
theorem fl_2 (ya yl yf yw:Value) (A:List Int) (L:List (Int×Int)) (B:List Bool) (W:List Int) (lo hi:Nat→Int) (hz:clE (cI A) A.length (cR L) L.length B.length (cI W) W.length=0) (hlo:∀ k,k < 91→0≤lo k∧lo k≤200) (hhi:∀ k,k < 91→0≤hi k∧hi k≤200) (v:BaseW) (eb:Nat→Option Nat) (ec:Nat→Nat) (hs:List Nat):Goes Try.prog 25 flK1 (⟨[(q28_32 A B L W ya yf yl yw),(1,.fn (.func 66) [.ptr 0 0] [])],[],1,[(q28_29 A B L W hi lo ya yf yl yw)]⟩) (BaseW.H (bw v 1 eb ec) hs) (q28_23 A B L W eb ec hi lo v ya yf yl yw):=by
 obtain ⟨hcl_A,hcl_L,hcl_B,hcl_W⟩:=hcZ28 A B L W
 obtain ⟨hn,ha,he,hl,hw⟩:=clE_zero hz
 have he2:=he
 unfold eqP degI at he2
 have hl4:((q28_34 A B L W ya yf yl yw):List AV).length=4:=rfl
 refine Hd.goes_seqA (by kernel_rfl) ?_
 exact goes_leafA isN_e (goes_told Try.checked.mixed (known_none) 200 (T':=(q28_14 A B L W hi lo ya yf yl yw)) (e:=.normal) (ps:=[]) [.go,.go] (by kernel_rfl) (by kernel_rfl) trivial rfl) (Hd.en_n (fl_5 ya yl yf yw A L B W lo hi hz hlo hhi v eb ec hs))
theorem fl_g (ya yl yf yw:Value) (A:List Int) (L:List (Int×Int)) (B:List Bool) (W:List Int) (lo hi:Nat→Int) (hz:clE (cI A) A.length (cR L) L.length B.length (cI W) W.length=0) (hlo:∀ k,k < 91→0≤lo k∧lo k≤200) (hhi:∀ k,k < 91→0≤hi k∧hi k≤200):GivesN Try.prog 46 [.agg [.xl ya A.length 1 (cI A),.xl yl L.length 2 (cR L),.xl yf B.length 1 (cB B),.xl yw W.length 1 (cI W)],.fn (.func 66) [.ptr 0 0] []] [(.cells (bdT [.xl ya A.length 1 (cI A),.xl yl L.length 2 (cR L),.xl yf B.length 1 (cB B),.xl yw W.length 1 (cI W)] lo hi) 95)] (.int .i64 (sumG (cI W) lo W.length)) :=
 givesN_parts 25 Try.func46 (by kernel_rfl) (by kernel_rfl) (by kernel_rfl) (fun v eb ec=>goes_less (by kernel_rfl) (by kernel_rfl) (by kernel_rfl) (by kernel_rfl) (fl_2 ya yl yf yw A L B W lo hi hz hlo hhi v eb ec []))
noncomputable def fhK1:Code:=bodyC Try.f46
noncomputable def fhK3:Code:=tlC fhK1
noncomputable def fhK6:Code:=tlC fhK3
noncomputable def fhK9:Code:=tlC fhK6
noncomputable def fhK10:Code:=(hdC fhK6)
noncomputable def fhK12:Code:=tlC fhK10
noncomputable def fhK16:Code:=loopC fhK12
theorem fh_19 (ya yl yf yw:Value) (A:List Int) (L:List (Int×Int)) (B:List Bool) (W:List Int) (lo hi:Nat→Int) (hz:clE (cI A) A.length (cR L) L.length B.length (cI W) W.length=0) (hlo:∀ k,k < 91→0≤lo k∧lo k≤200) (hhi:∀ k,k < 91→0≤hi k∧hi k≤200) (h0b:True) (hqfh18_1:(ltI ((W.length:Nat):Int) ((W.length:Nat):Int))=false) (v:BaseW) (eb:Nat→Option Nat) (ec:Nat→Nat) (hs:List Nat):Goes Try.prog 25 fhK9 ((q28_22 A B L W hi lo ya yf yl yw)) (BaseW.H (bw v 1 eb ec) hs) (q28_24 A B L W eb ec hi lo v ya yf yl yw):=by
 obtain ⟨hcl_A,hcl_L,hcl_B,hcl_W⟩:=hcZ28 A B L W
 obtain ⟨hn,ha,he,hl,hw⟩:=clE_zero hz
 have he2:=he
 unfold eqP degI at he2
 have hl4:((q28_34 A B L W ya yf yl yw):List AV).length=4:=rfl
 have ghqfh18_1:=ltI_false hqfh18_1
 exact goes_leafA isR_e (goes_told Try.checked.mixed (known_none) 200 (T':=⟨[(4,(.v (.int .i64 (sumG (cI W) hi W.length))))],[],2,[(q28_25 A B L W hi lo ya yf yl yw)]⟩) (e:=.ret) (ps:=[]) [.go,.go] (by kernel_rfl) (by kernel_rfl) trivial rfl) (en_eqN (r:=(.int .i64 (sumG (cI W) hi W.length))) (by rfl) (en_retR (v:=(.v (.int .i64 (sumG (cI W) hi W.length)))) (by kernel_rfl) (by kernel_rfl) rfl (.inr rfl)))
theorem fh_17 (ya yl yf yw:Value) (A:List Int) (L:List (Int×Int)) (B:List Bool) (W:List Int) (lo hi:Nat→Int) (hz:clE (cI A) A.length (cR L) L.length B.length (cI W) W.length=0) (hlo:∀ k,k < 91→0≤lo k∧lo k≤200) (hhi:∀ k,k < 91→0≤hi k∧hi k≤200) (i:Nat) (hi1:i≤W.length) (hi2:True) (v:BaseW) (eb:Nat→Option Nat) (ec:Nat→Nat) (hs:List Nat):Goes Try.prog 25 fhK16 (⟨[q28_42,(5,(.v (.int .i64 (sumG (cI W) hi i)))),(q28_44 W yw),(q28_37 W),(q28_41 i)],[],2,[(q28_25 A B L W hi lo ya yf yl yw)]⟩) (BaseW.H (bw v 1 eb ec) hs) (Hd.StepC Try.prog 25 0 (fun i:{i:Nat // i≤W.length∧True}=>⟨[q28_42,(5,(.v (.int .i64 (sumG (cI W) hi i.1)))),(q28_44 W yw),(q28_37 W),(11,(.v (.int .i64 ((i.1:Nat):Int))))],[],2,[(q28_25 A B L W hi lo ya yf yl yw)]⟩) (fun i:{i:Nat // i≤W.length∧True}=>W.length - i.1) fhK9 (bw v 1 eb ec) (OutN Try.prog Try.f46 25 (.int .i64 (sumG (cI W) hi W.length)) [(q28_31 A B L W hi lo ya yf yl yw)] (bw v 1 eb ec)) (⟨i,hi1,hi2⟩:{i:Nat // i≤W.length∧True})):=by
 obtain ⟨hcl_A,hcl_L,hcl_B,hcl_W⟩:=hcZ28 A B L W
 obtain ⟨hn,ha,he,hl,hw⟩:=clE_zero hz
 have he2:=he
 unfold eqP degI at he2
 have hl4:((q28_34 A B L W ya yf yl yw):List AV).length=4:=rfl
 rcases Bool.eq_false_or_eq_true (ltI ((i:Nat):Int) ((W.length:Nat):Int)) with hqfh18_1 | hqfh18_1
 ·skip
  have ghqfh18_1:=ltI_true hqfh18_1
  have hd0:=deg_bd hn ha he 0 (by omega)
  have hwi:=hw i (by omega)
  unfold wgtAt at hwi
  have hli:=hhi i (by omega)
  have eL:=bdT_hi (l:=(q28_34 A B L W ya yf yl yw)) (lo:=lo) (hi:=hi) (i:=0 + 4 + 91 + i * 1) (j:=i) rfl (by omega) (by omega)
  have hm:=mul_bdG hwi hli
  have hs:=sumG_bd (c:=cI W) (f:=hi) i (fun k hk=>by have:=hw k (by omega); unfold wgtAt at this; exact this) (fun k hk=>hhi k (by omega))
  exact goes_leafA isN_e (goes_told Try.checked.mixed (known_none) 200 (T':=(q28_3 A B L W hi i lo ya yf yl yw)) (e:=.normal) (ps:=[ltI ((i:Nat):Int) ((W.length:Nat):Int)=true,i < W.length,loadL Try.prog (cI W) (i * 1) 2=some (AV.v (Value.int IntKind.i64 (intAt (cI W) (i * 1)))),i < 91,loadL Try.prog (bdT (q28_33 A B L W ya yf yl yw) lo hi) (0 + 4 + 91 + i * 1) 2=some (AV.v (Value.int IntKind.i64 (intAt (bdT (q28_33 A B L W ya yf yl yw) lo hi) (0 + 4 + 91 + i * 1)))),inR IntKind.i64 (intAt (cI W) (i * 1) * intAt (bdT (q28_33 A B L W ya yf yl yw) lo hi) (0 + 4 + 91 + i * 1)),inR IntKind.i64 (sumG (cI W) hi i + intAt (cI W) (i * 1) * intAt (bdT (q28_33 A B L W ya yf yl yw) lo hi) (0 + 4 + 91 + i * 1)),inR IntKind.i64 (((i:Nat):Int) + 1)]) [.go,.b true,.go,.sym,.sym,.go,.go,.go,.go,.go,.go,.go,.go,.go,.go,.go,.go,.sym,.sym,.go,.go,.go,.go,.go,.go] (by kernel_rfl) (by kernel_rfl) ⟨hqfh18_1,(by omega),(cI_ld (by omega) 2 (Try.underlying2) rfl),(by omega),(bdT_ld rfl (by omega) (by omega) 2 (Try.underlying2) rfl),(by show -9223372036854775808≤_∧_≤9223372036854775807; rw [eL]; constructor <;> omega),(by show -9223372036854775808≤_∧_≤9223372036854775807; rw [eL]; constructor <;> omega),(iRZ28 (by omega) (by omega)),trivial⟩ rfl) (Hd.en_on (⟨i + 1,by omega,trivial⟩) (by show W.length - (i + 1) < W.length - i; omega) (show ((q28_3 A B L W hi i lo ya yf yl yw):Ev.Lit)=⟨[q28_42,(5,(.v (.int .i64 (sumG (cI W) hi (i + 1))))),(q28_44 W yw),(q28_37 W),(q28_40 i)],[],2,[(q28_25 A B L W hi lo ya yf yl yw)]⟩ from by have hz_:=congrArg (fun (xq0:Ev.AV)=>(⟨[q28_42,(5,xq0),(q28_44 W yw),(q28_37 W),(q28_40 i)],[],2,[(q28_25 A B L W hi lo ya yf yl yw)]⟩:Ev.Lit)) (congrArg (fun z=>Ev.AV.v (.int .i64 z)) (show ((sumG (cI W) hi i + intAt (cI W) (i * 1) * intAt (bdT (q28_33 A B L W ya yf yl yw) lo hi) (0 + 4 + 91 + i * 1)):Int)=(sumG (cI W) hi (i + 1)) from by rw [eL]; rfl)); exact hz_))
 ·skip
  have ghqfh18_1:=ltI_false hqfh18_1
  obtain rfl:i=W.length:=by omega
  exact goes_leafA isX_e (goes_told Try.checked.mixed (known_none) 200 (T':=(q28_22 A B L W hi lo ya yf yl yw)) (e:=.exit 0) (ps:=[ltI ((W.length:Nat):Int) ((W.length:Nat):Int)=false]) [.go,.b false] (by kernel_rfl) (by kernel_rfl) ⟨hqfh18_1,trivial⟩ rfl) (Hd.en_sx (fh_19 ya yl yf yw A L B W lo hi hz hlo hhi hi2  hqfh18_1 v eb ec hs))
theorem fh_15 (ya yl yf yw:Value) (A:List Int) (L:List (Int×Int)) (B:List Bool) (W:List Int) (lo hi:Nat→Int) (hz:clE (cI A) A.length (cR L) L.length B.length (cI W) W.length=0) (hlo:∀ k,k < 91→0≤lo k∧lo k≤200) (hhi:∀ k,k < 91→0≤hi k∧hi k≤200) (v:BaseW) (eb:Nat→Option Nat) (ec:Nat→Nat) (hs:List Nat):Goes Try.prog 25 fhK12 ((q28_15 A B L W hi lo ya yf yl yw)) (BaseW.H (bw v 1 eb ec) hs) (Hd.AfterN Try.prog 25 fhK9 (bw v 1 eb ec) (q28_24 A B L W eb ec hi lo v ya yf yl yw)):=by
 obtain ⟨hcl_A,hcl_L,hcl_B,hcl_W⟩:=hcZ28 A B L W
 obtain ⟨hn,ha,he,hl,hw⟩:=clE_zero hz
 have he2:=he
 unfold eqP degI at he2
 have hl4:((q28_34 A B L W ya yf yl yw):List AV).length=4:=rfl
 exact Hd.goes_loopA (id:=0) (by kernel_rfl) (by kernel_rfl) (fun i:{i:Nat // i≤W.length∧True}=>⟨[q28_42,(5,(.v (.int .i64 (sumG (cI W) hi i.1)))),(q28_44 W yw),(q28_37 W),(11,(.v (.int .i64 ((i.1:Nat):Int))))],[],2,[(q28_25 A B L W hi lo ya yf yl yw)]⟩) (fun i:{i:Nat // i≤W.length∧True}=>W.length - i.1) (fun i hs=>fh_17 ya yl yf yw A L B W lo hi hz hlo hhi i.1 i.2.1 i.2.2 v eb ec hs) ⟨0,Nat.zero_le _,trivial⟩ hs
theorem fh_14 (ya yl yf yw:Value) (A:List Int) (L:List (Int×Int)) (B:List Bool) (W:List Int) (lo hi:Nat→Int) (hz:clE (cI A) A.length (cR L) L.length B.length (cI W) W.length=0) (hlo:∀ k,k < 91→0≤lo k∧lo k≤200) (hhi:∀ k,k < 91→0≤hi k∧hi k≤200) (v:BaseW) (eb:Nat→Option Nat) (ec:Nat→Nat) (hs:List Nat):Goes Try.prog 25 fhK12 ((q28_15 A B L W hi lo ya yf yl yw)) (BaseW.H (bw v 1 eb ec) hs) (Hd.AfterN Try.prog 25 fhK9 (bw v 1 eb ec) (q28_24 A B L W eb ec hi lo v ya yf yl yw)):=by
 exact fh_15 ya yl yf yw A L B W lo hi hz hlo hhi v eb ec hs
theorem fh_11 (ya yl yf yw:Value) (A:List Int) (L:List (Int×Int)) (B:List Bool) (W:List Int) (lo hi:Nat→Int) (hz:clE (cI A) A.length (cR L) L.length B.length (cI W) W.length=0) (hlo:∀ k,k < 91→0≤lo k∧lo k≤200) (hhi:∀ k,k < 91→0≤hi k∧hi k≤200) (v:BaseW) (eb:Nat→Option Nat) (ec:Nat→Nat) (hs:List Nat):Goes Try.prog 25 fhK10 ((q28_11 A B L W hi lo ya yf yl yw)) (BaseW.H (bw v 1 eb ec) hs) (Hd.AfterN Try.prog 25 fhK9 (bw v 1 eb ec) (q28_24 A B L W eb ec hi lo v ya yf yl yw)):=by
 obtain ⟨hcl_A,hcl_L,hcl_B,hcl_W⟩:=hcZ28 A B L W
 obtain ⟨hn,ha,he,hl,hw⟩:=clE_zero hz
 have he2:=he
 unfold eqP degI at he2
 have hl4:((q28_34 A B L W ya yf yl yw):List AV).length=4:=rfl
 refine Hd.goes_seqA (by kernel_rfl) ?_
 exact goes_leafA isN_e (goes_told Try.checked.mixed (known_none) 200 (T':=(q28_15 A B L W hi lo ya yf yl yw)) (e:=.normal) (ps:=[]) [.go,.go,.go,.go] (by kernel_rfl) (by kernel_rfl) trivial rfl) (Hd.en_n (fh_14 ya yl yf yw A L B W lo hi hz hlo hhi v eb ec hs))
theorem fh_8 (ya yl yf yw:Value) (A:List Int) (L:List (Int×Int)) (B:List Bool) (W:List Int) (lo hi:Nat→Int) (hz:clE (cI A) A.length (cR L) L.length B.length (cI W) W.length=0) (hlo:∀ k,k < 91→0≤lo k∧lo k≤200) (hhi:∀ k,k < 91→0≤hi k∧hi k≤200) (v:BaseW) (eb:Nat→Option Nat) (ec:Nat→Nat) (hs:List Nat):Goes Try.prog 25 fhK6 ((q28_11 A B L W hi lo ya yf yl yw)) (BaseW.H (bw v 1 eb ec) hs) (q28_24 A B L W eb ec hi lo v ya yf yl yw):=by
 exact Hd.goes_seqA (by kernel_rfl) (fh_11 ya yl yf yw A L B W lo hi hz hlo hhi v eb ec hs)
theorem fh_5 (ya yl yf yw:Value) (A:List Int) (L:List (Int×Int)) (B:List Bool) (W:List Int) (lo hi:Nat→Int) (hz:clE (cI A) A.length (cR L) L.length B.length (cI W) W.length=0) (hlo:∀ k,k < 91→0≤lo k∧lo k≤200) (hhi:∀ k,k < 91→0≤hi k∧hi k≤200) (v:BaseW) (eb:Nat→Option Nat) (ec:Nat→Nat) (hs:List Nat):Goes Try.prog 25 fhK3 ((q28_13 A B L W hi lo ya yf yl yw)) (BaseW.H (bw v 1 eb ec) hs) (q28_24 A B L W eb ec hi lo v ya yf yl yw):=by
 obtain ⟨hcl_A,hcl_L,hcl_B,hcl_W⟩:=hcZ28 A B L W
 obtain ⟨hn,ha,he,hl,hw⟩:=clE_zero hz
 have he2:=he
 unfold eqP degI at he2
 have hl4:((q28_34 A B L W ya yf yl yw):List AV).length=4:=rfl
 refine Hd.goes_seqA (by kernel_rfl) ?_
 exact goes_leafA isN_e (goes_told Try.checked.mixed (known_none) 200 (T':=(q28_11 A B L W hi lo ya yf yl yw)) (e:=.normal) (ps:=[]) [.go] (by kernel_rfl) (by kernel_rfl) trivial rfl) (Hd.en_n (fh_8 ya yl yf yw A L B W lo hi hz hlo hhi v eb ec hs))
theorem fh_2 (ya yl yf yw:Value) (A:List Int) (L:List (Int×Int)) (B:List Bool) (W:List Int) (lo hi:Nat→Int) (hz:clE (cI A) A.length (cR L) L.length B.length (cI W) W.length=0) (hlo:∀ k,k < 91→0≤lo k∧lo k≤200) (hhi:∀ k,k < 91→0≤hi k∧hi k≤200) (v:BaseW) (eb:Nat→Option Nat) (ec:Nat→Nat) (hs:List Nat):Goes Try.prog 25 fhK1 (⟨[(q28_32 A B L W ya yf yl yw),(1,.fn (.func 68) [.ptr 0 0] [])],[],1,[(q28_29 A B L W hi lo ya yf yl yw)]⟩) (BaseW.H (bw v 1 eb ec) hs) (q28_24 A B L W eb ec hi lo v ya yf yl yw):=by
 obtain ⟨hcl_A,hcl_L,hcl_B,hcl_W⟩:=hcZ28 A B L W
 obtain ⟨hn,ha,he,hl,hw⟩:=clE_zero hz
 have he2:=he
 unfold eqP degI at he2
 have hl4:((q28_34 A B L W ya yf yl yw):List AV).length=4:=rfl
 refine Hd.goes_seqA (by kernel_rfl) ?_
 exact goes_leafA isN_e (goes_told Try.checked.mixed (known_none) 200 (T':=(q28_13 A B L W hi lo ya yf yl yw)) (e:=.normal) (ps:=[]) [.go,.go] (by kernel_rfl) (by kernel_rfl) trivial rfl) (Hd.en_n (fh_5 ya yl yf yw A L B W lo hi hz hlo hhi v eb ec hs))
theorem fh_g (ya yl yf yw:Value) (A:List Int) (L:List (Int×Int)) (B:List Bool) (W:List Int) (lo hi:Nat→Int) (hz:clE (cI A) A.length (cR L) L.length B.length (cI W) W.length=0) (hlo:∀ k,k < 91→0≤lo k∧lo k≤200) (hhi:∀ k,k < 91→0≤hi k∧hi k≤200):GivesN Try.prog 46 [.agg [.xl ya A.length 1 (cI A),.xl yl L.length 2 (cR L),.xl yf B.length 1 (cB B),.xl yw W.length 1 (cI W)],.fn (.func 68) [.ptr 0 0] []] [(.cells (bdT [.xl ya A.length 1 (cI A),.xl yl L.length 2 (cR L),.xl yf B.length 1 (cB B),.xl yw W.length 1 (cI W)] lo hi) 95)] (.int .i64 (sumG (cI W) hi W.length)) :=
 givesN_parts 25 Try.func46 (by kernel_rfl) (by kernel_rfl) (by kernel_rfl) (fun v eb ec=>goes_less (by kernel_rfl) (by kernel_rfl) (by kernel_rfl) (by kernel_rfl) (fh_2 ya yl yf yw A L B W lo hi hz hlo hhi v eb ec []))
noncomputable def glK1:Code:=bodyC Try.f46
noncomputable def glK3:Code:=tlC glK1
noncomputable def glK6:Code:=tlC glK3
noncomputable def glK9:Code:=tlC glK6
noncomputable def glK10:Code:=(hdC glK6)
noncomputable def glK12:Code:=tlC glK10
noncomputable def glK16:Code:=loopC glK12
theorem gl_19 (ya yl yf yw:Value) (A:List Int) (L:List (Int×Int)) (B:List Bool) (W:List Int) (lo hi:Nat→Int) (p q:Int) (hz:clE (cI A) A.length (cR L) L.length B.length (cI W) W.length=0) (hlo:∀ k,k < 91→0≤lo k∧lo k≤200) (hhi:∀ k,k < 91→0≤hi k∧hi k≤200) (hp:0≤p∧p≤1000) (hq:0≤q∧q≤1000) (h0b:True) (hqgl18_1:(ltI ((W.length:Nat):Int) ((W.length:Nat):Int))=false) (v:BaseW) (eb:Nat→Option Nat) (ec:Nat→Nat) (hs:List Nat):Goes Try.prog 25 glK9 ((q28_17 A B L W hi lo p q ya yf yl yw)) (BaseW.H (bw v 2 eb ec) hs) (q28_19 A B L W eb ec hi lo p q v ya yf yl yw):=by
 obtain ⟨hcl_A,hcl_L,hcl_B,hcl_W⟩:=hcZ28 A B L W
 obtain ⟨hn,ha,he,hl,hw⟩:=clE_zero hz
 have he2:=he
 unfold eqP degI at he2
 have hl4:((q28_34 A B L W ya yf yl yw):List AV).length=4:=rfl
 have ghqgl18_1:=ltI_false hqgl18_1
 exact goes_leafA isR_e (goes_told Try.checked.mixed (known_none) 200 (T':=⟨[(4,(.v (.int .i64 (sumG (cI W) (fun k=>(lo k * p).tdiv 1000) W.length))))],[],3,[(q28_25 A B L W hi lo ya yf yl yw),(q28_35 p q)]⟩) (e:=.ret) (ps:=[]) [.go,.go] (by kernel_rfl) (by kernel_rfl) trivial rfl) (en_eqN (r:=(.int .i64 (sumG (cI W) (fun k=>(lo k * p).tdiv 1000) W.length))) (by rfl) (en_retR (v:=(.v (.int .i64 (sumG (cI W) (fun k=>(lo k * p).tdiv 1000) W.length)))) (by kernel_rfl) (by kernel_rfl) rfl (.inr rfl)))
theorem gl_17 (ya yl yf yw:Value) (A:List Int) (L:List (Int×Int)) (B:List Bool) (W:List Int) (lo hi:Nat→Int) (p q:Int) (hz:clE (cI A) A.length (cR L) L.length B.length (cI W) W.length=0) (hlo:∀ k,k < 91→0≤lo k∧lo k≤200) (hhi:∀ k,k < 91→0≤hi k∧hi k≤200) (hp:0≤p∧p≤1000) (hq:0≤q∧q≤1000) (i:Nat) (hi1:i≤W.length) (hi2:True) (v:BaseW) (eb:Nat→Option Nat) (ec:Nat→Nat) (hs:List Nat):Goes Try.prog 25 glK16 (⟨[q28_39,(5,(.v (.int .i64 (sumG (cI W) (fun k=>(lo k * p).tdiv 1000) i)))),(q28_44 W yw),(q28_37 W),(q28_41 i)],[],3,[(q28_25 A B L W hi lo ya yf yl yw),(q28_35 p q)]⟩) (BaseW.H (bw v 2 eb ec) hs) (Hd.StepC Try.prog 25 0 (fun i:{i:Nat // i≤W.length∧True}=>⟨[q28_39,(5,(.v (.int .i64 (sumG (cI W) (fun k=>(lo k * p).tdiv 1000) i.1)))),(q28_44 W yw),(q28_37 W),(11,(.v (.int .i64 ((i.1:Nat):Int))))],[],3,[(q28_25 A B L W hi lo ya yf yl yw),(q28_35 p q)]⟩) (fun i:{i:Nat // i≤W.length∧True}=>W.length - i.1) glK9 (bw v 2 eb ec) (OutN Try.prog Try.f46 25 (.int .i64 (sumG (cI W) (fun k=>(lo k * p).tdiv 1000) W.length)) [(q28_31 A B L W hi lo ya yf yl yw),(q28_36 p q)] (bw v 2 eb ec)) (⟨i,hi1,hi2⟩:{i:Nat // i≤W.length∧True})):=by
 obtain ⟨hcl_A,hcl_L,hcl_B,hcl_W⟩:=hcZ28 A B L W
 obtain ⟨hn,ha,he,hl,hw⟩:=clE_zero hz
 have he2:=he
 unfold eqP degI at he2
 have hl4:((q28_34 A B L W ya yf yl yw):List AV).length=4:=rfl
 rcases Bool.eq_false_or_eq_true (ltI ((i:Nat):Int) ((W.length:Nat):Int)) with hqgl18_1 | hqgl18_1
 ·skip
  have ghqgl18_1:=ltI_true hqgl18_1
  have hd0:=deg_bd hn ha he 0 (by omega)
  have hwi:=hw i (by omega)
  unfold wgtAt at hwi
  have hli:=hlo i (by omega)
  have eL:=bdT_lo (l:=(q28_34 A B L W ya yf yl yw)) (lo:=lo) (hi:=hi) (i:=0 + 4 + i * 1) (j:=i) rfl (by omega) (by omega)
  have hcm:=Int.mul_nonneg hli.1 hp.1
  have hcn:=Int.mul_le_mul hli.2 hp.2 hp.1 (by omega)
  have hct:=coat_bd hli hp
  have hm:=mul_bdG hwi hct
  have hs:=sumG_bd (c:=cI W) (f:=(fun k=>(lo k * p).tdiv 1000)) i (fun k hk=>by have:=hw k (by omega); unfold wgtAt at this; exact this) (fun k hk=>coat_bd (hlo k (by omega)) hp)
  exact goes_leafA isN_e (goes_told Try.checked.mixed (known_none) 200 (T':=(q28_2 A B L W hi i lo p q ya yf yl yw)) (e:=.normal) (ps:=[ltI ((i:Nat):Int) ((W.length:Nat):Int)=true,i < W.length,loadL Try.prog (cI W) (i * 1) 2=some (AV.v (Value.int IntKind.i64 (intAt (cI W) (i * 1)))),i < 91,loadL Try.prog (bdT (q28_33 A B L W ya yf yl yw) lo hi) (0 + 4 + 0 + i * 1) 2=some (AV.v (Value.int IntKind.i64 (intAt (bdT (q28_33 A B L W ya yf yl yw) lo hi) (0 + 4 + 0 + i * 1)))),inR IntKind.i64 (intAt (bdT (q28_33 A B L W ya yf yl yw) lo hi) (0 + 4 + 0 + i * 1) * p),(1000:Int)≠0,inR IntKind.i64 ((intAt (bdT (q28_33 A B L W ya yf yl yw) lo hi) (0 + 4 + 0 + i * 1) * p).tdiv 1000),inR IntKind.i64 (intAt (cI W) (i * 1) * (intAt (bdT (q28_33 A B L W ya yf yl yw) lo hi) (0 + 4 + 0 + i * 1) * p).tdiv 1000),inR IntKind.i64 (sumG (cI W) (fun k=>(lo k * p).tdiv 1000) i + intAt (cI W) (i * 1) * (intAt (bdT (q28_33 A B L W ya yf yl yw) lo hi) (0 + 4 + 0 + i * 1) * p).tdiv 1000),inR IntKind.i64 (((i:Nat):Int) + 1)]) [.go,.b true,.go,.sym,.sym,.go,.go,.go,.go,.go,.go,.go,.go,.go,.go,.go,.go,.go,.go,.sym,.sym,.go,.go,.go,.go,.go,.go,.go,.go,.go,.go,.go] (by kernel_rfl) (by kernel_rfl) ⟨hqgl18_1,(by omega),(cI_ld (by omega) 2 (Try.underlying2) rfl),(by omega),(bdT_ld rfl (by omega) (by omega) 2 (Try.underlying2) rfl),(by show -9223372036854775808≤_∧_≤9223372036854775807; rw [eL]; constructor <;> omega),(by omega),(by show -9223372036854775808≤_∧_≤9223372036854775807; rw [eL]; constructor <;> omega),(by show -9223372036854775808≤_∧_≤9223372036854775807; rw [eL]; constructor <;> omega),(by show -9223372036854775808≤_∧_≤9223372036854775807; rw [eL]; constructor <;> omega),(iRZ28 (by omega) (by omega)),trivial⟩ rfl) (Hd.en_on (⟨i + 1,by omega,trivial⟩) (by show W.length - (i + 1) < W.length - i; omega) (show ((q28_2 A B L W hi i lo p q ya yf yl yw):Ev.Lit)=⟨[q28_39,(5,(.v (.int .i64 (sumG (cI W) (fun k=>(lo k * p).tdiv 1000) (i + 1))))),(q28_44 W yw),(q28_37 W),(q28_40 i)],[],3,[(q28_25 A B L W hi lo ya yf yl yw),(q28_35 p q)]⟩ from by have hz_:=congrArg (fun (xq0:Ev.AV)=>(⟨[q28_39,(5,xq0),(q28_44 W yw),(q28_37 W),(q28_40 i)],[],3,[(q28_25 A B L W hi lo ya yf yl yw),(q28_35 p q)]⟩:Ev.Lit)) (congrArg (fun z=>Ev.AV.v (.int .i64 z)) (show ((sumG (cI W) (fun k=>(lo k * p).tdiv 1000) i + intAt (cI W) (i * 1) * (intAt (bdT (q28_33 A B L W ya yf yl yw) lo hi) (0 + 4 + 0 + i * 1) * p).tdiv 1000):Int)=(sumG (cI W) (fun k=>(lo k * p).tdiv 1000) (i + 1)) from by rw [eL]; rfl)); exact hz_))
 ·skip
  have ghqgl18_1:=ltI_false hqgl18_1
  obtain rfl:i=W.length:=by omega
  exact goes_leafA isX_e (goes_told Try.checked.mixed (known_none) 200 (T':=(q28_17 A B L W hi lo p q ya yf yl yw)) (e:=.exit 0) (ps:=[ltI ((W.length:Nat):Int) ((W.length:Nat):Int)=false]) [.go,.b false] (by kernel_rfl) (by kernel_rfl) ⟨hqgl18_1,trivial⟩ rfl) (Hd.en_sx (gl_19 ya yl yf yw A L B W lo hi p q hz hlo hhi hp hq hi2  hqgl18_1 v eb ec hs))
theorem gl_15 (ya yl yf yw:Value) (A:List Int) (L:List (Int×Int)) (B:List Bool) (W:List Int) (lo hi:Nat→Int) (p q:Int) (hz:clE (cI A) A.length (cR L) L.length B.length (cI W) W.length=0) (hlo:∀ k,k < 91→0≤lo k∧lo k≤200) (hhi:∀ k,k < 91→0≤hi k∧hi k≤200) (hp:0≤p∧p≤1000) (hq:0≤q∧q≤1000) (v:BaseW) (eb:Nat→Option Nat) (ec:Nat→Nat) (hs:List Nat):Goes Try.prog 25 glK12 ((q28_10 A B L W hi lo p q ya yf yl yw)) (BaseW.H (bw v 2 eb ec) hs) (Hd.AfterN Try.prog 25 glK9 (bw v 2 eb ec) (q28_19 A B L W eb ec hi lo p q v ya yf yl yw)):=by
 obtain ⟨hcl_A,hcl_L,hcl_B,hcl_W⟩:=hcZ28 A B L W
 obtain ⟨hn,ha,he,hl,hw⟩:=clE_zero hz
 have he2:=he
 unfold eqP degI at he2
 have hl4:((q28_34 A B L W ya yf yl yw):List AV).length=4:=rfl
 exact Hd.goes_loopA (id:=0) (by kernel_rfl) (by kernel_rfl) (fun i:{i:Nat // i≤W.length∧True}=>⟨[q28_39,(5,(.v (.int .i64 (sumG (cI W) (fun k=>(lo k * p).tdiv 1000) i.1)))),(q28_44 W yw),(q28_37 W),(11,(.v (.int .i64 ((i.1:Nat):Int))))],[],3,[(q28_25 A B L W hi lo ya yf yl yw),(q28_35 p q)]⟩) (fun i:{i:Nat // i≤W.length∧True}=>W.length - i.1) (fun i hs=>gl_17 ya yl yf yw A L B W lo hi p q hz hlo hhi hp hq i.1 i.2.1 i.2.2 v eb ec hs) ⟨0,Nat.zero_le _,trivial⟩ hs
theorem gl_14 (ya yl yf yw:Value) (A:List Int) (L:List (Int×Int)) (B:List Bool) (W:List Int) (lo hi:Nat→Int) (p q:Int) (hz:clE (cI A) A.length (cR L) L.length B.length (cI W) W.length=0) (hlo:∀ k,k < 91→0≤lo k∧lo k≤200) (hhi:∀ k,k < 91→0≤hi k∧hi k≤200) (hp:0≤p∧p≤1000) (hq:0≤q∧q≤1000) (v:BaseW) (eb:Nat→Option Nat) (ec:Nat→Nat) (hs:List Nat):Goes Try.prog 25 glK12 ((q28_10 A B L W hi lo p q ya yf yl yw)) (BaseW.H (bw v 2 eb ec) hs) (Hd.AfterN Try.prog 25 glK9 (bw v 2 eb ec) (q28_19 A B L W eb ec hi lo p q v ya yf yl yw)):=by
 exact gl_15 ya yl yf yw A L B W lo hi p q hz hlo hhi hp hq v eb ec hs
theorem gl_11 (ya yl yf yw:Value) (A:List Int) (L:List (Int×Int)) (B:List Bool) (W:List Int) (lo hi:Nat→Int) (p q:Int) (hz:clE (cI A) A.length (cR L) L.length B.length (cI W) W.length=0) (hlo:∀ k,k < 91→0≤lo k∧lo k≤200) (hhi:∀ k,k < 91→0≤hi k∧hi k≤200) (hp:0≤p∧p≤1000) (hq:0≤q∧q≤1000) (v:BaseW) (eb:Nat→Option Nat) (ec:Nat→Nat) (hs:List Nat):Goes Try.prog 25 glK10 ((q28_6 A B L W hi lo p q ya yf yl yw)) (BaseW.H (bw v 2 eb ec) hs) (Hd.AfterN Try.prog 25 glK9 (bw v 2 eb ec) (q28_19 A B L W eb ec hi lo p q v ya yf yl yw)):=by
 obtain ⟨hcl_A,hcl_L,hcl_B,hcl_W⟩:=hcZ28 A B L W
 obtain ⟨hn,ha,he,hl,hw⟩:=clE_zero hz
 have he2:=he
 unfold eqP degI at he2
 have hl4:((q28_34 A B L W ya yf yl yw):List AV).length=4:=rfl
 refine Hd.goes_seqA (by kernel_rfl) ?_
 exact goes_leafA isN_e (goes_told Try.checked.mixed (known_none) 200 (T':=(q28_10 A B L W hi lo p q ya yf yl yw)) (e:=.normal) (ps:=[]) [.go,.go,.go,.go] (by kernel_rfl) (by kernel_rfl) trivial rfl) (Hd.en_n (gl_14 ya yl yf yw A L B W lo hi p q hz hlo hhi hp hq v eb ec hs))
theorem gl_8 (ya yl yf yw:Value) (A:List Int) (L:List (Int×Int)) (B:List Bool) (W:List Int) (lo hi:Nat→Int) (p q:Int) (hz:clE (cI A) A.length (cR L) L.length B.length (cI W) W.length=0) (hlo:∀ k,k < 91→0≤lo k∧lo k≤200) (hhi:∀ k,k < 91→0≤hi k∧hi k≤200) (hp:0≤p∧p≤1000) (hq:0≤q∧q≤1000) (v:BaseW) (eb:Nat→Option Nat) (ec:Nat→Nat) (hs:List Nat):Goes Try.prog 25 glK6 ((q28_6 A B L W hi lo p q ya yf yl yw)) (BaseW.H (bw v 2 eb ec) hs) (q28_19 A B L W eb ec hi lo p q v ya yf yl yw):=by
 exact Hd.goes_seqA (by kernel_rfl) (gl_11 ya yl yf yw A L B W lo hi p q hz hlo hhi hp hq v eb ec hs)
theorem gl_5 (ya yl yf yw:Value) (A:List Int) (L:List (Int×Int)) (B:List Bool) (W:List Int) (lo hi:Nat→Int) (p q:Int) (hz:clE (cI A) A.length (cR L) L.length B.length (cI W) W.length=0) (hlo:∀ k,k < 91→0≤lo k∧lo k≤200) (hhi:∀ k,k < 91→0≤hi k∧hi k≤200) (hp:0≤p∧p≤1000) (hq:0≤q∧q≤1000) (v:BaseW) (eb:Nat→Option Nat) (ec:Nat→Nat) (hs:List Nat):Goes Try.prog 25 glK3 ((q28_8 A B L W hi lo p q ya yf yl yw)) (BaseW.H (bw v 2 eb ec) hs) (q28_19 A B L W eb ec hi lo p q v ya yf yl yw):=by
 obtain ⟨hcl_A,hcl_L,hcl_B,hcl_W⟩:=hcZ28 A B L W
 obtain ⟨hn,ha,he,hl,hw⟩:=clE_zero hz
 have he2:=he
 unfold eqP degI at he2
 have hl4:((q28_34 A B L W ya yf yl yw):List AV).length=4:=rfl
 refine Hd.goes_seqA (by kernel_rfl) ?_
 exact goes_leafA isN_e (goes_told Try.checked.mixed (known_none) 200 (T':=(q28_6 A B L W hi lo p q ya yf yl yw)) (e:=.normal) (ps:=[]) [.go] (by kernel_rfl) (by kernel_rfl) trivial rfl) (Hd.en_n (gl_8 ya yl yf yw A L B W lo hi p q hz hlo hhi hp hq v eb ec hs))
theorem gl_2 (ya yl yf yw:Value) (A:List Int) (L:List (Int×Int)) (B:List Bool) (W:List Int) (lo hi:Nat→Int) (p q:Int) (hz:clE (cI A) A.length (cR L) L.length B.length (cI W) W.length=0) (hlo:∀ k,k < 91→0≤lo k∧lo k≤200) (hhi:∀ k,k < 91→0≤hi k∧hi k≤200) (hp:0≤p∧p≤1000) (hq:0≤q∧q≤1000) (v:BaseW) (eb:Nat→Option Nat) (ec:Nat→Nat) (hs:List Nat):Goes Try.prog 25 glK1 (⟨[(q28_32 A B L W ya yf yl yw),(1,.fn (.func 65) [] [.ptr 0 0,.ptr 1 0])],[],2,[(q28_29 A B L W hi lo ya yf yl yw),(1,(q28_36 p q))]⟩) (BaseW.H (bw v 2 eb ec) hs) (q28_19 A B L W eb ec hi lo p q v ya yf yl yw):=by
 obtain ⟨hcl_A,hcl_L,hcl_B,hcl_W⟩:=hcZ28 A B L W
 obtain ⟨hn,ha,he,hl,hw⟩:=clE_zero hz
 have he2:=he
 unfold eqP degI at he2
 have hl4:((q28_34 A B L W ya yf yl yw):List AV).length=4:=rfl
 refine Hd.goes_seqA (by kernel_rfl) ?_
 exact goes_leafA isN_e (goes_told Try.checked.mixed (known_none) 200 (T':=(q28_8 A B L W hi lo p q ya yf yl yw)) (e:=.normal) (ps:=[]) [.go,.go] (by kernel_rfl) (by kernel_rfl) trivial rfl) (Hd.en_n (gl_5 ya yl yf yw A L B W lo hi p q hz hlo hhi hp hq v eb ec hs))
theorem gl_g (ya yl yf yw:Value) (A:List Int) (L:List (Int×Int)) (B:List Bool) (W:List Int) (lo hi:Nat→Int) (p q:Int) (hz:clE (cI A) A.length (cR L) L.length B.length (cI W) W.length=0) (hlo:∀ k,k < 91→0≤lo k∧lo k≤200) (hhi:∀ k,k < 91→0≤hi k∧hi k≤200) (hp:0≤p∧p≤1000) (hq:0≤q∧q≤1000):GivesN Try.prog 46 [.agg [.xl ya A.length 1 (cI A),.xl yl L.length 2 (cR L),.xl yf B.length 1 (cB B),.xl yw W.length 1 (cI W)],.fn (.func 65) [] [.ptr 0 0,.ptr 1 0]] [(.cells (bdT [.xl ya A.length 1 (cI A),.xl yl L.length 2 (cR L),.xl yf B.length 1 (cB B),.xl yw W.length 1 (cI W)] lo hi) 95),(.cells [(.v (.int .i64 p)),(.v (.int .i64 q))] 40)] (.int .i64 (sumG (cI W) (fun k=>(lo k * p).tdiv 1000) W.length)) :=
 givesN_parts 25 Try.func46 (by kernel_rfl) (by kernel_rfl) (by kernel_rfl) (fun v eb ec=>goes_less (by kernel_rfl) (by kernel_rfl) (by kernel_rfl) (by kernel_rfl) (gl_2 ya yl yf yw A L B W lo hi p q hz hlo hhi hp hq v eb ec []))
noncomputable def ghK1:Code:=bodyC Try.f46
noncomputable def ghK3:Code:=tlC ghK1
noncomputable def ghK6:Code:=tlC ghK3
noncomputable def ghK9:Code:=tlC ghK6
noncomputable def ghK10:Code:=(hdC ghK6)
noncomputable def ghK12:Code:=tlC ghK10
noncomputable def ghK16:Code:=loopC ghK12
theorem gh_19 (ya yl yf yw:Value) (A:List Int) (L:List (Int×Int)) (B:List Bool) (W:List Int) (lo hi:Nat→Int) (p q:Int) (hz:clE (cI A) A.length (cR L) L.length B.length (cI W) W.length=0) (hlo:∀ k,k < 91→0≤lo k∧lo k≤200) (hhi:∀ k,k < 91→0≤hi k∧hi k≤200) (hp:0≤p∧p≤1000) (hq:0≤q∧q≤1000) (h0b:True) (hqgh18_1:(ltI ((W.length:Nat):Int) ((W.length:Nat):Int))=false) (v:BaseW) (eb:Nat→Option Nat) (ec:Nat→Nat) (hs:List Nat):Goes Try.prog 25 ghK9 ((q28_18 A B L W hi lo p q ya yf yl yw)) (BaseW.H (bw v 2 eb ec) hs) (q28_20 A B L W eb ec hi lo p q v ya yf yl yw):=by
 obtain ⟨hcl_A,hcl_L,hcl_B,hcl_W⟩:=hcZ28 A B L W
 obtain ⟨hn,ha,he,hl,hw⟩:=clE_zero hz
 have he2:=he
 unfold eqP degI at he2
 have hl4:((q28_34 A B L W ya yf yl yw):List AV).length=4:=rfl
 have ghqgh18_1:=ltI_false hqgh18_1
 exact goes_leafA isR_e (goes_told Try.checked.mixed (known_none) 200 (T':=⟨[(4,(.v (.int .i64 (sumG (cI W) (fun k=>(hi k * q).tdiv 1000) W.length))))],[],3,[(q28_25 A B L W hi lo ya yf yl yw),(q28_35 p q)]⟩) (e:=.ret) (ps:=[]) [.go,.go] (by kernel_rfl) (by kernel_rfl) trivial rfl) (en_eqN (r:=(.int .i64 (sumG (cI W) (fun k=>(hi k * q).tdiv 1000) W.length))) (by rfl) (en_retR (v:=(.v (.int .i64 (sumG (cI W) (fun k=>(hi k * q).tdiv 1000) W.length)))) (by kernel_rfl) (by kernel_rfl) rfl (.inr rfl)))
theorem gh_17 (ya yl yf yw:Value) (A:List Int) (L:List (Int×Int)) (B:List Bool) (W:List Int) (lo hi:Nat→Int) (p q:Int) (hz:clE (cI A) A.length (cR L) L.length B.length (cI W) W.length=0) (hlo:∀ k,k < 91→0≤lo k∧lo k≤200) (hhi:∀ k,k < 91→0≤hi k∧hi k≤200) (hp:0≤p∧p≤1000) (hq:0≤q∧q≤1000) (i:Nat) (hi1:i≤W.length) (hi2:True) (v:BaseW) (eb:Nat→Option Nat) (ec:Nat→Nat) (hs:List Nat):Goes Try.prog 25 ghK16 (⟨[q28_38,(5,(.v (.int .i64 (sumG (cI W) (fun k=>(hi k * q).tdiv 1000) i)))),(q28_44 W yw),(q28_37 W),(q28_41 i)],[],3,[(q28_25 A B L W hi lo ya yf yl yw),(q28_35 p q)]⟩) (BaseW.H (bw v 2 eb ec) hs) (Hd.StepC Try.prog 25 0 (fun i:{i:Nat // i≤W.length∧True}=>⟨[q28_38,(5,(.v (.int .i64 (sumG (cI W) (fun k=>(hi k * q).tdiv 1000) i.1)))),(q28_44 W yw),(q28_37 W),(11,(.v (.int .i64 ((i.1:Nat):Int))))],[],3,[(q28_25 A B L W hi lo ya yf yl yw),(q28_35 p q)]⟩) (fun i:{i:Nat // i≤W.length∧True}=>W.length - i.1) ghK9 (bw v 2 eb ec) (OutN Try.prog Try.f46 25 (.int .i64 (sumG (cI W) (fun k=>(hi k * q).tdiv 1000) W.length)) [(q28_31 A B L W hi lo ya yf yl yw),(q28_36 p q)] (bw v 2 eb ec)) (⟨i,hi1,hi2⟩:{i:Nat // i≤W.length∧True})):=by
 obtain ⟨hcl_A,hcl_L,hcl_B,hcl_W⟩:=hcZ28 A B L W
 obtain ⟨hn,ha,he,hl,hw⟩:=clE_zero hz
 have he2:=he
 unfold eqP degI at he2
 have hl4:((q28_34 A B L W ya yf yl yw):List AV).length=4:=rfl
 rcases Bool.eq_false_or_eq_true (ltI ((i:Nat):Int) ((W.length:Nat):Int)) with hqgh18_1 | hqgh18_1
 ·skip
  have ghqgh18_1:=ltI_true hqgh18_1
  have hd0:=deg_bd hn ha he 0 (by omega)
  have hwi:=hw i (by omega)
  unfold wgtAt at hwi
  have hli:=hhi i (by omega)
  have eL:=bdT_hi (l:=(q28_34 A B L W ya yf yl yw)) (lo:=lo) (hi:=hi) (i:=0 + 4 + 91 + i * 1) (j:=i) rfl (by omega) (by omega)
  have hcm:=Int.mul_nonneg hli.1 hq.1
  have hcn:=Int.mul_le_mul hli.2 hq.2 hq.1 (by omega)
  have hct:=coat_bd hli hq
  have hm:=mul_bdG hwi hct
  have hs:=sumG_bd (c:=cI W) (f:=(fun k=>(hi k * q).tdiv 1000)) i (fun k hk=>by have:=hw k (by omega); unfold wgtAt at this; exact this) (fun k hk=>coat_bd (hhi k (by omega)) hq)
  exact goes_leafA isN_e (goes_told Try.checked.mixed (known_none) 200 (T':=(q28_1 A B L W hi i lo p q ya yf yl yw)) (e:=.normal) (ps:=[ltI ((i:Nat):Int) ((W.length:Nat):Int)=true,i < W.length,loadL Try.prog (cI W) (i * 1) 2=some (AV.v (Value.int IntKind.i64 (intAt (cI W) (i * 1)))),i < 91,loadL Try.prog (bdT (q28_33 A B L W ya yf yl yw) lo hi) (0 + 4 + 91 + i * 1) 2=some (AV.v (Value.int IntKind.i64 (intAt (bdT (q28_33 A B L W ya yf yl yw) lo hi) (0 + 4 + 91 + i * 1)))),inR IntKind.i64 (intAt (bdT (q28_33 A B L W ya yf yl yw) lo hi) (0 + 4 + 91 + i * 1) * q),(1000:Int)≠0,inR IntKind.i64 ((intAt (bdT (q28_33 A B L W ya yf yl yw) lo hi) (0 + 4 + 91 + i * 1) * q).tdiv 1000),inR IntKind.i64 (intAt (cI W) (i * 1) * (intAt (bdT (q28_33 A B L W ya yf yl yw) lo hi) (0 + 4 + 91 + i * 1) * q).tdiv 1000),inR IntKind.i64 (sumG (cI W) (fun k=>(hi k * q).tdiv 1000) i + intAt (cI W) (i * 1) * (intAt (bdT (q28_33 A B L W ya yf yl yw) lo hi) (0 + 4 + 91 + i * 1) * q).tdiv 1000),inR IntKind.i64 (((i:Nat):Int) + 1)]) [.go,.b true,.go,.sym,.sym,.go,.go,.go,.go,.go,.go,.go,.go,.go,.go,.go,.go,.go,.go,.sym,.sym,.go,.go,.go,.go,.go,.go,.go,.go,.go,.go,.go] (by kernel_rfl) (by kernel_rfl) ⟨hqgh18_1,(by omega),(cI_ld (by omega) 2 (Try.underlying2) rfl),(by omega),(bdT_ld rfl (by omega) (by omega) 2 (Try.underlying2) rfl),(by show -9223372036854775808≤_∧_≤9223372036854775807; rw [eL]; constructor <;> omega),(by omega),(by show -9223372036854775808≤_∧_≤9223372036854775807; rw [eL]; constructor <;> omega),(by show -9223372036854775808≤_∧_≤9223372036854775807; rw [eL]; constructor <;> omega),(by show -9223372036854775808≤_∧_≤9223372036854775807; rw [eL]; constructor <;> omega),(iRZ28 (by omega) (by omega)),trivial⟩ rfl) (Hd.en_on (⟨i + 1,by omega,trivial⟩) (by show W.length - (i + 1) < W.length - i; omega) (show ((q28_1 A B L W hi i lo p q ya yf yl yw):Ev.Lit)=⟨[q28_38,(5,(.v (.int .i64 (sumG (cI W) (fun k=>(hi k * q).tdiv 1000) (i + 1))))),(q28_44 W yw),(q28_37 W),(q28_40 i)],[],3,[(q28_25 A B L W hi lo ya yf yl yw),(q28_35 p q)]⟩ from by have hz_:=congrArg (fun (xq0:Ev.AV)=>(⟨[q28_38,(5,xq0),(q28_44 W yw),(q28_37 W),(q28_40 i)],[],3,[(q28_25 A B L W hi lo ya yf yl yw),(q28_35 p q)]⟩:Ev.Lit)) (congrArg (fun z=>Ev.AV.v (.int .i64 z)) (show ((sumG (cI W) (fun k=>(hi k * q).tdiv 1000) i + intAt (cI W) (i * 1) * (intAt (bdT (q28_33 A B L W ya yf yl yw) lo hi) (0 + 4 + 91 + i * 1) * q).tdiv 1000):Int)=(sumG (cI W) (fun k=>(hi k * q).tdiv 1000) (i + 1)) from by rw [eL]; rfl)); exact hz_))
 ·skip
  have ghqgh18_1:=ltI_false hqgh18_1
  obtain rfl:i=W.length:=by omega
  exact goes_leafA isX_e (goes_told Try.checked.mixed (known_none) 200 (T':=(q28_18 A B L W hi lo p q ya yf yl yw)) (e:=.exit 0) (ps:=[ltI ((W.length:Nat):Int) ((W.length:Nat):Int)=false]) [.go,.b false] (by kernel_rfl) (by kernel_rfl) ⟨hqgh18_1,trivial⟩ rfl) (Hd.en_sx (gh_19 ya yl yf yw A L B W lo hi p q hz hlo hhi hp hq hi2  hqgh18_1 v eb ec hs))
theorem gh_15 (ya yl yf yw:Value) (A:List Int) (L:List (Int×Int)) (B:List Bool) (W:List Int) (lo hi:Nat→Int) (p q:Int) (hz:clE (cI A) A.length (cR L) L.length B.length (cI W) W.length=0) (hlo:∀ k,k < 91→0≤lo k∧lo k≤200) (hhi:∀ k,k < 91→0≤hi k∧hi k≤200) (hp:0≤p∧p≤1000) (hq:0≤q∧q≤1000) (v:BaseW) (eb:Nat→Option Nat) (ec:Nat→Nat) (hs:List Nat):Goes Try.prog 25 ghK12 ((q28_9 A B L W hi lo p q ya yf yl yw)) (BaseW.H (bw v 2 eb ec) hs) (Hd.AfterN Try.prog 25 ghK9 (bw v 2 eb ec) (q28_20 A B L W eb ec hi lo p q v ya yf yl yw)):=by
 obtain ⟨hcl_A,hcl_L,hcl_B,hcl_W⟩:=hcZ28 A B L W
 obtain ⟨hn,ha,he,hl,hw⟩:=clE_zero hz
 have he2:=he
 unfold eqP degI at he2
 have hl4:((q28_34 A B L W ya yf yl yw):List AV).length=4:=rfl
 exact Hd.goes_loopA (id:=0) (by kernel_rfl) (by kernel_rfl) (fun i:{i:Nat // i≤W.length∧True}=>⟨[q28_38,(5,(.v (.int .i64 (sumG (cI W) (fun k=>(hi k * q).tdiv 1000) i.1)))),(q28_44 W yw),(q28_37 W),(11,(.v (.int .i64 ((i.1:Nat):Int))))],[],3,[(q28_25 A B L W hi lo ya yf yl yw),(q28_35 p q)]⟩) (fun i:{i:Nat // i≤W.length∧True}=>W.length - i.1) (fun i hs=>gh_17 ya yl yf yw A L B W lo hi p q hz hlo hhi hp hq i.1 i.2.1 i.2.2 v eb ec hs) ⟨0,Nat.zero_le _,trivial⟩ hs
theorem gh_14 (ya yl yf yw:Value) (A:List Int) (L:List (Int×Int)) (B:List Bool) (W:List Int) (lo hi:Nat→Int) (p q:Int) (hz:clE (cI A) A.length (cR L) L.length B.length (cI W) W.length=0) (hlo:∀ k,k < 91→0≤lo k∧lo k≤200) (hhi:∀ k,k < 91→0≤hi k∧hi k≤200) (hp:0≤p∧p≤1000) (hq:0≤q∧q≤1000) (v:BaseW) (eb:Nat→Option Nat) (ec:Nat→Nat) (hs:List Nat):Goes Try.prog 25 ghK12 ((q28_9 A B L W hi lo p q ya yf yl yw)) (BaseW.H (bw v 2 eb ec) hs) (Hd.AfterN Try.prog 25 ghK9 (bw v 2 eb ec) (q28_20 A B L W eb ec hi lo p q v ya yf yl yw)):=by
 exact gh_15 ya yl yf yw A L B W lo hi p q hz hlo hhi hp hq v eb ec hs
theorem gh_11 (ya yl yf yw:Value) (A:List Int) (L:List (Int×Int)) (B:List Bool) (W:List Int) (lo hi:Nat→Int) (p q:Int) (hz:clE (cI A) A.length (cR L) L.length B.length (cI W) W.length=0) (hlo:∀ k,k < 91→0≤lo k∧lo k≤200) (hhi:∀ k,k < 91→0≤hi k∧hi k≤200) (hp:0≤p∧p≤1000) (hq:0≤q∧q≤1000) (v:BaseW) (eb:Nat→Option Nat) (ec:Nat→Nat) (hs:List Nat):Goes Try.prog 25 ghK10 ((q28_5 A B L W hi lo p q ya yf yl yw)) (BaseW.H (bw v 2 eb ec) hs) (Hd.AfterN Try.prog 25 ghK9 (bw v 2 eb ec) (q28_20 A B L W eb ec hi lo p q v ya yf yl yw)):=by
 obtain ⟨hcl_A,hcl_L,hcl_B,hcl_W⟩:=hcZ28 A B L W
 obtain ⟨hn,ha,he,hl,hw⟩:=clE_zero hz
 have he2:=he
 unfold eqP degI at he2
 have hl4:((q28_34 A B L W ya yf yl yw):List AV).length=4:=rfl
 refine Hd.goes_seqA (by kernel_rfl) ?_
 exact goes_leafA isN_e (goes_told Try.checked.mixed (known_none) 200 (T':=(q28_9 A B L W hi lo p q ya yf yl yw)) (e:=.normal) (ps:=[]) [.go,.go,.go,.go] (by kernel_rfl) (by kernel_rfl) trivial rfl) (Hd.en_n (gh_14 ya yl yf yw A L B W lo hi p q hz hlo hhi hp hq v eb ec hs))
theorem gh_8 (ya yl yf yw:Value) (A:List Int) (L:List (Int×Int)) (B:List Bool) (W:List Int) (lo hi:Nat→Int) (p q:Int) (hz:clE (cI A) A.length (cR L) L.length B.length (cI W) W.length=0) (hlo:∀ k,k < 91→0≤lo k∧lo k≤200) (hhi:∀ k,k < 91→0≤hi k∧hi k≤200) (hp:0≤p∧p≤1000) (hq:0≤q∧q≤1000) (v:BaseW) (eb:Nat→Option Nat) (ec:Nat→Nat) (hs:List Nat):Goes Try.prog 25 ghK6 ((q28_5 A B L W hi lo p q ya yf yl yw)) (BaseW.H (bw v 2 eb ec) hs) (q28_20 A B L W eb ec hi lo p q v ya yf yl yw):=by
 exact Hd.goes_seqA (by kernel_rfl) (gh_11 ya yl yf yw A L B W lo hi p q hz hlo hhi hp hq v eb ec hs)
theorem gh_5 (ya yl yf yw:Value) (A:List Int) (L:List (Int×Int)) (B:List Bool) (W:List Int) (lo hi:Nat→Int) (p q:Int) (hz:clE (cI A) A.length (cR L) L.length B.length (cI W) W.length=0) (hlo:∀ k,k < 91→0≤lo k∧lo k≤200) (hhi:∀ k,k < 91→0≤hi k∧hi k≤200) (hp:0≤p∧p≤1000) (hq:0≤q∧q≤1000) (v:BaseW) (eb:Nat→Option Nat) (ec:Nat→Nat) (hs:List Nat):Goes Try.prog 25 ghK3 ((q28_7 A B L W hi lo p q ya yf yl yw)) (BaseW.H (bw v 2 eb ec) hs) (q28_20 A B L W eb ec hi lo p q v ya yf yl yw):=by
 obtain ⟨hcl_A,hcl_L,hcl_B,hcl_W⟩:=hcZ28 A B L W
 obtain ⟨hn,ha,he,hl,hw⟩:=clE_zero hz
 have he2:=he
 unfold eqP degI at he2
 have hl4:((q28_34 A B L W ya yf yl yw):List AV).length=4:=rfl
 refine Hd.goes_seqA (by kernel_rfl) ?_
 exact goes_leafA isN_e (goes_told Try.checked.mixed (known_none) 200 (T':=(q28_5 A B L W hi lo p q ya yf yl yw)) (e:=.normal) (ps:=[]) [.go] (by kernel_rfl) (by kernel_rfl) trivial rfl) (Hd.en_n (gh_8 ya yl yf yw A L B W lo hi p q hz hlo hhi hp hq v eb ec hs))
theorem gh_2 (ya yl yf yw:Value) (A:List Int) (L:List (Int×Int)) (B:List Bool) (W:List Int) (lo hi:Nat→Int) (p q:Int) (hz:clE (cI A) A.length (cR L) L.length B.length (cI W) W.length=0) (hlo:∀ k,k < 91→0≤lo k∧lo k≤200) (hhi:∀ k,k < 91→0≤hi k∧hi k≤200) (hp:0≤p∧p≤1000) (hq:0≤q∧q≤1000) (v:BaseW) (eb:Nat→Option Nat) (ec:Nat→Nat) (hs:List Nat):Goes Try.prog 25 ghK1 (⟨[(q28_32 A B L W ya yf yl yw),(1,.fn (.func 67) [] [.ptr 0 0,.ptr 1 0])],[],2,[(q28_29 A B L W hi lo ya yf yl yw),(1,(q28_36 p q))]⟩) (BaseW.H (bw v 2 eb ec) hs) (q28_20 A B L W eb ec hi lo p q v ya yf yl yw):=by
 obtain ⟨hcl_A,hcl_L,hcl_B,hcl_W⟩:=hcZ28 A B L W
 obtain ⟨hn,ha,he,hl,hw⟩:=clE_zero hz
 have he2:=he
 unfold eqP degI at he2
 have hl4:((q28_34 A B L W ya yf yl yw):List AV).length=4:=rfl
 refine Hd.goes_seqA (by kernel_rfl) ?_
 exact goes_leafA isN_e (goes_told Try.checked.mixed (known_none) 200 (T':=(q28_7 A B L W hi lo p q ya yf yl yw)) (e:=.normal) (ps:=[]) [.go,.go] (by kernel_rfl) (by kernel_rfl) trivial rfl) (Hd.en_n (gh_5 ya yl yf yw A L B W lo hi p q hz hlo hhi hp hq v eb ec hs))
theorem gh_g (ya yl yf yw:Value) (A:List Int) (L:List (Int×Int)) (B:List Bool) (W:List Int) (lo hi:Nat→Int) (p q:Int) (hz:clE (cI A) A.length (cR L) L.length B.length (cI W) W.length=0) (hlo:∀ k,k < 91→0≤lo k∧lo k≤200) (hhi:∀ k,k < 91→0≤hi k∧hi k≤200) (hp:0≤p∧p≤1000) (hq:0≤q∧q≤1000):GivesN Try.prog 46 [.agg [.xl ya A.length 1 (cI A),.xl yl L.length 2 (cR L),.xl yf B.length 1 (cB B),.xl yw W.length 1 (cI W)],.fn (.func 67) [] [.ptr 0 0,.ptr 1 0]] [(.cells (bdT [.xl ya A.length 1 (cI A),.xl yl L.length 2 (cR L),.xl yf B.length 1 (cB B),.xl yw W.length 1 (cI W)] lo hi) 95),(.cells [(.v (.int .i64 p)),(.v (.int .i64 q))] 40)] (.int .i64 (sumG (cI W) (fun k=>(hi k * q).tdiv 1000) W.length)) :=
 givesN_parts 25 Try.func46 (by kernel_rfl) (by kernel_rfl) (by kernel_rfl) (fun v eb ec=>goes_less (by kernel_rfl) (by kernel_rfl) (by kernel_rfl) (by kernel_rfl) (gh_2 ya yl yf yw A L B W lo hi p q hz hlo hhi hp hq v eb ec []))
end
end Go.Proofs.Ytldekgkjofgacaa
