import Derived.Test.YtldekgkjofgacaaZ28a
set_option maxHeartbeats 4000000
set_option linter.all false
/- Flux by what tells a light of the bounds. -/
namespace Go.Proofs.Ytldekgkjofgacaa
open Go Ev
noncomputable section
theorem hcZ28 (A:List Int) (B:List Bool) (L:PR) (W:List Int):(cI A).length=A.length∧(cR L).length=L.length * 2∧(cB B).length=B.length∧(cI W).length=W.length:=⟨cI_len A,cR_len L,cB_len B,cI_len W⟩
section
variable (A : List Int) (B : List Bool) (L : PR) (W : List Int) (eb : EB) (ec : EC) (hi : Nat → Int) (i : Nat) (lo : Nat → Int) (v : BaseW) (ya yf yl yw : Value)
abbrev q28_21:Nat×Ev.AV:=(1,(.fn (.func 68) [(.ptr 0 0)] []))
abbrev q28_17:List Ev.AV:=[AV.xl ya A.length 1 (cI A),AV.xl yl L.length 2 (cR L),AV.xl yf B.length 1 (cB B),AV.xl yw W.length 1 (cI W)]
abbrev q28_23:Nat×Ev.AV:=(9,(.xl (yw) (W.length) 1 (cI W)))
abbrev q28_19:Nat×Ev.AV:=(10,(.v (.int .i64 W.length)))
abbrev q28_20:Nat×Ev.AV:=(11,(.v (.int .i64 (((i + 1):Nat):Int))))
abbrev q28_15:List Ev.AV:=[(.xl (ya) (A.length) 1 (cI A)),(.xl (yl) (L.length) 2 (cR L)),(.xl (yf) (B.length) 1 (cB B)),(.xl (yw) (W.length) 1 (cI W))]
abbrev q28_13:Nat×Ev.AB:=(0,(.cells (bdT (q28_15 A B L W ya yf yl yw) (lo) (hi)) 95))
abbrev q28_1:Ev.Lit:=⟨[q28_21,(5,(.v (.int .i64 (sumG (cI W) hi i + intAt (cI W) (i * 1) * intAt (bdT (q28_17 A B L W ya yf yl yw) lo hi) (0 + 4 + 91 + i * 1))))),(q28_23 W yw),(q28_19 W),(q28_20 i)],[],2,[(q28_13 A B L W hi lo ya yf yl yw)]⟩
abbrev q28_22:Nat×Ev.AV:=(1,(.fn (.func 66) [(.ptr 0 0)] []))
abbrev q28_2:Ev.Lit:=⟨[q28_22,(5,(.v (.int .i64 (sumG (cI W) lo i + intAt (cI W) (i * 1) * intAt (bdT (q28_17 A B L W ya yf yl yw) lo hi) (0 + 4 + 0 + i * 1))))),(q28_23 W yw),(q28_19 W),(q28_20 i)],[],2,[(q28_13 A B L W hi lo ya yf yl yw)]⟩
abbrev q28_25:Nat×Ev.AV:=(5,(.v (.int .i64 (.ofNat 0))))
abbrev q28_14:Nat×Ev.AB:=(1,(.cells (q28_15 A B L W ya yf yl yw) 26))
abbrev q28_3:Ev.Lit:=⟨[q28_21,(2,(.ptr 1 0)),q28_25],[],2,[(q28_13 A B L W hi lo ya yf yl yw),(q28_14 A B L W ya yf yl yw)]⟩
abbrev q28_4:Ev.Lit:=⟨[q28_22,(2,(.ptr 1 0)),q28_25],[],2,[(q28_13 A B L W hi lo ya yf yl yw),(q28_14 A B L W ya yf yl yw)]⟩
abbrev q28_5:Ev.Lit:=⟨[q28_21,(2,(.ptr 1 0))],[],2,[(q28_13 A B L W hi lo ya yf yl yw),(q28_14 A B L W ya yf yl yw)]⟩
abbrev q28_6:Ev.Lit:=⟨[q28_22,(2,(.ptr 1 0))],[],2,[(q28_13 A B L W hi lo ya yf yl yw),(q28_14 A B L W ya yf yl yw)]⟩
abbrev q28_24:Nat×Ev.AV:=(11,(.v (.int .i64 (.ofNat 0))))
abbrev q28_7:Ev.Lit:=⟨[q28_21,q28_25,(q28_23 W yw),(q28_19 W),q28_24],[],2,[(q28_13 A B L W hi lo ya yf yl yw)]⟩
abbrev q28_8:Ev.Lit:=⟨[q28_22,q28_25,(q28_23 W yw),(q28_19 W),q28_24],[],2,[(q28_13 A B L W hi lo ya yf yl yw)]⟩
abbrev q28_9:Ev.Lit:=⟨[(5,(.v (.int .i64 (sumG (cI W) lo (W.length)))))],[],2,[(q28_13 A B L W hi lo ya yf yl yw)]⟩
abbrev q28_10:Ev.Lit:=⟨[(5,(.v (.int .i64 (sumG (cI W) hi (W.length)))))],[],2,[(q28_13 A B L W hi lo ya yf yl yw)]⟩
abbrev q28_18:List Ev.AV:=[.xl ya A.length 1 (cI A),.xl yl L.length 2 (cR L),.xl yf B.length 1 (cB B),.xl yw W.length 1 (cI W)]
abbrev q28_16:Ev.AB:=(.cells (bdT (q28_18 A B L W ya yf yl yw) lo hi) 95)
abbrev q28_11:=(OutN pg Try.f46 25 (.int .i64 (sumG (cI W) lo W.length)) [(q28_16 A B L W hi lo ya yf yl yw)] (bw v 1 eb ec))
abbrev q28_12:=(OutN pg Try.f46 25 (.int .i64 (sumG (cI W) hi W.length)) [(q28_16 A B L W hi lo ya yf yl yw)] (bw v 1 eb ec))
end
def flK1:Code:=bodyC Try.f46
def flK3:Code:=tlC flK1
def flK6:Code:=tlC flK3
def flK9:Code:=tlC flK6
def flK10:Code:=(hdC flK6)
def flK12:Code:=tlC flK10
def flK16:Code:=loopC flK12
theorem fl_19 (ya yl yf yw:Value) (A:List Int) (L:PR) (B:List Bool) (W:List Int) (lo hi:Nat→Int) (hz:ZK A L B W) (hlo:∀ k,k < 91→0≤lo k∧lo k≤200) (hhi:∀ k,k < 91→0≤hi k∧hi k≤200) (h0b:True) (Q0:(ltI W.length W.length)=false) (v:BaseW) (eb:EB) (ec:EC) (hs:LN):Goes pg 25 flK9 ((q28_9 A B L W hi lo ya yf yl yw)) (BaseW.H (bw v 1 eb ec) hs) (q28_11 A B L W eb ec hi lo v ya yf yl yw):=by
 obtain ⟨hcl_A,hcl_L,hcl_B,hcl_W⟩:=hcZ28 A B L W
 obtain ⟨hn,ha,he,hl,hw⟩:=clE_zero hz
 have he2:=he
 unfold eqP degI at he2
 have hl4:((q28_18 A B L W ya yf yl yw):List AV).length=4:=rfl
 have Q2:=lF Q0
 exact gL isR_e (gT cm (kN) 200 (T':=⟨[(4,(.v (.int .i64 (sumG (cI W) lo W.length))))],[],2,[(q28_13 A B L W hi lo ya yf yl yw)]⟩) (e:=.ret) (ps:=[]) [.go,.go] (by kernel_rfl) (by kernel_rfl) trivial rfl) (en_eqN (r:=(.int .i64 (sumG (cI W) lo W.length))) (by rfl) (en_retR (v:=(.v (.int .i64 (sumG (cI W) lo W.length)))) (by kernel_rfl) (by kernel_rfl) rfl (.inr rfl)))
theorem fl_17 (ya yl yf yw:Value) (A:List Int) (L:PR) (B:List Bool) (W:List Int) (lo hi:Nat→Int) (hz:ZK A L B W) (hlo:∀ k,k < 91→0≤lo k∧lo k≤200) (hhi:∀ k,k < 91→0≤hi k∧hi k≤200) (i:Nat) (hi1:i≤W.length) (hi2:True) (v:BaseW) (eb:EB) (ec:EC) (hs:LN):Goes pg 25 flK16 (⟨[q28_22,(5,(.v (.int .i64 (sumG (cI W) lo i)))),(q28_23 W yw),(q28_19 W),(11,(.v (.int .i64 i)))],[],2,[(q28_13 A B L W hi lo ya yf yl yw)]⟩) (BaseW.H (bw v 1 eb ec) hs) (Hd.StepC pg 25 0 (fun i:{i:Nat // i≤W.length∧True}=>⟨[q28_22,(5,(.v (.int .i64 (sumG (cI W) lo i.1)))),(q28_23 W yw),(q28_19 W),(11,(.v (.int .i64 i.1)))],[],2,[(q28_13 A B L W hi lo ya yf yl yw)]⟩) (fun i:{i:Nat // i≤W.length∧True}=>W.length - i.1) flK9 (bw v 1 eb ec) (OutN pg Try.f46 25 (.int .i64 (sumG (cI W) lo W.length)) [(q28_16 A B L W hi lo ya yf yl yw)] (bw v 1 eb ec)) (⟨i,hi1,hi2⟩:{i:Nat // i≤W.length∧True})):=by
 obtain ⟨hcl_A,hcl_L,hcl_B,hcl_W⟩:=hcZ28 A B L W
 obtain ⟨hn,ha,he,hl,hw⟩:=clE_zero hz
 have he2:=he
 unfold eqP degI at he2
 have hl4:((q28_18 A B L W ya yf yl yw):List AV).length=4:=rfl
 rcases bE (ltI i W.length) with Q0 | Q0
 ·skip
  have Q2:=lT Q0
  have hd0:=deg_bd hn ha he 0 (by omega)
  have hwi:=hw i (by omega)
  unfold wgtAt at hwi
  have hli:=hlo i (by omega)
  have eL:=bdT_lo (l:=(q28_18 A B L W ya yf yl yw)) (lo:=lo) (hi:=hi) (i:=0 + 4 + i * 1) (j:=i) rfl (by omega) (by omega)
  have hm:=mul_bdG hwi hli
  have hs:=sumG_bd (c:=cI W) (f:=lo) i (fun k hk=>by have:=hw k (by omega); unfold wgtAt at this; exact this) (fun k hk=>hlo k (by omega))
  exact gL isN_e (gT cm (kN) 200 (T':=(q28_2 A B L W hi i lo ya yf yl yw)) (e:=.normal) (ps:=[ltI i W.length=true,i < W.length,loadL pg (cI W) (i * 1) 2=some (.v (.int .i64 (intAt (cI W) (i * 1)))),i < 91,loadL pg (bdT (q28_17 A B L W ya yf yl yw) lo hi) (0 + 4 + 0 + i * 1) 2=some (.v (.int .i64 (intAt (bdT (q28_17 A B L W ya yf yl yw) lo hi) (0 + 4 + 0 + i * 1)))),inR .i64 (intAt (cI W) (i * 1) * intAt (bdT (q28_17 A B L W ya yf yl yw) lo hi) (0 + 4 + 0 + i * 1)),inR .i64 (sumG (cI W) lo i + intAt (cI W) (i * 1) * intAt (bdT (q28_17 A B L W ya yf yl yw) lo hi) (0 + 4 + 0 + i * 1)),inR .i64 (((i:Nat):Int) + 1)]) [.go,.b true,.go,.sym,.sym,.go,.go,.go,.go,.go,.go,.go,.go,.go,.go,.go,.go,.sym,.sym,.go,.go,.go,.go,.go,.go] (by kernel_rfl) (by kernel_rfl) ⟨Q0,(by omega),(cI_ld (by omega) 2 (u2) rfl),(by omega),(bdT_ld rfl (by omega) (by omega) 2 (u2) rfl),(by show -9223372036854775808≤_∧_≤9223372036854775807; rw [eL]; constructor <;> omega),(by show -9223372036854775808≤_∧_≤9223372036854775807; rw [eL]; constructor <;> omega),(by show -9223372036854775808≤_∧_≤9223372036854775807; constructor <;> omega),trivial⟩ rfl) (Hd.en_on (⟨i + 1,by omega,trivial⟩) (by show W.length - (i + 1) < W.length - i; omega) (show ((q28_2 A B L W hi i lo ya yf yl yw):Ev.Lit)=⟨[q28_22,(5,(.v (.int .i64 (sumG (cI W) lo (i + 1))))),(q28_23 W yw),(q28_19 W),(q28_20 i)],[],2,[(q28_13 A B L W hi lo ya yf yl yw)]⟩ from by have hz_:=congrArg (fun (xq0:Ev.AV)=>(⟨[q28_22,(5,xq0),(q28_23 W yw),(q28_19 W),(q28_20 i)],[],2,[(q28_13 A B L W hi lo ya yf yl yw)]⟩:Ev.Lit)) (congrArg (fun z=>Ev.AV.v (.int .i64 z)) (show ((sumG (cI W) lo i + intAt (cI W) (i * 1) * intAt (bdT (q28_17 A B L W ya yf yl yw) lo hi) (0 + 4 + 0 + i * 1)):Int)=(sumG (cI W) lo (i + 1)) from by rw [eL]; rfl)); exact hz_))
 ·skip
  have Q2:=lF Q0
  obtain rfl:i=W.length:=by omega
  exact gL isX_e (gT cm (kN) 200 (T':=(q28_9 A B L W hi lo ya yf yl yw)) (e:=.exit 0) (ps:=[ltI W.length W.length=false]) [.go,.b false] (by kernel_rfl) (by kernel_rfl) ⟨Q0,trivial⟩ rfl) (Hd.en_sx (fl_19 ya yl yf yw A L B W lo hi hz hlo hhi hi2  Q0 v eb ec hs))
theorem fl_15 (ya yl yf yw:Value) (A:List Int) (L:PR) (B:List Bool) (W:List Int) (lo hi:Nat→Int) (hz:ZK A L B W) (hlo:∀ k,k < 91→0≤lo k∧lo k≤200) (hhi:∀ k,k < 91→0≤hi k∧hi k≤200) (v:BaseW) (eb:EB) (ec:EC) (hs:LN):Goes pg 25 flK12 ((q28_8 A B L W hi lo ya yf yl yw)) (BaseW.H (bw v 1 eb ec) hs) (Hd.AfterN pg 25 flK9 (bw v 1 eb ec) (q28_11 A B L W eb ec hi lo v ya yf yl yw)):=by
 obtain ⟨hcl_A,hcl_L,hcl_B,hcl_W⟩:=hcZ28 A B L W
 obtain ⟨hn,ha,he,hl,hw⟩:=clE_zero hz
 have he2:=he
 unfold eqP degI at he2
 have hl4:((q28_18 A B L W ya yf yl yw):List AV).length=4:=rfl
 exact Hd.goes_loopA (id:=0) (by kernel_rfl) (by kernel_rfl) (fun i:{i:Nat // i≤W.length∧True}=>⟨[q28_22,(5,(.v (.int .i64 (sumG (cI W) lo i.1)))),(q28_23 W yw),(q28_19 W),(11,(.v (.int .i64 i.1)))],[],2,[(q28_13 A B L W hi lo ya yf yl yw)]⟩) (fun i:{i:Nat // i≤W.length∧True}=>W.length - i.1) (fun i hs=>fl_17 ya yl yf yw A L B W lo hi hz hlo hhi i.1 i.2.1 i.2.2 v eb ec hs) ⟨0,Nat.zero_le _,trivial⟩ hs
theorem fl_14 (ya yl yf yw:Value) (A:List Int) (L:PR) (B:List Bool) (W:List Int) (lo hi:Nat→Int) (hz:ZK A L B W) (hlo:∀ k,k < 91→0≤lo k∧lo k≤200) (hhi:∀ k,k < 91→0≤hi k∧hi k≤200) (v:BaseW) (eb:EB) (ec:EC) (hs:LN):Goes pg 25 flK12 ((q28_8 A B L W hi lo ya yf yl yw)) (BaseW.H (bw v 1 eb ec) hs) (Hd.AfterN pg 25 flK9 (bw v 1 eb ec) (q28_11 A B L W eb ec hi lo v ya yf yl yw)):=by
 exact fl_15 ya yl yf yw A L B W lo hi hz hlo hhi v eb ec hs
theorem fl_11 (ya yl yf yw:Value) (A:List Int) (L:PR) (B:List Bool) (W:List Int) (lo hi:Nat→Int) (hz:ZK A L B W) (hlo:∀ k,k < 91→0≤lo k∧lo k≤200) (hhi:∀ k,k < 91→0≤hi k∧hi k≤200) (v:BaseW) (eb:EB) (ec:EC) (hs:LN):Goes pg 25 flK10 ((q28_4 A B L W hi lo ya yf yl yw)) (BaseW.H (bw v 1 eb ec) hs) (Hd.AfterN pg 25 flK9 (bw v 1 eb ec) (q28_11 A B L W eb ec hi lo v ya yf yl yw)):=by
 obtain ⟨hcl_A,hcl_L,hcl_B,hcl_W⟩:=hcZ28 A B L W
 obtain ⟨hn,ha,he,hl,hw⟩:=clE_zero hz
 have he2:=he
 unfold eqP degI at he2
 have hl4:((q28_18 A B L W ya yf yl yw):List AV).length=4:=rfl
 refine Hd.goes_seqA (by kernel_rfl) ?_
 exact gL isN_e (gT cm (kN) 200 (T':=(q28_8 A B L W hi lo ya yf yl yw)) (e:=.normal) (ps:=[]) [.go,.go,.go,.go] (by kernel_rfl) (by kernel_rfl) trivial rfl) (Hd.en_n (fl_14 ya yl yf yw A L B W lo hi hz hlo hhi v eb ec hs))
theorem fl_8 (ya yl yf yw:Value) (A:List Int) (L:PR) (B:List Bool) (W:List Int) (lo hi:Nat→Int) (hz:ZK A L B W) (hlo:∀ k,k < 91→0≤lo k∧lo k≤200) (hhi:∀ k,k < 91→0≤hi k∧hi k≤200) (v:BaseW) (eb:EB) (ec:EC) (hs:LN):Goes pg 25 flK6 ((q28_4 A B L W hi lo ya yf yl yw)) (BaseW.H (bw v 1 eb ec) hs) (q28_11 A B L W eb ec hi lo v ya yf yl yw):=by
 exact Hd.goes_seqA (by kernel_rfl) (fl_11 ya yl yf yw A L B W lo hi hz hlo hhi v eb ec hs)
theorem fl_5 (ya yl yf yw:Value) (A:List Int) (L:PR) (B:List Bool) (W:List Int) (lo hi:Nat→Int) (hz:ZK A L B W) (hlo:∀ k,k < 91→0≤lo k∧lo k≤200) (hhi:∀ k,k < 91→0≤hi k∧hi k≤200) (v:BaseW) (eb:EB) (ec:EC) (hs:LN):Goes pg 25 flK3 ((q28_6 A B L W hi lo ya yf yl yw)) (BaseW.H (bw v 1 eb ec) hs) (q28_11 A B L W eb ec hi lo v ya yf yl yw):=by
 obtain ⟨hcl_A,hcl_L,hcl_B,hcl_W⟩:=hcZ28 A B L W
 obtain ⟨hn,ha,he,hl,hw⟩:=clE_zero hz
 have he2:=he
 unfold eqP degI at he2
 have hl4:((q28_18 A B L W ya yf yl yw):List AV).length=4:=rfl
 refine Hd.goes_seqA (by kernel_rfl) ?_
 exact gL isN_e (gT cm (kN) 200 (T':=(q28_4 A B L W hi lo ya yf yl yw)) (e:=.normal) (ps:=[]) [.go] (by kernel_rfl) (by kernel_rfl) trivial rfl) (Hd.en_n (fl_8 ya yl yf yw A L B W lo hi hz hlo hhi v eb ec hs))
theorem fl_2 (ya yl yf yw:Value) (A:List Int) (L:PR) (B:List Bool) (W:List Int) (lo hi:Nat→Int) (hz:ZK A L B W) (hlo:∀ k,k < 91→0≤lo k∧lo k≤200) (hhi:∀ k,k < 91→0≤hi k∧hi k≤200) (v:BaseW) (eb:EB) (ec:EC) (hs:LN):Goes pg 25 flK1 (⟨[(0,.agg (q28_18 A B L W ya yf yl yw)),(1,.fn (.func 66) [.ptr 0 0] [])],[],1,[(0,(q28_16 A B L W hi lo ya yf yl yw))]⟩) (BaseW.H (bw v 1 eb ec) hs) (q28_11 A B L W eb ec hi lo v ya yf yl yw):=by
 obtain ⟨hcl_A,hcl_L,hcl_B,hcl_W⟩:=hcZ28 A B L W
 obtain ⟨hn,ha,he,hl,hw⟩:=clE_zero hz
 have he2:=he
 unfold eqP degI at he2
 have hl4:((q28_18 A B L W ya yf yl yw):List AV).length=4:=rfl
 refine Hd.goes_seqA (by kernel_rfl) ?_
 exact gL isN_e (gT cm (kN) 200 (T':=(q28_6 A B L W hi lo ya yf yl yw)) (e:=.normal) (ps:=[]) [.go,.go] (by kernel_rfl) (by kernel_rfl) trivial rfl) (Hd.en_n (fl_5 ya yl yf yw A L B W lo hi hz hlo hhi v eb ec hs))
theorem fl_g (ya yl yf yw:Value) (A:List Int) (L:PR) (B:List Bool) (W:List Int) (lo hi:Nat→Int) (hz:ZK A L B W) (hlo:∀ k,k < 91→0≤lo k∧lo k≤200) (hhi:∀ k,k < 91→0≤hi k∧hi k≤200):GivesN pg 46 [.agg [.xl ya A.length 1 (cI A),.xl yl L.length 2 (cR L),.xl yf B.length 1 (cB B),.xl yw W.length 1 (cI W)],.fn (.func 66) [.ptr 0 0] []] [(.cells (bdT [.xl ya A.length 1 (cI A),.xl yl L.length 2 (cR L),.xl yf B.length 1 (cB B),.xl yw W.length 1 (cI W)] lo hi) 95)] (.int .i64 (sumG (cI W) lo W.length)) :=
 givesN_parts 25 Try.func46 (by kernel_rfl) (by kernel_rfl) (by kernel_rfl) (fun v eb ec=>goes_less (by kernel_rfl) (by kernel_rfl) (by kernel_rfl) (by kernel_rfl) (fl_2 ya yl yf yw A L B W lo hi hz hlo hhi v eb ec []))
def fhK1:Code:=bodyC Try.f46
def fhK3:Code:=tlC fhK1
def fhK6:Code:=tlC fhK3
def fhK9:Code:=tlC fhK6
def fhK10:Code:=(hdC fhK6)
def fhK12:Code:=tlC fhK10
def fhK16:Code:=loopC fhK12
theorem fh_19 (ya yl yf yw:Value) (A:List Int) (L:PR) (B:List Bool) (W:List Int) (lo hi:Nat→Int) (hz:ZK A L B W) (hlo:∀ k,k < 91→0≤lo k∧lo k≤200) (hhi:∀ k,k < 91→0≤hi k∧hi k≤200) (h0b:True) (Q1:(ltI W.length W.length)=false) (v:BaseW) (eb:EB) (ec:EC) (hs:LN):Goes pg 25 fhK9 ((q28_10 A B L W hi lo ya yf yl yw)) (BaseW.H (bw v 1 eb ec) hs) (q28_12 A B L W eb ec hi lo v ya yf yl yw):=by
 obtain ⟨hcl_A,hcl_L,hcl_B,hcl_W⟩:=hcZ28 A B L W
 obtain ⟨hn,ha,he,hl,hw⟩:=clE_zero hz
 have he2:=he
 unfold eqP degI at he2
 have hl4:((q28_18 A B L W ya yf yl yw):List AV).length=4:=rfl
 have Q3:=lF Q1
 exact gL isR_e (gT cm (kN) 200 (T':=⟨[(4,(.v (.int .i64 (sumG (cI W) hi W.length))))],[],2,[(q28_13 A B L W hi lo ya yf yl yw)]⟩) (e:=.ret) (ps:=[]) [.go,.go] (by kernel_rfl) (by kernel_rfl) trivial rfl) (en_eqN (r:=(.int .i64 (sumG (cI W) hi W.length))) (by rfl) (en_retR (v:=(.v (.int .i64 (sumG (cI W) hi W.length)))) (by kernel_rfl) (by kernel_rfl) rfl (.inr rfl)))
theorem fh_17 (ya yl yf yw:Value) (A:List Int) (L:PR) (B:List Bool) (W:List Int) (lo hi:Nat→Int) (hz:ZK A L B W) (hlo:∀ k,k < 91→0≤lo k∧lo k≤200) (hhi:∀ k,k < 91→0≤hi k∧hi k≤200) (i:Nat) (hi1:i≤W.length) (hi2:True) (v:BaseW) (eb:EB) (ec:EC) (hs:LN):Goes pg 25 fhK16 (⟨[q28_21,(5,(.v (.int .i64 (sumG (cI W) hi i)))),(q28_23 W yw),(q28_19 W),(11,(.v (.int .i64 i)))],[],2,[(q28_13 A B L W hi lo ya yf yl yw)]⟩) (BaseW.H (bw v 1 eb ec) hs) (Hd.StepC pg 25 0 (fun i:{i:Nat // i≤W.length∧True}=>⟨[q28_21,(5,(.v (.int .i64 (sumG (cI W) hi i.1)))),(q28_23 W yw),(q28_19 W),(11,(.v (.int .i64 i.1)))],[],2,[(q28_13 A B L W hi lo ya yf yl yw)]⟩) (fun i:{i:Nat // i≤W.length∧True}=>W.length - i.1) fhK9 (bw v 1 eb ec) (OutN pg Try.f46 25 (.int .i64 (sumG (cI W) hi W.length)) [(q28_16 A B L W hi lo ya yf yl yw)] (bw v 1 eb ec)) (⟨i,hi1,hi2⟩:{i:Nat // i≤W.length∧True})):=by
 obtain ⟨hcl_A,hcl_L,hcl_B,hcl_W⟩:=hcZ28 A B L W
 obtain ⟨hn,ha,he,hl,hw⟩:=clE_zero hz
 have he2:=he
 unfold eqP degI at he2
 have hl4:((q28_18 A B L W ya yf yl yw):List AV).length=4:=rfl
 rcases bE (ltI i W.length) with Q1 | Q1
 ·skip
  have Q3:=lT Q1
  have hd0:=deg_bd hn ha he 0 (by omega)
  have hwi:=hw i (by omega)
  unfold wgtAt at hwi
  have hli:=hhi i (by omega)
  have eL:=bdT_hi (l:=(q28_18 A B L W ya yf yl yw)) (lo:=lo) (hi:=hi) (i:=0 + 4 + 91 + i * 1) (j:=i) rfl (by omega) (by omega)
  have hm:=mul_bdG hwi hli
  have hs:=sumG_bd (c:=cI W) (f:=hi) i (fun k hk=>by have:=hw k (by omega); unfold wgtAt at this; exact this) (fun k hk=>hhi k (by omega))
  exact gL isN_e (gT cm (kN) 200 (T':=(q28_1 A B L W hi i lo ya yf yl yw)) (e:=.normal) (ps:=[ltI i W.length=true,i < W.length,loadL pg (cI W) (i * 1) 2=some (.v (.int .i64 (intAt (cI W) (i * 1)))),i < 91,loadL pg (bdT (q28_17 A B L W ya yf yl yw) lo hi) (0 + 4 + 91 + i * 1) 2=some (.v (.int .i64 (intAt (bdT (q28_17 A B L W ya yf yl yw) lo hi) (0 + 4 + 91 + i * 1)))),inR .i64 (intAt (cI W) (i * 1) * intAt (bdT (q28_17 A B L W ya yf yl yw) lo hi) (0 + 4 + 91 + i * 1)),inR .i64 (sumG (cI W) hi i + intAt (cI W) (i * 1) * intAt (bdT (q28_17 A B L W ya yf yl yw) lo hi) (0 + 4 + 91 + i * 1)),inR .i64 (((i:Nat):Int) + 1)]) [.go,.b true,.go,.sym,.sym,.go,.go,.go,.go,.go,.go,.go,.go,.go,.go,.go,.go,.sym,.sym,.go,.go,.go,.go,.go,.go] (by kernel_rfl) (by kernel_rfl) ⟨Q1,(by omega),(cI_ld (by omega) 2 (u2) rfl),(by omega),(bdT_ld rfl (by omega) (by omega) 2 (u2) rfl),(by show -9223372036854775808≤_∧_≤9223372036854775807; rw [eL]; constructor <;> omega),(by show -9223372036854775808≤_∧_≤9223372036854775807; rw [eL]; constructor <;> omega),(by show -9223372036854775808≤_∧_≤9223372036854775807; constructor <;> omega),trivial⟩ rfl) (Hd.en_on (⟨i + 1,by omega,trivial⟩) (by show W.length - (i + 1) < W.length - i; omega) (show ((q28_1 A B L W hi i lo ya yf yl yw):Ev.Lit)=⟨[q28_21,(5,(.v (.int .i64 (sumG (cI W) hi (i + 1))))),(q28_23 W yw),(q28_19 W),(q28_20 i)],[],2,[(q28_13 A B L W hi lo ya yf yl yw)]⟩ from by have hz_:=congrArg (fun (xq0:Ev.AV)=>(⟨[q28_21,(5,xq0),(q28_23 W yw),(q28_19 W),(q28_20 i)],[],2,[(q28_13 A B L W hi lo ya yf yl yw)]⟩:Ev.Lit)) (congrArg (fun z=>Ev.AV.v (.int .i64 z)) (show ((sumG (cI W) hi i + intAt (cI W) (i * 1) * intAt (bdT (q28_17 A B L W ya yf yl yw) lo hi) (0 + 4 + 91 + i * 1)):Int)=(sumG (cI W) hi (i + 1)) from by rw [eL]; rfl)); exact hz_))
 ·skip
  have Q3:=lF Q1
  obtain rfl:i=W.length:=by omega
  exact gL isX_e (gT cm (kN) 200 (T':=(q28_10 A B L W hi lo ya yf yl yw)) (e:=.exit 0) (ps:=[ltI W.length W.length=false]) [.go,.b false] (by kernel_rfl) (by kernel_rfl) ⟨Q1,trivial⟩ rfl) (Hd.en_sx (fh_19 ya yl yf yw A L B W lo hi hz hlo hhi hi2  Q1 v eb ec hs))
theorem fh_15 (ya yl yf yw:Value) (A:List Int) (L:PR) (B:List Bool) (W:List Int) (lo hi:Nat→Int) (hz:ZK A L B W) (hlo:∀ k,k < 91→0≤lo k∧lo k≤200) (hhi:∀ k,k < 91→0≤hi k∧hi k≤200) (v:BaseW) (eb:EB) (ec:EC) (hs:LN):Goes pg 25 fhK12 ((q28_7 A B L W hi lo ya yf yl yw)) (BaseW.H (bw v 1 eb ec) hs) (Hd.AfterN pg 25 fhK9 (bw v 1 eb ec) (q28_12 A B L W eb ec hi lo v ya yf yl yw)):=by
 obtain ⟨hcl_A,hcl_L,hcl_B,hcl_W⟩:=hcZ28 A B L W
 obtain ⟨hn,ha,he,hl,hw⟩:=clE_zero hz
 have he2:=he
 unfold eqP degI at he2
 have hl4:((q28_18 A B L W ya yf yl yw):List AV).length=4:=rfl
 exact Hd.goes_loopA (id:=0) (by kernel_rfl) (by kernel_rfl) (fun i:{i:Nat // i≤W.length∧True}=>⟨[q28_21,(5,(.v (.int .i64 (sumG (cI W) hi i.1)))),(q28_23 W yw),(q28_19 W),(11,(.v (.int .i64 i.1)))],[],2,[(q28_13 A B L W hi lo ya yf yl yw)]⟩) (fun i:{i:Nat // i≤W.length∧True}=>W.length - i.1) (fun i hs=>fh_17 ya yl yf yw A L B W lo hi hz hlo hhi i.1 i.2.1 i.2.2 v eb ec hs) ⟨0,Nat.zero_le _,trivial⟩ hs
theorem fh_14 (ya yl yf yw:Value) (A:List Int) (L:PR) (B:List Bool) (W:List Int) (lo hi:Nat→Int) (hz:ZK A L B W) (hlo:∀ k,k < 91→0≤lo k∧lo k≤200) (hhi:∀ k,k < 91→0≤hi k∧hi k≤200) (v:BaseW) (eb:EB) (ec:EC) (hs:LN):Goes pg 25 fhK12 ((q28_7 A B L W hi lo ya yf yl yw)) (BaseW.H (bw v 1 eb ec) hs) (Hd.AfterN pg 25 fhK9 (bw v 1 eb ec) (q28_12 A B L W eb ec hi lo v ya yf yl yw)):=by
 exact fh_15 ya yl yf yw A L B W lo hi hz hlo hhi v eb ec hs
theorem fh_11 (ya yl yf yw:Value) (A:List Int) (L:PR) (B:List Bool) (W:List Int) (lo hi:Nat→Int) (hz:ZK A L B W) (hlo:∀ k,k < 91→0≤lo k∧lo k≤200) (hhi:∀ k,k < 91→0≤hi k∧hi k≤200) (v:BaseW) (eb:EB) (ec:EC) (hs:LN):Goes pg 25 fhK10 ((q28_3 A B L W hi lo ya yf yl yw)) (BaseW.H (bw v 1 eb ec) hs) (Hd.AfterN pg 25 fhK9 (bw v 1 eb ec) (q28_12 A B L W eb ec hi lo v ya yf yl yw)):=by
 obtain ⟨hcl_A,hcl_L,hcl_B,hcl_W⟩:=hcZ28 A B L W
 obtain ⟨hn,ha,he,hl,hw⟩:=clE_zero hz
 have he2:=he
 unfold eqP degI at he2
 have hl4:((q28_18 A B L W ya yf yl yw):List AV).length=4:=rfl
 refine Hd.goes_seqA (by kernel_rfl) ?_
 exact gL isN_e (gT cm (kN) 200 (T':=(q28_7 A B L W hi lo ya yf yl yw)) (e:=.normal) (ps:=[]) [.go,.go,.go,.go] (by kernel_rfl) (by kernel_rfl) trivial rfl) (Hd.en_n (fh_14 ya yl yf yw A L B W lo hi hz hlo hhi v eb ec hs))
theorem fh_8 (ya yl yf yw:Value) (A:List Int) (L:PR) (B:List Bool) (W:List Int) (lo hi:Nat→Int) (hz:ZK A L B W) (hlo:∀ k,k < 91→0≤lo k∧lo k≤200) (hhi:∀ k,k < 91→0≤hi k∧hi k≤200) (v:BaseW) (eb:EB) (ec:EC) (hs:LN):Goes pg 25 fhK6 ((q28_3 A B L W hi lo ya yf yl yw)) (BaseW.H (bw v 1 eb ec) hs) (q28_12 A B L W eb ec hi lo v ya yf yl yw):=by
 exact Hd.goes_seqA (by kernel_rfl) (fh_11 ya yl yf yw A L B W lo hi hz hlo hhi v eb ec hs)
theorem fh_5 (ya yl yf yw:Value) (A:List Int) (L:PR) (B:List Bool) (W:List Int) (lo hi:Nat→Int) (hz:ZK A L B W) (hlo:∀ k,k < 91→0≤lo k∧lo k≤200) (hhi:∀ k,k < 91→0≤hi k∧hi k≤200) (v:BaseW) (eb:EB) (ec:EC) (hs:LN):Goes pg 25 fhK3 ((q28_5 A B L W hi lo ya yf yl yw)) (BaseW.H (bw v 1 eb ec) hs) (q28_12 A B L W eb ec hi lo v ya yf yl yw):=by
 obtain ⟨hcl_A,hcl_L,hcl_B,hcl_W⟩:=hcZ28 A B L W
 obtain ⟨hn,ha,he,hl,hw⟩:=clE_zero hz
 have he2:=he
 unfold eqP degI at he2
 have hl4:((q28_18 A B L W ya yf yl yw):List AV).length=4:=rfl
 refine Hd.goes_seqA (by kernel_rfl) ?_
 exact gL isN_e (gT cm (kN) 200 (T':=(q28_3 A B L W hi lo ya yf yl yw)) (e:=.normal) (ps:=[]) [.go] (by kernel_rfl) (by kernel_rfl) trivial rfl) (Hd.en_n (fh_8 ya yl yf yw A L B W lo hi hz hlo hhi v eb ec hs))
theorem fh_2 (ya yl yf yw:Value) (A:List Int) (L:PR) (B:List Bool) (W:List Int) (lo hi:Nat→Int) (hz:ZK A L B W) (hlo:∀ k,k < 91→0≤lo k∧lo k≤200) (hhi:∀ k,k < 91→0≤hi k∧hi k≤200) (v:BaseW) (eb:EB) (ec:EC) (hs:LN):Goes pg 25 fhK1 (⟨[(0,.agg (q28_18 A B L W ya yf yl yw)),(1,.fn (.func 68) [.ptr 0 0] [])],[],1,[(0,(q28_16 A B L W hi lo ya yf yl yw))]⟩) (BaseW.H (bw v 1 eb ec) hs) (q28_12 A B L W eb ec hi lo v ya yf yl yw):=by
 obtain ⟨hcl_A,hcl_L,hcl_B,hcl_W⟩:=hcZ28 A B L W
 obtain ⟨hn,ha,he,hl,hw⟩:=clE_zero hz
 have he2:=he
 unfold eqP degI at he2
 have hl4:((q28_18 A B L W ya yf yl yw):List AV).length=4:=rfl
 refine Hd.goes_seqA (by kernel_rfl) ?_
 exact gL isN_e (gT cm (kN) 200 (T':=(q28_5 A B L W hi lo ya yf yl yw)) (e:=.normal) (ps:=[]) [.go,.go] (by kernel_rfl) (by kernel_rfl) trivial rfl) (Hd.en_n (fh_5 ya yl yf yw A L B W lo hi hz hlo hhi v eb ec hs))
theorem fh_g (ya yl yf yw:Value) (A:List Int) (L:PR) (B:List Bool) (W:List Int) (lo hi:Nat→Int) (hz:ZK A L B W) (hlo:∀ k,k < 91→0≤lo k∧lo k≤200) (hhi:∀ k,k < 91→0≤hi k∧hi k≤200):GivesN pg 46 [.agg [.xl ya A.length 1 (cI A),.xl yl L.length 2 (cR L),.xl yf B.length 1 (cB B),.xl yw W.length 1 (cI W)],.fn (.func 68) [.ptr 0 0] []] [(.cells (bdT [.xl ya A.length 1 (cI A),.xl yl L.length 2 (cR L),.xl yf B.length 1 (cB B),.xl yw W.length 1 (cI W)] lo hi) 95)] (.int .i64 (sumG (cI W) hi W.length)) :=
 givesN_parts 25 Try.func46 (by kernel_rfl) (by kernel_rfl) (by kernel_rfl) (fun v eb ec=>goes_less (by kernel_rfl) (by kernel_rfl) (by kernel_rfl) (by kernel_rfl) (fh_2 ya yl yf yw A L B W lo hi hz hlo hhi v eb ec []))
end
end Go.Proofs.Ytldekgkjofgacaa
