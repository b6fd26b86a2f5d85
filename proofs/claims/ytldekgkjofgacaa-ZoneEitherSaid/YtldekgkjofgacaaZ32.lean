import Derived.Test.YtldekgkjofgacaaZ30a
import Derived.Test.YtldekgkjofgacaaGr
set_option maxHeartbeats 4000000
set_option linter.all false
/- Rows of lights. -/
namespace Go.Proofs.Ytldekgkjofgacaa
open Go Ev
noncomputable section
theorem hcZ32 (A:List Int) (B:List Bool) (L:PR) (W:List Int):(cI A).length=A.length∧(cR L).length=L.length * 2∧(cB B).length=B.length∧(cI W).length=W.length:=⟨cI_len A,cR_len L,cB_len B,cI_len W⟩
section
variable (A : List Int) (B : List Bool) (L : PR) (W : List Int) (hi : Nat → Int) (i : Nat) (lo : Nat → Int) (ya yf yl yw : Value)
abbrev q32_20:Nat×Ev.AV:=(1,(.fn (.func 68) [(.ptr 0 0)] []))
abbrev q32_25:Nat×Ev.AV:=(6,(.sl 1 0 (i + 1) W.length))
abbrev q32_16:Nat×Ev.AV:=(21,(.v (.int .i64 W.length)))
abbrev q32_19:Nat×Ev.AV:=(22,(.v (.int .i64 (((i + 1):Nat):Int))))
abbrev q32_11:Nat×Ev.AB:=(0,(.cells (bdT [(.xl (ya) (A.length) 1 (cI A)),(.xl (yl) (L.length) 2 (cR L)),(.xl (yf) (B.length) 1 (cB B)),(.xl (yw) (W.length) 1 (cI W))] (lo) (hi)) 95))
abbrev q32_18:=(cI (tI (fun j=>if j < i then hi j else 0) 91))
abbrev q32_13:=(bdT [AV.xl ya A.length 1 (cI A),AV.xl yl L.length 2 (cR L),AV.xl yf B.length 1 (cB B),AV.xl yw W.length 1 (cI W)] lo hi)
abbrev q32_1:Ev.Lit:=⟨[q32_20,(q32_25 W i),(q32_16 W),(q32_19 i)],[],2,[(q32_11 A B L W hi lo ya yf yl yw),(1,(.cells (splice (q32_18 hi i) (0 + i * 1) [(.v (.int .i64 (intAt (q32_13 A B L W hi lo ya yf yl yw) (0 + 4 + 91 + i * 1))))]) 91))]⟩
abbrev q32_21:Nat×Ev.AV:=(1,(.fn (.func 66) [(.ptr 0 0)] []))
abbrev q32_17:=(cI (tI (fun j=>if j < i then lo j else 0) 91))
abbrev q32_2:Ev.Lit:=⟨[q32_21,(q32_25 W i),(q32_16 W),(q32_19 i)],[],2,[(q32_11 A B L W hi lo ya yf yl yw),(1,(.cells (splice (q32_17 i lo) (0 + i * 1) [(.v (.int .i64 (intAt (q32_13 A B L W hi lo ya yf yl yw) (0 + 4 + 0 + i * 1))))]) 91))]⟩
abbrev q32_26:Nat×Ev.AV:=(6,(.sl 1 0 0 (W.length)))
abbrev q32_22:Nat×Ev.AV:=(22,(.v (.int .i64 (.ofNat 0))))
abbrev q32_15:Nat×Ev.AB:=(1,(.cells (cI (tabL (fun _=>(0:Int)) 91)) 91))
abbrev q32_3:Ev.Lit:=⟨[q32_20,(q32_26 W),(q32_16 W),q32_22],[],2,[(q32_11 A B L W hi lo ya yf yl yw),q32_15]⟩
abbrev q32_4:Ev.Lit:=⟨[q32_21,(q32_26 W),(q32_16 W),q32_22],[],2,[(q32_11 A B L W hi lo ya yf yl yw),q32_15]⟩
abbrev q32_5:Ev.Lit:=⟨[(0,(.ptr 0 0)),q32_20,(q32_26 W)],[],2,[(q32_11 A B L W hi lo ya yf yl yw),q32_15]⟩
abbrev q32_6:Ev.Lit:=⟨[(0,(.ptr 0 0)),q32_21,(q32_26 W)],[],2,[(q32_11 A B L W hi lo ya yf yl yw),q32_15]⟩
abbrev q32_7:Ev.Lit:=⟨[(0,(.ptr 0 0)),q32_20,(5,(.ptr 1 0))],[],2,[(q32_11 A B L W hi lo ya yf yl yw),q32_15]⟩
abbrev q32_8:Ev.Lit:=⟨[(0,(.ptr 0 0)),q32_21,(5,(.ptr 1 0))],[],2,[(q32_11 A B L W hi lo ya yf yl yw),q32_15]⟩
abbrev q32_9:Ev.Lit:=⟨[(0,(.ptr 0 0)),q32_20],[],1,[(q32_11 A B L W hi lo ya yf yl yw)]⟩
abbrev q32_10:Ev.Lit:=⟨[(0,(.ptr 0 0)),q32_21],[],1,[(q32_11 A B L W hi lo ya yf yl yw)]⟩
abbrev q32_14:List Ev.AV:=[.xl ya A.length 1 (cI A),.xl yl L.length 2 (cR L),.xl yf B.length 1 (cB B),.xl yw W.length 1 (cI W)]
abbrev q32_12:Ev.AB:=(.cells (bdT (q32_14 A B L W ya yf yl yw) lo hi) 95)
abbrev q32_23:Ev.AB:=(.cells (cI (tI lo W.length)) 2)
abbrev q32_24:Ev.AB:=(.cells (cI (tI hi W.length)) 2)
end
theorem nbA_plain {K:Nat} {l:List AV} {cs:List Value} (h:plainL l=some cs):∀ u∈l,NB K u:=nb_of_plainL h
theorem tabL_take (f:Nat→Int) {n:Nat}:∀ {m:Nat},n≤m→(tabL f m).take n=tabL f n
 | 0,h=>by obtain rfl:n=0:=by omega
           rfl
 | m + 1,h=>by
  by_cases e:n=m + 1
  ·subst e
   exact List.take_of_length_le (by rw [tabL_len]; exact Nat.le_refl _)
  ·have ih:=tabL_take f (n:=n) (m:=m) (by omega)
   show (tabL f m ++ [f m]).take n=tabL f n
   rw [List.take_append_of_le_length (by rw [tabL_len]; omega)]
   exact ih
theorem cI_take {L:List Int}:∀ {n:Nat},(cI L).take n=cI (L.take n):=by
 induction L with
 | nil=>intro n; simp [cI]
 | cons x l ih =>
  intro n
  cases n with
  | zero=>rfl
  | succ n=>simp [cI,ih]
theorem lan_take {g:Nat→Int} {n:Nat} (h:n≤91):List.take (n * 1) (cI (tI (fun j=>if j < n then g j else 0) 91))=cI (tI g n):=by
 rw [Nat.mul_one,cI_take,tI_eq,tabL_take _ h,← tI_eq]
 rw [tI_ext (f:=fun j=>if j < n then g j else 0) (g:=g) (fun j hj=>if_pos hj)]
theorem lan_step {g:Nat→Int} {i:Nat} {v:Int} (h:i < 91) (hv:v=g i):splice (cI (tI (fun j=>if j < i then g j else 0) 91)) (0 + i * 1) [.v (.int .i64 v)]=cI (tI (fun j=>if j < i + 1 then g j else 0) 91):=by
 have e:=up_at (f:=fun j=>if j < i then g j else 0) (i:=0 + i * 1) i v (by omega) h
 refine Eq.trans e ?_
 rw [tI_ext (f:=updI (fun j=>if j < i then g j else 0) i v) (g:=fun j=>if j < i + 1 then g j else 0) (fun j hj=>?_)]
 unfold updI
 by_cases q:j=i
 ·subst q
  rw [if_pos rfl,if_pos (Nat.lt_succ_self _),hv]
 ·rw [if_neg q]
  show (if j < i then g j else 0)=if j < i + 1 then g j else 0
  by_cases q2:j < i
  ·rw [if_pos q2,if_pos (by omega)]
  ·rw [if_neg q2,if_neg (by omega)]
theorem lan_plain {g:Nat→Int} {n:Nat} (h:n≤91):∃ xs,plainL (List.take (n * 1) (cI (tI (fun j=>if j < n then g j else 0) 91)))=some xs:=by
 rw [lan_take h]
 exact ⟨_,cI_plain _⟩
theorem lan_one {g:Nat→Int} {n:Nat} (h:n≤91):allOne (List.take (n * 1) (cI (tI (fun j=>if j < n then g j else 0) 91)))=true:=by
 rw [lan_take h]
 exact cI_one _
def llK1:Code:=bodyC Try.f69
def llK3:Code:=tlC llK1
def llK6:Code:=tlC llK3
def llK9:Code:=tlC llK6
def llK12:Code:=tlC llK9
def llK13:Code:=(hdC llK9)
def llK15:Code:=tlC llK13
def llK19:Code:=loopC llK15
theorem ll_22 (ya yl yf yw:Value) (A:List Int) (L:PR) (B:List Bool) (W:List Int) (lo hi:Nat→Int) (hz:ZK A L B W) (h0b:True) (hqll21_1:(ltI W.length W.length)=false) (v:BaseW) (eb:EB) (ec:EC) (hs:LN):Goes pg 39 llK12 (⟨[(6,(.sl 1 0 ((W.length)) (W.length)))],[],2,[(0,(.cells (bdT [(.xl (ya) (A.length) 1 (cI A)),(.xl (yl) (L.length) 2 (cR L)),(.xl (yf) (B.length) 1 (cB B)),(.xl (yw) (W.length) 1 (cI W))] (lo) (hi)) 95)),(1,(.cells (cI (tI (fun j=>if j < (W.length) then lo j else 0) 91)) 91))]⟩) (BaseW.H (bw v 1 eb ec) hs) (OutM pg Try.f69 39 ((.sl 1 0 W.length W.length)) [(.cells (bdT [.xl ya A.length 1 (cI A),.xl yl L.length 2 (cR L),.xl yf B.length 1 (cB B),.xl yw W.length 1 (cI W)] lo hi) 95),(.cells (cI (tI lo W.length)) 2)] (bw v 1 eb ec)):=by
 obtain ⟨hcl_A,hcl_L,hcl_B,hcl_W⟩:=hcZ32 A B L W
 obtain ⟨hn,ha,he,hl,hw⟩:=clE_zero hz
 have he2:=he
 unfold eqP degI at he2
 have hl4:([.xl ya A.length 1 (cI A),.xl yl L.length 2 (cR L),.xl yf B.length 1 (cB B),.xl yw W.length 1 (cI W)]:List AV).length=4:=rfl
 have hw91:=nw_le hz
 have ghqll21_1:=lF hqll21_1
 exact gL isR_e (gC cm (kN) 200 (T':=⟨[(4,(.sl 1 0 (W.length) (W.length)))],[],2,[(0,(.cells (bdT [(.xl (ya) (A.length) 1 (cI A)),(.xl (yl) (L.length) 2 (cR L)),(.xl (yf) (B.length) 1 (cB B)),(.xl (yw) (W.length) 1 (cI W))] (lo) (hi)) 95)),(1,(.cells (List.take (W.length * 1) (cI (tI (fun j=>if j < W.length then lo j else 0) 91))) 2))]⟩) (e:=.ret) (m:=3) (ps:=[W.length≤W.length,W.length≤1000000,W.length=W.length,W.length * 1≤((cI (tI (fun j=>if j < W.length then lo j else 0) 91)):List AV).length,((repL W.length (List.map AV.v (Value.int IntKind.i64 0).cells.toList)):List AV).length=W.length * 1,allOne (List.take (W.length * 1) (cI (tI (fun j=>if j < W.length then lo j else 0) 91)))=true]) [.go,.go,.sym,.go,.go,.go,.sym,.go,.go] [0,2] [(.sl 2 0 (W.length) (W.length))] [(.cells (bdT [(.xl (ya) (A.length) 1 (cI A)),(.xl (yl) (L.length) 2 (cR L)),(.xl (yf) (B.length) 1 (cB B)),(.xl (yw) (W.length) 1 (cI W))] (lo) (hi)) 95),(.cells (List.take (W.length * 1) (cI (tI (fun j=>if j < W.length then lo j else 0) 91))) 2)] (by kernel_rfl) (by kernel_rfl) ⟨(Nat.le_refl _),(by omega),rfl,(by rw [cI_len,tI_len]; omega),(by show (repL _ _).length=_; rw [repL_len]; rfl),(lan_one hw91),trivial⟩ rfl rfl (by decide) rfl ⟨nr_sl rfl,trivial⟩ ⟨⟨by show 0 < 2; decide,nrb_cells (nrl_free (freeL_bdT (freeL_cons (freeL_xl (freeL_plain (cI_plain _))) (freeL_cons (freeL_xl (freeL_plain (cR_plain _))) (freeL_cons (freeL_xl (freeL_plain (cB_plain _))) (freeL_cons (freeL_xl (freeL_plain (cI_plain _))) (freeL_nil)))))))⟩,⟨by show 1 < 2; decide,nrb_cells (nrl_eq (show ((List.take (W.length * 1) (cI (tI (fun j=>if j < W.length then lo j else 0) 91))):List AV)=(List.take (W.length * 1) (cI (tI (fun j=>if j < W.length then lo j else 0) 91))) from rfl) (lan_plain hw91).choose_spec)⟩,trivial⟩ (by show 1≤2; decide) (fun b hb=>(by have hb2:b < 1:=hb; match b,hb2 with | 0,_=>rfl))) (en_eqM (r:=(.sl 1 0 (W.length) (W.length))) (ys:=[(.cells (bdT [(.xl (ya) (A.length) 1 (cI A)),(.xl (yl) (L.length) 2 (cR L)),(.xl (yf) (B.length) 1 (cB B)),(.xl (yw) (W.length) 1 (cI W))] (lo) (hi)) 95),(.cells (List.take (W.length * 1) (cI (tI (fun j=>if j < W.length then lo j else 0) 91))) 2)]) (by rfl) (by rw [lan_take hw91]) (en_retM (by kernel_rfl) (by kernel_rfl) rfl (.inr rfl)))
theorem ll_20 (ya yl yf yw:Value) (A:List Int) (L:PR) (B:List Bool) (W:List Int) (lo hi:Nat→Int) (hz:ZK A L B W) (i:Nat) (hi1:i≤W.length) (hi2:True) (v:BaseW) (eb:EB) (ec:EC) (hs:LN):Goes pg 39 llK19 (⟨[q32_21,(6,(.sl 1 0 i W.length)),(q32_16 W),(22,(.v (.int .i64 i)))],[],2,[(q32_11 A B L W hi lo ya yf yl yw),(1,(.cells (q32_17 i lo) 91))]⟩) (BaseW.H (bw v 1 eb ec) hs) (Hd.StepC pg 39 0 (fun i:{i:Nat // i≤W.length∧True}=>⟨[q32_21,(6,(.sl 1 0 i.1 W.length)),(q32_16 W),(22,(.v (.int .i64 i.1)))],[],2,[(q32_11 A B L W hi lo ya yf yl yw),(1,(.cells (cI (tI (fun j=>if j < i.1 then lo j else 0) 91)) 91))]⟩) (fun i:{i:Nat // i≤W.length∧True}=>W.length - i.1) llK12 (bw v 1 eb ec) (OutM pg Try.f69 39 ((.sl 1 0 W.length W.length)) [(q32_12 A B L W hi lo ya yf yl yw),(q32_23 W lo)] (bw v 1 eb ec)) (⟨i,hi1,hi2⟩:{i:Nat // i≤W.length∧True})):=by
 obtain ⟨hcl_A,hcl_L,hcl_B,hcl_W⟩:=hcZ32 A B L W
 obtain ⟨hn,ha,he,hl,hw⟩:=clE_zero hz
 have he2:=he
 unfold eqP degI at he2
 have hl4:((q32_14 A B L W ya yf yl yw):List AV).length=4:=rfl
 have hw91:=nw_le hz
 rcases bE (ltI i W.length) with hqll21_1 | hqll21_1
 ·skip
  have ghqll21_1:=lT hqll21_1
  exact gL isN_e (gK cm (kN) 200 (T':=(q32_2 A B L W hi i lo ya yf yl yw)) (e:=.normal) (m:=3) (ps:=[ltI i W.length=true,i < 91,loadL pg (q32_13 A B L W hi lo ya yf yl yw) (0 + 4 + 0 + i * 1) 2=some (.v (.int .i64 (intAt (q32_13 A B L W hi lo ya yf yl yw) (0 + 4 + 0 + i * 1)))),i + 1≤W.length,0 + i * 1 + ([(.v (.int .i64 (intAt (q32_13 A B L W hi lo ya yf yl yw) (0 + 4 + 0 + i * 1))))]:List AV).length≤((q32_17 i lo):List AV).length,inR .i64 (((i:Nat):Int) + 1)]) [.go,.b true,.go,.go,.go,.go,.go,.go,.go,.go,.go,.go,.go,.sym,.sym,.go,.go,.sym,.go,.go,.go] (by kernel_rfl) (by kernel_rfl) ⟨hqll21_1,(by omega),(bdT_ld rfl (by omega) (by omega) 2 (u2) rfl),(by omega),(by rw [cI_len,tI_len]; show 0 + i * 1 + 1≤91; omega),(by show -9223372036854775808≤_∧_≤9223372036854775807; constructor <;> omega),trivial⟩ rfl (by show 2≤3; decide) ⟨⟨nb_fn (nb_cons (nb_ptr (by show 0 < 2; decide)) (fun _ hz=>absurd hz List.not_mem_nil)) (fun _ hz=>absurd hz List.not_mem_nil),nb_sl (by show 1 < 2; decide),nb_v _,nb_v _,trivial⟩,⟨⟨by show 0 < 2; decide,nbb_cells (nbA_bdT (nb_cons (nb_xl (cI_plain A)) (nb_cons (nb_xl (cR_plain L)) (nb_cons (nb_xl (cB_plain B)) (nb_cons (nb_xl (cI_plain W)) (fun _ hz=>absurd hz List.not_mem_nil))))))⟩,⟨by show 1 < 2; decide,nbb_cells (nbA_splice (nbA_plain (cI_plain _)) (nb_cons (nb_v _) (fun _ hz=>absurd hz List.not_mem_nil)))⟩,trivial⟩,rfl⟩ (by show 1≤2; decide)) (Hd.en_on (⟨i + 1,by omega,trivial⟩) (by show W.length - (i + 1) < W.length - i; omega) (show ((q32_2 A B L W hi i lo ya yf yl yw):Ev.Lit)=⟨[q32_21,(q32_25 W i),(q32_16 W),(q32_19 i)],[],2,[(q32_11 A B L W hi lo ya yf yl yw),(1,(.cells (cI (tI (fun j=>if j < (i + 1) then lo j else 0) 91)) 91))]⟩ from by have hz_:=congrArg (fun (xq0:Ev.AB)=>(⟨[q32_21,(q32_25 W i),(q32_16 W),(q32_19 i)],[],2,[(q32_11 A B L W hi lo ya yf yl yw),(1,xq0)]⟩:Ev.Lit)) (congrArg (fun z=>Ev.AB.cells z 91) (show ((splice (q32_17 i lo) (0 + i * 1) [(.v (.int .i64 (intAt (q32_13 A B L W hi lo ya yf yl yw) (0 + 4 + 0 + i * 1))))]):List Ev.AV)=(cI (tI (fun j=>if j < (i + 1) then lo j else 0) 91)) from by exact lan_step (by omega) (bdT_lo (i:=0 + 4 + 0 + i * 1) (j:=i) rfl (by omega) (by omega)))); exact hz_))
 ·skip
  have ghqll21_1:=lF hqll21_1
  obtain rfl:i=W.length:=by omega
  exact gL isX_e (gT cm (kN) 200 (T':=⟨[(6,(.sl 1 0 ((W.length)) (W.length)))],[],2,[(q32_11 A B L W hi lo ya yf yl yw),(1,(.cells (cI (tI (fun j=>if j < (W.length) then lo j else 0) 91)) 91))]⟩) (e:=.exit 0) (ps:=[ltI W.length W.length=false]) [.go,.b false] (by kernel_rfl) (by kernel_rfl) ⟨hqll21_1,trivial⟩ rfl) (Hd.en_sx (ll_22 ya yl yf yw A L B W lo hi hz hi2  hqll21_1 v eb ec hs))
theorem ll_18 (ya yl yf yw:Value) (A:List Int) (L:PR) (B:List Bool) (W:List Int) (lo hi:Nat→Int) (hz:ZK A L B W) (v:BaseW) (eb:EB) (ec:EC) (hs:LN):Goes pg 39 llK15 ((q32_4 A B L W hi lo ya yf yl yw)) (BaseW.H (bw v 1 eb ec) hs) (Hd.AfterN pg 39 llK12 (bw v 1 eb ec) (OutM pg Try.f69 39 ((.sl 1 0 W.length W.length)) [(q32_12 A B L W hi lo ya yf yl yw),(q32_23 W lo)] (bw v 1 eb ec))):=by
 obtain ⟨hcl_A,hcl_L,hcl_B,hcl_W⟩:=hcZ32 A B L W
 obtain ⟨hn,ha,he,hl,hw⟩:=clE_zero hz
 have he2:=he
 unfold eqP degI at he2
 have hl4:((q32_14 A B L W ya yf yl yw):List AV).length=4:=rfl
 have hw91:=nw_le hz
 rw [show ((q32_4 A B L W hi lo ya yf yl yw):Ev.Lit)=⟨[q32_21,(6,(.sl 1 0 0 W.length)),(q32_16 W),(22,(.v (.int .i64 0)))],[],2,[(q32_11 A B L W hi lo ya yf yl yw),(1,(.cells (cI (tI (fun j=>if j < 0 then lo j else 0) 91)) 91))]⟩ from by rw [tI_eq]; rfl]
 exact Hd.goes_loopA (id:=0) (by kernel_rfl) (by kernel_rfl) (fun i:{i:Nat // i≤W.length∧True}=>⟨[q32_21,(6,(.sl 1 0 i.1 W.length)),(q32_16 W),(22,(.v (.int .i64 i.1)))],[],2,[(q32_11 A B L W hi lo ya yf yl yw),(1,(.cells (cI (tI (fun j=>if j < i.1 then lo j else 0) 91)) 91))]⟩) (fun i:{i:Nat // i≤W.length∧True}=>W.length - i.1) (fun ix_ hs=>ll_20 ya yl yf yw A L B W lo hi hz ix_.1 ix_.2.1 ix_.2.2 v eb ec hs) ⟨0,Nat.zero_le _,trivial⟩ hs
theorem ll_17 (ya yl yf yw:Value) (A:List Int) (L:PR) (B:List Bool) (W:List Int) (lo hi:Nat→Int) (hz:ZK A L B W) (v:BaseW) (eb:EB) (ec:EC) (hs:LN):Goes pg 39 llK15 ((q32_4 A B L W hi lo ya yf yl yw)) (BaseW.H (bw v 1 eb ec) hs) (Hd.AfterN pg 39 llK12 (bw v 1 eb ec) (OutM pg Try.f69 39 ((.sl 1 0 W.length W.length)) [(q32_12 A B L W hi lo ya yf yl yw),(q32_23 W lo)] (bw v 1 eb ec))):=by
 exact ll_18 ya yl yf yw A L B W lo hi hz v eb ec hs
theorem ll_14 (ya yl yf yw:Value) (A:List Int) (L:PR) (B:List Bool) (W:List Int) (lo hi:Nat→Int) (hz:ZK A L B W) (v:BaseW) (eb:EB) (ec:EC) (hs:LN):Goes pg 39 llK13 ((q32_6 A B L W hi lo ya yf yl yw)) (BaseW.H (bw v 1 eb ec) hs) (Hd.AfterN pg 39 llK12 (bw v 1 eb ec) (OutM pg Try.f69 39 ((.sl 1 0 W.length W.length)) [(q32_12 A B L W hi lo ya yf yl yw),(q32_23 W lo)] (bw v 1 eb ec))):=by
 obtain ⟨hcl_A,hcl_L,hcl_B,hcl_W⟩:=hcZ32 A B L W
 obtain ⟨hn,ha,he,hl,hw⟩:=clE_zero hz
 have he2:=he
 unfold eqP degI at he2
 have hl4:((q32_14 A B L W ya yf yl yw):List AV).length=4:=rfl
 have hw91:=nw_le hz
 refine Hd.goes_seqA (by kernel_rfl) ?_
 exact gL isN_e (gT cm (kN) 200 (T':=(q32_4 A B L W hi lo ya yf yl yw)) (e:=.normal) (ps:=[]) [.go,.go,.go,.go,.go,.go,.go] (by kernel_rfl) (by kernel_rfl) trivial rfl) (Hd.en_n (ll_17 ya yl yf yw A L B W lo hi hz v eb ec hs))
theorem ll_11 (ya yl yf yw:Value) (A:List Int) (L:PR) (B:List Bool) (W:List Int) (lo hi:Nat→Int) (hz:ZK A L B W) (v:BaseW) (eb:EB) (ec:EC) (hs:LN):Goes pg 39 llK9 ((q32_6 A B L W hi lo ya yf yl yw)) (BaseW.H (bw v 1 eb ec) hs) (OutM pg Try.f69 39 ((.sl 1 0 W.length W.length)) [(q32_12 A B L W hi lo ya yf yl yw),(q32_23 W lo)] (bw v 1 eb ec)):=by
 exact Hd.goes_seqA (by kernel_rfl) (ll_14 ya yl yf yw A L B W lo hi hz v eb ec hs)
theorem ll_8 (ya yl yf yw:Value) (A:List Int) (L:PR) (B:List Bool) (W:List Int) (lo hi:Nat→Int) (hz:ZK A L B W) (v:BaseW) (eb:EB) (ec:EC) (hs:LN):Goes pg 39 llK6 ((q32_8 A B L W hi lo ya yf yl yw)) (BaseW.H (bw v 1 eb ec) hs) (OutM pg Try.f69 39 ((.sl 1 0 W.length W.length)) [(q32_12 A B L W hi lo ya yf yl yw),(q32_23 W lo)] (bw v 1 eb ec)):=by
 obtain ⟨hcl_A,hcl_L,hcl_B,hcl_W⟩:=hcZ32 A B L W
 obtain ⟨hn,ha,he,hl,hw⟩:=clE_zero hz
 have he2:=he
 unfold eqP degI at he2
 have hl4:((q32_14 A B L W ya yf yl yw):List AV).length=4:=rfl
 have hw91:=nw_le hz
 refine Hd.goes_seqA (by kernel_rfl) ?_
 exact gL isN_e (gT cm (kN) 200 (T':=(q32_6 A B L W hi lo ya yf yl yw)) (e:=.normal) (ps:=[0≤W.length,W.length≤91]) [.go,.go,.go,.go,.go,.go,.sym,.go] (by kernel_rfl) (by kernel_rfl) ⟨(Nat.zero_le _),hw91,trivial⟩ rfl) (Hd.en_n (ll_11 ya yl yf yw A L B W lo hi hz v eb ec hs))
theorem ll_5 (ya yl yf yw:Value) (A:List Int) (L:PR) (B:List Bool) (W:List Int) (lo hi:Nat→Int) (hz:ZK A L B W) (v:BaseW) (eb:EB) (ec:EC) (hs:LN):Goes pg 39 llK3 ((q32_10 A B L W hi lo ya yf yl yw)) (BaseW.H (bw v 1 eb ec) hs) (OutM pg Try.f69 39 ((.sl 1 0 W.length W.length)) [(q32_12 A B L W hi lo ya yf yl yw),(q32_23 W lo)] (bw v 1 eb ec)):=by
 obtain ⟨hcl_A,hcl_L,hcl_B,hcl_W⟩:=hcZ32 A B L W
 obtain ⟨hn,ha,he,hl,hw⟩:=clE_zero hz
 have he2:=he
 unfold eqP degI at he2
 have hl4:((q32_14 A B L W ya yf yl yw):List AV).length=4:=rfl
 have hw91:=nw_le hz
 refine Hd.goes_seqA (by kernel_rfl) ?_
 exact gL isN_e (gT cm (kN) 200 (T':=(q32_8 A B L W hi lo ya yf yl yw)) (e:=.normal) (ps:=[]) [.go] (by kernel_rfl) (by kernel_rfl) trivial rfl) (Hd.en_n (ll_8 ya yl yf yw A L B W lo hi hz v eb ec hs))
theorem ll_2 (ya yl yf yw:Value) (A:List Int) (L:PR) (B:List Bool) (W:List Int) (lo hi:Nat→Int) (hz:ZK A L B W) (v:BaseW) (eb:EB) (ec:EC) (hs:LN):Goes pg 39 llK1 (⟨[(0,.ptr 0 0),(1,.fn (.func 66) [.ptr 0 0] [])],[],1,[(0,(q32_12 A B L W hi lo ya yf yl yw))]⟩) (BaseW.H (bw v 1 eb ec) hs) (OutM pg Try.f69 39 ((.sl 1 0 W.length W.length)) [(q32_12 A B L W hi lo ya yf yl yw),(q32_23 W lo)] (bw v 1 eb ec)):=by
 obtain ⟨hcl_A,hcl_L,hcl_B,hcl_W⟩:=hcZ32 A B L W
 obtain ⟨hn,ha,he,hl,hw⟩:=clE_zero hz
 have he2:=he
 unfold eqP degI at he2
 have hl4:((q32_14 A B L W ya yf yl yw):List AV).length=4:=rfl
 have hw91:=nw_le hz
 refine Hd.goes_seqA (by kernel_rfl) ?_
 exact gL isN_e (gT cm (kN) 200 (T':=(q32_10 A B L W hi lo ya yf yl yw)) (e:=.normal) (ps:=[]) [.go] (by kernel_rfl) (by kernel_rfl) trivial rfl) (Hd.en_n (ll_5 ya yl yf yw A L B W lo hi hz v eb ec hs))
theorem ll_g (ya yl yf yw:Value) (A:List Int) (L:PR) (B:List Bool) (W:List Int) (lo hi:Nat→Int) (hz:ZK A L B W):GivesM pg 69 [.ptr 0 0,.fn (.func 66) [.ptr 0 0] []] [(.cells (bdT [.xl ya A.length 1 (cI A),.xl yl L.length 2 (cR L),.xl yf B.length 1 (cB B),.xl yw W.length 1 (cI W)] lo hi) 95)] ((.sl 1 0 W.length W.length)) [(.cells (bdT [.xl ya A.length 1 (cI A),.xl yl L.length 2 (cR L),.xl yf B.length 1 (cB B),.xl yw W.length 1 (cI W)] lo hi) 95),(.cells (cI (tI lo W.length)) 2)] :=
 givesM_parts 39 (by kernel_rfl) Try.func69 (by kernel_rfl) (by kernel_rfl) (by kernel_rfl) (fun v eb ec=>goes_less (by kernel_rfl) (by kernel_rfl) (by kernel_rfl) (by kernel_rfl) (ll_2 ya yl yf yw A L B W lo hi hz v eb ec []))
def lhK1:Code:=bodyC Try.f69
def lhK3:Code:=tlC lhK1
def lhK6:Code:=tlC lhK3
def lhK9:Code:=tlC lhK6
def lhK12:Code:=tlC lhK9
def lhK13:Code:=(hdC lhK9)
def lhK15:Code:=tlC lhK13
def lhK19:Code:=loopC lhK15
theorem lh_22 (ya yl yf yw:Value) (A:List Int) (L:PR) (B:List Bool) (W:List Int) (lo hi:Nat→Int) (hz:ZK A L B W) (h0b:True) (hqlh21_1:(ltI W.length W.length)=false) (v:BaseW) (eb:EB) (ec:EC) (hs:LN):Goes pg 39 lhK12 (⟨[(6,(.sl 1 0 ((W.length)) (W.length)))],[],2,[(0,(.cells (bdT [(.xl (ya) (A.length) 1 (cI A)),(.xl (yl) (L.length) 2 (cR L)),(.xl (yf) (B.length) 1 (cB B)),(.xl (yw) (W.length) 1 (cI W))] (lo) (hi)) 95)),(1,(.cells (cI (tI (fun j=>if j < (W.length) then hi j else 0) 91)) 91))]⟩) (BaseW.H (bw v 1 eb ec) hs) (OutM pg Try.f69 39 ((.sl 1 0 W.length W.length)) [(.cells (bdT [.xl ya A.length 1 (cI A),.xl yl L.length 2 (cR L),.xl yf B.length 1 (cB B),.xl yw W.length 1 (cI W)] lo hi) 95),(.cells (cI (tI hi W.length)) 2)] (bw v 1 eb ec)):=by
 obtain ⟨hcl_A,hcl_L,hcl_B,hcl_W⟩:=hcZ32 A B L W
 obtain ⟨hn,ha,he,hl,hw⟩:=clE_zero hz
 have he2:=he
 unfold eqP degI at he2
 have hl4:([.xl ya A.length 1 (cI A),.xl yl L.length 2 (cR L),.xl yf B.length 1 (cB B),.xl yw W.length 1 (cI W)]:List AV).length=4:=rfl
 have hw91:=nw_le hz
 have ghqlh21_1:=lF hqlh21_1
 exact gL isR_e (gC cm (kN) 200 (T':=⟨[(4,(.sl 1 0 (W.length) (W.length)))],[],2,[(0,(.cells (bdT [(.xl (ya) (A.length) 1 (cI A)),(.xl (yl) (L.length) 2 (cR L)),(.xl (yf) (B.length) 1 (cB B)),(.xl (yw) (W.length) 1 (cI W))] (lo) (hi)) 95)),(1,(.cells (List.take (W.length * 1) (cI (tI (fun j=>if j < W.length then hi j else 0) 91))) 2))]⟩) (e:=.ret) (m:=3) (ps:=[W.length≤W.length,W.length≤1000000,W.length=W.length,W.length * 1≤((cI (tI (fun j=>if j < W.length then hi j else 0) 91)):List AV).length,((repL W.length (List.map AV.v (Value.int IntKind.i64 0).cells.toList)):List AV).length=W.length * 1,allOne (List.take (W.length * 1) (cI (tI (fun j=>if j < W.length then hi j else 0) 91)))=true]) [.go,.go,.sym,.go,.go,.go,.sym,.go,.go] [0,2] [(.sl 2 0 (W.length) (W.length))] [(.cells (bdT [(.xl (ya) (A.length) 1 (cI A)),(.xl (yl) (L.length) 2 (cR L)),(.xl (yf) (B.length) 1 (cB B)),(.xl (yw) (W.length) 1 (cI W))] (lo) (hi)) 95),(.cells (List.take (W.length * 1) (cI (tI (fun j=>if j < W.length then hi j else 0) 91))) 2)] (by kernel_rfl) (by kernel_rfl) ⟨(Nat.le_refl _),(by omega),rfl,(by rw [cI_len,tI_len]; omega),(by show (repL _ _).length=_; rw [repL_len]; rfl),(lan_one hw91),trivial⟩ rfl rfl (by decide) rfl ⟨nr_sl rfl,trivial⟩ ⟨⟨by show 0 < 2; decide,nrb_cells (nrl_free (freeL_bdT (freeL_cons (freeL_xl (freeL_plain (cI_plain _))) (freeL_cons (freeL_xl (freeL_plain (cR_plain _))) (freeL_cons (freeL_xl (freeL_plain (cB_plain _))) (freeL_cons (freeL_xl (freeL_plain (cI_plain _))) (freeL_nil)))))))⟩,⟨by show 1 < 2; decide,nrb_cells (nrl_eq (show ((List.take (W.length * 1) (cI (tI (fun j=>if j < W.length then hi j else 0) 91))):List AV)=(List.take (W.length * 1) (cI (tI (fun j=>if j < W.length then hi j else 0) 91))) from rfl) (lan_plain hw91).choose_spec)⟩,trivial⟩ (by show 1≤2; decide) (fun b hb=>(by have hb2:b < 1:=hb; match b,hb2 with | 0,_=>rfl))) (en_eqM (r:=(.sl 1 0 (W.length) (W.length))) (ys:=[(.cells (bdT [(.xl (ya) (A.length) 1 (cI A)),(.xl (yl) (L.length) 2 (cR L)),(.xl (yf) (B.length) 1 (cB B)),(.xl (yw) (W.length) 1 (cI W))] (lo) (hi)) 95),(.cells (List.take (W.length * 1) (cI (tI (fun j=>if j < W.length then hi j else 0) 91))) 2)]) (by rfl) (by rw [lan_take hw91]) (en_retM (by kernel_rfl) (by kernel_rfl) rfl (.inr rfl)))
theorem lh_20 (ya yl yf yw:Value) (A:List Int) (L:PR) (B:List Bool) (W:List Int) (lo hi:Nat→Int) (hz:ZK A L B W) (i:Nat) (hi1:i≤W.length) (hi2:True) (v:BaseW) (eb:EB) (ec:EC) (hs:LN):Goes pg 39 lhK19 (⟨[q32_20,(6,(.sl 1 0 i W.length)),(q32_16 W),(22,(.v (.int .i64 i)))],[],2,[(q32_11 A B L W hi lo ya yf yl yw),(1,(.cells (q32_18 hi i) 91))]⟩) (BaseW.H (bw v 1 eb ec) hs) (Hd.StepC pg 39 0 (fun i:{i:Nat // i≤W.length∧True}=>⟨[q32_20,(6,(.sl 1 0 i.1 W.length)),(q32_16 W),(22,(.v (.int .i64 i.1)))],[],2,[(q32_11 A B L W hi lo ya yf yl yw),(1,(.cells (cI (tI (fun j=>if j < i.1 then hi j else 0) 91)) 91))]⟩) (fun i:{i:Nat // i≤W.length∧True}=>W.length - i.1) lhK12 (bw v 1 eb ec) (OutM pg Try.f69 39 ((.sl 1 0 W.length W.length)) [(q32_12 A B L W hi lo ya yf yl yw),(q32_24 W hi)] (bw v 1 eb ec)) (⟨i,hi1,hi2⟩:{i:Nat // i≤W.length∧True})):=by
 obtain ⟨hcl_A,hcl_L,hcl_B,hcl_W⟩:=hcZ32 A B L W
 obtain ⟨hn,ha,he,hl,hw⟩:=clE_zero hz
 have he2:=he
 unfold eqP degI at he2
 have hl4:((q32_14 A B L W ya yf yl yw):List AV).length=4:=rfl
 have hw91:=nw_le hz
 rcases bE (ltI i W.length) with hqlh21_1 | hqlh21_1
 ·skip
  have ghqlh21_1:=lT hqlh21_1
  exact gL isN_e (gK cm (kN) 200 (T':=(q32_1 A B L W hi i lo ya yf yl yw)) (e:=.normal) (m:=3) (ps:=[ltI i W.length=true,i < 91,loadL pg (q32_13 A B L W hi lo ya yf yl yw) (0 + 4 + 91 + i * 1) 2=some (.v (.int .i64 (intAt (q32_13 A B L W hi lo ya yf yl yw) (0 + 4 + 91 + i * 1)))),i + 1≤W.length,0 + i * 1 + ([(.v (.int .i64 (intAt (q32_13 A B L W hi lo ya yf yl yw) (0 + 4 + 91 + i * 1))))]:List AV).length≤((q32_18 hi i):List AV).length,inR .i64 (((i:Nat):Int) + 1)]) [.go,.b true,.go,.go,.go,.go,.go,.go,.go,.go,.go,.go,.go,.sym,.sym,.go,.go,.sym,.go,.go,.go] (by kernel_rfl) (by kernel_rfl) ⟨hqlh21_1,(by omega),(bdT_ld rfl (by omega) (by omega) 2 (u2) rfl),(by omega),(by rw [cI_len,tI_len]; show 0 + i * 1 + 1≤91; omega),(by show -9223372036854775808≤_∧_≤9223372036854775807; constructor <;> omega),trivial⟩ rfl (by show 2≤3; decide) ⟨⟨nb_fn (nb_cons (nb_ptr (by show 0 < 2; decide)) (fun _ hz=>absurd hz List.not_mem_nil)) (fun _ hz=>absurd hz List.not_mem_nil),nb_sl (by show 1 < 2; decide),nb_v _,nb_v _,trivial⟩,⟨⟨by show 0 < 2; decide,nbb_cells (nbA_bdT (nb_cons (nb_xl (cI_plain A)) (nb_cons (nb_xl (cR_plain L)) (nb_cons (nb_xl (cB_plain B)) (nb_cons (nb_xl (cI_plain W)) (fun _ hz=>absurd hz List.not_mem_nil))))))⟩,⟨by show 1 < 2; decide,nbb_cells (nbA_splice (nbA_plain (cI_plain _)) (nb_cons (nb_v _) (fun _ hz=>absurd hz List.not_mem_nil)))⟩,trivial⟩,rfl⟩ (by show 1≤2; decide)) (Hd.en_on (⟨i + 1,by omega,trivial⟩) (by show W.length - (i + 1) < W.length - i; omega) (show ((q32_1 A B L W hi i lo ya yf yl yw):Ev.Lit)=⟨[q32_20,(q32_25 W i),(q32_16 W),(q32_19 i)],[],2,[(q32_11 A B L W hi lo ya yf yl yw),(1,(.cells (cI (tI (fun j=>if j < (i + 1) then hi j else 0) 91)) 91))]⟩ from by have hz_:=congrArg (fun (xq0:Ev.AB)=>(⟨[q32_20,(q32_25 W i),(q32_16 W),(q32_19 i)],[],2,[(q32_11 A B L W hi lo ya yf yl yw),(1,xq0)]⟩:Ev.Lit)) (congrArg (fun z=>Ev.AB.cells z 91) (show ((splice (q32_18 hi i) (0 + i * 1) [(.v (.int .i64 (intAt (q32_13 A B L W hi lo ya yf yl yw) (0 + 4 + 91 + i * 1))))]):List Ev.AV)=(cI (tI (fun j=>if j < (i + 1) then hi j else 0) 91)) from by exact lan_step (by omega) (bdT_hi (i:=0 + 4 + 91 + i * 1) (j:=i) rfl (by omega) (by omega)))); exact hz_))
 ·skip
  have ghqlh21_1:=lF hqlh21_1
  obtain rfl:i=W.length:=by omega
  exact gL isX_e (gT cm (kN) 200 (T':=⟨[(6,(.sl 1 0 ((W.length)) (W.length)))],[],2,[(q32_11 A B L W hi lo ya yf yl yw),(1,(.cells (cI (tI (fun j=>if j < (W.length) then hi j else 0) 91)) 91))]⟩) (e:=.exit 0) (ps:=[ltI W.length W.length=false]) [.go,.b false] (by kernel_rfl) (by kernel_rfl) ⟨hqlh21_1,trivial⟩ rfl) (Hd.en_sx (lh_22 ya yl yf yw A L B W lo hi hz hi2  hqlh21_1 v eb ec hs))
theorem lh_18 (ya yl yf yw:Value) (A:List Int) (L:PR) (B:List Bool) (W:List Int) (lo hi:Nat→Int) (hz:ZK A L B W) (v:BaseW) (eb:EB) (ec:EC) (hs:LN):Goes pg 39 lhK15 ((q32_3 A B L W hi lo ya yf yl yw)) (BaseW.H (bw v 1 eb ec) hs) (Hd.AfterN pg 39 lhK12 (bw v 1 eb ec) (OutM pg Try.f69 39 ((.sl 1 0 W.length W.length)) [(q32_12 A B L W hi lo ya yf yl yw),(q32_24 W hi)] (bw v 1 eb ec))):=by
 obtain ⟨hcl_A,hcl_L,hcl_B,hcl_W⟩:=hcZ32 A B L W
 obtain ⟨hn,ha,he,hl,hw⟩:=clE_zero hz
 have he2:=he
 unfold eqP degI at he2
 have hl4:((q32_14 A B L W ya yf yl yw):List AV).length=4:=rfl
 have hw91:=nw_le hz
 rw [show ((q32_3 A B L W hi lo ya yf yl yw):Ev.Lit)=⟨[q32_20,(6,(.sl 1 0 0 W.length)),(q32_16 W),(22,(.v (.int .i64 0)))],[],2,[(q32_11 A B L W hi lo ya yf yl yw),(1,(.cells (cI (tI (fun j=>if j < 0 then hi j else 0) 91)) 91))]⟩ from by rw [tI_eq]; rfl]
 exact Hd.goes_loopA (id:=0) (by kernel_rfl) (by kernel_rfl) (fun i:{i:Nat // i≤W.length∧True}=>⟨[q32_20,(6,(.sl 1 0 i.1 W.length)),(q32_16 W),(22,(.v (.int .i64 i.1)))],[],2,[(q32_11 A B L W hi lo ya yf yl yw),(1,(.cells (cI (tI (fun j=>if j < i.1 then hi j else 0) 91)) 91))]⟩) (fun i:{i:Nat // i≤W.length∧True}=>W.length - i.1) (fun ix_ hs=>lh_20 ya yl yf yw A L B W lo hi hz ix_.1 ix_.2.1 ix_.2.2 v eb ec hs) ⟨0,Nat.zero_le _,trivial⟩ hs
theorem lh_17 (ya yl yf yw:Value) (A:List Int) (L:PR) (B:List Bool) (W:List Int) (lo hi:Nat→Int) (hz:ZK A L B W) (v:BaseW) (eb:EB) (ec:EC) (hs:LN):Goes pg 39 lhK15 ((q32_3 A B L W hi lo ya yf yl yw)) (BaseW.H (bw v 1 eb ec) hs) (Hd.AfterN pg 39 lhK12 (bw v 1 eb ec) (OutM pg Try.f69 39 ((.sl 1 0 W.length W.length)) [(q32_12 A B L W hi lo ya yf yl yw),(q32_24 W hi)] (bw v 1 eb ec))):=by
 exact lh_18 ya yl yf yw A L B W lo hi hz v eb ec hs
theorem lh_14 (ya yl yf yw:Value) (A:List Int) (L:PR) (B:List Bool) (W:List Int) (lo hi:Nat→Int) (hz:ZK A L B W) (v:BaseW) (eb:EB) (ec:EC) (hs:LN):Goes pg 39 lhK13 ((q32_5 A B L W hi lo ya yf yl yw)) (BaseW.H (bw v 1 eb ec) hs) (Hd.AfterN pg 39 lhK12 (bw v 1 eb ec) (OutM pg Try.f69 39 ((.sl 1 0 W.length W.length)) [(q32_12 A B L W hi lo ya yf yl yw),(q32_24 W hi)] (bw v 1 eb ec))):=by
 obtain ⟨hcl_A,hcl_L,hcl_B,hcl_W⟩:=hcZ32 A B L W
 obtain ⟨hn,ha,he,hl,hw⟩:=clE_zero hz
 have he2:=he
 unfold eqP degI at he2
 have hl4:((q32_14 A B L W ya yf yl yw):List AV).length=4:=rfl
 have hw91:=nw_le hz
 refine Hd.goes_seqA (by kernel_rfl) ?_
 exact gL isN_e (gT cm (kN) 200 (T':=(q32_3 A B L W hi lo ya yf yl yw)) (e:=.normal) (ps:=[]) [.go,.go,.go,.go,.go,.go,.go] (by kernel_rfl) (by kernel_rfl) trivial rfl) (Hd.en_n (lh_17 ya yl yf yw A L B W lo hi hz v eb ec hs))
theorem lh_11 (ya yl yf yw:Value) (A:List Int) (L:PR) (B:List Bool) (W:List Int) (lo hi:Nat→Int) (hz:ZK A L B W) (v:BaseW) (eb:EB) (ec:EC) (hs:LN):Goes pg 39 lhK9 ((q32_5 A B L W hi lo ya yf yl yw)) (BaseW.H (bw v 1 eb ec) hs) (OutM pg Try.f69 39 ((.sl 1 0 W.length W.length)) [(q32_12 A B L W hi lo ya yf yl yw),(q32_24 W hi)] (bw v 1 eb ec)):=by
 exact Hd.goes_seqA (by kernel_rfl) (lh_14 ya yl yf yw A L B W lo hi hz v eb ec hs)
theorem lh_8 (ya yl yf yw:Value) (A:List Int) (L:PR) (B:List Bool) (W:List Int) (lo hi:Nat→Int) (hz:ZK A L B W) (v:BaseW) (eb:EB) (ec:EC) (hs:LN):Goes pg 39 lhK6 ((q32_7 A B L W hi lo ya yf yl yw)) (BaseW.H (bw v 1 eb ec) hs) (OutM pg Try.f69 39 ((.sl 1 0 W.length W.length)) [(q32_12 A B L W hi lo ya yf yl yw),(q32_24 W hi)] (bw v 1 eb ec)):=by
 obtain ⟨hcl_A,hcl_L,hcl_B,hcl_W⟩:=hcZ32 A B L W
 obtain ⟨hn,ha,he,hl,hw⟩:=clE_zero hz
 have he2:=he
 unfold eqP degI at he2
 have hl4:((q32_14 A B L W ya yf yl yw):List AV).length=4:=rfl
 have hw91:=nw_le hz
 refine Hd.goes_seqA (by kernel_rfl) ?_
 exact gL isN_e (gT cm (kN) 200 (T':=(q32_5 A B L W hi lo ya yf yl yw)) (e:=.normal) (ps:=[0≤W.length,W.length≤91]) [.go,.go,.go,.go,.go,.go,.sym,.go] (by kernel_rfl) (by kernel_rfl) ⟨(Nat.zero_le _),hw91,trivial⟩ rfl) (Hd.en_n (lh_11 ya yl yf yw A L B W lo hi hz v eb ec hs))
theorem lh_5 (ya yl yf yw:Value) (A:List Int) (L:PR) (B:List Bool) (W:List Int) (lo hi:Nat→Int) (hz:ZK A L B W) (v:BaseW) (eb:EB) (ec:EC) (hs:LN):Goes pg 39 lhK3 ((q32_9 A B L W hi lo ya yf yl yw)) (BaseW.H (bw v 1 eb ec) hs) (OutM pg Try.f69 39 ((.sl 1 0 W.length W.length)) [(q32_12 A B L W hi lo ya yf yl yw),(q32_24 W hi)] (bw v 1 eb ec)):=by
 obtain ⟨hcl_A,hcl_L,hcl_B,hcl_W⟩:=hcZ32 A B L W
 obtain ⟨hn,ha,he,hl,hw⟩:=clE_zero hz
 have he2:=he
 unfold eqP degI at he2
 have hl4:((q32_14 A B L W ya yf yl yw):List AV).length=4:=rfl
 have hw91:=nw_le hz
 refine Hd.goes_seqA (by kernel_rfl) ?_
 exact gL isN_e (gT cm (kN) 200 (T':=(q32_7 A B L W hi lo ya yf yl yw)) (e:=.normal) (ps:=[]) [.go] (by kernel_rfl) (by kernel_rfl) trivial rfl) (Hd.en_n (lh_8 ya yl yf yw A L B W lo hi hz v eb ec hs))
theorem lh_2 (ya yl yf yw:Value) (A:List Int) (L:PR) (B:List Bool) (W:List Int) (lo hi:Nat→Int) (hz:ZK A L B W) (v:BaseW) (eb:EB) (ec:EC) (hs:LN):Goes pg 39 lhK1 (⟨[(0,.ptr 0 0),(1,.fn (.func 68) [.ptr 0 0] [])],[],1,[(0,(q32_12 A B L W hi lo ya yf yl yw))]⟩) (BaseW.H (bw v 1 eb ec) hs) (OutM pg Try.f69 39 ((.sl 1 0 W.length W.length)) [(q32_12 A B L W hi lo ya yf yl yw),(q32_24 W hi)] (bw v 1 eb ec)):=by
 obtain ⟨hcl_A,hcl_L,hcl_B,hcl_W⟩:=hcZ32 A B L W
 obtain ⟨hn,ha,he,hl,hw⟩:=clE_zero hz
 have he2:=he
 unfold eqP degI at he2
 have hl4:((q32_14 A B L W ya yf yl yw):List AV).length=4:=rfl
 have hw91:=nw_le hz
 refine Hd.goes_seqA (by kernel_rfl) ?_
 exact gL isN_e (gT cm (kN) 200 (T':=(q32_9 A B L W hi lo ya yf yl yw)) (e:=.normal) (ps:=[]) [.go] (by kernel_rfl) (by kernel_rfl) trivial rfl) (Hd.en_n (lh_5 ya yl yf yw A L B W lo hi hz v eb ec hs))
theorem lh_g (ya yl yf yw:Value) (A:List Int) (L:PR) (B:List Bool) (W:List Int) (lo hi:Nat→Int) (hz:ZK A L B W):GivesM pg 69 [.ptr 0 0,.fn (.func 68) [.ptr 0 0] []] [(.cells (bdT [.xl ya A.length 1 (cI A),.xl yl L.length 2 (cR L),.xl yf B.length 1 (cB B),.xl yw W.length 1 (cI W)] lo hi) 95)] ((.sl 1 0 W.length W.length)) [(.cells (bdT [.xl ya A.length 1 (cI A),.xl yl L.length 2 (cR L),.xl yf B.length 1 (cB B),.xl yw W.length 1 (cI W)] lo hi) 95),(.cells (cI (tI hi W.length)) 2)] :=
 givesM_parts 39 (by kernel_rfl) Try.func69 (by kernel_rfl) (by kernel_rfl) (by kernel_rfl) (fun v eb ec=>goes_less (by kernel_rfl) (by kernel_rfl) (by kernel_rfl) (by kernel_rfl) (lh_2 ya yl yf yw A L B W lo hi hz v eb ec []))
end
end Go.Proofs.Ytldekgkjofgacaa
