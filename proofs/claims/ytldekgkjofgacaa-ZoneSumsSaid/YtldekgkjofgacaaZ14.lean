import Derived.Test.YtldekgkjofgacaaZ7
set_option maxHeartbeats 4000000
set_option linter.all false
/- Contradictions of a lamp: what is asked of two angles. -/
namespace Go.Proofs.Ytldekgkjofgacaa
open Go Ev
noncomputable section
theorem hcZ14 (A:List Int) (B:List Bool) (L:PR) (W:List Int):(cI A).length=A.length∧(cR L).length=L.length * 2∧(cB B).length=B.length∧(cI W).length=W.length:=⟨cI_len A,cR_len L,cB_len B,cI_len W⟩
section
variable (A : List Int) (B : List Bool) (L : PR) (W : List Int) (a b : Nat) (ya yf yl yw : Value)
abbrev q14_9:Nat×Ev.AV:=(5,(.v (.bool (boolAt (cB B) (a * 1)))))
abbrev q14_6:Nat×Ev.AV:=(20,(.xl (xsl yf a b 1) (b - a) 1 (List.take ((b - a) * 1) (List.drop (a * 1) (cB B)))))
abbrev q14_8:Nat×Ev.AV:=(21,(.v (.int .i64 (((b - a:Nat):Int)))))
abbrev q14_4:Nat×Ev.AB:=(0,(.cells [(.xl (ya) (A.length) 1 (cI A)),(.xl (yl) (L.length) 2 (cR L)),(.xl (yf) (B.length) 1 (cB B)),(.xl (yw) (W.length) 1 (cI W))] 26))
abbrev q14_5:Nat×Ev.AB:=(1,(.cells [(.v (.int .i64 a)),(.v (.int .i64 b))] 86))
abbrev q14_1:Ev.Lit:=⟨[(2,(.ptr 0 0)),(3,(.ptr 1 0)),(q14_9 B a),(q14_6 B a b yf),(q14_8 a b),(22,(.v (.int .i64 (.ofNat 0))))],[],2,[(q14_4 A B L W ya yf yl yw),(q14_5 a b)]⟩
abbrev q14_2:Ev.Lit:=⟨[(2,(.ptr 0 0)),(3,(.ptr 1 0)),(q14_9 B a)],[],2,[(q14_4 A B L W ya yf yl yw),(q14_5 a b)]⟩
abbrev q14_3:Ev.Lit:=⟨[(2,(.ptr 0 0)),(3,(.ptr 1 0))],[],2,[(q14_4 A B L W ya yf yl yw),(q14_5 a b)]⟩
end
def allF (c:List AV) (i k:Nat):Prop:=∀ g,i≤g→g < k→boolAt c (g * 1)=true
def allR (c:List AV) (i k:Nat):Prop:=∀ g,i≤g→g < k→boolAt c (g * 1)=false
def dbP (B L:List AV) (i k:Nat):Prop:=(allF B i k∧intAt L (i * 2 + 1) < intAt L (k * 2 + 0))∨(allR B i k∧intAt L (k * 2 + 1) < intAt L (i * 2 + 0))
section
variable (B : List Bool) (L : PR) (a b : Nat) (w : World)
abbrev q14_7:=(OutR pg Try.f59 61 (.bool (clB (dbP (cB B) (cR L) a b))) w)
end
theorem clB_b {p:Prop} {b:Bool} (h:b=true↔p):b=clB p:=by
 cases b with
 | true=>exact (clB_yes (h.1 rfl)).symm
 | false=>exact (clB_no (fun k=>by have:=h.2 k; cases this)).symm
theorem sub_bool {B:List Bool} {a b j:Nat} (hb:b≤B.length) (hj:a + j < b):boolAt (((cB B).drop (a * 1)).take ((b - a) * 1)) (j * 1)=boolAt (cB B) ((a + j) * 1):=by
 unfold boolAt
 rw [List.getElem?_take,if_pos (by omega),List.getElem?_drop,show a * 1 + j * 1=(a + j) * 1 by omega]
theorem sub_ld {B:List Bool} {a b j:Nat} (hb:b≤B.length) (hj:a + j < b) (t:TypeId) {d:TypeDesc} (hd:pg.underlying t=some d) (ha:aggD d=false):loadL pg (((cB B).drop (a * 1)).take ((b - a) * 1)) (j * 1) t=some (.v (.bool (boolAt (((cB B).drop (a * 1)).take ((b - a) * 1)) (j * 1)))):=by
 have e:(((cB B).drop (a * 1)).take ((b - a) * 1))[j * 1]? = some (.v (.bool B[a + j])):=by
  rw [List.getElem?_take,if_pos (by omega),List.getElem?_drop,show a * 1 + j * 1=a + j by omega]
  exact cB_at B (a + j) (by omega)
 simp only [loadL,hd,ha,getL_eq,e,boolAt]
theorem db_no {B L:List AV} {a b g:Nat} (h1:a≤g) (h2:g < b) (h:¬ boolAt B (g * 1)=boolAt B (a * 1)):¬ dbP B L a b:=fun q=>by
 rcases q with ⟨q,_⟩ | ⟨q,_⟩
 ·exact h ((q g h1 h2).trans (q a (Nat.le_refl _) (by omega)).symm)
 ·exact h ((q g h1 h2).trans (q a (Nat.le_refl _) (by omega)).symm)
theorem db_fall {B L:List AV} {a b:Nat} (hab:a < b) (h0:boolAt B (a * 1)=true) (h:∀ j,j < b - a→boolAt B ((a + j) * 1)=boolAt B (a * 1)):ltI (intAt L (a * 2 + 1)) (intAt L (b * 2 + 0))=clB (dbP B L a b):=by
 have hf:allF B a b:=fun g h1 h2=>by have:=h (g - a) (by omega); rw [show a + (g - a)=g by omega] at this; rw [this,h0]
 refine clB_b ⟨fun q=>.inl ⟨hf,lT q⟩,fun q=>?_⟩
 rcases q with ⟨_,q⟩ | ⟨q,_⟩
 ·exact ltI_lt q
 ·have:=q a (Nat.le_refl _) hab; rw [h0] at this; cases this
theorem db_rise {B L:List AV} {a b:Nat} (hab:a < b) (h0:boolAt B (a * 1)=false) (h:∀ j,j < b - a→boolAt B ((a + j) * 1)=boolAt B (a * 1)):ltI (intAt L (b * 2 + 1)) (intAt L (a * 2 + 0))=clB (dbP B L a b):=by
 have hf:allR B a b:=fun g h1 h2=>by have:=h (g - a) (by omega); rw [show a + (g - a)=g by omega] at this; rw [this,h0]
 refine clB_b ⟨fun q=>.inr ⟨hf,lT q⟩,fun q=>?_⟩
 rcases q with ⟨q,_⟩ | ⟨_,q⟩
 ·have:=q a (Nat.le_refl _) hab; rw [h0] at this; cases this
 ·exact ltI_lt q
def isdK1:Code:=bodyC Try.f59
def isdK3:Code:=tlC isdK1
def isdK6:Code:=tlC isdK3
def isdK9:Code:=tlC isdK6
def isdK10:Code:=(hdC isdK6)
def isdK12:Code:=tlC isdK10
def isdK16:Code:=loopC isdK12
theorem isd_19 (ya yl yf yw:Value) (A:List Int) (L:PR) (B:List Bool) (W:List Int) (a b:Nat) (hz:ZK A L B W) (hab:a < b) (hb:b < A.length) (i0:Nat) (h0a:i0≤(b - a)) (h0b:∀ j,j < i0→boolAt (cB B) ((a + j) * 1)=boolAt (cB B) (a * 1)) (hqisd18_1:(ltI i0 ((b - a:Nat):Int))=false) (w:World):Goes pg 61 isdK9 ((q14_2 A B L W a b ya yf yl yw)) w (q14_7 B L a b w):=by
 obtain ⟨hcl_A,hcl_L,hcl_B,hcl_W⟩:=hcZ14 A B L W
 obtain ⟨hn,ha,he,hl,hw⟩:=clE_zero hz
 have he2:=he
 unfold eqP degI at he2
 have ghqisd18_1:=lF hqisd18_1
 rcases bE (boolAt (cB B) (a * 1)) with hqisd20_1 | hqisd20_1
 ·skip
  exact gL isR_e (gT cm (kN) 200 (T':=⟨[(4,(.v (.bool (ltI (intAt (cR L) (a * 2 + 1)) (intAt (cR L) (b * 2 + 0))))))],[],2,[]⟩) (e:=.ret) (ps:=[boolAt (cB B) (a * 1)=true,a < L.length,a * 2 + 1 < (cR L).length,loadL pg (cR L) (a * 2 + 1) 2=some (.v (.int .i64 (intAt (cR L) (a * 2 + 1)))),b < L.length,b * 2 + 0 < (cR L).length,loadL pg (cR L) (b * 2 + 0) 2=some (.v (.int .i64 (intAt (cR L) (b * 2 + 0))))]) [.go,.b true,.go,.go,.go,.go,.sym,.sym,.sym,.go,.go,.go,.go,.sym,.sym,.sym,.go,.go] (by kernel_rfl) (by kernel_rfl) ⟨hqisd20_1,(by omega),(by omega),(cR_ld (by omega) 2 (u2) rfl),(by omega),(by omega),(cR_ld (by omega) 2 (u2) rfl),trivial⟩ rfl) (en_eq (r:=(.bool (ltI (intAt (cR L) (a * 2 + 1)) (intAt (cR L) (b * 2 + 0))))) (by rw [db_fall hab hqisd20_1 (fun j hj=>h0b j (by omega))]) (en_ret (v:=(.v (.bool (ltI (intAt (cR L) (a * 2 + 1)) (intAt (cR L) (b * 2 + 0)))))) (by kernel_rfl) rfl))
 ·skip
  exact gL isR_e (gT cm (kN) 200 (T':=⟨[(4,(.v (.bool (ltI (intAt (cR L) (b * 2 + 1)) (intAt (cR L) (a * 2 + 0))))))],[],2,[]⟩) (e:=.ret) (ps:=[boolAt (cB B) (a * 1)=false,a < L.length,a * 2 + 0 < (cR L).length,loadL pg (cR L) (a * 2 + 0) 2=some (.v (.int .i64 (intAt (cR L) (a * 2 + 0)))),b < L.length,b * 2 + 1 < (cR L).length,loadL pg (cR L) (b * 2 + 1) 2=some (.v (.int .i64 (intAt (cR L) (b * 2 + 1))))]) [.go,.b false,.go,.go,.go,.go,.sym,.sym,.sym,.go,.go,.go,.go,.sym,.sym,.sym,.go,.go] (by kernel_rfl) (by kernel_rfl) ⟨hqisd20_1,(by omega),(by omega),(cR_ld (by omega) 2 (u2) rfl),(by omega),(by omega),(cR_ld (by omega) 2 (u2) rfl),trivial⟩ rfl) (en_eq (r:=(.bool (ltI (intAt (cR L) (b * 2 + 1)) (intAt (cR L) (a * 2 + 0))))) (by rw [db_rise hab hqisd20_1 (fun j hj=>h0b j (by omega))]) (en_ret (v:=(.v (.bool (ltI (intAt (cR L) (b * 2 + 1)) (intAt (cR L) (a * 2 + 0)))))) (by kernel_rfl) rfl))
theorem isd_17 (ya yl yf yw:Value) (A:List Int) (L:PR) (B:List Bool) (W:List Int) (a b:Nat) (hz:ZK A L B W) (hab:a < b) (hb:b < A.length) (i:Nat) (hi1:i≤(b - a)) (hi2:∀ j,j < i→boolAt (cB B) ((a + j) * 1)=boolAt (cB B) (a * 1)) (w:World):Goes pg 61 isdK16 (⟨[(2,(.ptr 0 0)),(3,(.ptr 1 0)),(q14_9 B a),(q14_6 B a b yf),(q14_8 a b),(22,(.v (.int .i64 i)))],[],2,[(q14_4 A B L W ya yf yl yw),(q14_5 a b)]⟩) w (StepC pg 61 0 (fun i:{i:Nat // i≤(b - a)∧∀ j,j < i→boolAt (cB B) ((a + j) * 1)=boolAt (cB B) (a * 1)}=>⟨[(2,(.ptr 0 0)),(3,(.ptr 1 0)),(q14_9 B a),(q14_6 B a b yf),(q14_8 a b),(22,(.v (.int .i64 i.1)))],[],2,[(q14_4 A B L W ya yf yl yw),(q14_5 a b)]⟩) (fun i:{i:Nat // i≤(b - a)∧∀ j,j < i→boolAt (cB B) ((a + j) * 1)=boolAt (cB B) (a * 1)}=>(b - a) - i.1) isdK9 w (OutR pg Try.f59 61 (.bool (clB (dbP (cB B) (cR L) a b))) w) (⟨i,hi1,hi2⟩:{i:Nat // i≤(b - a)∧∀ j,j < i→boolAt (cB B) ((a + j) * 1)=boolAt (cB B) (a * 1)})):=by
 obtain ⟨hcl_A,hcl_L,hcl_B,hcl_W⟩:=hcZ14 A B L W
 obtain ⟨hn,ha,he,hl,hw⟩:=clE_zero hz
 have he2:=he
 unfold eqP degI at he2
 rcases bE (ltI i ((b - a:Nat):Int)) with hqisd18_1 | hqisd18_1
 ·skip
  have ghqisd18_1:=lT hqisd18_1
  rcases bE (boolAt (List.take ((b - a) * 1) (List.drop (a * 1) (cB B))) (i * 1) == boolAt (cB B) (a * 1)) with hqisd18_2 | hqisd18_2
  ·skip
   have ghqisd18_2:=hqisd18_2
   simp only [beq_iff_eq,beq_eq_false_iff_ne,ne_eq] at ghqisd18_2
   rw [sub_bool (by omega) (by omega)] at ghqisd18_2
   exact gL isN_e (gT cm (kN) 200 (T':=⟨[(2,(.ptr 0 0)),(3,(.ptr 1 0)),(q14_9 B a),(q14_6 B a b yf),(q14_8 a b),(22,(.v (.int .i64 (((i + 1):Nat):Int))))],[],2,[(q14_4 A B L W ya yf yl yw),(q14_5 a b)]⟩) (e:=.normal) (ps:=[ltI i ((b - a:Nat):Int)=true,i < b - a,loadL pg (List.take ((b - a) * 1) (List.drop (a * 1) (cB B))) (i * 1) 4=some (AV.v (Value.bool (boolAt (List.take ((b - a) * 1) (List.drop (a * 1) (cB B))) (i * 1)))),(!boolAt (List.take ((b - a) * 1) (List.drop (a * 1) (cB B))) (i * 1) == boolAt (cB B) (a * 1))=false,inR .i64 (((i:Nat):Int) + 1)]) [.go,.b true,.sym,.sym,.go,.go,.go,.go,.b false,.go,.go] (by kernel_rfl) (by kernel_rfl) ⟨hqisd18_1,(by omega),(sub_ld (by omega) (by omega) 4 (Try.underlying4) rfl),(by rw [hqisd18_2]; rfl),(by show -9223372036854775808≤_∧_≤9223372036854775807; constructor <;> omega),trivial⟩ rfl) (en_on (⟨i + 1,by omega,(fun j hj=>by by_cases q:j < i; exact hi2 j q; (rw [show j=i by omega]; exact ghqisd18_2))⟩) (by show (b - a) - (i + 1) < (b - a) - i; omega) rfl)
  ·skip
   have ghqisd18_2:=hqisd18_2
   simp only [beq_iff_eq,beq_eq_false_iff_ne,ne_eq] at ghqisd18_2
   rw [sub_bool (by omega) (by omega)] at ghqisd18_2
   exact gL isR_e (gT cm (kN) 200 (T':=⟨[(4,(.v (.bool .false)))],[],2,[]⟩) (e:=.ret) (ps:=[ltI i ((b - a:Nat):Int)=true,i < b - a,loadL pg (List.take ((b - a) * 1) (List.drop (a * 1) (cB B))) (i * 1) 4=some (AV.v (Value.bool (boolAt (List.take ((b - a) * 1) (List.drop (a * 1) (cB B))) (i * 1)))),(!boolAt (List.take ((b - a) * 1) (List.drop (a * 1) (cB B))) (i * 1) == boolAt (cB B) (a * 1))=true]) [.go,.b true,.sym,.sym,.go,.go,.go,.go,.b true,.go] (by kernel_rfl) (by kernel_rfl) ⟨hqisd18_1,(by omega),(sub_ld (by omega) (by omega) 4 (Try.underlying4) rfl),(by rw [hqisd18_2]; rfl),trivial⟩ rfl) (en_so (by intro h; cases h) (by intro h; cases h) (en_eq (r:=(.bool .false)) (by rw [clB_no (db_no (by omega) (by omega) ghqisd18_2)]) (en_ret (v:=(.v (.bool .false))) (by kernel_rfl) rfl)))
 ·skip
  have ghqisd18_1:=lF hqisd18_1
  exact gL isX_e (gT cm (kN) 200 (T':=(q14_2 A B L W a b ya yf yl yw)) (e:=.exit 0) (ps:=[ltI i ((b - a:Nat):Int)=false]) [.go,.b false] (by kernel_rfl) (by kernel_rfl) ⟨hqisd18_1,trivial⟩ rfl) (en_sx (isd_19 ya yl yf yw A L B W a b hz hab hb i hi1 hi2 hqisd18_1 w))
theorem isd_15 (ya yl yf yw:Value) (A:List Int) (L:PR) (B:List Bool) (W:List Int) (a b:Nat) (hz:ZK A L B W) (hab:a < b) (hb:b < A.length) (w:World):Goes pg 61 isdK12 ((q14_1 A B L W a b ya yf yl yw)) w (AfterN pg 61 isdK9 w (q14_7 B L a b w)):=by
 obtain ⟨hcl_A,hcl_L,hcl_B,hcl_W⟩:=hcZ14 A B L W
 obtain ⟨hn,ha,he,hl,hw⟩:=clE_zero hz
 have he2:=he
 unfold eqP degI at he2
 exact goes_loopA (id:=0) (by kernel_rfl) (by kernel_rfl) (fun i:{i:Nat // i≤(b - a)∧∀ j,j < i→boolAt (cB B) ((a + j) * 1)=boolAt (cB B) (a * 1)}=>⟨[(2,(.ptr 0 0)),(3,(.ptr 1 0)),(q14_9 B a),(q14_6 B a b yf),(q14_8 a b),(22,(.v (.int .i64 i.1)))],[],2,[(q14_4 A B L W ya yf yl yw),(q14_5 a b)]⟩) (fun i:{i:Nat // i≤(b - a)∧∀ j,j < i→boolAt (cB B) ((a + j) * 1)=boolAt (cB B) (a * 1)}=>(b - a) - i.1) (fun i=>isd_17 ya yl yf yw A L B W a b hz hab hb i.1 i.2.1 i.2.2 w) ⟨0,Nat.zero_le _,(fun j hj=>by omega)⟩
theorem isd_14 (ya yl yf yw:Value) (A:List Int) (L:PR) (B:List Bool) (W:List Int) (a b:Nat) (hz:ZK A L B W) (hab:a < b) (hb:b < A.length) (w:World):Goes pg 61 isdK12 ((q14_1 A B L W a b ya yf yl yw)) w (AfterN pg 61 isdK9 w (q14_7 B L a b w)):=by
 exact isd_15 ya yl yf yw A L B W a b hz hab hb w
theorem isd_11 (ya yl yf yw:Value) (A:List Int) (L:PR) (B:List Bool) (W:List Int) (a b:Nat) (hz:ZK A L B W) (hab:a < b) (hb:b < A.length) (w:World):Goes pg 61 isdK10 ((q14_2 A B L W a b ya yf yl yw)) w (AfterN pg 61 isdK9 w (q14_7 B L a b w)):=by
 obtain ⟨hcl_A,hcl_L,hcl_B,hcl_W⟩:=hcZ14 A B L W
 obtain ⟨hn,ha,he,hl,hw⟩:=clE_zero hz
 have he2:=he
 unfold eqP degI at he2
 refine goes_seqA (by kernel_rfl) ?_
 exact gL isN_e (gT cm (kN) 200 (T':=(q14_1 A B L W a b ya yf yl yw)) (e:=.normal) (ps:=[a≤b,b≤B.length]) [.go,.go,.go,.go,.go,.go,.sym,.go,.go] (by kernel_rfl) (by kernel_rfl) ⟨(by omega),(by omega),trivial⟩ rfl) (en_n (isd_14 ya yl yf yw A L B W a b hz hab hb w))
theorem isd_8 (ya yl yf yw:Value) (A:List Int) (L:PR) (B:List Bool) (W:List Int) (a b:Nat) (hz:ZK A L B W) (hab:a < b) (hb:b < A.length) (w:World):Goes pg 61 isdK6 ((q14_2 A B L W a b ya yf yl yw)) w (q14_7 B L a b w):=by
 exact goes_seqA (by kernel_rfl) (isd_11 ya yl yf yw A L B W a b hz hab hb w)
theorem isd_5 (ya yl yf yw:Value) (A:List Int) (L:PR) (B:List Bool) (W:List Int) (a b:Nat) (hz:ZK A L B W) (hab:a < b) (hb:b < A.length) (w:World):Goes pg 61 isdK3 ((q14_3 A B L W a b ya yf yl yw)) w (q14_7 B L a b w):=by
 obtain ⟨hcl_A,hcl_L,hcl_B,hcl_W⟩:=hcZ14 A B L W
 obtain ⟨hn,ha,he,hl,hw⟩:=clE_zero hz
 have he2:=he
 unfold eqP degI at he2
 refine goes_seqA (by kernel_rfl) ?_
 exact gL isN_e (gT cm (kN) 200 (T':=(q14_2 A B L W a b ya yf yl yw)) (e:=.normal) (ps:=[a < B.length,loadL pg (cB B) (a * 1) 4=some (AV.v (Value.bool (boolAt (cB B) (a * 1))))]) [.go,.go,.go,.go,.sym,.sym,.go] (by kernel_rfl) (by kernel_rfl) ⟨(by omega),(cB_ld (by omega) 4 (Try.underlying4) rfl),trivial⟩ rfl) (en_n (isd_8 ya yl yf yw A L B W a b hz hab hb w))
theorem isd_2 (ya yl yf yw:Value) (A:List Int) (L:PR) (B:List Bool) (W:List Int) (a b:Nat) (hz:ZK A L B W) (hab:a < b) (hb:b < A.length) (w:World):Goes pg 61 isdK1 (⟨[(0,.agg [.xl ya A.length 1 (cI A),.xl yl L.length 2 (cR L),.xl yf B.length 1 (cB B),.xl yw W.length 1 (cI W)]),(1,.agg [.v (.int .i64 a),.v (.int .i64 b)])],[],0,[]⟩) w (q14_7 B L a b w):=by
 obtain ⟨hcl_A,hcl_L,hcl_B,hcl_W⟩:=hcZ14 A B L W
 obtain ⟨hn,ha,he,hl,hw⟩:=clE_zero hz
 have he2:=he
 unfold eqP degI at he2
 refine goes_seqA (by kernel_rfl) ?_
 exact gL isN_e (gT cm (kN) 200 (T':=(q14_3 A B L W a b ya yf yl yw)) (e:=.normal) (ps:=[]) [.go,.go,.go] (by kernel_rfl) (by kernel_rfl) trivial rfl) (en_n (isd_5 ya yl yf yw A L B W a b hz hab hb w))
theorem isd_g (ya yl yf yw:Value) (A:List Int) (L:PR) (B:List Bool) (W:List Int) (a b:Nat) (hz:ZK A L B W) (hab:a < b) (hb:b < A.length):GivesA pg 59 [.agg [.xl ya A.length 1 (cI A),.xl yl L.length 2 (cR L),.xl yf B.length 1 (cB B),.xl yw W.length 1 (cI W)],.agg [.v (.int .i64 a),.v (.int .i64 b)]] (.bool (clB (dbP (cB B) (cR L) a b))) :=
 givesA_parts 61 Try.func59 (by kernel_rfl) (by kernel_rfl) (by kernel_rfl) (fun w=>goes_less (by kernel_rfl) (by kernel_rfl) (by kernel_rfl) (by kernel_rfl) (isd_2 ya yl yf yw A L B W a b hz hab hb w))
end
end Go.Proofs.Ytldekgkjofgacaa
