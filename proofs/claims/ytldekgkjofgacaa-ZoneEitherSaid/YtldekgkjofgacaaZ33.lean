import Derived.Test.YtldekgkjofgacaaZ32
import Derived.Test.YtldekgkjofgacaaZ30a
set_option maxHeartbeats 4000000
set_option linter.all false
/- What is known of a lantern. -/
namespace Go.Proofs.Ytldekgkjofgacaa
open Go Ev
noncomputable section
theorem hcZ33 (A:List Int) (B:List Bool) (L:PR) (W:List Int):(cI A).length=A.length∧(cR L).length=L.length * 2∧(cB B).length=B.length∧(cI W).length=W.length:=⟨cI_len A,cR_len L,cB_len B,cI_len W⟩
section
variable (A : List Int) (B : List Bool) (L : PR) (W : List Int) (x : Bool) (ya yf yl yw : Value)
abbrev q33_14:List Ev.AV:=[(.xl (ya) (A.length) 1 (cI A)),(.xl (yl) (L.length) 2 (cR L)),(.xl (yf) (B.length) 1 (cB B)),(.xl (yw) (W.length) 1 (cI W))]
abbrev q33_18:=(rdB (cI A) A.length (cR L) (cB B) W.length W.length)
abbrev q33_1:Ev.Lit:=⟨[(1,(.v (.bool .false))),(7,(.ptr 3 0)),(8,(.v (.int .i64 (.ofNat 0))))],[],4,[(3,(.cells (bdT (q33_14 A B L W ya yf yl yw) ((q33_18 A B L W).fst) ((q33_18 A B L W).snd)) 95))]⟩
abbrev q33_15:List Ev.AV:=[.xl ya A.length 1 (cI A),.xl yl L.length 2 (cR L),.xl yf B.length 1 (cB B),.xl yw W.length 1 (cI W)]
abbrev q33_5:=(bdT (q33_15 A B L W ya yf yl yw) (q33_18 A B L W).1 (q33_18 A B L W).2)
abbrev q33_2:Ev.Lit:=⟨[(2,(.ptr 2 0)),(3,(.v (.int .i64 (.ofNat 0))))],[],3,[(2,(.cells (q33_5 A B L W ya yf yl yw) 95))]⟩
abbrev q33_9:=(bdT [(.v (Value.slice none 0 0)),(.v (Value.slice none 0 0)),(.v (Value.slice none 0 0)),(.v (Value.slice none 0 0))] (fun _=>(0:Int)) (fun _=>(0:Int)))
abbrev q33_8:Ev.AB:=(.cells q33_9 95)
abbrev q33_3:Ev.Lit:=⟨[(1,(.v (.bool (x)))),(7,(.ptr 3 0)),(8,(.v (.int .i64 (.ofNat 21))))],[],4,[(3,q33_8)]⟩
abbrev q33_4:Ev.Lit:=⟨[(2,(.ptr 2 0)),(3,(.v (.int .i64 (.ofNat 21))))],[],3,[(2,q33_8)]⟩
abbrev q33_11:Nat×Ev.AB:=(0,(.cells (q33_14 A B L W ya yf yl yw) 26))
abbrev q33_6:Ev.Lit:=⟨[(1,(.v (.bool .false))),(2,(.ptr 0 0))],[],1,[(q33_11 A B L W ya yf yl yw)]⟩
abbrev q33_7:Ev.Lit:=⟨[(1,(.v (.bool (x)))),(2,(.ptr 0 0))],[],1,[(q33_11 A B L W ya yf yl yw)]⟩
abbrev q33_13:Ev.AV:=(.agg (q33_14 A B L W ya yf yl yw))
abbrev q33_10:Ev.Lit:=⟨[(0,(q33_13 A B L W ya yf yl yw))],[],1,[]⟩
abbrev q33_12:Nat×Ev.AV:=(16,(q33_13 A B L W ya yf yl yw))
abbrev q33_16:Ev.AB:=(.cells (cI (tI (q33_18 A B L W).1 W.length)) 2)
abbrev q33_17:=(eqI (clE (cI A) A.length (cR L) L.length B.length (cI W) W.length) 0)
end
def laS:List AV→List AB→Option ((AV×List AB)×List Prop):=fun args xs =>
 match args with
 | [p,.fn (.func f) l m]=>match xs,l,m with
  | [.cells c t],[a],[]=>match c with
   | a1 :: a2 :: a3 :: a4 :: r=>match a1,a2,a3,a4 with
    | .xl ya na k1 ca,.xl yl nl k2 cl,.xl yf nf k3 cf,.xl yw nw k4 cw=>match isP 0 p,isP 0 a with
     | true,true=>match Nat.beq f 66 with
      | true=>some ((.sl 1 0 nw nw,[.cells c t,.cells (cI (tI (loF c) nw)) 2]),[IsT95 t,IsLampK k1 k2 k3 k4 ca na cl nl cf nf cw nw,clE ca na cl nl nf cw nw=0,IsRest [.xl ya na k1 ca,.xl yl nl k2 cl,.xl yf nf k3 cf,.xl yw nw k4 cw] c])
      | false=>match Nat.beq f 68 with
       | true=>some ((.sl 1 0 nw nw,[.cells c t,.cells (cI (tI (hiF c) nw)) 2]),[IsT95 t,IsLampK k1 k2 k3 k4 ca na cl nl cf nf cw nw,clE ca na cl nl nf cw nw=0,IsRest [.xl ya na k1 ca,.xl yl nl k2 cl,.xl yf nf k3 cf,.xl yw nw k4 cw] c])
       | false=>none
     | _,_=>none
    | _,_,_,_=>none
   | _=>none
  | _,_,_=>none
 | _=>none
def laO:OrcH:=mOrc 69 laS
theorem la_ok {p a:AV} {f:FuncId} {ya yl yf yw:Value} {na nl nf nw k1 k2 k3 k4:Nat} {ca cl cf cw r:List AV} {t:TypeId} {c:List AV} {R:AV} {ys:List AB} {ps:List Prop} (ec:c = .xl ya na k1 ca :: .xl yl nl k2 cl :: .xl yf nf k3 cf :: .xl yw nw k4 cw :: r)
  (h:laS [p,.fn (.func f) [a] []] [.cells c t]=some ((R,ys),ps)) (hp:All ps):(∀ x,x∈[AB.cells c t]→FreeB x)∧(∀ y,y∈ys→FreeB y)∧GivesM pg 69 [p,.fn (.func f) [a] []] [.cells c t] R ys:=by
 subst ec
 unfold laS at h
 simp only at h
 split at h
 ·rename_i h1 h2
  split at h
  ·rename_i hf
   cases h
   obtain ⟨ht,⟨rfl,rfl,rfl,rfl,A,L,B,W,rfl,rfl,rfl,rfl,rfl,rfl,rfl,rfl⟩,hz,⟨lo,hi,hc⟩,-⟩:=hp
   cases ht
   rw [hc,isP_ok h1,isP_ok h2,Nat.eq_of_beq_eq_true hf]
   have hg:=ll_g ya yl yf yw A L B W lo hi hz
   rw [bdT_eq] at hg
   rw [tI_ext (f:=loF (bdC _ lo hi)) (g:=lo) (fun k hk=>loF_bd rfl (by have:=nw_le hz; omega))]
   exact ⟨fun x hx=>by rw [List.mem_singleton.1 hx]; exact free_bd free_lamp,fun x hx=>by rcases List.mem_cons.1 hx with rfl | hx; exact free_bd free_lamp; rw [List.mem_singleton.1 hx]; exact freeB_cells (freeL_plain (cI_plain _)),hg⟩
  ·split at h
   ·rename_i hf
    cases h
    obtain ⟨ht,⟨rfl,rfl,rfl,rfl,A,L,B,W,rfl,rfl,rfl,rfl,rfl,rfl,rfl,rfl⟩,hz,⟨lo,hi,hc⟩,-⟩:=hp
    cases ht
    rw [hc,isP_ok h1,isP_ok h2,Nat.eq_of_beq_eq_true hf]
    have hg:=lh_g ya yl yf yw A L B W lo hi hz
    rw [bdT_eq] at hg
    rw [tI_ext (f:=hiF (bdC _ lo hi)) (g:=hi) (fun k hk=>hiF_bd rfl (by have:=nw_le hz; omega))]
    exact ⟨fun x hx=>by rw [List.mem_singleton.1 hx]; exact free_bd free_lamp,fun x hx=>by rcases List.mem_cons.1 hx with rfl | hx; exact free_bd free_lamp; rw [List.mem_singleton.1 hx]; exact freeB_cells (freeL_plain (cI_plain _)),hg⟩
   ·cases h
 ·cases h
theorem known_la:Known pg (clsO laO):=known_m (fun args xs r ys ps h hp=>by
 have h0:=h
 unfold laS at h
 split at h
 ·split at h
  ·split at h
   ·split at h
    ·exact la_ok rfl h0 hp
    ·cases h
   ·cases h
  ·cases h
 ·cases h)
def enO:OrcH:=orO odbO (orO opO (orO seO laO))
theorem known_en:Known pg (clsO enO):=known_or known_odb (known_or known_op (known_or known_se known_la))
theorem tI_lo {l:List AV} (hl:l.length=4) {lo hi:Nat→Int} {n:Nat} (h:n≤91):tI (loF (bdT l lo hi)) n=tI lo n:=tI_ext (fun k hk=>by rw [bdT_eq]; exact loF_bd hl (by omega))
def edK1:Code:=bodyC Try.f33
def edK3:Code:=tlC edK1
def edK6:Code:=tlC edK3
def edc4K1:Code:=bodyC Try.f62
theorem edc4_2 (ya yl yf yw:Value) (A:List Int) (L:PR) (B:List Bool) (W:List Int) (x:Bool) (hz0:ZK A L B W) (hf:¬ fdAll (cB B) (cR L) A.length=none) (hqed7_1:(eqI (clE (cI A) A.length (cR L) L.length B.length (cI W) W.length) 0)=true) (v:BaseW) (eb:EB) (ec:EC):Goes pg 15 edc4K1 ((q33_10 A B L W ya yf yl yw)) (bw v 1 eb ec) (BackQ 15 (fun _:Unit=>q33_4) (fun _:Unit=>True) (bw v 1 eb ec)):=by
 obtain ⟨hcl_A,hcl_L,hcl_B,hcl_W⟩:=hcZ33 A B L W
 have ghqed7_1:=eqI_true hqed7_1
 have hz:=ghqed7_1
 rcases bE (eqI (dI (cB B) (cR L) A.length) 0 && (eqI (dK (cB B) (cR L) A.length) 0 && true)) with hqedc43_1 | hqedc43_1
 ·skip
  have gx:=hqedc43_1
  simp only [Bool.and_true,Bool.and_eq_true,eqI_iff,decide_eq_true_eq] at gx
  have gy:=dK_zero.1 gx
  exact absurd gy hf
 ·skip
  have gy:¬ fdAll (cB B) (cR L) A.length=none:=fun q=>by have q2:=dK_zero.2 q; rw [q2.1,q2.2] at hqedc43_1; simp [eqI_self] at hqedc43_1
  exact gL isR_e (gT cm (known_en) 200 (T':=q33_4) (e:=.ret) (ps:=[IsLampK 1 2 1 1 (cI A) A.length (cR L) L.length (cB B) B.length (cI W) W.length,ZK A L B W,(!(eqI (dI (cB B) (cR L) A.length) 0 && (eqI (dK (cB B) (cR L) A.length) 0 && true)))=true]) [.go,.go,.go,.go,.go,.go,.b true,.go,.go,.go] (by kernel_rfl) (by kernel_rfl) ⟨⟨rfl,rfl,rfl,rfl,A,L,B,W,rfl,rfl,rfl,rfl,rfl,rfl,rfl,rfl⟩,hz,(by rw [hqedc43_1]; rfl),trivial⟩ rfl) (en_back (()) (show True from trivial) rfl)
def edK9:Code:=tlC edK6
theorem ed_10 (ya yl yf yw:Value) (A:List Int) (L:PR) (B:List Bool) (W:List Int) (x:Bool) (hz0:ZK A L B W) (hf:¬ fdAll (cB B) (cR L) A.length=none) (hqed7_1:(q33_17 A B L W)=true) (v:BaseW) (eb:EB) (ec:EC) (hs:LN):Goes pg 28 edK9 ((q33_3 x)) (BaseW.H (bw v 0 eb ec) hs) (OutM pg Try.f33 28 ((.tup [.v (.slice none 0 0),.v (.int .i64 21)])) [] (bw v 0 eb ec)):=by
 obtain ⟨hcl_A,hcl_L,hcl_B,hcl_W⟩:=hcZ33 A B L W
 have ghqed7_1:=eqI_true hqed7_1
 have hz:=ghqed7_1
 exact gL isR_e (gK cm (known_en) 200 (T':=⟨[(4,(.v (Value.slice none 0 0))),(5,(.v (.int .i64 (.ofNat 21))))],[],0,[]⟩) (e:=.ret) (m:=4) (ps:=[(!eqI ((21:Int)) 0)=true]) [.go,.go,.b true,.go,.go,.go] (by kernel_rfl) (by kernel_rfl) ⟨rfl,trivial⟩ rfl (by show 0≤4; decide) ⟨⟨nb_v _,nb_v _,trivial⟩,trivial,rfl⟩ (by show 0≤0; decide)) (en_eqM (r:=(.tup [(.v (Value.slice none 0 0)),(.v (.int .i64 (.ofNat 21)))])) (ys:=[]) (by rfl) (by rfl) (en_retM (by kernel_rfl) (by kernel_rfl) rfl (.inr rfl)))
theorem ed_8 (ya yl yf yw:Value) (A:List Int) (L:PR) (B:List Bool) (W:List Int) (x:Bool) (hz0:ZK A L B W) (hf:¬ fdAll (cB B) (cR L) A.length=none) (hqed7_1:(q33_17 A B L W)=true) (v:BaseW) (eb:EB) (ec:EC) (hs:LN):Goes pg 28 edK6 ((q33_7 A B L W x ya yf yl yw)) (BaseW.H (bw v 0 eb ec) hs) (OutM pg Try.f33 28 ((.tup [.v (.slice none 0 0),.v (.int .i64 21)])) [] (bw v 0 eb ec)):=by
 obtain ⟨hcl_A,hcl_L,hcl_B,hcl_W⟩:=hcZ33 A B L W
 have ghqed7_1:=eqI_true hqed7_1
 have hz:=ghqed7_1
 refine goes_spineQ (ι:=Unit) (T:=fun _:Unit=>(q33_3 x)) (R:=fun _:Unit=>True) (by kernel_rfl) (goes_rg (by kernel_rfl) (goesL_toldC cm (known_en) 200 1 (T1:=⟨[(1,(.v (.bool (x)))),(q33_12 A B L W ya yf yl yw)],[],1,[]⟩) (e:=.normal) (ps:=[]) [.go] (by kernel_rfl) (by kernel_rfl) (by kernel_rfl) trivial (goesL_callT (ι:=Unit) (T1:=(q33_10 A B L W ya yf yl yw)) (T2:=(fun _:Unit=>q33_4)) (T3:=fun _:Unit=>⟨[(1,(.v (.bool (x)))),(17,(.tup [(.agg q33_9),(.v (.int .i64 (.ofNat 21)))]))],[],3,[]⟩) (R:=(fun _:Unit=>True)) (k:=62) (szk:=15) (by kernel_rfl) Try.func62 (by kernel_rfl) (by kernel_rfl) (by kernel_rfl) (by kernel_rfl) (fun v eb ec=>edc4_2 ya yl yf yw A L B W x hz0 hf hqed7_1 v eb ec) (fun _ _=>by kernel_rfl) (fun _ hR=>goesL_toldC cm (known_en) 200 6 (T1:=(q33_3 x)) (e:=.normal) (ps:=[]) [.go,.go,.go,.go,.go,.go] (by kernel_rfl) (by kernel_rfl) (by kernel_rfl) trivial (goesL_endQ () hR (by kernel_rfl) (holds_view (by kernel_rfl) (by kernel_rfl) (by kernel_rfl) (by kernel_rfl))))))) (fun _ hxR=>ed_10 ya yl yf yw A L B W x hz0 hf hqed7_1  v eb ec hs)
theorem ed_5 (ya yl yf yw:Value) (A:List Int) (L:PR) (B:List Bool) (W:List Int) (x:Bool) (hz0:ZK A L B W) (hf:¬ fdAll (cB B) (cR L) A.length=none) (v:BaseW) (eb:EB) (ec:EC) (hs:LN):Goes pg 28 edK3 ((q33_7 A B L W x ya yf yl yw)) (BaseW.H (bw v 0 eb ec) hs) (OutM pg Try.f33 28 ((.tup [.v (.slice none 0 0),.v (.int .i64 21)])) [] (bw v 0 eb ec)):=by
 obtain ⟨hcl_A,hcl_L,hcl_B,hcl_W⟩:=hcZ33 A B L W
 refine Hd.goes_seqA (by kernel_rfl) ?_
 rcases bE (eqI (clE (cI A) A.length (cR L) L.length B.length (cI W) W.length) 0) with hqed7_1 | hqed7_1
 ·skip
  have ghqed7_1:=eqI_true hqed7_1
  have hz:=ghqed7_1
  exact gL isN_e (gT cm (known_en) 200 (T':=(q33_7 A B L W x ya yf yl yw)) (e:=.normal) (ps:=[IsLampK 1 2 1 1 (cI A) A.length (cR L) L.length (cB B) B.length (cI W) W.length,(!eqI (clE (cI A) A.length (cR L) L.length B.length (cI W) W.length) 0)=false]) [.go,.go,.go,.go,.b false] (by kernel_rfl) (by kernel_rfl) ⟨⟨rfl,rfl,rfl,rfl,A,L,B,W,rfl,rfl,rfl,rfl,rfl,rfl,rfl,rfl⟩,(by rw [hqed7_1]; rfl),trivial⟩ rfl) (Hd.en_n (ed_8 ya yl yf yw A L B W x hz0 hf hqed7_1 v eb ec hs))
 ·skip
  have ghqed7_1:=eqI_false hqed7_1
  have hnz:=ghqed7_1
  exact absurd hz0 (eqI_false hqed7_1)
theorem ed_2 (ya yl yf yw:Value) (A:List Int) (L:PR) (B:List Bool) (W:List Int) (x:Bool) (hz0:ZK A L B W) (hf:¬ fdAll (cB B) (cR L) A.length=none) (v:BaseW) (eb:EB) (ec:EC) (hs:LN):Goes pg 28 edK1 (⟨[(0,.agg (q33_15 A B L W ya yf yl yw)),(1,.v (.bool x))],[],0,[]⟩) (BaseW.H (bw v 0 eb ec) hs) (OutM pg Try.f33 28 ((.tup [.v (.slice none 0 0),.v (.int .i64 21)])) [] (bw v 0 eb ec)):=by
 obtain ⟨hcl_A,hcl_L,hcl_B,hcl_W⟩:=hcZ33 A B L W
 refine Hd.goes_seqA (by kernel_rfl) ?_
 exact gL isN_e (gT cm (known_en) 200 (T':=(q33_7 A B L W x ya yf yl yw)) (e:=.normal) (ps:=[]) [.go,.go,.go] (by kernel_rfl) (by kernel_rfl) trivial rfl) (Hd.en_n (ed_5 ya yl yf yw A L B W x hz0 hf v eb ec hs))
theorem ed_g (ya yl yf yw:Value) (A:List Int) (L:PR) (B:List Bool) (W:List Int) (x:Bool) (hz0:ZK A L B W) (hf:¬ fdAll (cB B) (cR L) A.length=none):GivesM pg 33 [.agg (q33_15 A B L W ya yf yl yw),.v (.bool x)] [] ((.tup [.v (.slice none 0 0),.v (.int .i64 21)])) [] :=
 givesM_parts 28 (by kernel_rfl) Try.func33 (by kernel_rfl) (by kernel_rfl) (by kernel_rfl) (fun v eb ec=>goes_less (by kernel_rfl) (by kernel_rfl) (by kernel_rfl) (by kernel_rfl) (ed_2 ya yl yf yw A L B W x hz0 hf v eb ec []))
def elK1:Code:=bodyC Try.f33
def elK3:Code:=tlC elK1
def elK6:Code:=tlC elK3
def elc4K1:Code:=bodyC Try.f62
theorem elc4_2 (ya yl yf yw:Value) (A:List Int) (L:PR) (B:List Bool) (W:List Int) (hz0:ZK A L B W) (hf:fdAll (cB B) (cR L) A.length=none) (hqel7_1:(eqI (clE (cI A) A.length (cR L) L.length B.length (cI W) W.length) 0)=true) (v:BaseW) (eb:EB) (ec:EC):Goes pg 15 elc4K1 ((q33_10 A B L W ya yf yl yw)) (bw v 1 eb ec) (BackQ 15 (fun _:Unit=>(q33_2 A B L W ya yf yl yw)) (fun _:Unit=>True) (bw v 1 eb ec)):=by
 obtain ⟨hcl_A,hcl_L,hcl_B,hcl_W⟩:=hcZ33 A B L W
 have ghqel7_1:=eqI_true hqel7_1
 have hz:=ghqel7_1
 rcases bE (eqI (dI (cB B) (cR L) A.length) 0 && (eqI (dK (cB B) (cR L) A.length) 0 && true)) with hqelc43_1 | hqelc43_1
 ·skip
  have gx:=hqelc43_1
  simp only [Bool.and_true,Bool.and_eq_true,eqI_iff,decide_eq_true_eq] at gx
  have gy:=dK_zero.1 gx
  exact gL isR_e (gK cm (known_en) 200 (T':=(q33_2 A B L W ya yf yl yw)) (e:=.ret) (m:=4) (ps:=[IsLampK 1 2 1 1 (cI A) A.length (cR L) L.length (cB B) B.length (cI W) W.length,ZK A L B W,(!(eqI (dI (cB B) (cR L) A.length) 0 && (eqI (dK (cB B) (cR L) A.length) 0 && true)))=false,IsT95 95,IsLampK 1 2 1 1 (cI A) A.length (cR L) L.length (cB B) B.length (cI W) W.length,ZK A L B W,IsT95 95,IsLampK 1 2 1 1 (cI A) A.length (cR L) L.length (cB B) B.length (cI W) W.length,IsOpR [AV.xl ya A.length 1 (cI A),AV.xl yl L.length 2 (cR L),AV.xl yf B.length 1 (cB B),AV.xl yw W.length 1 (cI W)] (bdT [AV.xl ya A.length 1 (cI A),AV.xl yl L.length 2 (cR L),AV.xl yf B.length 1 (cB B),AV.xl yw W.length 1 (cI W)] (opA (cI A) (cR L) A.length).fst (opA (cI A) (cR L) A.length).snd) (opA (cI A) (cR L) A.length),ZK A L B W]) [.go,.go,.go,.go,.go,.go,.b false,.go,.go,.go,.go,.go,.go,.go] (by kernel_rfl) (by kernel_rfl) ⟨⟨rfl,rfl,rfl,rfl,A,L,B,W,rfl,rfl,rfl,rfl,rfl,rfl,rfl,rfl⟩,hz,(by rw [hqelc43_1]; rfl),rfl,⟨rfl,rfl,rfl,rfl,A,L,B,W,rfl,rfl,rfl,rfl,rfl,rfl,rfl,rfl⟩,hz,rfl,⟨rfl,rfl,rfl,rfl,A,L,B,W,rfl,rfl,rfl,rfl,rfl,rfl,rfl,rfl⟩,(isOpR_of rfl),hz,trivial⟩ rfl (by show 3≤4; decide) ⟨⟨nb_ptr (by show 2 < 3; decide),nb_v _,trivial⟩,⟨⟨by show 2 < 3; decide,nbb_cells (nbA_bdT (nb_cons (nb_xl (cI_plain A)) (nb_cons (nb_xl (cR_plain L)) (nb_cons (nb_xl (cB_plain B)) (nb_cons (nb_xl (cI_plain W)) (fun _ hz=>absurd hz List.not_mem_nil))))))⟩,trivial⟩,rfl⟩ (by show 1≤3; decide)) (en_back (()) (show True from trivial) rfl)
 ·skip
  have gy:¬ fdAll (cB B) (cR L) A.length=none:=fun q=>by have q2:=dK_zero.2 q; rw [q2.1,q2.2] at hqelc43_1; simp [eqI_self] at hqelc43_1
  exact absurd hf gy
def elK9:Code:=tlC elK6
theorem el_10 (ya yl yf yw:Value) (A:List Int) (L:PR) (B:List Bool) (W:List Int) (hz0:ZK A L B W) (hf:fdAll (cB B) (cR L) A.length=none) (hqel7_1:(eqI (clE (cI A) A.length (cR L) L.length B.length (cI W) W.length) 0)=true) (v:BaseW) (eb:EB) (ec:EC) (hs:LN):Goes pg 28 elK9 (⟨[(1,(.v (.bool .false))),(7,(.ptr 3 0)),(8,(.v (.int .i64 (.ofNat 0))))],[],4,[(3,(.cells (bdT [(.xl (ya) (A.length) 1 (cI A)),(.xl (yl) (L.length) 2 (cR L)),(.xl (yf) (B.length) 1 (cB B)),(.xl (yw) (W.length) 1 (cI W))] ((rdB (cI A) A.length (cR L) (cB B) W.length W.length).fst) ((rdB (cI A) A.length (cR L) (cB B) W.length W.length).snd)) 95))]⟩) (BaseW.H (bw v 0 eb ec) hs) (OutM pg Try.f33 28 ((.tup [.sl 0 0 W.length W.length,.v (.int .i64 0)])) [(.cells (cI (tI (rdB (cI A) A.length (cR L) (cB B) W.length W.length).1 W.length)) 2)] (bw v 0 eb ec)):=by
 obtain ⟨hcl_A,hcl_L,hcl_B,hcl_W⟩:=hcZ33 A B L W
 have ghqel7_1:=eqI_true hqel7_1
 have hz:=ghqel7_1
 exact gL isR_e (gC cm (known_en) 200 (T':=⟨[(4,(.sl 0 0 (W.length) (W.length))),(5,(.v (.int .i64 (.ofNat 0))))],[],1,[(0,(.cells (cI (tI (loF (bdT [AV.xl ya A.length 1 (cI A),AV.xl yl L.length 2 (cR L),AV.xl yf B.length 1 (cB B),AV.xl yw W.length 1 (cI W)] (rdB (cI A) A.length (cR L) (cB B) W.length W.length).fst (rdB (cI A) A.length (cR L) (cB B) W.length W.length).snd)) W.length)) 2))]⟩) (e:=.ret) (m:=5) (ps:=[(!eqI ((0:Int)) 0)=false,false=false,IsT95 95,IsLampK 1 2 1 1 (cI A) A.length (cR L) L.length (cB B) B.length (cI W) W.length,ZK A L B W,IsRest [AV.xl ya A.length 1 (cI A),AV.xl yl L.length 2 (cR L),AV.xl yf B.length 1 (cB B),AV.xl yw W.length 1 (cI W)] (bdT [AV.xl ya A.length 1 (cI A),AV.xl yl L.length 2 (cR L),AV.xl yf B.length 1 (cB B),AV.xl yw W.length 1 (cI W)] (rdB (cI A) A.length (cR L) (cB B) W.length W.length).fst (rdB (cI A) A.length (cR L) (cB B) W.length W.length).snd)]) [.go,.go,.b false,.go,.go,.go,.b false,.go,.go,.go] [4] [(.sl 4 0 (W.length) (W.length)),(.v (.int .i64 (.ofNat 0)))] [(.cells (cI (tI (loF (bdT [AV.xl ya A.length 1 (cI A),AV.xl yl L.length 2 (cR L),AV.xl yf B.length 1 (cB B),AV.xl yw W.length 1 (cI W)] (rdB (cI A) A.length (cR L) (cB B) W.length W.length).fst (rdB (cI A) A.length (cR L) (cB B) W.length W.length).snd)) W.length)) 2)] (by kernel_rfl) (by kernel_rfl) ⟨rfl,rfl,rfl,⟨rfl,rfl,rfl,rfl,A,L,B,W,rfl,rfl,rfl,rfl,rfl,rfl,rfl,rfl⟩,hz,(isRest_of _ _ rfl),trivial⟩ rfl rfl (by decide) rfl ⟨nr_sl rfl,nr_v _,trivial⟩ ⟨⟨by show 0 < 1; decide,nrb_cells (nrl_plain (cI_plain _))⟩,trivial⟩) (en_eqM (r:=(.tup [(.sl 0 0 (W.length) (W.length)),(.v (.int .i64 (.ofNat 0)))])) (ys:=[(.cells (cI (tI (loF (bdT [AV.xl ya A.length 1 (cI A),AV.xl yl L.length 2 (cR L),AV.xl yf B.length 1 (cB B),AV.xl yw W.length 1 (cI W)] (rdB (cI A) A.length (cR L) (cB B) W.length W.length).fst (rdB (cI A) A.length (cR L) (cB B) W.length W.length).snd)) W.length)) 2)]) (by rfl) (by rw [tI_lo rfl (nw_le hz0)]) (en_retM (by kernel_rfl) (by kernel_rfl) rfl (.inr rfl)))
theorem el_8 (ya yl yf yw:Value) (A:List Int) (L:PR) (B:List Bool) (W:List Int) (hz0:ZK A L B W) (hf:fdAll (cB B) (cR L) A.length=none) (hqel7_1:(q33_17 A B L W)=true) (v:BaseW) (eb:EB) (ec:EC) (hs:LN):Goes pg 28 elK6 ((q33_6 A B L W ya yf yl yw)) (BaseW.H (bw v 0 eb ec) hs) (OutM pg Try.f33 28 ((.tup [.sl 0 0 W.length W.length,.v (.int .i64 0)])) [(q33_16 A B L W)] (bw v 0 eb ec)):=by
 obtain ⟨hcl_A,hcl_L,hcl_B,hcl_W⟩:=hcZ33 A B L W
 have ghqel7_1:=eqI_true hqel7_1
 have hz:=ghqel7_1
 refine goes_spineQ (ι:=Unit) (T:=fun _:Unit=>(q33_1 A B L W ya yf yl yw)) (R:=fun _:Unit=>True) (by kernel_rfl) (goes_rg (by kernel_rfl) (goesL_toldC cm (known_en) 200 1 (T1:=⟨[(1,(.v (.bool .false))),(q33_12 A B L W ya yf yl yw)],[],1,[]⟩) (e:=.normal) (ps:=[]) [.go] (by kernel_rfl) (by kernel_rfl) (by kernel_rfl) trivial (goesL_callT (ι:=Unit) (T1:=(q33_10 A B L W ya yf yl yw)) (T2:=(fun _:Unit=>(q33_2 A B L W ya yf yl yw))) (T3:=fun _:Unit=>⟨[(1,(.v (.bool .false))),(17,(.tup [(.agg (q33_5 A B L W ya yf yl yw)),(.v (.int .i64 (.ofNat 0)))]))],[],3,[]⟩) (R:=(fun _:Unit=>True)) (k:=62) (szk:=15) (by kernel_rfl) Try.func62 (by kernel_rfl) (by kernel_rfl) (by kernel_rfl) (by kernel_rfl) (fun v eb ec=>elc4_2 ya yl yf yw A L B W hz0 hf hqel7_1 v eb ec) (fun _ _=>by kernel_rfl) (fun _ hR=>goesL_toldC cm (known_en) 200 6 (T1:=(q33_1 A B L W ya yf yl yw)) (e:=.normal) (ps:=[]) [.go,.go,.go,.go,.go,.go] (by kernel_rfl) (by kernel_rfl) (by kernel_rfl) trivial (goesL_endQ () hR (by kernel_rfl) (holds_view (by kernel_rfl) (by kernel_rfl) (by kernel_rfl) (by kernel_rfl))))))) (fun _ hxR=>el_10 ya yl yf yw A L B W hz0 hf hqel7_1  v eb ec hs)
theorem el_5 (ya yl yf yw:Value) (A:List Int) (L:PR) (B:List Bool) (W:List Int) (hz0:ZK A L B W) (hf:fdAll (cB B) (cR L) A.length=none) (v:BaseW) (eb:EB) (ec:EC) (hs:LN):Goes pg 28 elK3 ((q33_6 A B L W ya yf yl yw)) (BaseW.H (bw v 0 eb ec) hs) (OutM pg Try.f33 28 ((.tup [.sl 0 0 W.length W.length,.v (.int .i64 0)])) [(q33_16 A B L W)] (bw v 0 eb ec)):=by
 obtain ⟨hcl_A,hcl_L,hcl_B,hcl_W⟩:=hcZ33 A B L W
 refine Hd.goes_seqA (by kernel_rfl) ?_
 rcases bE (eqI (clE (cI A) A.length (cR L) L.length B.length (cI W) W.length) 0) with hqel7_1 | hqel7_1
 ·skip
  have ghqel7_1:=eqI_true hqel7_1
  have hz:=ghqel7_1
  exact gL isN_e (gT cm (known_en) 200 (T':=(q33_6 A B L W ya yf yl yw)) (e:=.normal) (ps:=[IsLampK 1 2 1 1 (cI A) A.length (cR L) L.length (cB B) B.length (cI W) W.length,(!eqI (clE (cI A) A.length (cR L) L.length B.length (cI W) W.length) 0)=false]) [.go,.go,.go,.go,.b false] (by kernel_rfl) (by kernel_rfl) ⟨⟨rfl,rfl,rfl,rfl,A,L,B,W,rfl,rfl,rfl,rfl,rfl,rfl,rfl,rfl⟩,(by rw [hqel7_1]; rfl),trivial⟩ rfl) (Hd.en_n (el_8 ya yl yf yw A L B W hz0 hf hqel7_1 v eb ec hs))
 ·skip
  have ghqel7_1:=eqI_false hqel7_1
  have hnz:=ghqel7_1
  exact absurd hz0 (eqI_false hqel7_1)
theorem el_2 (ya yl yf yw:Value) (A:List Int) (L:PR) (B:List Bool) (W:List Int) (hz0:ZK A L B W) (hf:fdAll (cB B) (cR L) A.length=none) (v:BaseW) (eb:EB) (ec:EC) (hs:LN):Goes pg 28 elK1 (⟨[(0,.agg (q33_15 A B L W ya yf yl yw)),(1,.v (.bool false))],[],0,[]⟩) (BaseW.H (bw v 0 eb ec) hs) (OutM pg Try.f33 28 ((.tup [.sl 0 0 W.length W.length,.v (.int .i64 0)])) [(q33_16 A B L W)] (bw v 0 eb ec)):=by
 obtain ⟨hcl_A,hcl_L,hcl_B,hcl_W⟩:=hcZ33 A B L W
 refine Hd.goes_seqA (by kernel_rfl) ?_
 exact gL isN_e (gT cm (known_en) 200 (T':=(q33_6 A B L W ya yf yl yw)) (e:=.normal) (ps:=[]) [.go,.go,.go] (by kernel_rfl) (by kernel_rfl) trivial rfl) (Hd.en_n (el_5 ya yl yf yw A L B W hz0 hf v eb ec hs))
theorem el_g (ya yl yf yw:Value) (A:List Int) (L:PR) (B:List Bool) (W:List Int) (hz0:ZK A L B W) (hf:fdAll (cB B) (cR L) A.length=none):GivesM pg 33 [.agg (q33_15 A B L W ya yf yl yw),.v (.bool false)] [] ((.tup [.sl 0 0 W.length W.length,.v (.int .i64 0)])) [(q33_16 A B L W)] :=
 givesM_parts 28 (by kernel_rfl) Try.func33 (by kernel_rfl) (by kernel_rfl) (by kernel_rfl) (fun v eb ec=>goes_less (by kernel_rfl) (by kernel_rfl) (by kernel_rfl) (by kernel_rfl) (el_2 ya yl yf yw A L B W hz0 hf v eb ec []))
end
end Go.Proofs.Ytldekgkjofgacaa
