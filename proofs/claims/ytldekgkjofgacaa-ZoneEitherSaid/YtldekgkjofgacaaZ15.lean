import Derived.Test.YtldekgkjofgacaaZ14
set_option maxHeartbeats 4000000
set_option linter.all false
/- The error of two indexes; the oracle of isDoubt. -/
namespace Go.Proofs.Ytldekgkjofgacaa
open Go Ev
noncomputable section
theorem hcZ15 (A:List Int) (B:List Bool) (L:PR) (W:List Int):(cI A).length=A.length∧(cR L).length=L.length * 2∧(cB B).length=B.length∧(cI W).length=W.length:=⟨cI_len A,cR_len L,cB_len B,cI_len W⟩
theorem iRZ15 {a:Int} (h : -9223372036854775808≤a) (k:a≤9223372036854775807):inR .i64 a:=⟨h,k⟩
section
variable (A : List Int) (B : List Bool) (L : PR) (W : List Int) (a b : Int) (i : Nat) (ya yf yl yw : Value)
abbrev q15_17:Nat×Ev.AV:=(7,(.v (.bool (boolAt (cB B) ((a + ((i:Nat):Int)).toNat * 1)))))
abbrev q15_16:Nat×Ev.AV:=(8,(.v (.bool (!boolAt (cB B) ((a + ((i:Nat):Int)).toNat * 1)))))
abbrev q15_18:Nat×Ev.AV:=(9,(.v (.int .i64 (a + ((i:Nat):Int) + 1))))
abbrev q15_11:Nat×Ev.AB:=(0,(.cells [(.xl (ya) (A.length) 1 (cI A)),(.xl (yl) (L.length) 2 (cR L)),(.xl (yf) (B.length) 1 (cB B)),(.xl (yw) (W.length) 1 (cI W))] 26))
abbrev q15_1:Ev.Lit:=⟨[(1,(.v (.int .i64 (a)))),(2,(.v (.int .i64 (b)))),(3,(.ptr 0 0)),(q15_17 B a i),(q15_16 B a i),(q15_18 a i)],[],1,[(q15_11 A B L W ya yf yl yw)]⟩
abbrev q15_2:Ev.Lit:=⟨[(1,(.v (.int .i64 (a)))),(2,(.v (.int .i64 (b)))),(3,(.ptr 0 0)),(7,(.v (.bool (clB (allF (cB B) a.toNat (a.toNat + (i + 1))))))),(8,(.v (.bool (clB (allR (cB B) a.toNat (a.toNat + (i + 1))))))),(9,(.v (.int .i64 (a + (((i + 1):Nat):Int)))))],[],1,[(q15_11 A B L W ya yf yl yw)]⟩
abbrev q15_3:Ev.Lit:=⟨[(1,(.v (.int .i64 (a)))),(2,(.v (.int .i64 (b)))),(3,(.ptr 0 0)),(7,(.v (.bool (clB (allF (cB B) a.toNat (a.toNat + ((b - a).toNat))))))),(8,(.v (.bool (clB (allR (cB B) a.toNat (a.toNat + ((b - a).toNat)))))))],[],1,[(q15_11 A B L W ya yf yl yw)]⟩
abbrev q15_4:Ev.Lit:=⟨[(1,(.v (.int .i64 (a)))),(2,(.v (.int .i64 (b)))),(3,(.ptr 0 0)),(7,(.v (.bool .false))),(q15_16 B a i),(q15_18 a i)],[],1,[(q15_11 A B L W ya yf yl yw)]⟩
abbrev q15_5:Ev.Lit:=⟨[(1,(.v (.int .i64 (a)))),(2,(.v (.int .i64 (b)))),(3,(.ptr 0 0)),(q15_17 B a i),(8,(.v (.bool .false))),(q15_18 a i)],[],1,[(q15_11 A B L W ya yf yl yw)]⟩
abbrev q15_6:Ev.Lit:=⟨[(1,(.v (.int .i64 (a)))),(2,(.v (.int .i64 (b)))),(3,(.ptr 0 0)),(7,(.v (.bool .false))),(8,(.v (.bool .false))),(q15_18 a i)],[],1,[(q15_11 A B L W ya yf yl yw)]⟩
abbrev q15_7:Ev.Lit:=⟨[(1,(.v (.int .i64 (a)))),(2,(.v (.int .i64 (b)))),(3,(.ptr 0 0)),(7,(.v (.bool .true))),(8,(.v (.bool .true))),(9,(.v (.int .i64 (a))))],[],1,[(q15_11 A B L W ya yf yl yw)]⟩
abbrev q15_8:Ev.Lit:=⟨[(1,(.v (.int .i64 (a)))),(2,(.v (.int .i64 (b)))),(3,(.ptr 0 0)),(7,(.v (.bool .true))),(8,(.v (.bool .true)))],[],1,[(q15_11 A B L W ya yf yl yw)]⟩
abbrev q15_9:Ev.Lit:=⟨[(1,(.v (.int .i64 (a)))),(2,(.v (.int .i64 (b)))),(3,(.ptr 0 0))],[],1,[(q15_11 A B L W ya yf yl yw)]⟩
abbrev q15_13:List Ev.AV:=[.xl ya A.length 1 (cI A),.xl yl L.length 2 (cR L),.xl yf B.length 1 (cB B),.xl yw W.length 1 (cI W)]
abbrev q15_10:Ev.Lit:=⟨[(0,.agg (q15_13 A B L W ya yf yl yw)),(1,.v (.int .i64 a)),(2,.v (.int .i64 b))],[],0,[]⟩
abbrev q15_15:=(eqI (clE (cI A) A.length (cR L) L.length B.length (cI W) W.length) 0)
abbrev q15_19:Ev.Lit:=⟨[(6,(.v (.int .i64 (.ofNat 14))))],[],1,[]⟩
abbrev q15_20:Ev.Lit:=⟨[(6,(.v (.int .i64 (.ofNat 3))))],[],1,[]⟩
abbrev q15_21:Ev.Lit:=⟨[(6,(.v (.int .i64 (.ofNat 0))))],[],1,[]⟩
end
open Classical in
def cdE (A:List AV) (n:Nat) (L:List AV) (nl:Nat) (B:List AV) (nf:Nat) (W:List AV) (nw:Nat) (i k:Int):Int :=
 if clE A n L nl nf W nw=0 then (if 0≤i∧k < n∧i < k then (if dbP B L i.toNat k.toNat then 0 else 14) else 3) else clE A n L nl nf W nw
section
variable {A L B W : List AV} {n nl nf nw : Nat} {i k : Int}
section
variable (A : List Int) (B : List Bool) (L : PR) (W : List Int) (a b : Int) (w : World)
abbrev q15_14:=(cdE (cI A) A.length (cR L) L.length (cB B) B.length (cI W) W.length a b)
abbrev q15_12:=(OutR pg Try.f24 86 (.int .i64 (q15_14 A B L W a b)) w)
end
theorem cdE_lamp (h:¬ clE A n L nl nf W nw=0):cdE A n L nl B nf W nw i k=clE A n L nl nf W nw:=if_neg h
theorem cdE_range (h:clE A n L nl nf W nw=0) (h2:¬ (0≤i∧k < n∧i < k)):cdE A n L nl B nf W nw i k=3:=by unfold cdE; rw [if_pos h,if_neg h2]
theorem cdE_ok (h:clE A n L nl nf W nw=0) (h2:0≤i∧k < n∧i < k) (h3:dbP B L i.toNat k.toNat):cdE A n L nl B nf W nw i k=0:=by unfold cdE; rw [if_pos h,if_pos h2,if_pos h3]
theorem cdE_sum (h:clE A n L nl nf W nw=0) (h2:0≤i∧k < n∧i < k) (h3:¬ dbP B L i.toNat k.toNat):cdE A n L nl B nf W nw i k=14:=by unfold cdE; rw [if_pos h,if_pos h2,if_neg h3]
end
def pairV (a:AV):Option (Value×Value):=match a with
 | .agg l=>match l with
  | [x,z]=>match x with
   | .v u=>match z with
    | .v v=>some (u,v)
    | _=>none
   | _=>none
  | _=>none
 | .v x=>match x with
  | .agg arr=>match arr.toList with
   | [u,v]=>some (u,v)
   | _=>none
  | _=>none
 | _=>none
theorem pairV_den {a:AV} {u v:Value} (h:pairV a=some (u,v)):Ext a∧∀ σ x,den σ a=some x→den σ (.agg [.v u,.v v])=some x:=by
 unfold pairV at h
 split at h
 ·split at h
  ·split at h
   ·split at h
    ·cases h
     exact ⟨ext_agg (extL_cons (ext_v _) (extL_cons (ext_v _) extL_nil)),fun σ x e=>e⟩
    ·cases h
   ·cases h
  ·cases h
 ·split at h
  ·rename_i arr
   split at h
   ·rename_i e1
    cases h
    refine ⟨ext_v _,fun σ x e=>?_⟩
    simp only [den,denL,Option.map_some] at e ⊢
    rw [← e,← e1]
   ·cases h
  ·cases h
 ·cases h
theorem givesA_congr {f:FuncId} {args args':List AV} {r:Value} (k:∀ w xs,denL (bare w) args=some xs→denL (bare w) args'=some xs) (h:GivesA pg f args' r):GivesA pg f args r:=⟨h.1,fun F n w xs hW hx=>h.2 F n w xs hW (k w xs hx)⟩
theorem denL_two {σ:Env} {a b b':AV} {xs:List Value} (k:∀ x,den σ b=some x→den σ b'=some x) (h:denL σ [a,b]=some xs):denL σ [a,b']=some xs:=by
 simp only [denL] at h ⊢
 cases e1:den σ a with
 | none=>rw [e1] at h; cases h
 | some x=>cases e2:den σ b with
  | none=>rw [e1,e2] at h; cases h
  | some z =>
   rw [e1,e2] at h
   rw [k z e2]
   exact h
def isdS:List AV→Option (Res1×List Prop):=fun vs =>
 match vs with
 | [.agg [.xl ya na k1 ca,.xl yl nl k2 cl,.xl yf nf k3 cf,.xl yw nw k4 cw],q]=>match pairV q with
  | some (vi,vk)=>match numV vi,numV vk with
   | some i,some k=>some (.val (.v (.bool (clB (dbP cf cl i.toNat k.toNat)))),[IsLampK k1 k2 k3 k4 ca na cl nl cf nf cw nw,clE ca na cl nl nf cw nw=0,0≤i,i < k,k < na])
   | _,_=>none
  | none=>none
 | _=>none
def isdO:OrcH:=extOrc 59 isdS
theorem known_isd:Known pg (clsO isdO):=known_ext (fun vs r ps h hp=>by
 unfold isdS at h
 split at h
 ·split at h
  ·rename_i vi vk hv
   obtain ⟨hq1,hq2⟩:=pairV_den hv
   split at h
   ·rename_i i k hi hk
    cases h
    obtain ⟨⟨rfl,rfl,rfl,rfl,A,L,B,W,rfl,rfl,rfl,rfl,rfl,rfl,rfl,rfl⟩,hz,h1,h2,h3,-⟩:=hp
    rw [numV_eq hi,numV_eq hk] at hq2
    obtain ⟨a,rfl⟩:∃ a:Nat,i=(a:Int):=⟨i.toNat,by omega⟩
    obtain ⟨b,rfl⟩:∃ b:Nat,k=(b:Int):=⟨k.toNat,by omega⟩
    exact ⟨extL_cons ext_lamp (extL_cons hq1 extL_nil),_,rfl,givesA_congr (fun w xs hx=>denL_two (hq2 _) hx) (isd_g _ _ _ _ A L B W a b hz (by omega) (by omega))⟩
   ·cases h
  ·cases h
 ·cases h)
def odO:OrcH:=orO clO isdO
theorem known_od:Known pg (clsO odO):=known_or known_cl known_isd
def ocdK1:Code:=bodyC Try.f23
theorem ocd_2 (ya yl yf yw:Value) (A:List Int) (L:PR) (B:List Bool) (W:List Int) (a b:Int) (w:World):Goes pg 33 ocdK1 ((q15_10 A B L W a b ya yf yl yw)) w (OutR pg Try.f23 33 (.int .i64 (cdE (cI A) A.length (cR L) L.length (cB B) B.length (cI W) W.length a b)) w):=by
 obtain ⟨hcl_A,hcl_L,hcl_B,hcl_W⟩:=hcZ15 A B L W
 rcases bE (eqI (clE (cI A) A.length (cR L) L.length B.length (cI W) W.length) 0) with hqocd3_1 | hqocd3_1
 ·skip
  have ghqocd3_1:=eqI_true hqocd3_1
  have hz:=ghqocd3_1
  obtain ⟨hn,ha,he,hl,hw⟩:=clE_zero hz
  have he2:=he
  unfold eqP degI at he2
  rcases bE (ltI a 0) with hqocd3_2 | hqocd3_2
  ·skip
   have ghqocd3_2:=lT hqocd3_2
   exact gL isR_e (gT cm (known_od) 200 (T':=q15_20) (e:=.ret) (ps:=[IsLampK 1 2 1 1 (cI A) A.length (cR L) L.length (cB B) B.length (cI W) W.length,(!eqI (clE (cI A) A.length (cR L) L.length B.length (cI W) W.length) 0)=false,ltI a 0=true,true=true,true=true,true=true,true=true,true=true,true=true,true=true,true=true]) [.go,.go,.go,.go,.go,.go,.b false,.go,.go,.go,.b true,.b true,.b true,.b true,.b true,.go,.go,.b true,.b true,.b true,.go,.b true,.go] (by kernel_rfl) (by kernel_rfl) ⟨⟨rfl,rfl,rfl,rfl,A,L,B,W,rfl,rfl,rfl,rfl,rfl,rfl,rfl,rfl⟩,(by rw [hqocd3_1]; rfl),hqocd3_2,rfl,rfl,rfl,rfl,rfl,rfl,rfl,rfl,trivial⟩ rfl) (en_eq (r:=(.int .i64 3)) (by rw [cdE_range hz (by omega)]) (en_ret (v:=(.v (.int .i64 (.ofNat 3)))) (by kernel_rfl) rfl))
  ·skip
   have ghqocd3_2:=lF hqocd3_2
   rcases bE (ltI b A.length) with hqocd3_3 | hqocd3_3
   ·skip
    have ghqocd3_3:=lT hqocd3_3
    rcases bE (ltI a b) with hqocd3_4 | hqocd3_4
    ·skip
     have ghqocd3_4:=lT hqocd3_4
     rcases bE (clB (dbP (cB B) (cR L) a.toNat b.toNat)) with hqocd3_5 | hqocd3_5
     ·skip
      have ghqocd3_5:=clB_true.1 hqocd3_5
      exact gL isR_e (gT cm (known_od) 200 (T':=q15_21) (e:=.ret) (ps:=[IsLampK 1 2 1 1 (cI A) A.length (cR L) L.length (cB B) B.length (cI W) W.length,(!eqI (clE (cI A) A.length (cR L) L.length B.length (cI W) W.length) 0)=false,ltI a 0=false,false=false,false=false,false=false,false=false,(!ltI b A.length)=false,false=false,false=false,(!ltI a b)=false,IsLampK 1 2 1 1 (cI A) A.length (cR L) L.length (cB B) B.length (cI W) W.length,ZK A L B W,0≤a,a < b,b < ((A.length:Nat):Int),(!clB (dbP (cB B) (cR L) a.toNat b.toNat))=false]) [.go,.go,.go,.go,.go,.go,.b false,.go,.go,.go,.b false,.go,.b false,.go,.b false,.go,.b false,.go,.b false,.go,.go,.go,.b false,.go,.b false,.go,.b false,.go,.go,.b false,.go,.go,.go,.go,.go,.b false,.go] (by kernel_rfl) (by kernel_rfl) ⟨⟨rfl,rfl,rfl,rfl,A,L,B,W,rfl,rfl,rfl,rfl,rfl,rfl,rfl,rfl⟩,(by rw [hqocd3_1]; rfl),hqocd3_2,rfl,rfl,rfl,rfl,(by rw [hqocd3_3]; rfl),rfl,rfl,(by rw [hqocd3_4]; rfl),⟨rfl,rfl,rfl,rfl,A,L,B,W,rfl,rfl,rfl,rfl,rfl,rfl,rfl,rfl⟩,hz,(by omega),(by omega),(by omega),(by rw [hqocd3_5]; rfl),trivial⟩ rfl) (en_eq (r:=(.int .i64 0)) (by rw [cdE_ok hz (by omega) ghqocd3_5]) (en_ret (v:=(.v (.int .i64 (.ofNat 0)))) (by kernel_rfl) rfl))
     ·skip
      have ghqocd3_5:=clB_false hqocd3_5
      exact gL isR_e (gT cm (known_od) 200 (T':=q15_19) (e:=.ret) (ps:=[IsLampK 1 2 1 1 (cI A) A.length (cR L) L.length (cB B) B.length (cI W) W.length,(!eqI (clE (cI A) A.length (cR L) L.length B.length (cI W) W.length) 0)=false,ltI a 0=false,false=false,false=false,false=false,false=false,(!ltI b A.length)=false,false=false,false=false,(!ltI a b)=false,IsLampK 1 2 1 1 (cI A) A.length (cR L) L.length (cB B) B.length (cI W) W.length,ZK A L B W,0≤a,a < b,b < ((A.length:Nat):Int),(!clB (dbP (cB B) (cR L) a.toNat b.toNat))=true]) [.go,.go,.go,.go,.go,.go,.b false,.go,.go,.go,.b false,.go,.b false,.go,.b false,.go,.b false,.go,.b false,.go,.go,.go,.b false,.go,.b false,.go,.b false,.go,.go,.b false,.go,.go,.go,.go,.go,.b true,.go] (by kernel_rfl) (by kernel_rfl) ⟨⟨rfl,rfl,rfl,rfl,A,L,B,W,rfl,rfl,rfl,rfl,rfl,rfl,rfl,rfl⟩,(by rw [hqocd3_1]; rfl),hqocd3_2,rfl,rfl,rfl,rfl,(by rw [hqocd3_3]; rfl),rfl,rfl,(by rw [hqocd3_4]; rfl),⟨rfl,rfl,rfl,rfl,A,L,B,W,rfl,rfl,rfl,rfl,rfl,rfl,rfl,rfl⟩,hz,(by omega),(by omega),(by omega),(by rw [hqocd3_5]; rfl),trivial⟩ rfl) (en_eq (r:=(.int .i64 14)) (by rw [cdE_sum hz (by omega) ghqocd3_5]) (en_ret (v:=(.v (.int .i64 (.ofNat 14)))) (by kernel_rfl) rfl))
    ·skip
     have ghqocd3_4:=lF hqocd3_4
     exact gL isR_e (gT cm (known_od) 200 (T':=q15_20) (e:=.ret) (ps:=[IsLampK 1 2 1 1 (cI A) A.length (cR L) L.length (cB B) B.length (cI W) W.length,(!eqI (clE (cI A) A.length (cR L) L.length B.length (cI W) W.length) 0)=false,ltI a 0=false,false=false,false=false,false=false,false=false,(!ltI b A.length)=false,false=false,false=false,(!ltI a b)=true]) [.go,.go,.go,.go,.go,.go,.b false,.go,.go,.go,.b false,.go,.b false,.go,.b false,.go,.b false,.go,.b false,.go,.go,.go,.b false,.go,.b false,.go,.b false,.go,.go,.b true,.go] (by kernel_rfl) (by kernel_rfl) ⟨⟨rfl,rfl,rfl,rfl,A,L,B,W,rfl,rfl,rfl,rfl,rfl,rfl,rfl,rfl⟩,(by rw [hqocd3_1]; rfl),hqocd3_2,rfl,rfl,rfl,rfl,(by rw [hqocd3_3]; rfl),rfl,rfl,(by rw [hqocd3_4]; rfl),trivial⟩ rfl) (en_eq (r:=(.int .i64 3)) (by rw [cdE_range hz (by omega)]) (en_ret (v:=(.v (.int .i64 (.ofNat 3)))) (by kernel_rfl) rfl))
   ·skip
    have ghqocd3_3:=lF hqocd3_3
    exact gL isR_e (gT cm (known_od) 200 (T':=q15_20) (e:=.ret) (ps:=[IsLampK 1 2 1 1 (cI A) A.length (cR L) L.length (cB B) B.length (cI W) W.length,(!eqI (clE (cI A) A.length (cR L) L.length B.length (cI W) W.length) 0)=false,ltI a 0=false,false=false,false=false,false=false,false=false,(!ltI b A.length)=true,true=true,true=true,true=true]) [.go,.go,.go,.go,.go,.go,.b false,.go,.go,.go,.b false,.go,.b false,.go,.b false,.go,.b false,.go,.b false,.go,.go,.go,.b true,.b true,.b true,.go,.b true,.go] (by kernel_rfl) (by kernel_rfl) ⟨⟨rfl,rfl,rfl,rfl,A,L,B,W,rfl,rfl,rfl,rfl,rfl,rfl,rfl,rfl⟩,(by rw [hqocd3_1]; rfl),hqocd3_2,rfl,rfl,rfl,rfl,(by rw [hqocd3_3]; rfl),rfl,rfl,rfl,trivial⟩ rfl) (en_eq (r:=(.int .i64 3)) (by rw [cdE_range hz (by omega)]) (en_ret (v:=(.v (.int .i64 (.ofNat 3)))) (by kernel_rfl) rfl))
 ·skip
  have ghqocd3_1:=eqI_false hqocd3_1
  exact gL isR_e (gT cm (known_od) 200 (T':=⟨[(6,(.v (.int .i64 (clE (cI A) A.length (cR L) L.length B.length (cI W) W.length))))],[],1,[]⟩) (e:=.ret) (ps:=[IsLampK 1 2 1 1 (cI A) A.length (cR L) L.length (cB B) B.length (cI W) W.length,(!eqI (clE (cI A) A.length (cR L) L.length B.length (cI W) W.length) 0)=true]) [.go,.go,.go,.go,.go,.go,.b true,.go,.go] (by kernel_rfl) (by kernel_rfl) ⟨⟨rfl,rfl,rfl,rfl,A,L,B,W,rfl,rfl,rfl,rfl,rfl,rfl,rfl,rfl⟩,(by rw [hqocd3_1]; rfl),trivial⟩ rfl) (en_eq (r:=(.int .i64 (clE (cI A) A.length (cR L) L.length B.length (cI W) W.length))) (by rw [cdE_lamp ghqocd3_1]) (en_ret (v:=(.v (.int .i64 (clE (cI A) A.length (cR L) L.length B.length (cI W) W.length)))) (by kernel_rfl) rfl))
theorem ocd_g (ya yl yf yw:Value) (A:List Int) (L:PR) (B:List Bool) (W:List Int) (a b:Int):GivesA pg 23 [.agg (q15_13 A B L W ya yf yl yw),.v (.int .i64 a),.v (.int .i64 b)] (.int .i64 (q15_14 A B L W a b)) :=
 givesA_parts 33 Try.func23 (by kernel_rfl) (by kernel_rfl) (by kernel_rfl) (fun w=>goes_less (by kernel_rfl) (by kernel_rfl) (by kernel_rfl) (by kernel_rfl) (ocd_2 ya yl yf yw A L B W a b w))
def rcdK1:Code:=bodyC Try.f24
def rcdK3:Code:=tlC rcdK1
def rcdK6:Code:=tlC rcdK3
def rcdK9:Code:=tlC rcdK6
def rcdK12:Code:=tlC rcdK9
def rcdK15:Code:=tlC rcdK12
def rcdK16:Code:=(hdC rcdK12)
def rcdK18:Code:=tlC rcdK16
def rcdK22:Code:=loopC rcdK18
theorem rcd_25 (ya yl yf yw:Value) (A:List Int) (L:PR) (B:List Bool) (W:List Int) (a b:Int) (hqrcd7_1:(eqI (clE (cI A) A.length (cR L) L.length B.length (cI W) W.length) 0)=true) (hqrcd10_1:(ltI a 0)=false) (hqrcd10_2:(ltI b A.length)=true) (hqrcd10_3:(ltI a b)=true) (h0b:True) (hqrcd24_1:(ltI (a + (((b - a).toNat:Nat):Int)) b)=false) (w:World):Goes pg 86 rcdK15 ((q15_3 A B L W a b ya yf yl yw)) w (OutR pg Try.f24 86 (.int .i64 (cdE (cI A) A.length (cR L) L.length (cB B) B.length (cI W) W.length a b)) w):=by
 obtain ⟨hcl_A,hcl_L,hcl_B,hcl_W⟩:=hcZ15 A B L W
 have ghqrcd7_1:=eqI_true hqrcd7_1
 have hz:=ghqrcd7_1
 obtain ⟨hn,ha,he,hl,hw⟩:=clE_zero hz
 have he2:=he
 unfold eqP degI at he2
 have ghqrcd10_1:=lF hqrcd10_1
 have ghqrcd10_2:=lT hqrcd10_2
 have ghqrcd10_3:=lT hqrcd10_3
 have ghqrcd24_1:=lF hqrcd24_1
 rcases bE (clB (allF (cB B) a.toNat (a.toNat + (b - a).toNat))) with hqrcd26_1 | hqrcd26_1
 ·skip
  rcases bE (ltI (intAt (cR L) (a.toNat * 2 + 1)) (intAt (cR L) (b.toNat * 2 + 0))) with hqrcd26_2 | hqrcd26_2
  ·skip
   have ghqrcd26_2:=lT hqrcd26_2
   exact gL isR_e (gT cm (known_rcl) 200 (T':=q15_21) (e:=.ret) (ps:=[clB (allF (cB B) a.toNat (a.toNat + (b - a).toNat))=true,true=true,true=true,true=true,0≤a,a.toNat < L.length,true=true,a.toNat * 2 + 1 < (cR L).length,true=true,loadL pg (cR L) (a.toNat * 2 + 1) 2=some (.v (.int .i64 (intAt (cR L) (a.toNat * 2 + 1)))),true=true,true=true,true=true,true=true,0≤b,b.toNat < L.length,true=true,b.toNat * 2 + 0 < (cR L).length,true=true,loadL pg (cR L) (b.toNat * 2 + 0) 2=some (.v (.int .i64 (intAt (cR L) (b.toNat * 2 + 0)))),true=true,ltI (intAt (cR L) (a.toNat * 2 + 1)) (intAt (cR L) (b.toNat * 2 + 0))=true,true=true,true=true,true=true]) [.go,.go,.b true,.go,.b true,.go,.b true,.go,.b true,.nat,.b true,.sym,.b true,.sym,.b true,.go,.b true,.go,.b true,.go,.b true,.nat,.b true,.sym,.b true,.sym,.b true,.go,.go,.go,.b true,.b true,.b true,.go,.b true,.go] (by kernel_rfl) (by kernel_rfl) ⟨hqrcd26_1,rfl,rfl,rfl,(by omega),(by omega),rfl,(by omega),rfl,(cR_ld (by omega) 2 (u2) rfl),rfl,rfl,rfl,rfl,(by omega),(by omega),rfl,(by omega),rfl,(cR_ld (by omega) 2 (u2) rfl),rfl,hqrcd26_2,rfl,rfl,rfl,trivial⟩ rfl) (en_eq (r:=(.int .i64 0)) (by have hx:=db_flags (B:=cB B) (L:=cR L) (a:=a.toNat) (b:=b.toNat) _ _ rfl rfl; rw [show a.toNat + (b - a).toNat=b.toNat by omega] at *; simp only [hqrcd10_1,hqrcd10_2,hqrcd10_3,hqrcd24_1,hqrcd26_1,hqrcd26_2,Bool.true_and,Bool.false_and,Bool.or_false,Bool.false_or,Bool.or_true,Bool.true_or] at hx; first | rw [cdE_ok hz (by omega) (clB_true.1 hx.symm)] | rw [cdE_sum hz (by omega) (clB_false hx.symm)]) (en_ret (v:=(.v (.int .i64 (.ofNat 0)))) (by kernel_rfl) rfl))
  ·skip
   have ghqrcd26_2:=lF hqrcd26_2
   rcases bE (clB (allR (cB B) a.toNat (a.toNat + (b - a).toNat))) with hqrcd26_3 | hqrcd26_3
   ·skip
    rcases bE (ltI (intAt (cR L) (b.toNat * 2 + 1)) (intAt (cR L) (a.toNat * 2 + 0))) with hqrcd26_4 | hqrcd26_4
    ·skip
     have ghqrcd26_4:=lT hqrcd26_4
     exact gL isR_e (gT cm (known_rcl) 200 (T':=q15_21) (e:=.ret) (ps:=[clB (allF (cB B) a.toNat (a.toNat + (b - a).toNat))=true,true=true,true=true,true=true,0≤a,a.toNat < L.length,true=true,a.toNat * 2 + 1 < (cR L).length,true=true,loadL pg (cR L) (a.toNat * 2 + 1) 2=some (.v (.int .i64 (intAt (cR L) (a.toNat * 2 + 1)))),true=true,true=true,true=true,true=true,0≤b,b.toNat < L.length,true=true,b.toNat * 2 + 0 < (cR L).length,true=true,loadL pg (cR L) (b.toNat * 2 + 0) 2=some (.v (.int .i64 (intAt (cR L) (b.toNat * 2 + 0)))),true=true,ltI (intAt (cR L) (a.toNat * 2 + 1)) (intAt (cR L) (b.toNat * 2 + 0))=false,false=false,clB (allR (cB B) a.toNat (a.toNat + (b - a).toNat))=true,true=true,true=true,true=true,0≤a,a.toNat < L.length,true=true,a.toNat * 2 + 0 < (cR L).length,true=true,loadL pg (cR L) (a.toNat * 2 + 0) 2=some (.v (.int .i64 (intAt (cR L) (a.toNat * 2 + 0)))),true=true,true=true,true=true,true=true,0≤b,b.toNat < L.length,true=true,b.toNat * 2 + 1 < (cR L).length,true=true,loadL pg (cR L) (b.toNat * 2 + 1) 2=some (.v (.int .i64 (intAt (cR L) (b.toNat * 2 + 1)))),true=true,false=false,ltI (intAt (cR L) (b.toNat * 2 + 1)) (intAt (cR L) (a.toNat * 2 + 0))=true]) [.go,.go,.b true,.go,.b true,.go,.b true,.go,.b true,.nat,.b true,.sym,.b true,.sym,.b true,.go,.b true,.go,.b true,.go,.b true,.nat,.b true,.sym,.b true,.sym,.b true,.go,.go,.go,.b false,.go,.b false,.go,.b true,.go,.b true,.go,.b true,.go,.b true,.nat,.b true,.sym,.b true,.sym,.b true,.go,.b true,.go,.b true,.go,.b true,.nat,.b true,.sym,.b true,.sym,.b true,.go,.b false,.go,.go,.b true,.go] (by kernel_rfl) (by kernel_rfl) ⟨hqrcd26_1,rfl,rfl,rfl,(by omega),(by omega),rfl,(by omega),rfl,(cR_ld (by omega) 2 (u2) rfl),rfl,rfl,rfl,rfl,(by omega),(by omega),rfl,(by omega),rfl,(cR_ld (by omega) 2 (u2) rfl),rfl,hqrcd26_2,rfl,hqrcd26_3,rfl,rfl,rfl,(by omega),(by omega),rfl,(by omega),rfl,(cR_ld (by omega) 2 (u2) rfl),rfl,rfl,rfl,rfl,(by omega),(by omega),rfl,(by omega),rfl,(cR_ld (by omega) 2 (u2) rfl),rfl,rfl,hqrcd26_4,trivial⟩ rfl) (en_eq (r:=(.int .i64 0)) (by have hx:=db_flags (B:=cB B) (L:=cR L) (a:=a.toNat) (b:=b.toNat) _ _ rfl rfl; rw [show a.toNat + (b - a).toNat=b.toNat by omega] at *; simp only [hqrcd10_1,hqrcd10_2,hqrcd10_3,hqrcd24_1,hqrcd26_1,hqrcd26_2,hqrcd26_3,hqrcd26_4,Bool.true_and,Bool.false_and,Bool.or_false,Bool.false_or,Bool.or_true,Bool.true_or] at hx; first | rw [cdE_ok hz (by omega) (clB_true.1 hx.symm)] | rw [cdE_sum hz (by omega) (clB_false hx.symm)]) (en_ret (v:=(.v (.int .i64 (.ofNat 0)))) (by kernel_rfl) rfl))
    ·skip
     have ghqrcd26_4:=lF hqrcd26_4
     exact gL isR_e (gT cm (known_rcl) 200 (T':=q15_19) (e:=.ret) (ps:=[clB (allF (cB B) a.toNat (a.toNat + (b - a).toNat))=true,true=true,true=true,true=true,0≤a,a.toNat < L.length,true=true,a.toNat * 2 + 1 < (cR L).length,true=true,loadL pg (cR L) (a.toNat * 2 + 1) 2=some (.v (.int .i64 (intAt (cR L) (a.toNat * 2 + 1)))),true=true,true=true,true=true,true=true,0≤b,b.toNat < L.length,true=true,b.toNat * 2 + 0 < (cR L).length,true=true,loadL pg (cR L) (b.toNat * 2 + 0) 2=some (.v (.int .i64 (intAt (cR L) (b.toNat * 2 + 0)))),true=true,ltI (intAt (cR L) (a.toNat * 2 + 1)) (intAt (cR L) (b.toNat * 2 + 0))=false,false=false,clB (allR (cB B) a.toNat (a.toNat + (b - a).toNat))=true,true=true,true=true,true=true,0≤a,a.toNat < L.length,true=true,a.toNat * 2 + 0 < (cR L).length,true=true,loadL pg (cR L) (a.toNat * 2 + 0) 2=some (.v (.int .i64 (intAt (cR L) (a.toNat * 2 + 0)))),true=true,true=true,true=true,true=true,0≤b,b.toNat < L.length,true=true,b.toNat * 2 + 1 < (cR L).length,true=true,loadL pg (cR L) (b.toNat * 2 + 1) 2=some (.v (.int .i64 (intAt (cR L) (b.toNat * 2 + 1)))),true=true,false=false,ltI (intAt (cR L) (b.toNat * 2 + 1)) (intAt (cR L) (a.toNat * 2 + 0))=false]) [.go,.go,.b true,.go,.b true,.go,.b true,.go,.b true,.nat,.b true,.sym,.b true,.sym,.b true,.go,.b true,.go,.b true,.go,.b true,.nat,.b true,.sym,.b true,.sym,.b true,.go,.go,.go,.b false,.go,.b false,.go,.b true,.go,.b true,.go,.b true,.go,.b true,.nat,.b true,.sym,.b true,.sym,.b true,.go,.b true,.go,.b true,.go,.b true,.nat,.b true,.sym,.b true,.sym,.b true,.go,.b false,.go,.go,.b false,.go] (by kernel_rfl) (by kernel_rfl) ⟨hqrcd26_1,rfl,rfl,rfl,(by omega),(by omega),rfl,(by omega),rfl,(cR_ld (by omega) 2 (u2) rfl),rfl,rfl,rfl,rfl,(by omega),(by omega),rfl,(by omega),rfl,(cR_ld (by omega) 2 (u2) rfl),rfl,hqrcd26_2,rfl,hqrcd26_3,rfl,rfl,rfl,(by omega),(by omega),rfl,(by omega),rfl,(cR_ld (by omega) 2 (u2) rfl),rfl,rfl,rfl,rfl,(by omega),(by omega),rfl,(by omega),rfl,(cR_ld (by omega) 2 (u2) rfl),rfl,rfl,hqrcd26_4,trivial⟩ rfl) (en_eq (r:=(.int .i64 14)) (by have hx:=db_flags (B:=cB B) (L:=cR L) (a:=a.toNat) (b:=b.toNat) _ _ rfl rfl; rw [show a.toNat + (b - a).toNat=b.toNat by omega] at *; simp only [hqrcd10_1,hqrcd10_2,hqrcd10_3,hqrcd24_1,hqrcd26_1,hqrcd26_2,hqrcd26_3,hqrcd26_4,Bool.true_and,Bool.false_and,Bool.or_false,Bool.false_or,Bool.or_true,Bool.true_or] at hx; first | rw [cdE_ok hz (by omega) (clB_true.1 hx.symm)] | rw [cdE_sum hz (by omega) (clB_false hx.symm)]) (en_ret (v:=(.v (.int .i64 (.ofNat 14)))) (by kernel_rfl) rfl))
   ·skip
    exact gL isR_e (gT cm (known_rcl) 200 (T':=q15_19) (e:=.ret) (ps:=[clB (allF (cB B) a.toNat (a.toNat + (b - a).toNat))=true,true=true,true=true,true=true,0≤a,a.toNat < L.length,true=true,a.toNat * 2 + 1 < (cR L).length,true=true,loadL pg (cR L) (a.toNat * 2 + 1) 2=some (.v (.int .i64 (intAt (cR L) (a.toNat * 2 + 1)))),true=true,true=true,true=true,true=true,0≤b,b.toNat < L.length,true=true,b.toNat * 2 + 0 < (cR L).length,true=true,loadL pg (cR L) (b.toNat * 2 + 0) 2=some (.v (.int .i64 (intAt (cR L) (b.toNat * 2 + 0)))),true=true,ltI (intAt (cR L) (a.toNat * 2 + 1)) (intAt (cR L) (b.toNat * 2 + 0))=false,false=false,clB (allR (cB B) a.toNat (a.toNat + (b - a).toNat))=false,false=false,false=false,false=false,false=false,false=false,false=false,false=false,false=false,false=false,false=false,false=false,false=false,false=false,false=false]) [.go,.go,.b true,.go,.b true,.go,.b true,.go,.b true,.nat,.b true,.sym,.b true,.sym,.b true,.go,.b true,.go,.b true,.go,.b true,.nat,.b true,.sym,.b true,.sym,.b true,.go,.go,.go,.b false,.go,.b false,.go,.b false,.b false,.b false,.b false,.b false,.b false,.b false,.b false,.b false,.b false,.b false,.b false,.b false,.b false,.go,.go,.b false,.go] (by kernel_rfl) (by kernel_rfl) ⟨hqrcd26_1,rfl,rfl,rfl,(by omega),(by omega),rfl,(by omega),rfl,(cR_ld (by omega) 2 (u2) rfl),rfl,rfl,rfl,rfl,(by omega),(by omega),rfl,(by omega),rfl,(cR_ld (by omega) 2 (u2) rfl),rfl,hqrcd26_2,rfl,hqrcd26_3,rfl,rfl,rfl,rfl,rfl,rfl,rfl,rfl,rfl,rfl,rfl,rfl,rfl,rfl,trivial⟩ rfl) (en_eq (r:=(.int .i64 14)) (by have hx:=db_flags (B:=cB B) (L:=cR L) (a:=a.toNat) (b:=b.toNat) _ _ rfl rfl; rw [show a.toNat + (b - a).toNat=b.toNat by omega] at *; simp only [hqrcd10_1,hqrcd10_2,hqrcd10_3,hqrcd24_1,hqrcd26_1,hqrcd26_2,hqrcd26_3,Bool.true_and,Bool.false_and,Bool.or_false,Bool.false_or,Bool.or_true,Bool.true_or] at hx; first | rw [cdE_ok hz (by omega) (clB_true.1 hx.symm)] | rw [cdE_sum hz (by omega) (clB_false hx.symm)]) (en_ret (v:=(.v (.int .i64 (.ofNat 14)))) (by kernel_rfl) rfl))
 ·skip
  rcases bE (clB (allR (cB B) a.toNat (a.toNat + (b - a).toNat))) with hqrcd26_5 | hqrcd26_5
  ·skip
   rcases bE (ltI (intAt (cR L) (b.toNat * 2 + 1)) (intAt (cR L) (a.toNat * 2 + 0))) with hqrcd26_6 | hqrcd26_6
   ·skip
    have ghqrcd26_6:=lT hqrcd26_6
    exact gL isR_e (gT cm (known_rcl) 200 (T':=q15_21) (e:=.ret) (ps:=[clB (allF (cB B) a.toNat (a.toNat + (b - a).toNat))=false,false=false,false=false,false=false,false=false,false=false,false=false,false=false,false=false,false=false,false=false,false=false,false=false,false=false,false=false,clB (allR (cB B) a.toNat (a.toNat + (b - a).toNat))=true,true=true,true=true,true=true,0≤a,a.toNat < L.length,true=true,a.toNat * 2 + 0 < (cR L).length,true=true,loadL pg (cR L) (a.toNat * 2 + 0) 2=some (.v (.int .i64 (intAt (cR L) (a.toNat * 2 + 0)))),true=true,true=true,true=true,true=true,0≤b,b.toNat < L.length,true=true,b.toNat * 2 + 1 < (cR L).length,true=true,loadL pg (cR L) (b.toNat * 2 + 1) 2=some (.v (.int .i64 (intAt (cR L) (b.toNat * 2 + 1)))),true=true,false=false,ltI (intAt (cR L) (b.toNat * 2 + 1)) (intAt (cR L) (a.toNat * 2 + 0))=true]) [.go,.go,.b false,.b false,.b false,.b false,.b false,.b false,.b false,.b false,.b false,.b false,.b false,.b false,.b false,.go,.go,.b false,.go,.b false,.go,.b true,.go,.b true,.go,.b true,.go,.b true,.nat,.b true,.sym,.b true,.sym,.b true,.go,.b true,.go,.b true,.go,.b true,.nat,.b true,.sym,.b true,.sym,.b true,.go,.b false,.go,.go,.b true,.go] (by kernel_rfl) (by kernel_rfl) ⟨hqrcd26_1,rfl,rfl,rfl,rfl,rfl,rfl,rfl,rfl,rfl,rfl,rfl,rfl,rfl,rfl,hqrcd26_5,rfl,rfl,rfl,(by omega),(by omega),rfl,(by omega),rfl,(cR_ld (by omega) 2 (u2) rfl),rfl,rfl,rfl,rfl,(by omega),(by omega),rfl,(by omega),rfl,(cR_ld (by omega) 2 (u2) rfl),rfl,rfl,hqrcd26_6,trivial⟩ rfl) (en_eq (r:=(.int .i64 0)) (by have hx:=db_flags (B:=cB B) (L:=cR L) (a:=a.toNat) (b:=b.toNat) _ _ rfl rfl; rw [show a.toNat + (b - a).toNat=b.toNat by omega] at *; simp only [hqrcd10_1,hqrcd10_2,hqrcd10_3,hqrcd24_1,hqrcd26_1,hqrcd26_5,hqrcd26_6,Bool.true_and,Bool.false_and,Bool.or_false,Bool.false_or,Bool.or_true,Bool.true_or] at hx; first | rw [cdE_ok hz (by omega) (clB_true.1 hx.symm)] | rw [cdE_sum hz (by omega) (clB_false hx.symm)]) (en_ret (v:=(.v (.int .i64 (.ofNat 0)))) (by kernel_rfl) rfl))
   ·skip
    have ghqrcd26_6:=lF hqrcd26_6
    exact gL isR_e (gT cm (known_rcl) 200 (T':=q15_19) (e:=.ret) (ps:=[clB (allF (cB B) a.toNat (a.toNat + (b - a).toNat))=false,false=false,false=false,false=false,false=false,false=false,false=false,false=false,false=false,false=false,false=false,false=false,false=false,false=false,false=false,clB (allR (cB B) a.toNat (a.toNat + (b - a).toNat))=true,true=true,true=true,true=true,0≤a,a.toNat < L.length,true=true,a.toNat * 2 + 0 < (cR L).length,true=true,loadL pg (cR L) (a.toNat * 2 + 0) 2=some (.v (.int .i64 (intAt (cR L) (a.toNat * 2 + 0)))),true=true,true=true,true=true,true=true,0≤b,b.toNat < L.length,true=true,b.toNat * 2 + 1 < (cR L).length,true=true,loadL pg (cR L) (b.toNat * 2 + 1) 2=some (.v (.int .i64 (intAt (cR L) (b.toNat * 2 + 1)))),true=true,false=false,ltI (intAt (cR L) (b.toNat * 2 + 1)) (intAt (cR L) (a.toNat * 2 + 0))=false]) [.go,.go,.b false,.b false,.b false,.b false,.b false,.b false,.b false,.b false,.b false,.b false,.b false,.b false,.b false,.go,.go,.b false,.go,.b false,.go,.b true,.go,.b true,.go,.b true,.go,.b true,.nat,.b true,.sym,.b true,.sym,.b true,.go,.b true,.go,.b true,.go,.b true,.nat,.b true,.sym,.b true,.sym,.b true,.go,.b false,.go,.go,.b false,.go] (by kernel_rfl) (by kernel_rfl) ⟨hqrcd26_1,rfl,rfl,rfl,rfl,rfl,rfl,rfl,rfl,rfl,rfl,rfl,rfl,rfl,rfl,hqrcd26_5,rfl,rfl,rfl,(by omega),(by omega),rfl,(by omega),rfl,(cR_ld (by omega) 2 (u2) rfl),rfl,rfl,rfl,rfl,(by omega),(by omega),rfl,(by omega),rfl,(cR_ld (by omega) 2 (u2) rfl),rfl,rfl,hqrcd26_6,trivial⟩ rfl) (en_eq (r:=(.int .i64 14)) (by have hx:=db_flags (B:=cB B) (L:=cR L) (a:=a.toNat) (b:=b.toNat) _ _ rfl rfl; rw [show a.toNat + (b - a).toNat=b.toNat by omega] at *; simp only [hqrcd10_1,hqrcd10_2,hqrcd10_3,hqrcd24_1,hqrcd26_1,hqrcd26_5,hqrcd26_6,Bool.true_and,Bool.false_and,Bool.or_false,Bool.false_or,Bool.or_true,Bool.true_or] at hx; first | rw [cdE_ok hz (by omega) (clB_true.1 hx.symm)] | rw [cdE_sum hz (by omega) (clB_false hx.symm)]) (en_ret (v:=(.v (.int .i64 (.ofNat 14)))) (by kernel_rfl) rfl))
  ·skip
   exact gL isR_e (gT cm (known_rcl) 200 (T':=q15_19) (e:=.ret) (ps:=[clB (allF (cB B) a.toNat (a.toNat + (b - a).toNat))=false,false=false,false=false,false=false,false=false,false=false,false=false,false=false,false=false,false=false,false=false,false=false,false=false,false=false,false=false,clB (allR (cB B) a.toNat (a.toNat + (b - a).toNat))=false,false=false,false=false,false=false,false=false,false=false,false=false,false=false,false=false,false=false,false=false,false=false,false=false,false=false,false=false]) [.go,.go,.b false,.b false,.b false,.b false,.b false,.b false,.b false,.b false,.b false,.b false,.b false,.b false,.b false,.go,.go,.b false,.go,.b false,.go,.b false,.b false,.b false,.b false,.b false,.b false,.b false,.b false,.b false,.b false,.b false,.b false,.b false,.b false,.go,.go,.b false,.go] (by kernel_rfl) (by kernel_rfl) ⟨hqrcd26_1,rfl,rfl,rfl,rfl,rfl,rfl,rfl,rfl,rfl,rfl,rfl,rfl,rfl,rfl,hqrcd26_5,rfl,rfl,rfl,rfl,rfl,rfl,rfl,rfl,rfl,rfl,rfl,rfl,rfl,rfl,trivial⟩ rfl) (en_eq (r:=(.int .i64 14)) (by have hx:=db_flags (B:=cB B) (L:=cR L) (a:=a.toNat) (b:=b.toNat) _ _ rfl rfl; rw [show a.toNat + (b - a).toNat=b.toNat by omega] at *; simp only [hqrcd10_1,hqrcd10_2,hqrcd10_3,hqrcd24_1,hqrcd26_1,hqrcd26_5,Bool.true_and,Bool.false_and,Bool.or_false,Bool.false_or,Bool.or_true,Bool.true_or] at hx; first | rw [cdE_ok hz (by omega) (clB_true.1 hx.symm)] | rw [cdE_sum hz (by omega) (clB_false hx.symm)]) (en_ret (v:=(.v (.int .i64 (.ofNat 14)))) (by kernel_rfl) rfl))
theorem rcd_23 (ya yl yf yw:Value) (A:List Int) (L:PR) (B:List Bool) (W:List Int) (a b:Int) (hqrcd7_1:(eqI (clE (cI A) A.length (cR L) L.length B.length (cI W) W.length) 0)=true) (hqrcd10_1:(ltI a 0)=false) (hqrcd10_2:(ltI b A.length)=true) (hqrcd10_3:(ltI a b)=true) (i:Nat) (hi1:i≤(b - a).toNat) (hi2:True) (w:World):Goes pg 86 rcdK22 (⟨[(1,(.v (.int .i64 (a)))),(2,(.v (.int .i64 (b)))),(3,(.ptr 0 0)),(7,(.v (.bool (clB (allF (cB B) a.toNat (a.toNat + i)))))),(8,(.v (.bool (clB (allR (cB B) a.toNat (a.toNat + i)))))),(9,(.v (.int .i64 (a + ((i:Nat):Int)))))],[],1,[(q15_11 A B L W ya yf yl yw)]⟩) w (StepC pg 86 0 (fun i:{i:Nat // i≤(b - a).toNat∧True}=>⟨[(1,(.v (.int .i64 (a)))),(2,(.v (.int .i64 (b)))),(3,(.ptr 0 0)),(7,(.v (.bool (clB (allF (cB B) a.toNat (a.toNat + i.1)))))),(8,(.v (.bool (clB (allR (cB B) a.toNat (a.toNat + i.1)))))),(9,(.v (.int .i64 (a + ((i.1:Nat):Int)))))],[],1,[(q15_11 A B L W ya yf yl yw)]⟩) (fun i:{i:Nat // i≤(b - a).toNat∧True}=>(b - a).toNat - i.1) rcdK15 w (OutR pg Try.f24 86 (.int .i64 (cdE (cI A) A.length (cR L) L.length (cB B) B.length (cI W) W.length a b)) w) (⟨i,hi1,hi2⟩:{i:Nat // i≤(b - a).toNat∧True})):=by
 obtain ⟨hcl_A,hcl_L,hcl_B,hcl_W⟩:=hcZ15 A B L W
 have ghqrcd7_1:=eqI_true hqrcd7_1
 have hz:=ghqrcd7_1
 obtain ⟨hn,ha,he,hl,hw⟩:=clE_zero hz
 have he2:=he
 unfold eqP degI at he2
 have ghqrcd10_1:=lF hqrcd10_1
 have ghqrcd10_2:=lT hqrcd10_2
 have ghqrcd10_3:=lT hqrcd10_3
 have hk:(a + ((i:Nat):Int)).toNat=a.toNat + i:=by omega
 rcases bE (ltI (a + ((i:Nat):Int)) b) with hqrcd24_1 | hqrcd24_1
 ·skip
  have ghqrcd24_1:=lT hqrcd24_1
  rcases bE (clB (allF (cB B) a.toNat (a.toNat + i))) with hqrcd24_2 | hqrcd24_2
  ·skip
   rcases bE (clB (allR (cB B) a.toNat (a.toNat + i))) with hqrcd24_3 | hqrcd24_3
   ·skip
    exact gL isN_e (gT cm (known_rcl) 200 (T':=(q15_1 A B L W a b i ya yf yl yw)) (e:=.normal) (ps:=[ltI (a + ((i:Nat):Int)) b=true,clB (allF (cB B) a.toNat (a.toNat + i))=true,true=true,true=true,true=true,0≤a + ((i:Nat):Int),(a + ((i:Nat):Int)).toNat < B.length,true=true,loadL pg (cB B) ((a + ((i:Nat):Int)).toNat * 1) 4=some (AV.v (Value.bool (boolAt (cB B) ((a + ((i:Nat):Int)).toNat * 1)))),clB (allR (cB B) a.toNat (a.toNat + i))=true,true=true,true=true,true=true,0≤a + ((i:Nat):Int),(a + ((i:Nat):Int)).toNat < B.length,true=true,loadL pg (cB B) ((a + ((i:Nat):Int)).toNat * 1) 4=some (AV.v (Value.bool (boolAt (cB B) ((a + ((i:Nat):Int)).toNat * 1)))),true=true,inR .i64 (a + ((i:Nat):Int) + 1)]) [.go,.go,.go,.b true,.go,.go,.b true,.go,.b true,.go,.b true,.go,.b true,.nat,.b true,.sym,.go,.go,.go,.go,.b true,.go,.b true,.go,.b true,.go,.b true,.nat,.b true,.sym,.b true,.go,.go,.go,.go,.go,.go] (by kernel_rfl) (by kernel_rfl) ⟨hqrcd24_1,hqrcd24_2,rfl,rfl,rfl,(by omega),(by omega),rfl,(cB_ld (by omega) 4 (Try.underlying4) rfl),hqrcd24_3,rfl,rfl,rfl,(by omega),(by omega),rfl,(cB_ld (by omega) 4 (Try.underlying4) rfl),rfl,(iRZ15 (by omega) (by omega)),trivial⟩ rfl) (en_on (⟨i + 1,by omega,trivial⟩) (by show (b - a).toNat - (i + 1) < (b - a).toNat - i; omega) (show ((q15_1 A B L W a b i ya yf yl yw):Ev.Lit)=(q15_2 A B L W a b i ya yf yl yw) from by have hz_:=congr (congr (congrArg (fun (xq0:Ev.AV) (xq1:Ev.AV) (xq2:Ev.AV)=>(⟨[(1,(.v (.int .i64 (a)))),(2,(.v (.int .i64 (b)))),(3,(.ptr 0 0)),(7,xq1),(8,xq2),(9,xq0)],[],1,[(q15_11 A B L W ya yf yl yw)]⟩:Ev.Lit)) (congrArg (fun z=>Ev.AV.v (.int .i64 z)) (show ((a + ((i:Nat):Int) + 1):Int)=(a + (((i + 1):Nat):Int)) from by omega))) (congrArg (fun z=>Ev.AV.v (.bool z)) (show ((boolAt (cB B) ((a + ((i:Nat):Int)).toNat * 1)):Bool)=(clB (allF (cB B) a.toNat (a.toNat + (i + 1)))) from by exact clB_b (by rw [show a.toNat + (i + 1)=(a.toNat + i) + 1 by omega,allF_next (by omega),hk]; first | exact ⟨fun q=>⟨clB_true.1 hqrcd24_2,q⟩,fun q=>q.2⟩ | (rw [Bool.not_eq_true']; exact ⟨fun q=>⟨clB_true.1 hqrcd24_2,q⟩,fun q=>q.2⟩))))) (congrArg (fun z=>Ev.AV.v (.bool z)) (show ((!boolAt (cB B) ((a + ((i:Nat):Int)).toNat * 1)):Bool)=(clB (allR (cB B) a.toNat (a.toNat + (i + 1)))) from by exact clB_b (by rw [show a.toNat + (i + 1)=(a.toNat + i) + 1 by omega,allR_next (by omega),hk]; first | exact ⟨fun q=>⟨clB_true.1 hqrcd24_3,q⟩,fun q=>q.2⟩ | (rw [Bool.not_eq_true']; exact ⟨fun q=>⟨clB_true.1 hqrcd24_3,q⟩,fun q=>q.2⟩)))); exact hz_))
   ·skip
    exact gL isN_e (gT cm (known_rcl) 200 (T':=(q15_5 A B L W a b i ya yf yl yw)) (e:=.normal) (ps:=[ltI (a + ((i:Nat):Int)) b=true,clB (allF (cB B) a.toNat (a.toNat + i))=true,true=true,true=true,true=true,0≤a + ((i:Nat):Int),(a + ((i:Nat):Int)).toNat < B.length,true=true,loadL pg (cB B) ((a + ((i:Nat):Int)).toNat * 1) 4=some (AV.v (Value.bool (boolAt (cB B) ((a + ((i:Nat):Int)).toNat * 1)))),clB (allR (cB B) a.toNat (a.toNat + i))=false,false=false,false=false,false=false,false=false,false=false,inR .i64 (a + ((i:Nat):Int) + 1)]) [.go,.go,.go,.b true,.go,.go,.b true,.go,.b true,.go,.b true,.go,.b true,.nat,.b true,.sym,.go,.go,.go,.go,.b false,.b false,.b false,.b false,.b false,.b false,.go,.go,.go,.go,.go] (by kernel_rfl) (by kernel_rfl) ⟨hqrcd24_1,hqrcd24_2,rfl,rfl,rfl,(by omega),(by omega),rfl,(cB_ld (by omega) 4 (Try.underlying4) rfl),hqrcd24_3,rfl,rfl,rfl,rfl,rfl,(iRZ15 (by omega) (by omega)),trivial⟩ rfl) (en_on (⟨i + 1,by omega,trivial⟩) (by show (b - a).toNat - (i + 1) < (b - a).toNat - i; omega) (show ((q15_5 A B L W a b i ya yf yl yw):Ev.Lit)=(q15_2 A B L W a b i ya yf yl yw) from by have hz_:=congr (congr (congrArg (fun (xq0:Ev.AV) (xq1:Ev.AV) (xq2:Ev.AV)=>(⟨[(1,(.v (.int .i64 (a)))),(2,(.v (.int .i64 (b)))),(3,(.ptr 0 0)),(7,xq1),(8,xq2),(9,xq0)],[],1,[(q15_11 A B L W ya yf yl yw)]⟩:Ev.Lit)) (congrArg (fun z=>Ev.AV.v (.int .i64 z)) (show ((a + ((i:Nat):Int) + 1):Int)=(a + (((i + 1):Nat):Int)) from by omega))) (congrArg (fun z=>Ev.AV.v (.bool z)) (show ((boolAt (cB B) ((a + ((i:Nat):Int)).toNat * 1)):Bool)=(clB (allF (cB B) a.toNat (a.toNat + (i + 1)))) from by exact clB_b (by rw [show a.toNat + (i + 1)=(a.toNat + i) + 1 by omega,allF_next (by omega),hk]; first | exact ⟨fun q=>⟨clB_true.1 hqrcd24_2,q⟩,fun q=>q.2⟩ | (rw [Bool.not_eq_true']; exact ⟨fun q=>⟨clB_true.1 hqrcd24_2,q⟩,fun q=>q.2⟩))))) (congrArg (fun z=>Ev.AV.v (.bool z)) (show (.false:Bool)=(clB (allR (cB B) a.toNat (a.toNat + (i + 1)))) from by exact (clB_no (fun q=>clB_false hqrcd24_3 ((allR_next (by omega)).1 (show allR _ _ (a.toNat + i + 1) from q)).1)).symm)); exact hz_))
  ·skip
   rcases bE (clB (allR (cB B) a.toNat (a.toNat + i))) with hqrcd24_4 | hqrcd24_4
   ·skip
    exact gL isN_e (gT cm (known_rcl) 200 (T':=(q15_4 A B L W a b i ya yf yl yw)) (e:=.normal) (ps:=[ltI (a + ((i:Nat):Int)) b=true,clB (allF (cB B) a.toNat (a.toNat + i))=false,false=false,false=false,false=false,false=false,clB (allR (cB B) a.toNat (a.toNat + i))=true,true=true,true=true,true=true,0≤a + ((i:Nat):Int),(a + ((i:Nat):Int)).toNat < B.length,true=true,loadL pg (cB B) ((a + ((i:Nat):Int)).toNat * 1) 4=some (AV.v (Value.bool (boolAt (cB B) ((a + ((i:Nat):Int)).toNat * 1)))),true=true,inR .i64 (a + ((i:Nat):Int) + 1)]) [.go,.go,.go,.b true,.go,.go,.b false,.b false,.b false,.b false,.b false,.go,.go,.go,.go,.b true,.go,.b true,.go,.b true,.go,.b true,.nat,.b true,.sym,.b true,.go,.go,.go,.go,.go,.go] (by kernel_rfl) (by kernel_rfl) ⟨hqrcd24_1,hqrcd24_2,rfl,rfl,rfl,rfl,hqrcd24_4,rfl,rfl,rfl,(by omega),(by omega),rfl,(cB_ld (by omega) 4 (Try.underlying4) rfl),rfl,(iRZ15 (by omega) (by omega)),trivial⟩ rfl) (en_on (⟨i + 1,by omega,trivial⟩) (by show (b - a).toNat - (i + 1) < (b - a).toNat - i; omega) (show ((q15_4 A B L W a b i ya yf yl yw):Ev.Lit)=(q15_2 A B L W a b i ya yf yl yw) from by have hz_:=congr (congr (congrArg (fun (xq0:Ev.AV) (xq1:Ev.AV) (xq2:Ev.AV)=>(⟨[(1,(.v (.int .i64 (a)))),(2,(.v (.int .i64 (b)))),(3,(.ptr 0 0)),(7,xq1),(8,xq2),(9,xq0)],[],1,[(q15_11 A B L W ya yf yl yw)]⟩:Ev.Lit)) (congrArg (fun z=>Ev.AV.v (.int .i64 z)) (show ((a + ((i:Nat):Int) + 1):Int)=(a + (((i + 1):Nat):Int)) from by omega))) (congrArg (fun z=>Ev.AV.v (.bool z)) (show (.false:Bool)=(clB (allF (cB B) a.toNat (a.toNat + (i + 1)))) from by exact (clB_no (fun q=>clB_false hqrcd24_2 ((allF_next (by omega)).1 (show allF _ _ (a.toNat + i + 1) from q)).1)).symm))) (congrArg (fun z=>Ev.AV.v (.bool z)) (show ((!boolAt (cB B) ((a + ((i:Nat):Int)).toNat * 1)):Bool)=(clB (allR (cB B) a.toNat (a.toNat + (i + 1)))) from by exact clB_b (by rw [show a.toNat + (i + 1)=(a.toNat + i) + 1 by omega,allR_next (by omega),hk]; first | exact ⟨fun q=>⟨clB_true.1 hqrcd24_4,q⟩,fun q=>q.2⟩ | (rw [Bool.not_eq_true']; exact ⟨fun q=>⟨clB_true.1 hqrcd24_4,q⟩,fun q=>q.2⟩)))); exact hz_))
   ·skip
    exact gL isN_e (gT cm (known_rcl) 200 (T':=(q15_6 A B L W a b i ya yf yl yw)) (e:=.normal) (ps:=[ltI (a + ((i:Nat):Int)) b=true,clB (allF (cB B) a.toNat (a.toNat + i))=false,false=false,false=false,false=false,false=false,clB (allR (cB B) a.toNat (a.toNat + i))=false,false=false,false=false,false=false,false=false,false=false,inR .i64 (a + ((i:Nat):Int) + 1)]) [.go,.go,.go,.b true,.go,.go,.b false,.b false,.b false,.b false,.b false,.go,.go,.go,.go,.b false,.b false,.b false,.b false,.b false,.b false,.go,.go,.go,.go,.go] (by kernel_rfl) (by kernel_rfl) ⟨hqrcd24_1,hqrcd24_2,rfl,rfl,rfl,rfl,hqrcd24_4,rfl,rfl,rfl,rfl,rfl,(iRZ15 (by omega) (by omega)),trivial⟩ rfl) (en_on (⟨i + 1,by omega,trivial⟩) (by show (b - a).toNat - (i + 1) < (b - a).toNat - i; omega) (show ((q15_6 A B L W a b i ya yf yl yw):Ev.Lit)=(q15_2 A B L W a b i ya yf yl yw) from by have hz_:=congr (congr (congrArg (fun (xq0:Ev.AV) (xq1:Ev.AV) (xq2:Ev.AV)=>(⟨[(1,(.v (.int .i64 (a)))),(2,(.v (.int .i64 (b)))),(3,(.ptr 0 0)),(7,xq1),(8,xq2),(9,xq0)],[],1,[(q15_11 A B L W ya yf yl yw)]⟩:Ev.Lit)) (congrArg (fun z=>Ev.AV.v (.int .i64 z)) (show ((a + ((i:Nat):Int) + 1):Int)=(a + (((i + 1):Nat):Int)) from by omega))) (congrArg (fun z=>Ev.AV.v (.bool z)) (show (.false:Bool)=(clB (allF (cB B) a.toNat (a.toNat + (i + 1)))) from by exact (clB_no (fun q=>clB_false hqrcd24_2 ((allF_next (by omega)).1 (show allF _ _ (a.toNat + i + 1) from q)).1)).symm))) (congrArg (fun z=>Ev.AV.v (.bool z)) (show (.false:Bool)=(clB (allR (cB B) a.toNat (a.toNat + (i + 1)))) from by exact (clB_no (fun q=>clB_false hqrcd24_4 ((allR_next (by omega)).1 (show allR _ _ (a.toNat + i + 1) from q)).1)).symm)); exact hz_))
 ·skip
  have ghqrcd24_1:=lF hqrcd24_1
  obtain rfl:i=(b - a).toNat:=by omega
  exact gL isX_e (gT cm (known_rcl) 200 (T':=(q15_3 A B L W a b ya yf yl yw)) (e:=.exit 0) (ps:=[ltI (a + (((b - a).toNat:Nat):Int)) b=false]) [.go,.go,.go,.b false] (by kernel_rfl) (by kernel_rfl) ⟨hqrcd24_1,trivial⟩ rfl) (en_sx (rcd_25 ya yl yf yw A L B W a b hqrcd7_1 hqrcd10_1 hqrcd10_2 hqrcd10_3 hi2 hqrcd24_1 w))
theorem rcd_21 (ya yl yf yw:Value) (A:List Int) (L:PR) (B:List Bool) (W:List Int) (a b:Int) (hqrcd7_1:(q15_15 A B L W)=true) (hqrcd10_1:(ltI a 0)=false) (hqrcd10_2:(ltI b A.length)=true) (hqrcd10_3:(ltI a b)=true) (w:World):Goes pg 86 rcdK18 ((q15_7 A B L W a b ya yf yl yw)) w (AfterN pg 86 rcdK15 w (q15_12 A B L W a b w)):=by
 obtain ⟨hcl_A,hcl_L,hcl_B,hcl_W⟩:=hcZ15 A B L W
 have ghqrcd7_1:=eqI_true hqrcd7_1
 have hz:=ghqrcd7_1
 obtain ⟨hn,ha,he,hl,hw⟩:=clE_zero hz
 have he2:=he
 unfold eqP degI at he2
 have ghqrcd10_1:=lF hqrcd10_1
 have ghqrcd10_2:=lT hqrcd10_2
 have ghqrcd10_3:=lT hqrcd10_3
 rw [show ((q15_7 A B L W a b ya yf yl yw):Ev.Lit)=⟨[(1,(.v (.int .i64 (a)))),(2,(.v (.int .i64 (b)))),(3,(.ptr 0 0)),(7,(.v (.bool (clB (allF (cB B) a.toNat (a.toNat + 0)))))),(8,(.v (.bool (clB (allR (cB B) a.toNat (a.toNat + 0)))))),(9,(.v (.int .i64 (a + ((0:Nat):Int)))))],[],1,[(q15_11 A B L W ya yf yl yw)]⟩ from by rw [clB_yes (p:=allF (cB B) a.toNat (a.toNat + 0)) (fun g h1 h2=>by omega),clB_yes (p:=allR (cB B) a.toNat (a.toNat + 0)) (fun g h1 h2=>by omega)]; simp]
 exact goes_loopA (id:=0) (by kernel_rfl) (by kernel_rfl) (fun i:{i:Nat // i≤(b - a).toNat∧True}=>⟨[(1,(.v (.int .i64 (a)))),(2,(.v (.int .i64 (b)))),(3,(.ptr 0 0)),(7,(.v (.bool (clB (allF (cB B) a.toNat (a.toNat + i.1)))))),(8,(.v (.bool (clB (allR (cB B) a.toNat (a.toNat + i.1)))))),(9,(.v (.int .i64 (a + ((i.1:Nat):Int)))))],[],1,[(q15_11 A B L W ya yf yl yw)]⟩) (fun i:{i:Nat // i≤(b - a).toNat∧True}=>(b - a).toNat - i.1) (fun i=>rcd_23 ya yl yf yw A L B W a b hqrcd7_1 hqrcd10_1 hqrcd10_2 hqrcd10_3 i.1 i.2.1 i.2.2 w) ⟨0,Nat.zero_le _,trivial⟩
theorem rcd_20 (ya yl yf yw:Value) (A:List Int) (L:PR) (B:List Bool) (W:List Int) (a b:Int) (hqrcd7_1:(q15_15 A B L W)=true) (hqrcd10_1:(ltI a 0)=false) (hqrcd10_2:(ltI b A.length)=true) (hqrcd10_3:(ltI a b)=true) (w:World):Goes pg 86 rcdK18 ((q15_7 A B L W a b ya yf yl yw)) w (AfterN pg 86 rcdK15 w (q15_12 A B L W a b w)):=by
 exact rcd_21 ya yl yf yw A L B W a b hqrcd7_1 hqrcd10_1 hqrcd10_2 hqrcd10_3 w
theorem rcd_17 (ya yl yf yw:Value) (A:List Int) (L:PR) (B:List Bool) (W:List Int) (a b:Int) (hqrcd7_1:(q15_15 A B L W)=true) (hqrcd10_1:(ltI a 0)=false) (hqrcd10_2:(ltI b A.length)=true) (hqrcd10_3:(ltI a b)=true) (w:World):Goes pg 86 rcdK16 ((q15_8 A B L W a b ya yf yl yw)) w (AfterN pg 86 rcdK15 w (q15_12 A B L W a b w)):=by
 obtain ⟨hcl_A,hcl_L,hcl_B,hcl_W⟩:=hcZ15 A B L W
 have ghqrcd7_1:=eqI_true hqrcd7_1
 have hz:=ghqrcd7_1
 obtain ⟨hn,ha,he,hl,hw⟩:=clE_zero hz
 have he2:=he
 unfold eqP degI at he2
 have ghqrcd10_1:=lF hqrcd10_1
 have ghqrcd10_2:=lT hqrcd10_2
 have ghqrcd10_3:=lT hqrcd10_3
 refine goes_seqA (by kernel_rfl) ?_
 exact gL isN_e (gT cm (known_rcl) 200 (T':=(q15_7 A B L W a b ya yf yl yw)) (e:=.normal) (ps:=[]) [.go,.go] (by kernel_rfl) (by kernel_rfl) trivial rfl) (en_n (rcd_20 ya yl yf yw A L B W a b hqrcd7_1 hqrcd10_1 hqrcd10_2 hqrcd10_3 w))
theorem rcd_14 (ya yl yf yw:Value) (A:List Int) (L:PR) (B:List Bool) (W:List Int) (a b:Int) (hqrcd7_1:(q15_15 A B L W)=true) (hqrcd10_1:(ltI a 0)=false) (hqrcd10_2:(ltI b A.length)=true) (hqrcd10_3:(ltI a b)=true) (w:World):Goes pg 86 rcdK12 ((q15_8 A B L W a b ya yf yl yw)) w (q15_12 A B L W a b w):=by
 exact goes_seqA (by kernel_rfl) (rcd_17 ya yl yf yw A L B W a b hqrcd7_1 hqrcd10_1 hqrcd10_2 hqrcd10_3 w)
theorem rcd_11 (ya yl yf yw:Value) (A:List Int) (L:PR) (B:List Bool) (W:List Int) (a b:Int) (hqrcd7_1:(q15_15 A B L W)=true) (hqrcd10_1:(ltI a 0)=false) (hqrcd10_2:(ltI b A.length)=true) (hqrcd10_3:(ltI a b)=true) (w:World):Goes pg 86 rcdK9 ((q15_9 A B L W a b ya yf yl yw)) w (q15_12 A B L W a b w):=by
 obtain ⟨hcl_A,hcl_L,hcl_B,hcl_W⟩:=hcZ15 A B L W
 have ghqrcd7_1:=eqI_true hqrcd7_1
 have hz:=ghqrcd7_1
 obtain ⟨hn,ha,he,hl,hw⟩:=clE_zero hz
 have he2:=he
 unfold eqP degI at he2
 have ghqrcd10_1:=lF hqrcd10_1
 have ghqrcd10_2:=lT hqrcd10_2
 have ghqrcd10_3:=lT hqrcd10_3
 refine goes_seqA (by kernel_rfl) ?_
 exact gL isN_e (gT cm (known_rcl) 200 (T':=(q15_8 A B L W a b ya yf yl yw)) (e:=.normal) (ps:=[]) [.go,.go] (by kernel_rfl) (by kernel_rfl) trivial rfl) (en_n (rcd_14 ya yl yf yw A L B W a b hqrcd7_1 hqrcd10_1 hqrcd10_2 hqrcd10_3 w))
theorem rcd_8 (ya yl yf yw:Value) (A:List Int) (L:PR) (B:List Bool) (W:List Int) (a b:Int) (hqrcd7_1:(eqI (clE (cI A) A.length (cR L) L.length B.length (cI W) W.length) 0)=true) (w:World):Goes pg 86 rcdK6 ((q15_9 A B L W a b ya yf yl yw)) w (OutR pg Try.f24 86 (.int .i64 (cdE (cI A) A.length (cR L) L.length (cB B) B.length (cI W) W.length a b)) w):=by
 obtain ⟨hcl_A,hcl_L,hcl_B,hcl_W⟩:=hcZ15 A B L W
 have ghqrcd7_1:=eqI_true hqrcd7_1
 have hz:=ghqrcd7_1
 obtain ⟨hn,ha,he,hl,hw⟩:=clE_zero hz
 have he2:=he
 unfold eqP degI at he2
 refine goes_seqA (by kernel_rfl) ?_
 rcases bE (ltI a 0) with hqrcd10_1 | hqrcd10_1
 ·skip
  have ghqrcd10_1:=lT hqrcd10_1
  exact gL isR_e (gT cm (known_rcl) 200 (T':=q15_20) (e:=.ret) (ps:=[ltI a 0=true,true=true,true=true,true=true,true=true,true=true,true=true,true=true,true=true]) [.go,.go,.go,.b true,.b true,.b true,.b true,.b true,.go,.go,.b true,.b true,.b true,.go,.b true,.go] (by kernel_rfl) (by kernel_rfl) ⟨hqrcd10_1,rfl,rfl,rfl,rfl,rfl,rfl,rfl,rfl,trivial⟩ rfl) (en_o (by intro h; cases h) (en_eq (r:=(.int .i64 3)) (by rw [cdE_range hz (by omega)]) (en_ret (v:=(.v (.int .i64 (.ofNat 3)))) (by kernel_rfl) rfl)))
 ·skip
  have ghqrcd10_1:=lF hqrcd10_1
  rcases bE (ltI b A.length) with hqrcd10_2 | hqrcd10_2
  ·skip
   have ghqrcd10_2:=lT hqrcd10_2
   rcases bE (ltI a b) with hqrcd10_3 | hqrcd10_3
   ·skip
    have ghqrcd10_3:=lT hqrcd10_3
    exact gL isN_e (gT cm (known_rcl) 200 (T':=(q15_9 A B L W a b ya yf yl yw)) (e:=.normal) (ps:=[ltI a 0=false,false=false,false=false,false=false,false=false,(!ltI b A.length)=false,false=false,false=false,(!ltI a b)=false]) [.go,.go,.go,.b false,.go,.b false,.go,.b false,.go,.b false,.go,.b false,.go,.go,.go,.b false,.go,.b false,.go,.b false,.go,.go,.b false] (by kernel_rfl) (by kernel_rfl) ⟨hqrcd10_1,rfl,rfl,rfl,rfl,(by rw [hqrcd10_2]; rfl),rfl,rfl,(by rw [hqrcd10_3]; rfl),trivial⟩ rfl) (en_n (rcd_11 ya yl yf yw A L B W a b hqrcd7_1 hqrcd10_1 hqrcd10_2 hqrcd10_3 w))
   ·skip
    have ghqrcd10_3:=lF hqrcd10_3
    exact gL isR_e (gT cm (known_rcl) 200 (T':=q15_20) (e:=.ret) (ps:=[ltI a 0=false,false=false,false=false,false=false,false=false,(!ltI b A.length)=false,false=false,false=false,(!ltI a b)=true]) [.go,.go,.go,.b false,.go,.b false,.go,.b false,.go,.b false,.go,.b false,.go,.go,.go,.b false,.go,.b false,.go,.b false,.go,.go,.b true,.go] (by kernel_rfl) (by kernel_rfl) ⟨hqrcd10_1,rfl,rfl,rfl,rfl,(by rw [hqrcd10_2]; rfl),rfl,rfl,(by rw [hqrcd10_3]; rfl),trivial⟩ rfl) (en_o (by intro h; cases h) (en_eq (r:=(.int .i64 3)) (by rw [cdE_range hz (by omega)]) (en_ret (v:=(.v (.int .i64 (.ofNat 3)))) (by kernel_rfl) rfl)))
  ·skip
   have ghqrcd10_2:=lF hqrcd10_2
   exact gL isR_e (gT cm (known_rcl) 200 (T':=q15_20) (e:=.ret) (ps:=[ltI a 0=false,false=false,false=false,false=false,false=false,(!ltI b A.length)=true,true=true,true=true,true=true]) [.go,.go,.go,.b false,.go,.b false,.go,.b false,.go,.b false,.go,.b false,.go,.go,.go,.b true,.b true,.b true,.go,.b true,.go] (by kernel_rfl) (by kernel_rfl) ⟨hqrcd10_1,rfl,rfl,rfl,rfl,(by rw [hqrcd10_2]; rfl),rfl,rfl,rfl,trivial⟩ rfl) (en_o (by intro h; cases h) (en_eq (r:=(.int .i64 3)) (by rw [cdE_range hz (by omega)]) (en_ret (v:=(.v (.int .i64 (.ofNat 3)))) (by kernel_rfl) rfl)))
theorem rcd_5 (ya yl yf yw:Value) (A:List Int) (L:PR) (B:List Bool) (W:List Int) (a b:Int) (w:World):Goes pg 86 rcdK3 ((q15_9 A B L W a b ya yf yl yw)) w (OutR pg Try.f24 86 (.int .i64 (cdE (cI A) A.length (cR L) L.length (cB B) B.length (cI W) W.length a b)) w):=by
 obtain ⟨hcl_A,hcl_L,hcl_B,hcl_W⟩:=hcZ15 A B L W
 refine goes_seqA (by kernel_rfl) ?_
 rcases bE (eqI (clE (cI A) A.length (cR L) L.length B.length (cI W) W.length) 0) with hqrcd7_1 | hqrcd7_1
 ·skip
  have ghqrcd7_1:=eqI_true hqrcd7_1
  have hz:=ghqrcd7_1
  obtain ⟨hn,ha,he,hl,hw⟩:=clE_zero hz
  have he2:=he
  unfold eqP degI at he2
  exact gL isN_e (gT cm (known_rcl) 200 (T':=(q15_9 A B L W a b ya yf yl yw)) (e:=.normal) (ps:=[IsLampK 1 2 1 1 (cI A) A.length (cR L) L.length (cB B) B.length (cI W) W.length,(!eqI (clE (cI A) A.length (cR L) L.length B.length (cI W) W.length) 0)=false]) [.go,.go,.b false] (by kernel_rfl) (by kernel_rfl) ⟨⟨rfl,rfl,rfl,rfl,A,L,B,W,rfl,rfl,rfl,rfl,rfl,rfl,rfl,rfl⟩,(by rw [hqrcd7_1]; rfl),trivial⟩ rfl) (en_n (rcd_8 ya yl yf yw A L B W a b hqrcd7_1 w))
 ·skip
  have ghqrcd7_1:=eqI_false hqrcd7_1
  exact gL isR_e (gT cm (known_rcl) 200 (T':=⟨[(6,(.v (.int .i64 (clE (cI A) A.length (cR L) L.length B.length (cI W) W.length))))],[],1,[]⟩) (e:=.ret) (ps:=[IsLampK 1 2 1 1 (cI A) A.length (cR L) L.length (cB B) B.length (cI W) W.length,(!eqI (clE (cI A) A.length (cR L) L.length B.length (cI W) W.length) 0)=true,IsLampK 1 2 1 1 (cI A) A.length (cR L) L.length (cB B) B.length (cI W) W.length]) [.go,.go,.b true,.go,.go] (by kernel_rfl) (by kernel_rfl) ⟨⟨rfl,rfl,rfl,rfl,A,L,B,W,rfl,rfl,rfl,rfl,rfl,rfl,rfl,rfl⟩,(by rw [hqrcd7_1]; rfl),⟨rfl,rfl,rfl,rfl,A,L,B,W,rfl,rfl,rfl,rfl,rfl,rfl,rfl,rfl⟩,trivial⟩ rfl) (en_o (by intro h; cases h) (en_eq (r:=(.int .i64 (clE (cI A) A.length (cR L) L.length B.length (cI W) W.length))) (by rw [cdE_lamp ghqrcd7_1]) (en_ret (v:=(.v (.int .i64 (clE (cI A) A.length (cR L) L.length B.length (cI W) W.length)))) (by kernel_rfl) rfl)))
theorem rcd_2 (ya yl yf yw:Value) (A:List Int) (L:PR) (B:List Bool) (W:List Int) (a b:Int) (w:World):Goes pg 86 rcdK1 ((q15_10 A B L W a b ya yf yl yw)) w (q15_12 A B L W a b w):=by
 obtain ⟨hcl_A,hcl_L,hcl_B,hcl_W⟩:=hcZ15 A B L W
 refine goes_seqA (by kernel_rfl) ?_
 exact gL isN_e (gT cm (known_rcl) 200 (T':=(q15_9 A B L W a b ya yf yl yw)) (e:=.normal) (ps:=[]) [.go,.go] (by kernel_rfl) (by kernel_rfl) trivial rfl) (en_n (rcd_5 ya yl yf yw A L B W a b w))
theorem rcd_g (ya yl yf yw:Value) (A:List Int) (L:PR) (B:List Bool) (W:List Int) (a b:Int):GivesA pg 24 [.agg (q15_13 A B L W ya yf yl yw),.v (.int .i64 a),.v (.int .i64 b)] (.int .i64 (q15_14 A B L W a b)) :=
 givesA_parts 86 Try.func24 (by kernel_rfl) (by kernel_rfl) (by kernel_rfl) (fun w=>goes_less (by kernel_rfl) (by kernel_rfl) (by kernel_rfl) (by kernel_rfl) (rcd_2 ya yl yf yw A L B W a b w))
end
end Go.Proofs.Ytldekgkjofgacaa
