import Derived.Test.YtldekgkjofgacaaZ7
set_option maxHeartbeats 4000000
set_option linter.all false
/- CheckTrue of the reference. -/
namespace Go.Proofs.Ytldekgkjofgacaa
open Go Ev
noncomputable section
theorem hcZ8 (A:List Int) (B:List Bool) (L:PR) (W:List Int):(cI A).length=A.length∧(cR L).length=L.length * 2∧(cB B).length=B.length∧(cI W).length=W.length:=⟨cI_len A,cR_len L,cB_len B,cI_len W⟩
theorem iRZ8 {a:Int} (h : -9223372036854775808≤a) (k:a≤9223372036854775807):inR .i64 a:=⟨h,k⟩
section
variable (A : List Int) (B : List Bool) (L : PR) (W X : List Int) (w : World) (ya yf yl yw yx : Value)
abbrev q8_8:Nat×Ev.AV:=(1,(.xl (yx) (X.length) 1 (cI X)))
abbrev q8_4:Nat×Ev.AB:=(0,(.cells [(.xl (ya) (A.length) 1 (cI A)),(.xl (yl) (L.length) 2 (cR L)),(.xl (yf) (B.length) 1 (cB B)),(.xl (yw) (W.length) 1 (cI W))] 26))
abbrev q8_1:Ev.Lit:=⟨[(q8_8 X yx),(2,(.ptr 0 0)),(7,(.v (.int .i64 (((0 + 1:Nat)):Int))))],[],1,[(q8_4 A B L W ya yf yl yw)]⟩
abbrev q8_2:Ev.Lit:=⟨[(q8_8 X yx),(2,(.ptr 0 0)),(5,(.v (.int .i64 0)))],[],1,[(q8_4 A B L W ya yf yl yw)]⟩
abbrev q8_3:Ev.Lit:=⟨[(q8_8 X yx),(2,(.ptr 0 0))],[],1,[(q8_4 A B L W ya yf yl yw)]⟩
abbrev q8_5:=(OutR pg Try.f22 105 (.int .i64 (tE (cI A) A.length (cR L) L.length (cB B) B.length (cI W) W.length (cI X) X.length)) w)
abbrev q8_6:=(eqI (clE (cI A) A.length (cR L) L.length B.length (cI W) W.length) 0)
abbrev q8_7:=(eqI X.length W.length)
end
def rtK1:Code:=bodyC Try.f22
def rtK3:Code:=tlC rtK1
def rtK5:Code:=tlC rtK3
def rtK7:Code:=tlC rtK5
def rtK9:Code:=loopC (tlC (hdC rtK7))
def rtK10:Code:=tlC rtK7
def rtK12:Code:=loopC (tlC (hdC rtK10))
def rtK13:Code:=tlC rtK10
theorem rt_14 (ya yl yf yw:Value) (A:List Int) (L:PR) (B:List Bool) (W:List Int) (yx:Value) (X:List Int) (hq4_1:(q8_6 A B L W)=true) (hq6_1:(q8_7 W X)=true) (i0:Nat) (h0a:i0≤A.length) (h0b:∀ j,j < i0→inP (cI A) (cR L) (cI X) j) (h0c:A.length≤i0) (i2:Nat) (h2a:i2≤(X.length - 1)) (h2b:∀ j,j < i2→refP (cI A) A.length (cB B) (cI X) j) (h2c:(X.length - 1)≤i2) (w:World):Goes pg 105 rtK13 (⟨[],[],1,[]⟩) w (q8_5 A B L W X w):=by
 obtain ⟨hcl_A,hcl_L,hcl_B,hcl_W⟩:=hcZ8 A B L W
 have hcl_X:=cI_len X
 have ghq4_1:=eqI_true hq4_1
 have hz:=ghq4_1
 obtain ⟨hn,ha,he,hl,hw⟩:=clE_zero hz
 have he2:=he
 unfold eqP degI at he2
 have ghq6_1:=eqI_true hq6_1
 exact goes_eqR (r:=(.int .i64 0)) (by rw [tE_ok hz (by omega) (fun j hj=>h0b j (by omega)) (fun g hg=>gap_of_ref hn ha he (fun j hj=>h2b j (by omega)) hg)]) (goes_out cm (known_rt) 200 (v:=(.v (.int .i64 (.ofNat 0)))) (ps:=[]) [.go] (by kernel_rfl) (by kernel_rfl) trivial rfl)
theorem rt_11 (ya yl yf yw:Value) (A:List Int) (L:PR) (B:List Bool) (W:List Int) (yx:Value) (X:List Int) (hq4_1:(q8_6 A B L W)=true) (hq6_1:(q8_7 W X)=true) (i0:Nat) (h0a:i0≤A.length) (h0b:∀ j,j < i0→inP (cI A) (cR L) (cI X) j) (h0c:A.length≤i0) (w:World):Goes pg 105 rtK10 ((q8_3 A B L W X ya yf yl yw yx)) w (q8_5 A B L W X w):=by
 obtain ⟨hcl_A,hcl_L,hcl_B,hcl_W⟩:=hcZ8 A B L W
 have hcl_X:=cI_len X
 have ghq4_1:=eqI_true hq4_1
 have hz:=ghq4_1
 obtain ⟨hn,ha,he,hl,hw⟩:=clE_zero hz
 have he2:=he
 unfold eqP degI at he2
 have ghq6_1:=eqI_true hq6_1
 refine goes_spineQ (ι:={i:Nat // i≤(X.length - 1)∧∀ j,j < i→refP (cI A) A.length (cB B) (cI X) j}) (T:=(fun i:{i:Nat // i≤(X.length - 1)∧∀ j,j < i→refP (cI A) A.length (cB B) (cI X) j}=>⟨[(q8_8 X yx),(2,(.ptr 0 0)),(7,(.v (.int .i64 (((i.1 + 1:Nat)):Int))))],[],1,[(q8_4 A B L W ya yf yl yw)]⟩)) (R:=(fun i:{i:Nat // i≤(X.length - 1)∧∀ j,j < i→refP (cI A) A.length (cB B) (cI X) j}=>(X.length - 1)≤i.1)) (by kernel_rfl) (goes_spine (T':=(q8_1 A B L W X ya yf yl yw yx)) (by kernel_rfl) (gT cm (known_rt) 200 (T':=(q8_1 A B L W X ya yf yl yw yx)) (e:=.normal) (ps:=[]) [.go] (by kernel_rfl) (by kernel_rfl) trivial rfl) (goes_blockstep (by kernel_rfl) (fun i:{i:Nat // i≤(X.length - 1)∧∀ j,j < i→refP (cI A) A.length (cB B) (cI X) j}=>⟨[(q8_8 X yx),(2,(.ptr 0 0)),(7,(.v (.int .i64 (((i.1 + 1:Nat)):Int))))],[],1,[(q8_4 A B L W ya yf yl yw)]⟩) (fun i:{i:Nat // i≤(X.length - 1)∧∀ j,j < i→refP (cI A) A.length (cB B) (cI X) j}=>(X.length - 1) - i.1) (fun i=>?_) ⟨0,Nat.zero_le _,(fun j hj=>by omega)⟩)) (fun ixR hxR=>goes_less (by kernel_rfl) (by kernel_rfl) (by kernel_rfl) (by kernel_rfl) (rt_14 ya yl yf yw A L B W yx X hq4_1 hq6_1 i0 h0a h0b h0c ixR.1 ixR.2.1 ixR.2.2 hxR w))
 obtain ⟨i,hi1,hi2⟩:=i
 have e2:(((i + 1:Nat):Int) - 1).toNat=i:=by omega
 show Goes pg 105 rtK12 (⟨[(q8_8 X yx),(2,(.ptr 0 0)),(7,(.v (.int .i64 (((i + 1:Nat)):Int))))],[],1,[(q8_4 A B L W ya yf yl yw)]⟩) w (StepQ _ _ _ _ _ _ _ _)
 cases hl2_1:(ltI ((i + 1:Nat):Int) X.length) with
 | true =>
  have ghl2_1:=lT hl2_1
  have hgp:=gap_of (j:=i) hn ha he (by omega)
  have hd0:=deg_bd hn ha he 0 (by omega)
  cases hl2_2:(boolAt (cB B) (gapF (cI A) (intAt (cI A) (0 * 1) + ((i + 1:Nat):Int)) A.length 0 * 1)) with
  | true =>
   have ghl2_2:=hl2_2
   cases hl2_3:(ltI (intAt (cI X) ((((i + 1:Nat):Int) - 1).toNat * 1)) (intAt (cI X) ((i + 1) * 1))) with
   | true =>
    have ghl2_3:=lT hl2_3
    rw [e2] at ghl2_3
    exact Ev.step_ret (goes_eqR2 (r:=(.int .i64 16)) (by rw [tE_gap hz (by omega) (fun j hj=>h0b j (by omega)) hgp.1 (fun q=>by have q2:=ref_of_gap hn ha he (by omega) q; unfold refP at q2; rw [ghl2_2] at q2; simp only [] at q2; omega)]) (goes_ret cm (known_rt) 200 (v:=(.v (.int .i64 (.ofNat 16)))) (ps:=[ltI ((i + 1:Nat):Int) X.length=true,0 < A.length,loadL pg (cI A) (0 * 1) 2=some (.v (.int .i64 (intAt (cI A) (0 * 1)))),inR .i64 (intAt (cI A) (0 * 1) + ((i + 1:Nat):Int)),IsLampK 1 2 1 1 (cI A) A.length (cR L) L.length (cB B) B.length (cI W) W.length,ZK A L B W,intAt (cI A) (0 * 1) < intAt (cI A) (0 * 1) + ((i + 1:Nat):Int),intAt (cI A) (0 * 1) + ((i + 1:Nat):Int)≤intAt (cI A) ((A.length - 1) * 1),gapF (cI A) (intAt (cI A) (0 * 1) + ((i + 1:Nat):Int)) A.length 0 < B.length,loadL pg (cB B) (gapF (cI A) (intAt (cI A) (0 * 1) + ((i + 1:Nat):Int)) A.length 0 * 1) 4=some (AV.v (Value.bool (boolAt (cB B) (gapF (cI A) (intAt (cI A) (0 * 1) + ((i + 1:Nat):Int)) A.length 0 * 1)))),boolAt (cB B) (gapF (cI A) (intAt (cI A) (0 * 1) + ((i + 1:Nat):Int)) A.length 0 * 1)=true,true=true,true=true,i + 1 < X.length,true=true,loadL pg (cI X) ((i + 1) * 1) 2=some (.v (.int .i64 (intAt (cI X) ((i + 1) * 1)))),true=true,true=true,true=true,inR .i64 (((i + 1:Nat):Int) - 1),true=true,(0:Int)≤((i + 1:Nat):Int) - 1,(((i + 1:Nat):Int) - 1).toNat < X.length,true=true,loadL pg (cI X) ((((i + 1:Nat):Int) - 1).toNat * 1) 2=some (.v (.int .i64 (intAt (cI X) ((((i + 1:Nat):Int) - 1).toNat * 1)))),true=true,ltI (intAt (cI X) ((((i + 1:Nat):Int) - 1).toNat * 1)) (intAt (cI X) ((i + 1) * 1))=true,true=true,true=true,true=true,true=true]) [.go,.go,.go,.go,.b true,.go,.go,.go,.go,.go,.sym,.sym,.go,.go,.sym,.sym,.go,.go,.go,.b true,.go,.b true,.go,.b true,.sym,.b true,.sym,.b true,.go,.b true,.go,.b true,.go,.b true,.nat,.b true,.sym,.b true,.go,.go,.go,.b true,.b true,.b true,.b true,.go,.b true,.go] (by kernel_rfl) (by kernel_rfl) ⟨hl2_1,(by omega),(cI_ld (by omega) 2 (u2) rfl),(iRZ8 (by omega) (by omega)),⟨rfl,rfl,rfl,rfl,A,L,B,W,rfl,rfl,rfl,rfl,rfl,rfl,rfl,rfl⟩,hz,(by omega),(by omega),(by omega),(cB_ld (by omega) 4 (Try.underlying4) rfl),hl2_2,rfl,rfl,(by omega),rfl,(cI_ld (by omega) 2 (u2) rfl),rfl,rfl,rfl,(iRZ8 (by omega) (by omega)),rfl,(by omega),(by omega),rfl,(cI_ld (by omega) 2 (u2) rfl),rfl,hl2_3,rfl,rfl,rfl,rfl,trivial⟩ rfl))
   | false =>
    have ghl2_3:=lF hl2_3
    rw [e2] at ghl2_3
    refine Ev.step_on ⟨i + 1,by omega,up_next hi2 (show refP (cI A) A.length (cB B) (cI X) i by unfold refP; rw [ghl2_2]; simp only []; omega)⟩ (by show (X.length - 1) - (i + 1) < (X.length - 1) - i; omega) ?_
    exact gT cm (known_rt) 200 (T':=⟨[(q8_8 X yx),(2,(.ptr 0 0)),(7,(.v (.int .i64 ((((i + 1) + 1:Nat)):Int))))],[],1,[(q8_4 A B L W ya yf yl yw)]⟩) (e:=.normal) (ps:=[ltI ((i + 1:Nat):Int) X.length=true,0 < A.length,loadL pg (cI A) (0 * 1) 2=some (.v (.int .i64 (intAt (cI A) (0 * 1)))),inR .i64 (intAt (cI A) (0 * 1) + ((i + 1:Nat):Int)),IsLampK 1 2 1 1 (cI A) A.length (cR L) L.length (cB B) B.length (cI W) W.length,ZK A L B W,intAt (cI A) (0 * 1) < intAt (cI A) (0 * 1) + ((i + 1:Nat):Int),intAt (cI A) (0 * 1) + ((i + 1:Nat):Int)≤intAt (cI A) ((A.length - 1) * 1),gapF (cI A) (intAt (cI A) (0 * 1) + ((i + 1:Nat):Int)) A.length 0 < B.length,loadL pg (cB B) (gapF (cI A) (intAt (cI A) (0 * 1) + ((i + 1:Nat):Int)) A.length 0 * 1) 4=some (AV.v (Value.bool (boolAt (cB B) (gapF (cI A) (intAt (cI A) (0 * 1) + ((i + 1:Nat):Int)) A.length 0 * 1)))),boolAt (cB B) (gapF (cI A) (intAt (cI A) (0 * 1) + ((i + 1:Nat):Int)) A.length 0 * 1)=true,true=true,true=true,i + 1 < X.length,true=true,loadL pg (cI X) ((i + 1) * 1) 2=some (.v (.int .i64 (intAt (cI X) ((i + 1) * 1)))),true=true,true=true,true=true,inR .i64 (((i + 1:Nat):Int) - 1),true=true,(0:Int)≤((i + 1:Nat):Int) - 1,(((i + 1:Nat):Int) - 1).toNat < X.length,true=true,loadL pg (cI X) ((((i + 1:Nat):Int) - 1).toNat * 1) 2=some (.v (.int .i64 (intAt (cI X) ((((i + 1:Nat):Int) - 1).toNat * 1)))),true=true,ltI (intAt (cI X) ((((i + 1:Nat):Int) - 1).toNat * 1)) (intAt (cI X) ((i + 1) * 1))=false,false=false,false=false,(!boolAt (cB B) (gapF (cI A) (intAt (cI A) (0 * 1) + ((i + 1:Nat):Int)) A.length 0 * 1))=false,false=false,false=false,false=false,false=false,false=false,false=false,false=false,false=false,false=false,false=false,false=false,inR .i64 (((i + 1:Nat):Int) + 1)]) [.go,.go,.go,.go,.b true,.go,.go,.go,.go,.go,.sym,.sym,.go,.go,.sym,.sym,.go,.go,.go,.b true,.go,.b true,.go,.b true,.sym,.b true,.sym,.b true,.go,.b true,.go,.b true,.go,.b true,.nat,.b true,.sym,.b true,.go,.go,.go,.b false,.go,.b false,.go,.b false,.go,.b false,.b false,.b false,.b false,.b false,.b false,.b false,.b false,.b false,.b false,.b false,.go,.go,.b false,.go,.go,.go] (by kernel_rfl) (by kernel_rfl) ⟨hl2_1,(by omega),(cI_ld (by omega) 2 (u2) rfl),(iRZ8 (by omega) (by omega)),⟨rfl,rfl,rfl,rfl,A,L,B,W,rfl,rfl,rfl,rfl,rfl,rfl,rfl,rfl⟩,hz,(by omega),(by omega),(by omega),(cB_ld (by omega) 4 (Try.underlying4) rfl),hl2_2,rfl,rfl,(by omega),rfl,(cI_ld (by omega) 2 (u2) rfl),rfl,rfl,rfl,(iRZ8 (by omega) (by omega)),rfl,(by omega),(by omega),rfl,(cI_ld (by omega) 2 (u2) rfl),rfl,hl2_3,rfl,rfl,(by rw [hl2_2]; rfl),rfl,rfl,rfl,rfl,rfl,rfl,rfl,rfl,rfl,rfl,rfl,(iRZ8 (by omega) (by omega)),trivial⟩ rfl
  | false =>
   have ghl2_2:=hl2_2
   cases hl2_4:(ltI (intAt (cI X) ((i + 1) * 1)) (intAt (cI X) ((((i + 1:Nat):Int) - 1).toNat * 1))) with
   | true =>
    have ghl2_4:=lT hl2_4
    rw [e2] at ghl2_4
    exact Ev.step_ret (goes_eqR2 (r:=(.int .i64 16)) (by rw [tE_gap hz (by omega) (fun j hj=>h0b j (by omega)) hgp.1 (fun q=>by have q2:=ref_of_gap hn ha he (by omega) q; unfold refP at q2; rw [ghl2_2] at q2; simp only [] at q2; omega)]) (goes_ret cm (known_rt) 200 (v:=(.v (.int .i64 (.ofNat 16)))) (ps:=[ltI ((i + 1:Nat):Int) X.length=true,0 < A.length,loadL pg (cI A) (0 * 1) 2=some (.v (.int .i64 (intAt (cI A) (0 * 1)))),inR .i64 (intAt (cI A) (0 * 1) + ((i + 1:Nat):Int)),IsLampK 1 2 1 1 (cI A) A.length (cR L) L.length (cB B) B.length (cI W) W.length,ZK A L B W,intAt (cI A) (0 * 1) < intAt (cI A) (0 * 1) + ((i + 1:Nat):Int),intAt (cI A) (0 * 1) + ((i + 1:Nat):Int)≤intAt (cI A) ((A.length - 1) * 1),gapF (cI A) (intAt (cI A) (0 * 1) + ((i + 1:Nat):Int)) A.length 0 < B.length,loadL pg (cB B) (gapF (cI A) (intAt (cI A) (0 * 1) + ((i + 1:Nat):Int)) A.length 0 * 1) 4=some (AV.v (Value.bool (boolAt (cB B) (gapF (cI A) (intAt (cI A) (0 * 1) + ((i + 1:Nat):Int)) A.length 0 * 1)))),boolAt (cB B) (gapF (cI A) (intAt (cI A) (0 * 1) + ((i + 1:Nat):Int)) A.length 0 * 1)=false,false=false,false=false,false=false,false=false,false=false,false=false,false=false,false=false,false=false,false=false,false=false,false=false,(!boolAt (cB B) (gapF (cI A) (intAt (cI A) (0 * 1) + ((i + 1:Nat):Int)) A.length 0 * 1))=true,true=true,true=true,i + 1 < X.length,true=true,loadL pg (cI X) ((i + 1) * 1) 2=some (.v (.int .i64 (intAt (cI X) ((i + 1) * 1)))),true=true,true=true,true=true,inR .i64 (((i + 1:Nat):Int) - 1),true=true,(0:Int)≤((i + 1:Nat):Int) - 1,(((i + 1:Nat):Int) - 1).toNat < X.length,true=true,loadL pg (cI X) ((((i + 1:Nat):Int) - 1).toNat * 1) 2=some (.v (.int .i64 (intAt (cI X) ((((i + 1:Nat):Int) - 1).toNat * 1)))),true=true,false=false,ltI (intAt (cI X) ((i + 1) * 1)) (intAt (cI X) ((((i + 1:Nat):Int) - 1).toNat * 1))=true]) [.go,.go,.go,.go,.b true,.go,.go,.go,.go,.go,.sym,.sym,.go,.go,.sym,.sym,.go,.go,.go,.b false,.b false,.b false,.b false,.b false,.b false,.b false,.b false,.b false,.b false,.go,.go,.b false,.go,.b false,.go,.b false,.go,.b true,.go,.b true,.go,.b true,.sym,.b true,.sym,.b true,.go,.b true,.go,.b true,.go,.b true,.nat,.b true,.sym,.b true,.go,.b false,.go,.go,.b true,.go] (by kernel_rfl) (by kernel_rfl) ⟨hl2_1,(by omega),(cI_ld (by omega) 2 (u2) rfl),(iRZ8 (by omega) (by omega)),⟨rfl,rfl,rfl,rfl,A,L,B,W,rfl,rfl,rfl,rfl,rfl,rfl,rfl,rfl⟩,hz,(by omega),(by omega),(by omega),(cB_ld (by omega) 4 (Try.underlying4) rfl),hl2_2,rfl,rfl,rfl,rfl,rfl,rfl,rfl,rfl,rfl,rfl,rfl,rfl,(by rw [hl2_2]; rfl),rfl,rfl,(by omega),rfl,(cI_ld (by omega) 2 (u2) rfl),rfl,rfl,rfl,(iRZ8 (by omega) (by omega)),rfl,(by omega),(by omega),rfl,(cI_ld (by omega) 2 (u2) rfl),rfl,rfl,hl2_4,trivial⟩ rfl))
   | false =>
    have ghl2_4:=lF hl2_4
    rw [e2] at ghl2_4
    refine Ev.step_on ⟨i + 1,by omega,up_next hi2 (show refP (cI A) A.length (cB B) (cI X) i by unfold refP; rw [ghl2_2]; simp only []; omega)⟩ (by show (X.length - 1) - (i + 1) < (X.length - 1) - i; omega) ?_
    exact gT cm (known_rt) 200 (T':=⟨[(q8_8 X yx),(2,(.ptr 0 0)),(7,(.v (.int .i64 ((((i + 1) + 1:Nat)):Int))))],[],1,[(q8_4 A B L W ya yf yl yw)]⟩) (e:=.normal) (ps:=[ltI ((i + 1:Nat):Int) X.length=true,0 < A.length,loadL pg (cI A) (0 * 1) 2=some (.v (.int .i64 (intAt (cI A) (0 * 1)))),inR .i64 (intAt (cI A) (0 * 1) + ((i + 1:Nat):Int)),IsLampK 1 2 1 1 (cI A) A.length (cR L) L.length (cB B) B.length (cI W) W.length,ZK A L B W,intAt (cI A) (0 * 1) < intAt (cI A) (0 * 1) + ((i + 1:Nat):Int),intAt (cI A) (0 * 1) + ((i + 1:Nat):Int)≤intAt (cI A) ((A.length - 1) * 1),gapF (cI A) (intAt (cI A) (0 * 1) + ((i + 1:Nat):Int)) A.length 0 < B.length,loadL pg (cB B) (gapF (cI A) (intAt (cI A) (0 * 1) + ((i + 1:Nat):Int)) A.length 0 * 1) 4=some (AV.v (Value.bool (boolAt (cB B) (gapF (cI A) (intAt (cI A) (0 * 1) + ((i + 1:Nat):Int)) A.length 0 * 1)))),boolAt (cB B) (gapF (cI A) (intAt (cI A) (0 * 1) + ((i + 1:Nat):Int)) A.length 0 * 1)=false,false=false,false=false,false=false,false=false,false=false,false=false,false=false,false=false,false=false,false=false,false=false,false=false,(!boolAt (cB B) (gapF (cI A) (intAt (cI A) (0 * 1) + ((i + 1:Nat):Int)) A.length 0 * 1))=true,true=true,true=true,i + 1 < X.length,true=true,loadL pg (cI X) ((i + 1) * 1) 2=some (.v (.int .i64 (intAt (cI X) ((i + 1) * 1)))),true=true,true=true,true=true,inR .i64 (((i + 1:Nat):Int) - 1),true=true,(0:Int)≤((i + 1:Nat):Int) - 1,(((i + 1:Nat):Int) - 1).toNat < X.length,true=true,loadL pg (cI X) ((((i + 1:Nat):Int) - 1).toNat * 1) 2=some (.v (.int .i64 (intAt (cI X) ((((i + 1:Nat):Int) - 1).toNat * 1)))),true=true,false=false,ltI (intAt (cI X) ((i + 1) * 1)) (intAt (cI X) ((((i + 1:Nat):Int) - 1).toNat * 1))=false,inR .i64 (((i + 1:Nat):Int) + 1)]) [.go,.go,.go,.go,.b true,.go,.go,.go,.go,.go,.sym,.sym,.go,.go,.sym,.sym,.go,.go,.go,.b false,.b false,.b false,.b false,.b false,.b false,.b false,.b false,.b false,.b false,.go,.go,.b false,.go,.b false,.go,.b false,.go,.b true,.go,.b true,.go,.b true,.sym,.b true,.sym,.b true,.go,.b true,.go,.b true,.go,.b true,.nat,.b true,.sym,.b true,.go,.b false,.go,.go,.b false,.go,.go,.go] (by kernel_rfl) (by kernel_rfl) ⟨hl2_1,(by omega),(cI_ld (by omega) 2 (u2) rfl),(iRZ8 (by omega) (by omega)),⟨rfl,rfl,rfl,rfl,A,L,B,W,rfl,rfl,rfl,rfl,rfl,rfl,rfl,rfl⟩,hz,(by omega),(by omega),(by omega),(cB_ld (by omega) 4 (Try.underlying4) rfl),hl2_2,rfl,rfl,rfl,rfl,rfl,rfl,rfl,rfl,rfl,rfl,rfl,rfl,(by rw [hl2_2]; rfl),rfl,rfl,(by omega),rfl,(cI_ld (by omega) 2 (u2) rfl),rfl,rfl,rfl,(iRZ8 (by omega) (by omega)),rfl,(by omega),(by omega),rfl,(cI_ld (by omega) 2 (u2) rfl),rfl,rfl,hl2_4,(iRZ8 (by omega) (by omega)),trivial⟩ rfl
 | false =>
  have ghl2_1:=lF hl2_1
  exact Ev.step_out (by show (X.length - 1)≤i; omega) (gT cm (known_rt) 200 (T':=⟨[(q8_8 X yx),(2,(.ptr 0 0)),(7,(.v (.int .i64 (((i + 1:Nat)):Int))))],[],1,[(q8_4 A B L W ya yf yl yw)]⟩) (e:=.exit 2) (ps:=[ltI ((i + 1:Nat):Int) X.length=false]) [.go,.go,.go,.go,.b false] (by kernel_rfl) (by kernel_rfl) ⟨hl2_1,trivial⟩ rfl)
theorem rt_8 (ya yl yf yw:Value) (A:List Int) (L:PR) (B:List Bool) (W:List Int) (yx:Value) (X:List Int) (hq4_1:(q8_6 A B L W)=true) (hq6_1:(q8_7 W X)=true) (w:World):Goes pg 105 rtK7 ((q8_3 A B L W X ya yf yl yw yx)) w (q8_5 A B L W X w):=by
 obtain ⟨hcl_A,hcl_L,hcl_B,hcl_W⟩:=hcZ8 A B L W
 have hcl_X:=cI_len X
 have ghq4_1:=eqI_true hq4_1
 have hz:=ghq4_1
 obtain ⟨hn,ha,he,hl,hw⟩:=clE_zero hz
 have he2:=he
 unfold eqP degI at he2
 have ghq6_1:=eqI_true hq6_1
 refine goes_spineQ (ι:={i:Nat // i≤A.length∧∀ j,j < i→inP (cI A) (cR L) (cI X) j}) (T:=(fun i:{i:Nat // i≤A.length∧∀ j,j < i→inP (cI A) (cR L) (cI X) j}=>⟨[(q8_8 X yx),(2,(.ptr 0 0)),(5,(.v (.int .i64 i.1)))],[],1,[(q8_4 A B L W ya yf yl yw)]⟩)) (R:=(fun i:{i:Nat // i≤A.length∧∀ j,j < i→inP (cI A) (cR L) (cI X) j}=>A.length≤i.1)) (by kernel_rfl) (goes_spine (T':=(q8_2 A B L W X ya yf yl yw yx)) (by kernel_rfl) (gT cm (known_rt) 200 (T':=(q8_2 A B L W X ya yf yl yw yx)) (e:=.normal) (ps:=[]) [.go] (by kernel_rfl) (by kernel_rfl) trivial rfl) (goes_blockstep (by kernel_rfl) (fun i:{i:Nat // i≤A.length∧∀ j,j < i→inP (cI A) (cR L) (cI X) j}=>⟨[(q8_8 X yx),(2,(.ptr 0 0)),(5,(.v (.int .i64 i.1)))],[],1,[(q8_4 A B L W ya yf yl yw)]⟩) (fun i:{i:Nat // i≤A.length∧∀ j,j < i→inP (cI A) (cR L) (cI X) j}=>A.length - i.1) (fun i=>?_) ⟨0,Nat.zero_le _,(fun j hj=>by omega)⟩)) (fun ixR hxR=>goes_less (by kernel_rfl) (by kernel_rfl) (by kernel_rfl) (by kernel_rfl) (rt_11 ya yl yf yw A L B W yx X hq4_1 hq6_1 ixR.1 ixR.2.1 ixR.2.2 hxR w))
 obtain ⟨i,hi1,hi2⟩:=i
 show Goes pg 105 rtK9 (⟨[(q8_8 X yx),(2,(.ptr 0 0)),(5,(.v (.int .i64 i)))],[],1,[(q8_4 A B L W ya yf yl yw)]⟩) w (StepQ _ _ _ _ _ _ _ _)
 cases hl0_1:(ltI i A.length) with
 | true =>
  have ghl0_1:=lT hl0_1
  have hd:=deg_bd hn ha he i (by omega)
  cases hl0_2:(ltI (intAt (cI X) ((intAt (cI A) (i * 1) - intAt (cI A) (0 * 1)).toNat * 1)) (intAt (cR L) (i * 2 + 0))) with
  | true =>
   have ghl0_2:=lT hl0_2
   exact Ev.step_ret (goes_eqR2 (r:=(.int .i64 3)) (by rw [tE_in hz (by omega) (show i < A.length by omega) (by unfold inP; omega)]) (goes_ret cm (known_rt) 200 (v:=(.v (.int .i64 (.ofNat 3)))) (ps:=[ltI i A.length=true,i < A.length,loadL pg (cI A) (i * 1) 2=some (.v (.int .i64 (intAt (cI A) (i * 1)))),0 < A.length,loadL pg (cI A) (0 * 1) 2=some (.v (.int .i64 (intAt (cI A) (0 * 1)))),inR .i64 (intAt (cI A) (i * 1) - intAt (cI A) (0 * 1)),0≤intAt (cI A) (i * 1) - intAt (cI A) (0 * 1),(intAt (cI A) (i * 1) - intAt (cI A) (0 * 1)).toNat < X.length,loadL pg (cI X) ((intAt (cI A) (i * 1) - intAt (cI A) (0 * 1)).toNat * 1) 2=some (.v (.int .i64 (intAt (cI X) ((intAt (cI A) (i * 1) - intAt (cI A) (0 * 1)).toNat * 1)))),i < L.length,i * 2 + 0 < (cR L).length,loadL pg (cR L) (i * 2 + 0) 2=some (.v (.int .i64 (intAt (cR L) (i * 2 + 0)))),ltI (intAt (cI X) ((intAt (cI A) (i * 1) - intAt (cI A) (0 * 1)).toNat * 1)) (intAt (cR L) (i * 2 + 0))=true,true=true,true=true,true=true,true=true,true=true,true=true,true=true,true=true]) [.go,.go,.go,.go,.go,.b true,.go,.go,.go,.go,.sym,.sym,.go,.go,.sym,.sym,.go,.nat,.sym,.go,.go,.go,.go,.go,.sym,.sym,.sym,.go,.go,.b true,.b true,.b true,.b true,.b true,.b true,.b true,.b true,.go,.b true,.go] (by kernel_rfl) (by kernel_rfl) ⟨hl0_1,(by omega),(cI_ld (by omega) 2 (u2) rfl),(by omega),(cI_ld (by omega) 2 (u2) rfl),(iRZ8 (by omega) (by omega)),(by omega),(by omega),(cI_ld (by omega) 2 (u2) rfl),(by omega),(by omega),(cR_ld (by omega) 2 (u2) rfl),hl0_2,rfl,rfl,rfl,rfl,rfl,rfl,rfl,rfl,trivial⟩ rfl))
  | false =>
   have ghl0_2:=lF hl0_2
   cases hl0_3:(ltI (intAt (cR L) (i * 2 + 1)) (intAt (cI X) ((intAt (cI A) (i * 1) - intAt (cI A) (0 * 1)).toNat * 1))) with
   | true =>
    have ghl0_3:=lT hl0_3
    exact Ev.step_ret (goes_eqR2 (r:=(.int .i64 3)) (by rw [tE_in hz (by omega) (show i < A.length by omega) (by unfold inP; omega)]) (goes_ret cm (known_rt) 200 (v:=(.v (.int .i64 (.ofNat 3)))) (ps:=[ltI i A.length=true,i < A.length,loadL pg (cI A) (i * 1) 2=some (.v (.int .i64 (intAt (cI A) (i * 1)))),0 < A.length,loadL pg (cI A) (0 * 1) 2=some (.v (.int .i64 (intAt (cI A) (0 * 1)))),inR .i64 (intAt (cI A) (i * 1) - intAt (cI A) (0 * 1)),0≤intAt (cI A) (i * 1) - intAt (cI A) (0 * 1),(intAt (cI A) (i * 1) - intAt (cI A) (0 * 1)).toNat < X.length,loadL pg (cI X) ((intAt (cI A) (i * 1) - intAt (cI A) (0 * 1)).toNat * 1) 2=some (.v (.int .i64 (intAt (cI X) ((intAt (cI A) (i * 1) - intAt (cI A) (0 * 1)).toNat * 1)))),i < L.length,i * 2 + 0 < (cR L).length,loadL pg (cR L) (i * 2 + 0) 2=some (.v (.int .i64 (intAt (cR L) (i * 2 + 0)))),ltI (intAt (cI X) ((intAt (cI A) (i * 1) - intAt (cI A) (0 * 1)).toNat * 1)) (intAt (cR L) (i * 2 + 0))=false,false=false,false=false,false=false,false=false,i < L.length,false=false,i * 2 + 1 < (cR L).length,false=false,loadL pg (cR L) (i * 2 + 1) 2=some (.v (.int .i64 (intAt (cR L) (i * 2 + 1)))),false=false,ltI (intAt (cR L) (i * 2 + 1)) (intAt (cI X) ((intAt (cI A) (i * 1) - intAt (cI A) (0 * 1)).toNat * 1))=true]) [.go,.go,.go,.go,.go,.b true,.go,.go,.go,.go,.sym,.sym,.go,.go,.sym,.sym,.go,.nat,.sym,.go,.go,.go,.go,.go,.sym,.sym,.sym,.go,.go,.b false,.go,.b false,.go,.b false,.go,.b false,.go,.b false,.sym,.b false,.sym,.b false,.sym,.b false,.go,.go,.b true,.go] (by kernel_rfl) (by kernel_rfl) ⟨hl0_1,(by omega),(cI_ld (by omega) 2 (u2) rfl),(by omega),(cI_ld (by omega) 2 (u2) rfl),(iRZ8 (by omega) (by omega)),(by omega),(by omega),(cI_ld (by omega) 2 (u2) rfl),(by omega),(by omega),(cR_ld (by omega) 2 (u2) rfl),hl0_2,rfl,rfl,rfl,rfl,(by omega),rfl,(by omega),rfl,(cR_ld (by omega) 2 (u2) rfl),rfl,hl0_3,trivial⟩ rfl))
   | false =>
    have ghl0_3:=lF hl0_3
    refine Ev.step_on ⟨i + 1,by omega,up_next hi2 (show inP (cI A) (cR L) (cI X) i by unfold inP; omega)⟩ (by show A.length - (i + 1) < A.length - i; omega) ?_
    exact gT cm (known_rt) 200 (T':=⟨[(q8_8 X yx),(2,(.ptr 0 0)),(5,(.v (.int .i64 (((i + 1):Nat):Int))))],[],1,[(q8_4 A B L W ya yf yl yw)]⟩) (e:=.normal) (ps:=[ltI i A.length=true,i < A.length,loadL pg (cI A) (i * 1) 2=some (.v (.int .i64 (intAt (cI A) (i * 1)))),0 < A.length,loadL pg (cI A) (0 * 1) 2=some (.v (.int .i64 (intAt (cI A) (0 * 1)))),inR .i64 (intAt (cI A) (i * 1) - intAt (cI A) (0 * 1)),0≤intAt (cI A) (i * 1) - intAt (cI A) (0 * 1),(intAt (cI A) (i * 1) - intAt (cI A) (0 * 1)).toNat < X.length,loadL pg (cI X) ((intAt (cI A) (i * 1) - intAt (cI A) (0 * 1)).toNat * 1) 2=some (.v (.int .i64 (intAt (cI X) ((intAt (cI A) (i * 1) - intAt (cI A) (0 * 1)).toNat * 1)))),i < L.length,i * 2 + 0 < (cR L).length,loadL pg (cR L) (i * 2 + 0) 2=some (.v (.int .i64 (intAt (cR L) (i * 2 + 0)))),ltI (intAt (cI X) ((intAt (cI A) (i * 1) - intAt (cI A) (0 * 1)).toNat * 1)) (intAt (cR L) (i * 2 + 0))=false,false=false,false=false,false=false,false=false,i < L.length,false=false,i * 2 + 1 < (cR L).length,false=false,loadL pg (cR L) (i * 2 + 1) 2=some (.v (.int .i64 (intAt (cR L) (i * 2 + 1)))),false=false,ltI (intAt (cR L) (i * 2 + 1)) (intAt (cI X) ((intAt (cI A) (i * 1) - intAt (cI A) (0 * 1)).toNat * 1))=false,inR .i64 (((i:Nat):Int) + 1)]) [.go,.go,.go,.go,.go,.b true,.go,.go,.go,.go,.sym,.sym,.go,.go,.sym,.sym,.go,.nat,.sym,.go,.go,.go,.go,.go,.sym,.sym,.sym,.go,.go,.b false,.go,.b false,.go,.b false,.go,.b false,.go,.b false,.sym,.b false,.sym,.b false,.sym,.b false,.go,.go,.b false,.go,.go,.go] (by kernel_rfl) (by kernel_rfl) ⟨hl0_1,(by omega),(cI_ld (by omega) 2 (u2) rfl),(by omega),(cI_ld (by omega) 2 (u2) rfl),(iRZ8 (by omega) (by omega)),(by omega),(by omega),(cI_ld (by omega) 2 (u2) rfl),(by omega),(by omega),(cR_ld (by omega) 2 (u2) rfl),hl0_2,rfl,rfl,rfl,rfl,(by omega),rfl,(by omega),rfl,(cR_ld (by omega) 2 (u2) rfl),rfl,hl0_3,(iRZ8 (by omega) (by omega)),trivial⟩ rfl
 | false =>
  have ghl0_1:=lF hl0_1
  exact Ev.step_out (by show A.length≤i; omega) (gT cm (known_rt) 200 (T':=⟨[(q8_8 X yx),(2,(.ptr 0 0)),(5,(.v (.int .i64 i)))],[],1,[(q8_4 A B L W ya yf yl yw)]⟩) (e:=.exit 0) (ps:=[ltI i A.length=false]) [.go,.go,.go,.go,.go,.b false] (by kernel_rfl) (by kernel_rfl) ⟨hl0_1,trivial⟩ rfl)
theorem rt_6 (ya yl yf yw:Value) (A:List Int) (L:PR) (B:List Bool) (W:List Int) (yx:Value) (X:List Int) (hq4_1:(eqI (clE (cI A) A.length (cR L) L.length B.length (cI W) W.length) 0)=true) (w:World):Goes pg 105 rtK5 ((q8_3 A B L W X ya yf yl yw yx)) w (OutR pg Try.f22 105 (.int .i64 (tE (cI A) A.length (cR L) L.length (cB B) B.length (cI W) W.length (cI X) X.length)) w):=by
 obtain ⟨hcl_A,hcl_L,hcl_B,hcl_W⟩:=hcZ8 A B L W
 have hcl_X:=cI_len X
 have ghq4_1:=eqI_true hq4_1
 have hz:=ghq4_1
 obtain ⟨hn,ha,he,hl,hw⟩:=clE_zero hz
 have he2:=he
 unfold eqP degI at he2
 cases hq6_1:(eqI X.length W.length) with
 | true =>
  have ghq6_1:=eqI_true hq6_1
  exact goes_spine (T':=(q8_3 A B L W X ya yf yl yw yx)) (by kernel_rfl) (gT cm (known_rt) 200 (T':=(q8_3 A B L W X ya yf yl yw yx)) (e:=.normal) (ps:=[(!eqI X.length W.length)=false]) [.go,.go,.go,.go,.go,.go,.b false] (by kernel_rfl) (by kernel_rfl) ⟨(by rw [hq6_1]; rfl),trivial⟩ rfl) (rt_8 ya yl yf yw A L B W yx X hq4_1 hq6_1 w)
 | false =>
  have ghq6_1:=eqI_false hq6_1
  exact goes_eqR (r:=(.int .i64 15)) (by rw [tE_len hz (by omega)]) (goes_out cm (known_rt) 200 (v:=(.v (.int .i64 (.ofNat 15)))) (ps:=[(!eqI X.length W.length)=true]) [.go,.go,.go,.go,.go,.go,.b true,.go] (by kernel_rfl) (by kernel_rfl) ⟨(by rw [hq6_1]; rfl),trivial⟩ rfl)
theorem rt_4 (ya yl yf yw:Value) (A:List Int) (L:PR) (B:List Bool) (W:List Int) (yx:Value) (X:List Int) (w:World):Goes pg 105 rtK3 ((q8_3 A B L W X ya yf yl yw yx)) w (OutR pg Try.f22 105 (.int .i64 (tE (cI A) A.length (cR L) L.length (cB B) B.length (cI W) W.length (cI X) X.length)) w):=by
 obtain ⟨hcl_A,hcl_L,hcl_B,hcl_W⟩:=hcZ8 A B L W
 have hcl_X:=cI_len X
 cases hq4_1:(eqI (clE (cI A) A.length (cR L) L.length B.length (cI W) W.length) 0) with
 | true =>
  have ghq4_1:=eqI_true hq4_1
  have hz:=ghq4_1
  obtain ⟨hn,ha,he,hl,hw⟩:=clE_zero hz
  have he2:=he
  unfold eqP degI at he2
  exact goes_spine (T':=(q8_3 A B L W X ya yf yl yw yx)) (by kernel_rfl) (gT cm (known_rt) 200 (T':=(q8_3 A B L W X ya yf yl yw yx)) (e:=.normal) (ps:=[IsLampK 1 2 1 1 (cI A) A.length (cR L) L.length (cB B) B.length (cI W) W.length,(!eqI (clE (cI A) A.length (cR L) L.length B.length (cI W) W.length) 0)=false]) [.go,.go,.b false] (by kernel_rfl) (by kernel_rfl) ⟨⟨rfl,rfl,rfl,rfl,A,L,B,W,rfl,rfl,rfl,rfl,rfl,rfl,rfl,rfl⟩,(by rw [hq4_1]; rfl),trivial⟩ rfl) (rt_6 ya yl yf yw A L B W yx X hq4_1 w)
 | false =>
  have ghq4_1:=eqI_false hq4_1
  exact goes_eqR (r:=(.int .i64 (clE (cI A) A.length (cR L) L.length B.length (cI W) W.length))) (by rw [tE_lamp ghq4_1]) (goes_out cm (known_rt) 200 (v:=(.v (.int .i64 (clE (cI A) A.length (cR L) L.length B.length (cI W) W.length)))) (ps:=[IsLampK 1 2 1 1 (cI A) A.length (cR L) L.length (cB B) B.length (cI W) W.length,(!eqI (clE (cI A) A.length (cR L) L.length B.length (cI W) W.length) 0)=true,IsLampK 1 2 1 1 (cI A) A.length (cR L) L.length (cB B) B.length (cI W) W.length]) [.go,.go,.b true,.go,.go] (by kernel_rfl) (by kernel_rfl) ⟨⟨rfl,rfl,rfl,rfl,A,L,B,W,rfl,rfl,rfl,rfl,rfl,rfl,rfl,rfl⟩,(by rw [hq4_1]; rfl),⟨rfl,rfl,rfl,rfl,A,L,B,W,rfl,rfl,rfl,rfl,rfl,rfl,rfl,rfl⟩,trivial⟩ rfl)
theorem rt_2 (ya yl yf yw:Value) (A:List Int) (L:PR) (B:List Bool) (W:List Int) (yx:Value) (X:List Int) (w:World):Goes pg 105 rtK1 (⟨[(0,.agg [.xl ya A.length 1 (cI A),.xl yl L.length 2 (cR L),.xl yf B.length 1 (cB B),.xl yw W.length 1 (cI W)]),(1,.xl yx X.length 1 (cI X))],[],0,[]⟩) w (q8_5 A B L W X w):=by
 obtain ⟨hcl_A,hcl_L,hcl_B,hcl_W⟩:=hcZ8 A B L W
 have hcl_X:=cI_len X
 exact goes_spine (T':=(q8_3 A B L W X ya yf yl yw yx)) (by kernel_rfl) (gT cm (known_rt) 200 (T':=(q8_3 A B L W X ya yf yl yw yx)) (e:=.normal) (ps:=[]) [.go,.go] (by kernel_rfl) (by kernel_rfl) trivial rfl) (rt_4 ya yl yf yw A L B W yx X w)
theorem rt_g (ya yl yf yw:Value) (A:List Int) (L:PR) (B:List Bool) (W:List Int) (yx:Value) (X:List Int):GivesA pg 22 [.agg [.xl ya A.length 1 (cI A),.xl yl L.length 2 (cR L),.xl yf B.length 1 (cB B),.xl yw W.length 1 (cI W)],.xl yx X.length 1 (cI X)] (.int .i64 (tE (cI A) A.length (cR L) L.length (cB B) B.length (cI W) W.length (cI X) X.length)) :=
 givesA_parts 105 Try.func22 (by kernel_rfl) (by kernel_rfl) (by kernel_rfl) (fun w=>goes_less (by kernel_rfl) (by kernel_rfl) (by kernel_rfl) (by kernel_rfl) (rt_2 ya yl yf yw A L B W yx X w))
end
end Go.Proofs.Ytldekgkjofgacaa
