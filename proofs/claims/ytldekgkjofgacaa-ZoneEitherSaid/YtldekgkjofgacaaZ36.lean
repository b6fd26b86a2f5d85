import Derived.Test.YtldekgkjofgacaaZ35
set_option maxHeartbeats 2000000
set_option linter.all false
/- The law ZoneEither. -/
namespace Go.Proofs.Ytldekgkjofgacaa
open Go Ev
noncomputable section
theorem hcZ36 (A:List Int) (B:List Bool) (L:PR) (W:List Int):(cI A).length=A.length∧(cR L).length=L.length * 2∧(cB B).length=B.length∧(cI W).length=W.length:=⟨cI_len A,cR_len L,cB_len B,cI_len W⟩
section
variable (A : List Int) (B : List Bool) (L : PR) (W X : List Int) (e1 e2 : Int) (ya yf yl yw yx : Value)
abbrev q36_2:List Ev.AV:=[.xl ya A.length 1 (cI A),.xl yl L.length 2 (cR L),.xl yf B.length 1 (cB B),.xl yw W.length 1 (cI W)]
abbrev q36_1:Ev.Lit:=⟨[(0,.agg (q36_2 A B L W ya yf yl yw)),(1,.xl yx X.length 1 (cI X)),(2,.agg [.v (.int .u8 e1),.v (.int .u8 e2)])],[],0,[]⟩
abbrev q36_3:Ev.Lit:=⟨[(6,(.v (.bool .true)))],[],3,[]⟩
end
def zEcK1:Code:=bodyC Try.f8
theorem zEc_2 (ya yl yf yw:Value) (A:List Int) (L:PR) (B:List Bool) (W:List Int) (yx:Value) (X:List Int) (e1 e2:Int) (hw:Known pg (clsO zwO)) (hu:0≤e1∧e1≤255) (hv:0≤e2∧e2≤255) (hnz:¬ ZK A L B W) (w:World) (hs:LN):Goes pg 107 zEcK1 ((q36_1 A B L W X e1 e2 ya yf yl yw yx)) (BaseW.H w hs) (OutH pg Try.f8 107 (.bool true) w):=by
 obtain ⟨hcl_A,hcl_L,hcl_B,hcl_W⟩:=hcZ36 A B L W
 have hcl_X:=cI_len X
 rcases bE (ltI 14 A.length) with hqzEc3_1 | hqzEc3_1
 ·skip
  have ghqzEc3_1:=lT hqzEc3_1
  exact gL isR_e (gT cm (known_zed_ hw) 200 (T':=q36_3) (e:=.ret) (ps:=[ltI 14 A.length=true,true=true,true=true,true=true,true=true,true=true,true=true,true=true,true=true,true=true,true=true,true=true,true=true,true=true,true=true,true=true,true=true,true=true,true=true]) [.go,.go,.go,.go,.go,.go,.go,.go,.go,.go,.go,.b true,.b true,.b true,.b true,.go,.go,.b true,.b true,.b true,.b true,.go,.go,.b true,.b true,.b true,.b true,.go,.go,.go,.b true,.b true,.b true,.go,.go,.b true,.b true,.b true,.go,.b true,.go] (by kernel_rfl) (by kernel_rfl) ⟨hqzEc3_1,rfl,rfl,rfl,rfl,rfl,rfl,rfl,rfl,rfl,rfl,rfl,rfl,rfl,rfl,rfl,rfl,rfl,rfl,trivial⟩ rfl) (Hd.en_eq (r:=(.bool .true)) (by rfl) (Hd.en_ret (v:=(.v (.bool .true))) (by kernel_rfl) rfl))
 ·skip
  have ghqzEc3_1:=lF hqzEc3_1
  rcases bE (ltI 14 L.length) with hqzEc3_2 | hqzEc3_2
  ·skip
   have ghqzEc3_2:=lT hqzEc3_2
   exact gL isR_e (gT cm (known_zed_ hw) 200 (T':=q36_3) (e:=.ret) (ps:=[ltI 14 A.length=false,false=false,false=false,false=false,ltI 14 L.length=true,true=true,true=true,true=true,true=true,true=true,true=true,true=true,true=true,true=true,true=true,true=true,true=true,true=true,true=true]) [.go,.go,.go,.go,.go,.go,.go,.go,.go,.go,.go,.b false,.go,.b false,.go,.b false,.go,.b false,.go,.go,.go,.b true,.b true,.b true,.b true,.go,.go,.b true,.b true,.b true,.b true,.go,.go,.go,.b true,.b true,.b true,.go,.go,.b true,.b true,.b true,.go,.b true,.go] (by kernel_rfl) (by kernel_rfl) ⟨hqzEc3_1,rfl,rfl,rfl,hqzEc3_2,rfl,rfl,rfl,rfl,rfl,rfl,rfl,rfl,rfl,rfl,rfl,rfl,rfl,rfl,trivial⟩ rfl) (Hd.en_eq (r:=(.bool .true)) (by rfl) (Hd.en_ret (v:=(.v (.bool .true))) (by kernel_rfl) rfl))
  ·skip
   have ghqzEc3_2:=lF hqzEc3_2
   rcases bE (ltI 14 B.length) with hqzEc3_3 | hqzEc3_3
   ·skip
    have ghqzEc3_3:=lT hqzEc3_3
    exact gL isR_e (gT cm (known_zed_ hw) 200 (T':=q36_3) (e:=.ret) (ps:=[ltI 14 A.length=false,false=false,false=false,false=false,ltI 14 L.length=false,false=false,false=false,false=false,ltI 14 B.length=true,true=true,true=true,true=true,true=true,true=true,true=true,true=true,true=true,true=true,true=true]) [.go,.go,.go,.go,.go,.go,.go,.go,.go,.go,.go,.b false,.go,.b false,.go,.b false,.go,.b false,.go,.go,.go,.b false,.go,.b false,.go,.b false,.go,.b false,.go,.go,.go,.b true,.b true,.b true,.b true,.go,.go,.go,.b true,.b true,.b true,.go,.go,.b true,.b true,.b true,.go,.b true,.go] (by kernel_rfl) (by kernel_rfl) ⟨hqzEc3_1,rfl,rfl,rfl,hqzEc3_2,rfl,rfl,rfl,hqzEc3_3,rfl,rfl,rfl,rfl,rfl,rfl,rfl,rfl,rfl,rfl,trivial⟩ rfl) (Hd.en_eq (r:=(.bool .true)) (by rfl) (Hd.en_ret (v:=(.v (.bool .true))) (by kernel_rfl) rfl))
   ·skip
    have ghqzEc3_3:=lF hqzEc3_3
    rcases bE (ltI 100 W.length) with hqzEc3_4 | hqzEc3_4
    ·skip
     have ghqzEc3_4:=lT hqzEc3_4
     exact gL isR_e (gT cm (known_zed_ hw) 200 (T':=q36_3) (e:=.ret) (ps:=[ltI 14 A.length=false,false=false,false=false,false=false,ltI 14 L.length=false,false=false,false=false,false=false,ltI 14 B.length=false,false=false,false=false,false=false,ltI 100 W.length=true,true=true,true=true,true=true,true=true,true=true,true=true]) [.go,.go,.go,.go,.go,.go,.go,.go,.go,.go,.go,.b false,.go,.b false,.go,.b false,.go,.b false,.go,.go,.go,.b false,.go,.b false,.go,.b false,.go,.b false,.go,.go,.go,.b false,.go,.b false,.go,.b false,.go,.b false,.go,.go,.go,.go,.b true,.b true,.b true,.go,.go,.b true,.b true,.b true,.go,.b true,.go] (by kernel_rfl) (by kernel_rfl) ⟨hqzEc3_1,rfl,rfl,rfl,hqzEc3_2,rfl,rfl,rfl,hqzEc3_3,rfl,rfl,rfl,hqzEc3_4,rfl,rfl,rfl,rfl,rfl,rfl,trivial⟩ rfl) (Hd.en_eq (r:=(.bool .true)) (by rfl) (Hd.en_ret (v:=(.v (.bool .true))) (by kernel_rfl) rfl))
    ·skip
     have ghqzEc3_4:=lF hqzEc3_4
     rcases bE (eqI (clE (cI A) A.length (cR L) L.length B.length (cI W) W.length) 0) with hqzEc3_5 | hqzEc3_5
     ·skip
      have ghqzEc3_5:=eqI_true hqzEc3_5
      rcases bE (ltI 100 X.length) with hqzEc3_6 | hqzEc3_6
      ·skip
       have ghqzEc3_6:=lT hqzEc3_6
       exact absurd (eqI_true hqzEc3_5) hnz
      ·skip
       have ghqzEc3_6:=lF hqzEc3_6
       rcases bE (eqI (doE (cI A) A.length (cR L) L.length (cB B) B.length (cI W) W.length) 0) with hqzEc3_7 | hqzEc3_7
       ·skip
        have ghqzEc3_7:=eqI_true hqzEc3_7
        rcases bE (eqI (cdE (cI A) A.length (cR L) L.length (cB B) B.length (cI W) W.length (doI (cI A) A.length (cR L) L.length (cB B) B.length (cI W) W.length) (doK (cI A) A.length (cR L) L.length (cB B) B.length (cI W) W.length)) 0) with hqzEc3_8 | hqzEc3_8
        ·skip
         have ghqzEc3_8:=eqI_true hqzEc3_8
         rcases bE (eqI (tE (cI A) A.length (cR L) L.length (cB B) B.length (cI W) W.length (cI X) X.length) 0) with hqzEc3_9 | hqzEc3_9
         ·skip
          have ghqzEc3_9:=eqI_true hqzEc3_9
          exact absurd (eqI_true hqzEc3_5) hnz
         ·skip
          have ghqzEc3_9:=eqI_false hqzEc3_9
          exact absurd (eqI_true hqzEc3_5) hnz
        ·skip
         have ghqzEc3_8:=eqI_false hqzEc3_8
         exact absurd (eqI_true hqzEc3_5) hnz
       ·skip
        have ghqzEc3_7:=eqI_false hqzEc3_7
        rcases bE (eqI (doE (cI A) A.length (cR L) L.length (cB B) B.length (cI W) W.length) 5) with hqzEc3_10 | hqzEc3_10
        ·skip
         have ghqzEc3_10:=eqI_true hqzEc3_10
         exact absurd (eqI_true hqzEc3_5) hnz
        ·skip
         have ghqzEc3_10:=eqI_false hqzEc3_10
         exact absurd (eqI_true hqzEc3_5) hnz
     ·skip
      have ghqzEc3_5:=eqI_false hqzEc3_5
      exact gL isR_e (gT cm (known_zed_ hw) 200 (T':=q36_3) (e:=.ret) (ps:=[ltI 14 A.length=false,false=false,false=false,false=false,ltI 14 L.length=false,false=false,false=false,false=false,ltI 14 B.length=false,false=false,false=false,false=false,ltI 100 W.length=false,false=false,IsLampK 1 2 1 1 (cI A) A.length (cR L) L.length (cB B) B.length (cI W) W.length,false=false,(!eqI (clE (cI A) A.length (cR L) L.length B.length (cI W) W.length) 0)=true,true=true,true=true,true=true]) [.go,.go,.go,.go,.go,.go,.go,.go,.go,.go,.go,.b false,.go,.b false,.go,.b false,.go,.b false,.go,.go,.go,.b false,.go,.b false,.go,.b false,.go,.b false,.go,.go,.go,.b false,.go,.b false,.go,.b false,.go,.b false,.go,.go,.go,.go,.b false,.go,.b false,.b false,.go,.go,.go,.b true,.b true,.b true,.go,.b true,.go] (by kernel_rfl) (by kernel_rfl) ⟨hqzEc3_1,rfl,rfl,rfl,hqzEc3_2,rfl,rfl,rfl,hqzEc3_3,rfl,rfl,rfl,hqzEc3_4,rfl,⟨rfl,rfl,rfl,rfl,A,L,B,W,rfl,rfl,rfl,rfl,rfl,rfl,rfl,rfl⟩,rfl,(by rw [hqzEc3_5]; rfl),rfl,rfl,rfl,trivial⟩ rfl) (Hd.en_eq (r:=(.bool .true)) (by rfl) (Hd.en_ret (v:=(.v (.bool .true))) (by kernel_rfl) rfl))
theorem ze_c (ya yl yf yw:Value) (A:List Int) (L:PR) (B:List Bool) (W:List Int) (yx:Value) (X:List Int) (e1 e2:Int) (hw:Known pg (clsO zwO)) (hu:0≤e1∧e1≤255) (hv:0≤e2∧e2≤255) (hnz:¬ ZK A L B W):GivesA pg 8 [.agg (q36_2 A B L W ya yf yl yw),.xl yx X.length 1 (cI X),.agg [.v (.int .u8 e1),.v (.int .u8 e2)]] (.bool true) :=
 givesA_partsH 107 Try.func8 (by kernel_rfl) (by kernel_rfl) (by kernel_rfl) (fun w=>goes_less (by kernel_rfl) (by kernel_rfl) (by kernel_rfl) (by kernel_rfl) (zEc_2 ya yl yf yw A L B W yx X e1 e2 hw hu hv hnz w []))
def zExK1:Code:=bodyC Try.f8
theorem zEx_2 (ya yl yf yw:Value) (A:List Int) (L:PR) (B:List Bool) (W:List Int) (yx:Value) (X:List Int) (e1 e2:Int) (hw:Known pg (clsO zwO)) (hu:0≤e1∧e1≤255) (hv:0≤e2∧e2≤255) (hz:ZK A L B W) (hX:100 < X.length) (w:World) (hs:LN):Goes pg 107 zExK1 ((q36_1 A B L W X e1 e2 ya yf yl yw yx)) (BaseW.H w hs) (OutH pg Try.f8 107 (.bool true) w):=by
 obtain ⟨hcl_A,hcl_L,hcl_B,hcl_W⟩:=hcZ36 A B L W
 have hcl_X:=cI_len X
 rcases bE (ltI 14 A.length) with hqzEx3_1 | hqzEx3_1
 ·skip
  have ghqzEx3_1:=lT hqzEx3_1
  exact gL isR_e (gT cm (known_zed_ hw) 200 (T':=q36_3) (e:=.ret) (ps:=[ltI 14 A.length=true,true=true,true=true,true=true,true=true,true=true,true=true,true=true,true=true,true=true,true=true,true=true,true=true,true=true,true=true,true=true,true=true,true=true,true=true]) [.go,.go,.go,.go,.go,.go,.go,.go,.go,.go,.go,.b true,.b true,.b true,.b true,.go,.go,.b true,.b true,.b true,.b true,.go,.go,.b true,.b true,.b true,.b true,.go,.go,.go,.b true,.b true,.b true,.go,.go,.b true,.b true,.b true,.go,.b true,.go] (by kernel_rfl) (by kernel_rfl) ⟨hqzEx3_1,rfl,rfl,rfl,rfl,rfl,rfl,rfl,rfl,rfl,rfl,rfl,rfl,rfl,rfl,rfl,rfl,rfl,rfl,trivial⟩ rfl) (Hd.en_eq (r:=(.bool .true)) (by rfl) (Hd.en_ret (v:=(.v (.bool .true))) (by kernel_rfl) rfl))
 ·skip
  have ghqzEx3_1:=lF hqzEx3_1
  rcases bE (ltI 14 L.length) with hqzEx3_2 | hqzEx3_2
  ·skip
   have ghqzEx3_2:=lT hqzEx3_2
   exact gL isR_e (gT cm (known_zed_ hw) 200 (T':=q36_3) (e:=.ret) (ps:=[ltI 14 A.length=false,false=false,false=false,false=false,ltI 14 L.length=true,true=true,true=true,true=true,true=true,true=true,true=true,true=true,true=true,true=true,true=true,true=true,true=true,true=true,true=true]) [.go,.go,.go,.go,.go,.go,.go,.go,.go,.go,.go,.b false,.go,.b false,.go,.b false,.go,.b false,.go,.go,.go,.b true,.b true,.b true,.b true,.go,.go,.b true,.b true,.b true,.b true,.go,.go,.go,.b true,.b true,.b true,.go,.go,.b true,.b true,.b true,.go,.b true,.go] (by kernel_rfl) (by kernel_rfl) ⟨hqzEx3_1,rfl,rfl,rfl,hqzEx3_2,rfl,rfl,rfl,rfl,rfl,rfl,rfl,rfl,rfl,rfl,rfl,rfl,rfl,rfl,trivial⟩ rfl) (Hd.en_eq (r:=(.bool .true)) (by rfl) (Hd.en_ret (v:=(.v (.bool .true))) (by kernel_rfl) rfl))
  ·skip
   have ghqzEx3_2:=lF hqzEx3_2
   rcases bE (ltI 14 B.length) with hqzEx3_3 | hqzEx3_3
   ·skip
    have ghqzEx3_3:=lT hqzEx3_3
    exact gL isR_e (gT cm (known_zed_ hw) 200 (T':=q36_3) (e:=.ret) (ps:=[ltI 14 A.length=false,false=false,false=false,false=false,ltI 14 L.length=false,false=false,false=false,false=false,ltI 14 B.length=true,true=true,true=true,true=true,true=true,true=true,true=true,true=true,true=true,true=true,true=true]) [.go,.go,.go,.go,.go,.go,.go,.go,.go,.go,.go,.b false,.go,.b false,.go,.b false,.go,.b false,.go,.go,.go,.b false,.go,.b false,.go,.b false,.go,.b false,.go,.go,.go,.b true,.b true,.b true,.b true,.go,.go,.go,.b true,.b true,.b true,.go,.go,.b true,.b true,.b true,.go,.b true,.go] (by kernel_rfl) (by kernel_rfl) ⟨hqzEx3_1,rfl,rfl,rfl,hqzEx3_2,rfl,rfl,rfl,hqzEx3_3,rfl,rfl,rfl,rfl,rfl,rfl,rfl,rfl,rfl,rfl,trivial⟩ rfl) (Hd.en_eq (r:=(.bool .true)) (by rfl) (Hd.en_ret (v:=(.v (.bool .true))) (by kernel_rfl) rfl))
   ·skip
    have ghqzEx3_3:=lF hqzEx3_3
    rcases bE (ltI 100 W.length) with hqzEx3_4 | hqzEx3_4
    ·skip
     have ghqzEx3_4:=lT hqzEx3_4
     exact gL isR_e (gT cm (known_zed_ hw) 200 (T':=q36_3) (e:=.ret) (ps:=[ltI 14 A.length=false,false=false,false=false,false=false,ltI 14 L.length=false,false=false,false=false,false=false,ltI 14 B.length=false,false=false,false=false,false=false,ltI 100 W.length=true,true=true,true=true,true=true,true=true,true=true,true=true]) [.go,.go,.go,.go,.go,.go,.go,.go,.go,.go,.go,.b false,.go,.b false,.go,.b false,.go,.b false,.go,.go,.go,.b false,.go,.b false,.go,.b false,.go,.b false,.go,.go,.go,.b false,.go,.b false,.go,.b false,.go,.b false,.go,.go,.go,.go,.b true,.b true,.b true,.go,.go,.b true,.b true,.b true,.go,.b true,.go] (by kernel_rfl) (by kernel_rfl) ⟨hqzEx3_1,rfl,rfl,rfl,hqzEx3_2,rfl,rfl,rfl,hqzEx3_3,rfl,rfl,rfl,hqzEx3_4,rfl,rfl,rfl,rfl,rfl,rfl,trivial⟩ rfl) (Hd.en_eq (r:=(.bool .true)) (by rfl) (Hd.en_ret (v:=(.v (.bool .true))) (by kernel_rfl) rfl))
    ·skip
     have ghqzEx3_4:=lF hqzEx3_4
     rcases bE (eqI (clE (cI A) A.length (cR L) L.length B.length (cI W) W.length) 0) with hqzEx3_5 | hqzEx3_5
     ·skip
      have ghqzEx3_5:=eqI_true hqzEx3_5
      rcases bE (ltI 100 X.length) with hqzEx3_6 | hqzEx3_6
      ·skip
       have ghqzEx3_6:=lT hqzEx3_6
       exact gL isR_e (gT cm (known_zed_ hw) 200 (T':=q36_3) (e:=.ret) (ps:=[ltI 14 A.length=false,false=false,false=false,false=false,ltI 14 L.length=false,false=false,false=false,false=false,ltI 14 B.length=false,false=false,false=false,false=false,ltI 100 W.length=false,false=false,IsLampK 1 2 1 1 (cI A) A.length (cR L) L.length (cB B) B.length (cI W) W.length,false=false,(!eqI (clE (cI A) A.length (cR L) L.length B.length (cI W) W.length) 0)=false,false=false,false=false,ltI 100 X.length=true]) [.go,.go,.go,.go,.go,.go,.go,.go,.go,.go,.go,.b false,.go,.b false,.go,.b false,.go,.b false,.go,.go,.go,.b false,.go,.b false,.go,.b false,.go,.b false,.go,.go,.go,.b false,.go,.b false,.go,.b false,.go,.b false,.go,.go,.go,.go,.b false,.go,.b false,.b false,.go,.go,.go,.b false,.go,.b false,.go,.b false,.go,.go,.b true,.go] (by kernel_rfl) (by kernel_rfl) ⟨hqzEx3_1,rfl,rfl,rfl,hqzEx3_2,rfl,rfl,rfl,hqzEx3_3,rfl,rfl,rfl,hqzEx3_4,rfl,⟨rfl,rfl,rfl,rfl,A,L,B,W,rfl,rfl,rfl,rfl,rfl,rfl,rfl,rfl⟩,rfl,(by rw [hqzEx3_5]; rfl),rfl,rfl,hqzEx3_6,trivial⟩ rfl) (Hd.en_eq (r:=(.bool .true)) (by rfl) (Hd.en_ret (v:=(.v (.bool .true))) (by kernel_rfl) rfl))
      ·skip
       have ghqzEx3_6:=lF hqzEx3_6
       rcases bE (eqI (doE (cI A) A.length (cR L) L.length (cB B) B.length (cI W) W.length) 0) with hqzEx3_7 | hqzEx3_7
       ·skip
        have ghqzEx3_7:=eqI_true hqzEx3_7
        rcases bE (eqI (cdE (cI A) A.length (cR L) L.length (cB B) B.length (cI W) W.length (doI (cI A) A.length (cR L) L.length (cB B) B.length (cI W) W.length) (doK (cI A) A.length (cR L) L.length (cB B) B.length (cI W) W.length)) 0) with hqzEx3_8 | hqzEx3_8
        ·skip
         have ghqzEx3_8:=eqI_true hqzEx3_8
         rcases bE (eqI (tE (cI A) A.length (cR L) L.length (cB B) B.length (cI W) W.length (cI X) X.length) 0) with hqzEx3_9 | hqzEx3_9
         ·skip
          have ghqzEx3_9:=eqI_true hqzEx3_9
          exfalso
          have h9:=lF hqzEx3_6
          omega
         ·skip
          have ghqzEx3_9:=eqI_false hqzEx3_9
          exfalso
          have h9:=lF hqzEx3_6
          omega
        ·skip
         have ghqzEx3_8:=eqI_false hqzEx3_8
         exfalso
         have h9:=lF hqzEx3_6
         omega
       ·skip
        have ghqzEx3_7:=eqI_false hqzEx3_7
        rcases bE (eqI (doE (cI A) A.length (cR L) L.length (cB B) B.length (cI W) W.length) 5) with hqzEx3_10 | hqzEx3_10
        ·skip
         have ghqzEx3_10:=eqI_true hqzEx3_10
         exfalso
         have h9:=lF hqzEx3_6
         omega
        ·skip
         have ghqzEx3_10:=eqI_false hqzEx3_10
         exfalso
         have h9:=lF hqzEx3_6
         omega
     ·skip
      have ghqzEx3_5:=eqI_false hqzEx3_5
      exact absurd hz (eqI_false hqzEx3_5)
theorem ze_x (ya yl yf yw:Value) (A:List Int) (L:PR) (B:List Bool) (W:List Int) (yx:Value) (X:List Int) (e1 e2:Int) (hw:Known pg (clsO zwO)) (hu:0≤e1∧e1≤255) (hv:0≤e2∧e2≤255) (hz:ZK A L B W) (hX:100 < X.length):GivesA pg 8 [.agg (q36_2 A B L W ya yf yl yw),.xl yx X.length 1 (cI X),.agg [.v (.int .u8 e1),.v (.int .u8 e2)]] (.bool true) :=
 givesA_partsH 107 Try.func8 (by kernel_rfl) (by kernel_rfl) (by kernel_rfl) (fun w=>goes_less (by kernel_rfl) (by kernel_rfl) (by kernel_rfl) (by kernel_rfl) (zEx_2 ya yl yf yw A L B W yx X e1 e2 hw hu hv hz hX w []))
def zEdK1:Code:=bodyC Try.f8
theorem zEd_2 (ya yl yf yw:Value) (A:List Int) (L:PR) (B:List Bool) (W:List Int) (yx:Value) (X:List Int) (e1 e2:Int) (hw:Known pg (clsO zwO)) (hu:0≤e1∧e1≤255) (hv:0≤e2∧e2≤255) (hz:ZK A L B W) (hX:X.length≤100) (hd:dtd (cI A) A.length (cR L) (cB B) W.length) (w:World) (hs:LN):Goes pg 107 zEdK1 ((q36_1 A B L W X e1 e2 ya yf yl yw yx)) (BaseW.H w hs) (OutH pg Try.f8 107 (.bool true) w):=by
 obtain ⟨hcl_A,hcl_L,hcl_B,hcl_W⟩:=hcZ36 A B L W
 have hcl_X:=cI_len X
 obtain ⟨hn,ha,he,hl,hw0⟩:=clE_zero hz
 have hW:=(deg_bd hn ha he 0 (by omega)).2.2.1
 have he2:=he
 unfold eqP at he2
 have hf:=fd_some hz hd
 obtain ⟨g1,g2⟩:=do_some hz hd
 have g3:¬ tE (cI A) A.length (cR L) L.length (cB B) B.length (cI W) W.length (cI X) X.length=0:=fun q=>true_no q hd
 rcases bE (ltI 14 A.length) with hqzEd3_1 | hqzEd3_1
 ·skip
  have ghqzEd3_1:=lT hqzEd3_1
  exact gL isR_e (gT cm (known_zed_ hw) 200 (T':=q36_3) (e:=.ret) (ps:=[ltI 14 A.length=true,true=true,true=true,true=true,true=true,true=true,true=true,true=true,true=true,true=true,true=true,true=true,true=true,true=true,true=true,true=true,true=true,true=true,true=true]) [.go,.go,.go,.go,.go,.go,.go,.go,.go,.go,.go,.b true,.b true,.b true,.b true,.go,.go,.b true,.b true,.b true,.b true,.go,.go,.b true,.b true,.b true,.b true,.go,.go,.go,.b true,.b true,.b true,.go,.go,.b true,.b true,.b true,.go,.b true,.go] (by kernel_rfl) (by kernel_rfl) ⟨hqzEd3_1,rfl,rfl,rfl,rfl,rfl,rfl,rfl,rfl,rfl,rfl,rfl,rfl,rfl,rfl,rfl,rfl,rfl,rfl,trivial⟩ rfl) (Hd.en_eq (r:=(.bool .true)) (by rfl) (Hd.en_ret (v:=(.v (.bool .true))) (by kernel_rfl) rfl))
 ·skip
  have ghqzEd3_1:=lF hqzEd3_1
  rcases bE (ltI 14 L.length) with hqzEd3_2 | hqzEd3_2
  ·skip
   have ghqzEd3_2:=lT hqzEd3_2
   exact gL isR_e (gT cm (known_zed_ hw) 200 (T':=q36_3) (e:=.ret) (ps:=[ltI 14 A.length=false,false=false,false=false,false=false,ltI 14 L.length=true,true=true,true=true,true=true,true=true,true=true,true=true,true=true,true=true,true=true,true=true,true=true,true=true,true=true,true=true]) [.go,.go,.go,.go,.go,.go,.go,.go,.go,.go,.go,.b false,.go,.b false,.go,.b false,.go,.b false,.go,.go,.go,.b true,.b true,.b true,.b true,.go,.go,.b true,.b true,.b true,.b true,.go,.go,.go,.b true,.b true,.b true,.go,.go,.b true,.b true,.b true,.go,.b true,.go] (by kernel_rfl) (by kernel_rfl) ⟨hqzEd3_1,rfl,rfl,rfl,hqzEd3_2,rfl,rfl,rfl,rfl,rfl,rfl,rfl,rfl,rfl,rfl,rfl,rfl,rfl,rfl,trivial⟩ rfl) (Hd.en_eq (r:=(.bool .true)) (by rfl) (Hd.en_ret (v:=(.v (.bool .true))) (by kernel_rfl) rfl))
  ·skip
   have ghqzEd3_2:=lF hqzEd3_2
   rcases bE (ltI 14 B.length) with hqzEd3_3 | hqzEd3_3
   ·skip
    have ghqzEd3_3:=lT hqzEd3_3
    exact gL isR_e (gT cm (known_zed_ hw) 200 (T':=q36_3) (e:=.ret) (ps:=[ltI 14 A.length=false,false=false,false=false,false=false,ltI 14 L.length=false,false=false,false=false,false=false,ltI 14 B.length=true,true=true,true=true,true=true,true=true,true=true,true=true,true=true,true=true,true=true,true=true]) [.go,.go,.go,.go,.go,.go,.go,.go,.go,.go,.go,.b false,.go,.b false,.go,.b false,.go,.b false,.go,.go,.go,.b false,.go,.b false,.go,.b false,.go,.b false,.go,.go,.go,.b true,.b true,.b true,.b true,.go,.go,.go,.b true,.b true,.b true,.go,.go,.b true,.b true,.b true,.go,.b true,.go] (by kernel_rfl) (by kernel_rfl) ⟨hqzEd3_1,rfl,rfl,rfl,hqzEd3_2,rfl,rfl,rfl,hqzEd3_3,rfl,rfl,rfl,rfl,rfl,rfl,rfl,rfl,rfl,rfl,trivial⟩ rfl) (Hd.en_eq (r:=(.bool .true)) (by rfl) (Hd.en_ret (v:=(.v (.bool .true))) (by kernel_rfl) rfl))
   ·skip
    have ghqzEd3_3:=lF hqzEd3_3
    rcases bE (ltI 100 W.length) with hqzEd3_4 | hqzEd3_4
    ·skip
     have ghqzEd3_4:=lT hqzEd3_4
     exact gL isR_e (gT cm (known_zed_ hw) 200 (T':=q36_3) (e:=.ret) (ps:=[ltI 14 A.length=false,false=false,false=false,false=false,ltI 14 L.length=false,false=false,false=false,false=false,ltI 14 B.length=false,false=false,false=false,false=false,ltI 100 W.length=true,true=true,true=true,true=true,true=true,true=true,true=true]) [.go,.go,.go,.go,.go,.go,.go,.go,.go,.go,.go,.b false,.go,.b false,.go,.b false,.go,.b false,.go,.go,.go,.b false,.go,.b false,.go,.b false,.go,.b false,.go,.go,.go,.b false,.go,.b false,.go,.b false,.go,.b false,.go,.go,.go,.go,.b true,.b true,.b true,.go,.go,.b true,.b true,.b true,.go,.b true,.go] (by kernel_rfl) (by kernel_rfl) ⟨hqzEd3_1,rfl,rfl,rfl,hqzEd3_2,rfl,rfl,rfl,hqzEd3_3,rfl,rfl,rfl,hqzEd3_4,rfl,rfl,rfl,rfl,rfl,rfl,trivial⟩ rfl) (Hd.en_eq (r:=(.bool .true)) (by rfl) (Hd.en_ret (v:=(.v (.bool .true))) (by kernel_rfl) rfl))
    ·skip
     have ghqzEd3_4:=lF hqzEd3_4
     rcases bE (eqI (clE (cI A) A.length (cR L) L.length B.length (cI W) W.length) 0) with hqzEd3_5 | hqzEd3_5
     ·skip
      have ghqzEd3_5:=eqI_true hqzEd3_5
      rcases bE (ltI 100 X.length) with hqzEd3_6 | hqzEd3_6
      ·skip
       have ghqzEd3_6:=lT hqzEd3_6
       exfalso
       have h9:=lT hqzEd3_6
       omega
      ·skip
       have ghqzEd3_6:=lF hqzEd3_6
       rcases bE (eqI (doE (cI A) A.length (cR L) L.length (cB B) B.length (cI W) W.length) 0) with hqzEd3_7 | hqzEd3_7
       ·skip
        have ghqzEd3_7:=eqI_true hqzEd3_7
        rcases bE (eqI (cdE (cI A) A.length (cR L) L.length (cB B) B.length (cI W) W.length (doI (cI A) A.length (cR L) L.length (cB B) B.length (cI W) W.length) (doK (cI A) A.length (cR L) L.length (cB B) B.length (cI W) W.length)) 0) with hqzEd3_8 | hqzEd3_8
        ·skip
         have ghqzEd3_8:=eqI_true hqzEd3_8
         rcases bE (eqI (tE (cI A) A.length (cR L) L.length (cB B) B.length (cI W) W.length (cI X) X.length) 0) with hqzEd3_9 | hqzEd3_9
         ·skip
          have ghqzEd3_9:=eqI_true hqzEd3_9
          exact absurd (eqI_true hqzEd3_9) g3
         ·skip
          have ghqzEd3_9:=eqI_false hqzEd3_9
          exact gL isR_e (gT cm (known_zed_ hw) 200 (T':=q36_3) (e:=.ret) (ps:=[ltI 14 A.length=false,false=false,false=false,false=false,ltI 14 L.length=false,false=false,false=false,false=false,ltI 14 B.length=false,false=false,false=false,false=false,ltI 100 W.length=false,false=false,IsLampK 1 2 1 1 (cI A) A.length (cR L) L.length (cB B) B.length (cI W) W.length,false=false,(!eqI (clE (cI A) A.length (cR L) L.length B.length (cI W) W.length) 0)=false,false=false,false=false,ltI 100 X.length=false,IsLampK 1 2 1 1 (cI A) A.length (cR L) L.length (cB B) B.length (cI W) W.length,FreeL (cI A),FreeL (cR L),FreeL (cB B),FreeL (cI W),IsLampK 1 2 1 1 (cI A) A.length (cR L) L.length (cB B) B.length (cI W) W.length,ZK A L B W,¬fdAll (cB B) (cR L) A.length=none,eqI (doE (cI A) A.length (cR L) L.length (cB B) B.length (cI W) W.length) 0=true,eqI 21 21=true,true=true,true=true,true=true,IsLampK 1 2 1 1 (cI A) A.length (cR L) L.length (cB B) B.length (cI W) W.length,true=true,eqI (cdE (cI A) A.length (cR L) L.length (cB B) B.length (cI W) W.length (doI (cI A) A.length (cR L) L.length (cB B) B.length (cI W) W.length) (doK (cI A) A.length (cR L) L.length (cB B) B.length (cI W) W.length)) 0=true,true=true,true=true,true=true,IsLampK 1 2 1 1 (cI A) A.length (cR L) L.length (cB B) B.length (cI W) W.length,true=true,eqI (cdE (cI A) A.length (cR L) L.length (cB B) B.length (cI W) W.length (doI (cI A) A.length (cR L) L.length (cB B) B.length (cI W) W.length) (doK (cI A) A.length (cR L) L.length (cB B) B.length (cI W) W.length)) 0=true,true=true,true=true,IsLamX 1 2 1 1 1 (cI A) A.length (cR L) L.length (cB B) B.length (cI W) W.length (cI X) X.length,true=true,(!eqI (tE (cI A) A.length (cR L) L.length (cB B) B.length (cI W) W.length (cI X) X.length) 0)=true]) [.go,.go,.go,.go,.go,.go,.go,.go,.go,.go,.go,.b false,.go,.b false,.go,.b false,.go,.b false,.go,.go,.go,.b false,.go,.b false,.go,.b false,.go,.b false,.go,.go,.go,.b false,.go,.b false,.go,.b false,.go,.b false,.go,.go,.go,.go,.b false,.go,.b false,.b false,.go,.go,.go,.b false,.go,.b false,.go,.b false,.go,.go,.b false,.go,.go,.go,.go,.go,.go,.go,.go,.go,.go,.go,.go,.go,.go,.go,.go,.b true,.go,.go,.go,.b true,.go,.b true,.go,.b true,.go,.b true,.b true,.go,.go,.go,.b true,.go,.b true,.go,.b true,.go,.b true,.b true,.go,.go,.go,.b true,.go,.b true,.go,.b true,.b true,.go,.go,.go,.b true,.go,.go] (by kernel_rfl) (by kernel_rfl) ⟨hqzEd3_1,rfl,rfl,rfl,hqzEd3_2,rfl,rfl,rfl,hqzEd3_3,rfl,rfl,rfl,hqzEd3_4,rfl,⟨rfl,rfl,rfl,rfl,A,L,B,W,rfl,rfl,rfl,rfl,rfl,rfl,rfl,rfl⟩,rfl,(by rw [hqzEd3_5]; rfl),rfl,rfl,hqzEd3_6,⟨rfl,rfl,rfl,rfl,A,L,B,W,rfl,rfl,rfl,rfl,rfl,rfl,rfl,rfl⟩,(freeL_plain (cI_plain A)),(freeL_plain (cR_plain L)),(freeL_plain (cB_plain B)),(freeL_plain (cI_plain W)),⟨rfl,rfl,rfl,rfl,A,L,B,W,rfl,rfl,rfl,rfl,rfl,rfl,rfl,rfl⟩,hz,hf,hqzEd3_7,rfl,rfl,rfl,rfl,⟨rfl,rfl,rfl,rfl,A,L,B,W,rfl,rfl,rfl,rfl,rfl,rfl,rfl,rfl⟩,rfl,hqzEd3_8,rfl,rfl,rfl,⟨rfl,rfl,rfl,rfl,A,L,B,W,rfl,rfl,rfl,rfl,rfl,rfl,rfl,rfl⟩,rfl,hqzEd3_8,rfl,rfl,⟨⟨rfl,rfl,rfl,rfl,A,L,B,W,rfl,rfl,rfl,rfl,rfl,rfl,rfl,rfl⟩,rfl,X,rfl,rfl⟩,rfl,(by rw [hqzEd3_9]; rfl),trivial⟩ rfl) (Hd.en_eq (r:=(.bool .true)) (by rfl) (Hd.en_ret (v:=(.v (.bool .true))) (by kernel_rfl) rfl))
        ·skip
         have ghqzEd3_8:=eqI_false hqzEd3_8
         exact absurd g2 (eqI_false hqzEd3_8)
       ·skip
        have ghqzEd3_7:=eqI_false hqzEd3_7
        rcases bE (eqI (doE (cI A) A.length (cR L) L.length (cB B) B.length (cI W) W.length) 5) with hqzEd3_10 | hqzEd3_10
        ·skip
         have ghqzEd3_10:=eqI_true hqzEd3_10
         exact absurd g1 (eqI_false hqzEd3_7)
        ·skip
         have ghqzEd3_10:=eqI_false hqzEd3_10
         exact absurd g1 (eqI_false hqzEd3_7)
     ·skip
      have ghqzEd3_5:=eqI_false hqzEd3_5
      exact absurd hz (eqI_false hqzEd3_5)
theorem ze_d (ya yl yf yw:Value) (A:List Int) (L:PR) (B:List Bool) (W:List Int) (yx:Value) (X:List Int) (e1 e2:Int) (hw:Known pg (clsO zwO)) (hu:0≤e1∧e1≤255) (hv:0≤e2∧e2≤255) (hz:ZK A L B W) (hX:X.length≤100) (hd:dtd (cI A) A.length (cR L) (cB B) W.length):GivesA pg 8 [.agg (q36_2 A B L W ya yf yl yw),.xl yx X.length 1 (cI X),.agg [.v (.int .u8 e1),.v (.int .u8 e2)]] (.bool true) :=
 givesA_partsH 107 Try.func8 (by kernel_rfl) (by kernel_rfl) (by kernel_rfl) (fun w=>goes_less (by kernel_rfl) (by kernel_rfl) (by kernel_rfl) (by kernel_rfl) (zEd_2 ya yl yf yw A L B W yx X e1 e2 hw hu hv hz hX hd w []))
def zEnK1:Code:=bodyC Try.f8
theorem zEn_2 (ya yl yf yw:Value) (A:List Int) (L:PR) (B:List Bool) (W:List Int) (yx:Value) (X:List Int) (e1 e2:Int) (hw:Known pg (clsO zwO)) (hu:0≤e1∧e1≤255) (hv:0≤e2∧e2≤255) (hz:ZK A L B W) (hX:X.length≤100) (hd:¬ dtd (cI A) A.length (cR L) (cB B) W.length) (w:World) (hs:LN):Goes pg 107 zEnK1 ((q36_1 A B L W X e1 e2 ya yf yl yw yx)) (BaseW.H w hs) (OutH pg Try.f8 107 (.bool true) w):=by
 obtain ⟨hcl_A,hcl_L,hcl_B,hcl_W⟩:=hcZ36 A B L W
 have hcl_X:=cI_len X
 obtain ⟨hn,ha,he,hl,hw0⟩:=clE_zero hz
 have hW:=(deg_bd hn ha he 0 (by omega)).2.2.1
 have he2:=he
 unfold eqP at he2
 have hf:=fd_none hz hd
 obtain ⟨g1,g2,g3⟩:=do_none (B:=cB B) hz hd
 have g4:=lan_true hz hd (rdB (cI A) A.length (cR L) (cB B) W.length W.length).1 (.inl (fun _=>rfl))
 rcases bE (ltI 14 A.length) with hqzEn3_1 | hqzEn3_1
 ·skip
  have ghqzEn3_1:=lT hqzEn3_1
  exact gL isR_e (gT cm (known_zen_ hw) 200 (T':=q36_3) (e:=.ret) (ps:=[ltI 14 A.length=true,true=true,true=true,true=true,true=true,true=true,true=true,true=true,true=true,true=true,true=true,true=true,true=true,true=true,true=true,true=true,true=true,true=true,true=true]) [.go,.go,.go,.go,.go,.go,.go,.go,.go,.go,.go,.b true,.b true,.b true,.b true,.go,.go,.b true,.b true,.b true,.b true,.go,.go,.b true,.b true,.b true,.b true,.go,.go,.go,.b true,.b true,.b true,.go,.go,.b true,.b true,.b true,.go,.b true,.go] (by kernel_rfl) (by kernel_rfl) ⟨hqzEn3_1,rfl,rfl,rfl,rfl,rfl,rfl,rfl,rfl,rfl,rfl,rfl,rfl,rfl,rfl,rfl,rfl,rfl,rfl,trivial⟩ rfl) (Hd.en_eq (r:=(.bool .true)) (by rfl) (Hd.en_ret (v:=(.v (.bool .true))) (by kernel_rfl) rfl))
 ·skip
  have ghqzEn3_1:=lF hqzEn3_1
  rcases bE (ltI 14 L.length) with hqzEn3_2 | hqzEn3_2
  ·skip
   have ghqzEn3_2:=lT hqzEn3_2
   exact gL isR_e (gT cm (known_zen_ hw) 200 (T':=q36_3) (e:=.ret) (ps:=[ltI 14 A.length=false,false=false,false=false,false=false,ltI 14 L.length=true,true=true,true=true,true=true,true=true,true=true,true=true,true=true,true=true,true=true,true=true,true=true,true=true,true=true,true=true]) [.go,.go,.go,.go,.go,.go,.go,.go,.go,.go,.go,.b false,.go,.b false,.go,.b false,.go,.b false,.go,.go,.go,.b true,.b true,.b true,.b true,.go,.go,.b true,.b true,.b true,.b true,.go,.go,.go,.b true,.b true,.b true,.go,.go,.b true,.b true,.b true,.go,.b true,.go] (by kernel_rfl) (by kernel_rfl) ⟨hqzEn3_1,rfl,rfl,rfl,hqzEn3_2,rfl,rfl,rfl,rfl,rfl,rfl,rfl,rfl,rfl,rfl,rfl,rfl,rfl,rfl,trivial⟩ rfl) (Hd.en_eq (r:=(.bool .true)) (by rfl) (Hd.en_ret (v:=(.v (.bool .true))) (by kernel_rfl) rfl))
  ·skip
   have ghqzEn3_2:=lF hqzEn3_2
   rcases bE (ltI 14 B.length) with hqzEn3_3 | hqzEn3_3
   ·skip
    have ghqzEn3_3:=lT hqzEn3_3
    exact gL isR_e (gT cm (known_zen_ hw) 200 (T':=q36_3) (e:=.ret) (ps:=[ltI 14 A.length=false,false=false,false=false,false=false,ltI 14 L.length=false,false=false,false=false,false=false,ltI 14 B.length=true,true=true,true=true,true=true,true=true,true=true,true=true,true=true,true=true,true=true,true=true]) [.go,.go,.go,.go,.go,.go,.go,.go,.go,.go,.go,.b false,.go,.b false,.go,.b false,.go,.b false,.go,.go,.go,.b false,.go,.b false,.go,.b false,.go,.b false,.go,.go,.go,.b true,.b true,.b true,.b true,.go,.go,.go,.b true,.b true,.b true,.go,.go,.b true,.b true,.b true,.go,.b true,.go] (by kernel_rfl) (by kernel_rfl) ⟨hqzEn3_1,rfl,rfl,rfl,hqzEn3_2,rfl,rfl,rfl,hqzEn3_3,rfl,rfl,rfl,rfl,rfl,rfl,rfl,rfl,rfl,rfl,trivial⟩ rfl) (Hd.en_eq (r:=(.bool .true)) (by rfl) (Hd.en_ret (v:=(.v (.bool .true))) (by kernel_rfl) rfl))
   ·skip
    have ghqzEn3_3:=lF hqzEn3_3
    rcases bE (ltI 100 W.length) with hqzEn3_4 | hqzEn3_4
    ·skip
     have ghqzEn3_4:=lT hqzEn3_4
     exact gL isR_e (gT cm (known_zen_ hw) 200 (T':=q36_3) (e:=.ret) (ps:=[ltI 14 A.length=false,false=false,false=false,false=false,ltI 14 L.length=false,false=false,false=false,false=false,ltI 14 B.length=false,false=false,false=false,false=false,ltI 100 W.length=true,true=true,true=true,true=true,true=true,true=true,true=true]) [.go,.go,.go,.go,.go,.go,.go,.go,.go,.go,.go,.b false,.go,.b false,.go,.b false,.go,.b false,.go,.go,.go,.b false,.go,.b false,.go,.b false,.go,.b false,.go,.go,.go,.b false,.go,.b false,.go,.b false,.go,.b false,.go,.go,.go,.go,.b true,.b true,.b true,.go,.go,.b true,.b true,.b true,.go,.b true,.go] (by kernel_rfl) (by kernel_rfl) ⟨hqzEn3_1,rfl,rfl,rfl,hqzEn3_2,rfl,rfl,rfl,hqzEn3_3,rfl,rfl,rfl,hqzEn3_4,rfl,rfl,rfl,rfl,rfl,rfl,trivial⟩ rfl) (Hd.en_eq (r:=(.bool .true)) (by rfl) (Hd.en_ret (v:=(.v (.bool .true))) (by kernel_rfl) rfl))
    ·skip
     have ghqzEn3_4:=lF hqzEn3_4
     rcases bE (eqI (clE (cI A) A.length (cR L) L.length B.length (cI W) W.length) 0) with hqzEn3_5 | hqzEn3_5
     ·skip
      have ghqzEn3_5:=eqI_true hqzEn3_5
      rcases bE (ltI 100 X.length) with hqzEn3_6 | hqzEn3_6
      ·skip
       have ghqzEn3_6:=lT hqzEn3_6
       exfalso
       have h9:=lT hqzEn3_6
       omega
      ·skip
       have ghqzEn3_6:=lF hqzEn3_6
       rcases bE (eqI (doE (cI A) A.length (cR L) L.length (cB B) B.length (cI W) W.length) 0) with hqzEn3_7 | hqzEn3_7
       ·skip
        have ghqzEn3_7:=eqI_true hqzEn3_7
        exact absurd (g3.symm.trans (eqI_true hqzEn3_7)) (by decide)
       ·skip
        have ghqzEn3_7:=eqI_false hqzEn3_7
        rcases bE (eqI (doE (cI A) A.length (cR L) L.length (cB B) B.length (cI W) W.length) 5) with hqzEn3_8 | hqzEn3_8
        ·skip
         have ghqzEn3_8:=eqI_true hqzEn3_8
         rcases bE (eqI (tE (cI A) A.length (cR L) L.length (cB B) B.length (cI W) W.length (List.take (W.length * (0 + 1)) (List.drop 0 (cI (tI (rdB (cI A) A.length (cR L) (cB B) W.length W.length).fst W.length)))) W.length) 0) with hqzEn3_9 | hqzEn3_9
         ·skip
          have ghqzEn3_9:=eqI_true hqzEn3_9
          rcases bE (eqI (cdE (cI A) A.length (cR L) L.length (cB B) B.length (cI W) W.length ((IntKind.i64.wrap e1).tmod A.length) ((IntKind.i64.wrap e2).tmod A.length)) 0) with hqzEn3_10 | hqzEn3_10
          ·skip
           have ghqzEn3_10:=eqI_true hqzEn3_10
           exact absurd (eqI_true hqzEn3_10) (cd_no hz hd)
          ·skip
           have ghqzEn3_10:=eqI_false hqzEn3_10
           exact gL isR_e (gT cm (known_zen_ hw) 200 (T':=⟨[(6,(.v (.bool .true)))],[],4,[]⟩) (e:=.ret) (ps:=[ltI 14 A.length=false,false=false,false=false,false=false,ltI 14 L.length=false,false=false,false=false,false=false,ltI 14 B.length=false,false=false,false=false,false=false,ltI 100 W.length=false,false=false,IsLampK 1 2 1 1 (cI A) A.length (cR L) L.length (cB B) B.length (cI W) W.length,false=false,(!eqI (clE (cI A) A.length (cR L) L.length B.length (cI W) W.length) 0)=false,false=false,false=false,ltI 100 X.length=false,IsLampK 1 2 1 1 (cI A) A.length (cR L) L.length (cB B) B.length (cI W) W.length,FreeL (cI A),FreeL (cR L),FreeL (cB B),FreeL (cI W),IsLampK 1 2 1 1 (cI A) A.length (cR L) L.length (cB B) B.length (cI W) W.length,ZK A L B W,fdAll (cB B) (cR L) A.length=none,false=false,eqI (doE (cI A) A.length (cR L) L.length (cB B) B.length (cI W) W.length) 0=false,(A.length:Int)≠0,(A.length:Int)≠0,eqI (doE (cI A) A.length (cR L) L.length (cB B) B.length (cI W) W.length) 5=true,true=true,eqI 0 0=true,true=true,true=true,0 + W.length * (0 + 1)≤((cI (tI (rdB (cI A) A.length (cR L) (cB B) W.length W.length).fst W.length)):List AV).length,W.length≤W.length,IsLamX 1 2 1 1 (0 + 1) (cI A) A.length (cR L) L.length (cB B) B.length (cI W) W.length (List.take (W.length * (0 + 1)) (List.drop 0 (cI (tI (rdB (cI A) A.length (cR L) (cB B) W.length W.length).fst W.length)))) W.length,true=true,eqI (tE (cI A) A.length (cR L) L.length (cB B) B.length (cI W) W.length (List.take (W.length * (0 + 1)) (List.drop 0 (cI (tI (rdB (cI A) A.length (cR L) (cB B) W.length W.length).fst W.length)))) W.length) 0=true,true=true,true=true,0 + W.length * (0 + 1)≤((cI (tI (rdB (cI A) A.length (cR L) (cB B) W.length W.length).fst W.length)):List AV).length,W.length≤W.length,IsLamX 1 2 1 1 (0 + 1) (cI A) A.length (cR L) L.length (cB B) B.length (cI W) W.length (List.take (W.length * (0 + 1)) (List.drop 0 (cI (tI (rdB (cI A) A.length (cR L) (cB B) W.length W.length).fst W.length)))) W.length,true=true,eqI (tE (cI A) A.length (cR L) L.length (cB B) B.length (cI W) W.length (List.take (W.length * (0 + 1)) (List.drop 0 (cI (tI (rdB (cI A) A.length (cR L) (cB B) W.length W.length).fst W.length)))) W.length) 0=true,true=true,true=true,true=true,IsLampK 1 2 1 1 (cI A) A.length (cR L) L.length (cB B) B.length (cI W) W.length,true=true,(!eqI (cdE (cI A) A.length (cR L) L.length (cB B) B.length (cI W) W.length ((IntKind.i64.wrap e1).tmod A.length) ((IntKind.i64.wrap e2).tmod A.length)) 0)=true]) [.go,.go,.go,.go,.go,.go,.go,.go,.go,.go,.go,.b false,.go,.b false,.go,.b false,.go,.b false,.go,.go,.go,.b false,.go,.b false,.go,.b false,.go,.b false,.go,.go,.go,.b false,.go,.b false,.go,.b false,.go,.b false,.go,.go,.go,.go,.b false,.go,.b false,.b false,.go,.go,.go,.b false,.go,.b false,.go,.b false,.go,.go,.b false,.go,.go,.go,.go,.go,.go,.go,.go,.go,.go,.go,.go,.go,.go,.go,.go,.b false,.go,.go,.go,.go,.go,.go,.go,.go,.go,.go,.go,.go,.go,.go,.go,.go,.go,.go,.go,.b true,.go,.b true,.go,.go,.go,.b true,.go,.b true,.go,.b true,.b true,.go,.go,.go,.b true,.go,.b true,.go,.b true,.b true,.go,.go,.go,.b true,.go,.b true,.go,.b true,.go,.b true,.b true,.go,.go,.go,.b true,.go,.go] (by kernel_rfl) (by kernel_rfl) ⟨hqzEn3_1,rfl,rfl,rfl,hqzEn3_2,rfl,rfl,rfl,hqzEn3_3,rfl,rfl,rfl,hqzEn3_4,rfl,⟨rfl,rfl,rfl,rfl,A,L,B,W,rfl,rfl,rfl,rfl,rfl,rfl,rfl,rfl⟩,rfl,(by rw [hqzEn3_5]; rfl),rfl,rfl,hqzEn3_6,⟨rfl,rfl,rfl,rfl,A,L,B,W,rfl,rfl,rfl,rfl,rfl,rfl,rfl,rfl⟩,(freeL_plain (cI_plain A)),(freeL_plain (cR_plain L)),(freeL_plain (cB_plain B)),(freeL_plain (cI_plain W)),⟨rfl,rfl,rfl,rfl,A,L,B,W,rfl,rfl,rfl,rfl,rfl,rfl,rfl,rfl⟩,hz,hf,rfl,hqzEn3_7,(by omega),(by omega),hqzEn3_8,rfl,rfl,rfl,rfl,(by show _≤(cI _).length; rw [cI_len,tI_len]; omega),(Nat.le_refl _),⟨⟨rfl,rfl,rfl,rfl,A,L,B,W,rfl,rfl,rfl,rfl,rfl,rfl,rfl,rfl⟩,rfl,_,take_tI,(tI_len _ _).symm⟩,rfl,hqzEn3_9,rfl,rfl,(by show _≤(cI _).length; rw [cI_len,tI_len]; omega),(Nat.le_refl _),⟨⟨rfl,rfl,rfl,rfl,A,L,B,W,rfl,rfl,rfl,rfl,rfl,rfl,rfl,rfl⟩,rfl,_,take_tI,(tI_len _ _).symm⟩,rfl,hqzEn3_9,rfl,rfl,rfl,⟨rfl,rfl,rfl,rfl,A,L,B,W,rfl,rfl,rfl,rfl,rfl,rfl,rfl,rfl⟩,rfl,(by rw [hqzEn3_10]; rfl),trivial⟩ rfl) (Hd.en_eq (r:=(.bool .true)) (by rfl) (Hd.en_ret (v:=(.v (.bool .true))) (by kernel_rfl) rfl))
         ·skip
          have ghqzEn3_9:=eqI_false hqzEn3_9
          exact absurd (show tE (cI A) A.length (cR L) L.length (cB B) B.length (cI W) W.length (List.take (W.length * 1) (List.drop 0 (cI (tI (rdB (cI A) A.length (cR L) (cB B) W.length W.length).1 W.length)))) W.length=0 from by rw [take_tI]; exact g4) (eqI_false hqzEn3_9)
        ·skip
         have ghqzEn3_8:=eqI_false hqzEn3_8
         exact absurd g3 (eqI_false hqzEn3_8)
     ·skip
      have ghqzEn3_5:=eqI_false hqzEn3_5
      exact absurd hz (eqI_false hqzEn3_5)
theorem ze_n (ya yl yf yw:Value) (A:List Int) (L:PR) (B:List Bool) (W:List Int) (yx:Value) (X:List Int) (e1 e2:Int) (hw:Known pg (clsO zwO)) (hu:0≤e1∧e1≤255) (hv:0≤e2∧e2≤255) (hz:ZK A L B W) (hX:X.length≤100) (hd:¬ dtd (cI A) A.length (cR L) (cB B) W.length):GivesA pg 8 [.agg (q36_2 A B L W ya yf yl yw),.xl yx X.length 1 (cI X),.agg [.v (.int .u8 e1),.v (.int .u8 e2)]] (.bool true) :=
 givesA_partsH 107 Try.func8 (by kernel_rfl) (by kernel_rfl) (by kernel_rfl) (fun w=>goes_less (by kernel_rfl) (by kernel_rfl) (by kernel_rfl) (by kernel_rfl) (zEn_2 ya yl yf yw A L B W yx X e1 e2 hw hu hv hz hX hd w []))
theorem law_zeither (hw:Known pg (clsO zwO)) (ya yl yf yw:Value) (A:List Int) (L:PR) (B:List Bool) (W:List Int) (yx:Value) (X:List Int) (e1 e2:Int) (hu:0≤e1∧e1≤255) (hv:0≤e2∧e2≤255):GivesA pg 8 [.agg (q36_2 A B L W ya yf yl yw),.xl yx X.length 1 (cI X),.agg [.v (.int .u8 e1),.v (.int .u8 e2)]] (.bool true):=by
 by_cases hz:ZK A L B W
 ·by_cases hX:100 < X.length
  ·exact ze_x ya yl yf yw A L B W yx X e1 e2 hw hu hv hz hX
  ·by_cases hd:dtd (cI A) A.length (cR L) (cB B) W.length
   ·exact ze_d ya yl yf yw A L B W yx X e1 e2 hw hu hv hz (by omega) hd
   ·exact ze_n ya yl yf yw A L B W yx X e1 e2 hw hu hv hz (by omega) hd
 ·exact ze_c ya yl yf yw A L B W yx X e1 e2 hw hu hv hz
end
end Go.Proofs.Ytldekgkjofgacaa
