import Derived.Test.YtldekgkjofgacaaZ3a
import Derived.Test.YtldekgkjofgacaaAu
set_option maxHeartbeats 4000000
set_option linter.all false
/- CheckLamp. -/
namespace Go.Proofs.Ytldekgkjofgacaa
open Go Ev
noncomputable section
abbrev ZK (A:List Int) (L:PR) (B:List Bool) (W:List Int):Prop:=clE (cI A) A.length (cR L) L.length B.length (cI W) W.length=0
theorem iRZ6 {a:Int} (h : -9223372036854775808≤a) (k:a≤9223372036854775807):inR .i64 a:=⟨h,k⟩
section
variable (A : List Int) (B : List Bool) (L : PR) (W : List Int) (w : World) (x : Int) (ya yf yl yw : Value)
abbrev q6_5:Nat×Ev.AB:=(0,(.cells [(.xl (ya) (A.length) 1 (cI A)),(.xl (yl) (L.length) 2 (cR L)),(.xl (yf) (B.length) 1 (cB B)),(.xl (yw) (W.length) 1 (cI W))] 26))
abbrev q6_1:Ev.Lit:=⟨[(1,(.v (.int .i64 (x)))),(2,(.ptr 0 0)),(5,(.v (.int .i64 (.ofNat 0))))],[],1,[(q6_5 A B L W ya yf yl yw)]⟩
abbrev q6_2:Ev.Lit:=⟨[(1,(.v (.int .i64 (x)))),(2,(.ptr 0 0))],[],1,[(q6_5 A B L W ya yf yl yw)]⟩
abbrev q6_11:Nat×Ev.AV:=(3,.v (.int .i64 A.length))
abbrev q6_7:List Ev.AV:=[.xl ya A.length 1 (cI A),.xl yl L.length 2 (cR L),.xl yf B.length 1 (cB B),.xl yw W.length 1 (cI W)]
abbrev q6_6:Nat×Ev.AB:=(0,.cells (q6_7 A B L W ya yf yl yw) 26)
abbrev q6_3:Ev.Lit:=⟨[(1,.ptr 0 0),(q6_11 A)],[],1,[(q6_6 A B L W ya yf yl yw)]⟩
abbrev q6_4:Ev.Lit:=⟨[(1,.ptr 0 0)],[],1,[(q6_6 A B L W ya yf yl yw)]⟩
abbrev q6_10:=(clE (cI A) A.length (cR L) L.length B.length (cI W) W.length)
abbrev q6_8:=(OutR pg Try.f20 117 (.int .i64 (q6_10 A B L W)) w)
end
theorem cl_g (ya yl yf yw:Value) (A:List Int) (L:PR) (B:List Bool) (W:List Int):GivesA pg 19 [.agg (q6_7 A B L W ya yf yl yw)] (.int .i64 (clE (cI A) A.length (cR L) L.length B.length (cI W) W.length)):=by
 have hcA:=cI_len A
 have ht:((A.length:Int) - 1).toNat=A.length - 1:=by omega
 cases hq1:(ltI (↑A.length) 2) with
 | true =>
  have ghq1:=lT hq1
  rw [clE_many (by omega)]
  exact givesA_told (v:=(.v (.int .i64 (.ofNat 6)))) (ps:=[(!ltI (↑A.length) 2)=false,false=false,false=false,(!false)=true]) cm known_ck 200 [.go,.go,.go,.go,.go,.go,.go,.go,.go,.go,.go,.go,.b false,.b false,.b false,.go,.go,.go,.b true,.go] (by kernel_rfl) ⟨(by rw [hq1]; rfl),rfl,rfl,rfl,trivial⟩ rfl
 | false =>
  have ghq1:=lF hq1
  cases hq2:(ltI 10 ↑A.length) with
  | true =>
   have ghq2:=lT hq2
   rw [clE_many (by omega)]
   exact givesA_told (v:=(.v (.int .i64 (.ofNat 6)))) (ps:=[(!ltI (↑A.length) 2)=true,true=true,true=true,(!!ltI 10 ↑A.length)=true]) cm known_ck 200 [.go,.go,.go,.go,.go,.go,.go,.go,.go,.go,.go,.go,.b true,.go,.b true,.go,.b true,.go,.go,.go,.go,.b true,.go] (by kernel_rfl) ⟨(by rw [hq1]; rfl),rfl,rfl,(by rw [hq2]; rfl),trivial⟩ rfl
  | false =>
   have ghq2:=lF hq2
   cases hq3:(allB (angAt (cI A)) A.length) with
   | true =>
    have ghq3:=allB_true.1 hq3
    have hb2:=ang_bd ghq3 (A.length - 1) (by omega)
    have hb1:=hb2
    rw [← ht] at hb1
    have hb0:=ang_bd ghq3 0 (by omega)
    cases hq4:(eqI ↑L.length ↑A.length) with
    | true =>
     have ghq4:=eqI_true hq4
     cases hq5:(eqI (↑B.length) (↑A.length - 1)) with
     | true =>
      have ghq5:=eqI_true hq5
      cases hq6:(eqI (↑W.length) (intAt (cI A) (((A.length:Int) - 1).toNat * 1) - intAt (cI A) (0 * 1) + 1)) with
      | true =>
       have ghq6:=eqI_true hq6
       rw [ht] at ghq6
       cases hq7:(allB (rngAt 200 (cR L)) L.length) with
       | true =>
        have ghq7:=allB_true.1 hq7
        cases hq8:(allB (wgtAt (cI W)) W.length) with
        | true =>
         have ghq8:=allB_true.1 hq8
         rw [clE_ok (by omega) ghq3 (by unfold eqP degI; omega) ghq7 ghq8]
         exact givesA_told (v:=(.v (.int .i64 (.ofNat 0)))) (ps:=[(!ltI (↑A.length) 2)=true,true=true,true=true,(!!ltI 10 ↑A.length)=false,IsI (0 + 1) A.length (cI A),A.length≤1000,(!allB (angAt (cI A)) A.length)=false,(!eqI ↑L.length ↑A.length)=false,false=false,false=false,false=false,false=false,inR .i64 (↑A.length - 1),false=false,(!eqI (↑B.length) (↑A.length - 1))=false,false=false,false=false,false=false,false=false,inR .i64 (↑A.length - 1),(0:Int)≤↑A.length - 1,((A.length:Int) - 1).toNat < A.length,loadL pg (cI A) (((A.length:Int) - 1).toNat * 1) 2=some (.v (.int .i64 (intAt (cI A) (((A.length:Int) - 1).toNat * 1)))),0 < A.length,loadL pg (cI A) (0 * 1) 2=some (.v (.int .i64 (intAt (cI A) (0 * 1)))),inR .i64 (intAt (cI A) (((A.length:Int) - 1).toNat * 1) - intAt (cI A) (0 * 1)),inR .i64 (intAt (cI A) (((A.length:Int) - 1).toNat * 1) - intAt (cI A) (0 * 1) + 1),false=false,(!eqI (↑W.length) (intAt (cI A) (((A.length:Int) - 1).toNat * 1) - intAt (cI A) (0 * 1) + 1))=false,IsP (1 + 1) L.length (cR L),L.length≤1000,(!allB (rngAt 200 (cR L)) L.length)=false,false=false,false=false,IsI (0 + 1) W.length (cI W),W.length≤1000,false=false,(!allB (wgtAt (cI W)) W.length)=false]) cm known_ck 200 [.go,.go,.go,.go,.go,.go,.go,.go,.go,.go,.go,.go,.b true,.go,.b true,.go,.b true,.go,.go,.go,.go,.b false,.go,.go,.go,.b false,.go,.go,.go,.go,.go,.go,.b false,.go,.b false,.go,.b false,.go,.b false,.go,.b false,.go,.b false,.go,.go,.go,.b false,.go,.b false,.go,.b false,.go,.b false,.go,.b false,.go,.go,.go,.go,.go,.go,.go,.go,.go,.nat,.sym,.go,.go,.go,.go,.go,.sym,.sym,.go,.go,.go,.go,.b false,.go,.go,.b false,.go,.go,.go,.go,.b false,.go,.b false,.go,.b false,.b false,.go,.go,.b false,.go] (by kernel_rfl) ⟨(by rw [hq1]; rfl),rfl,rfl,(by rw [hq2]; rfl),⟨rfl,A,rfl,rfl⟩,(by omega),(by rw [hq3]; rfl),(by rw [hq4]; rfl),rfl,rfl,rfl,rfl,(iRZ6 (by omega) (by omega)),rfl,(by rw [hq5]; rfl),rfl,rfl,rfl,rfl,(iRZ6 (by omega) (by omega)),(by omega),(by omega),(by rw [Nat.mul_one]; exact cI_load (by omega) 2 (u2) rfl),(by omega),(by rw [Nat.mul_one]; exact cI_load (by omega) 2 (u2) rfl),(iRZ6 (by omega) (by omega)),(iRZ6 (by omega) (by omega)),rfl,(by rw [hq6]; rfl),⟨rfl,L,rfl,rfl⟩,(by omega),(by rw [hq7]; rfl),rfl,rfl,⟨rfl,W,rfl,rfl⟩,(by omega),rfl,(by rw [hq8]; rfl),trivial⟩ rfl
        | false =>
         have ghq8:=allB_false hq8
         rw [clE_arg (by omega) ghq3 (by unfold eqP degI; omega) (fun k=>ghq8 k.2)]
         exact givesA_told (v:=(.v (.int .i64 (.ofNat 2)))) (ps:=[(!ltI (↑A.length) 2)=true,true=true,true=true,(!!ltI 10 ↑A.length)=false,IsI (0 + 1) A.length (cI A),A.length≤1000,(!allB (angAt (cI A)) A.length)=false,(!eqI ↑L.length ↑A.length)=false,false=false,false=false,false=false,false=false,inR .i64 (↑A.length - 1),false=false,(!eqI (↑B.length) (↑A.length - 1))=false,false=false,false=false,false=false,false=false,inR .i64 (↑A.length - 1),(0:Int)≤↑A.length - 1,((A.length:Int) - 1).toNat < A.length,loadL pg (cI A) (((A.length:Int) - 1).toNat * 1) 2=some (.v (.int .i64 (intAt (cI A) (((A.length:Int) - 1).toNat * 1)))),0 < A.length,loadL pg (cI A) (0 * 1) 2=some (.v (.int .i64 (intAt (cI A) (0 * 1)))),inR .i64 (intAt (cI A) (((A.length:Int) - 1).toNat * 1) - intAt (cI A) (0 * 1)),inR .i64 (intAt (cI A) (((A.length:Int) - 1).toNat * 1) - intAt (cI A) (0 * 1) + 1),false=false,(!eqI (↑W.length) (intAt (cI A) (((A.length:Int) - 1).toNat * 1) - intAt (cI A) (0 * 1) + 1))=false,IsP (1 + 1) L.length (cR L),L.length≤1000,(!allB (rngAt 200 (cR L)) L.length)=false,false=false,false=false,IsI (0 + 1) W.length (cI W),W.length≤1000,false=false,(!allB (wgtAt (cI W)) W.length)=true]) cm known_ck 200 [.go,.go,.go,.go,.go,.go,.go,.go,.go,.go,.go,.go,.b true,.go,.b true,.go,.b true,.go,.go,.go,.go,.b false,.go,.go,.go,.b false,.go,.go,.go,.go,.go,.go,.b false,.go,.b false,.go,.b false,.go,.b false,.go,.b false,.go,.b false,.go,.go,.go,.b false,.go,.b false,.go,.b false,.go,.b false,.go,.b false,.go,.go,.go,.go,.go,.go,.go,.go,.go,.nat,.sym,.go,.go,.go,.go,.go,.sym,.sym,.go,.go,.go,.go,.b false,.go,.go,.b false,.go,.go,.go,.go,.b false,.go,.b false,.go,.b false,.b false,.go,.go,.b true,.go] (by kernel_rfl) ⟨(by rw [hq1]; rfl),rfl,rfl,(by rw [hq2]; rfl),⟨rfl,A,rfl,rfl⟩,(by omega),(by rw [hq3]; rfl),(by rw [hq4]; rfl),rfl,rfl,rfl,rfl,(iRZ6 (by omega) (by omega)),rfl,(by rw [hq5]; rfl),rfl,rfl,rfl,rfl,(iRZ6 (by omega) (by omega)),(by omega),(by omega),(by rw [Nat.mul_one]; exact cI_load (by omega) 2 (u2) rfl),(by omega),(by rw [Nat.mul_one]; exact cI_load (by omega) 2 (u2) rfl),(iRZ6 (by omega) (by omega)),(iRZ6 (by omega) (by omega)),rfl,(by rw [hq6]; rfl),⟨rfl,L,rfl,rfl⟩,(by omega),(by rw [hq7]; rfl),rfl,rfl,⟨rfl,W,rfl,rfl⟩,(by omega),rfl,(by rw [hq8]; rfl),trivial⟩ rfl
       | false =>
        have ghq7:=allB_false hq7
        rw [clE_arg (by omega) ghq3 (by unfold eqP degI; omega) (fun k=>ghq7 k.1)]
        exact givesA_told (v:=(.v (.int .i64 (.ofNat 2)))) (ps:=[(!ltI (↑A.length) 2)=true,true=true,true=true,(!!ltI 10 ↑A.length)=false,IsI (0 + 1) A.length (cI A),A.length≤1000,(!allB (angAt (cI A)) A.length)=false,(!eqI ↑L.length ↑A.length)=false,false=false,false=false,false=false,false=false,inR .i64 (↑A.length - 1),false=false,(!eqI (↑B.length) (↑A.length - 1))=false,false=false,false=false,false=false,false=false,inR .i64 (↑A.length - 1),(0:Int)≤↑A.length - 1,((A.length:Int) - 1).toNat < A.length,loadL pg (cI A) (((A.length:Int) - 1).toNat * 1) 2=some (.v (.int .i64 (intAt (cI A) (((A.length:Int) - 1).toNat * 1)))),0 < A.length,loadL pg (cI A) (0 * 1) 2=some (.v (.int .i64 (intAt (cI A) (0 * 1)))),inR .i64 (intAt (cI A) (((A.length:Int) - 1).toNat * 1) - intAt (cI A) (0 * 1)),inR .i64 (intAt (cI A) (((A.length:Int) - 1).toNat * 1) - intAt (cI A) (0 * 1) + 1),false=false,(!eqI (↑W.length) (intAt (cI A) (((A.length:Int) - 1).toNat * 1) - intAt (cI A) (0 * 1) + 1))=false,IsP (1 + 1) L.length (cR L),L.length≤1000,(!allB (rngAt 200 (cR L)) L.length)=true,true=true,true=true,true=true,true=true]) cm known_ck 200 [.go,.go,.go,.go,.go,.go,.go,.go,.go,.go,.go,.go,.b true,.go,.b true,.go,.b true,.go,.go,.go,.go,.b false,.go,.go,.go,.b false,.go,.go,.go,.go,.go,.go,.b false,.go,.b false,.go,.b false,.go,.b false,.go,.b false,.go,.b false,.go,.go,.go,.b false,.go,.b false,.go,.b false,.go,.b false,.go,.b false,.go,.go,.go,.go,.go,.go,.go,.go,.go,.nat,.sym,.go,.go,.go,.go,.go,.sym,.sym,.go,.go,.go,.go,.b false,.go,.go,.b false,.go,.go,.go,.go,.b true,.b true,.b true,.b true,.go,.b true,.go] (by kernel_rfl) ⟨(by rw [hq1]; rfl),rfl,rfl,(by rw [hq2]; rfl),⟨rfl,A,rfl,rfl⟩,(by omega),(by rw [hq3]; rfl),(by rw [hq4]; rfl),rfl,rfl,rfl,rfl,(iRZ6 (by omega) (by omega)),rfl,(by rw [hq5]; rfl),rfl,rfl,rfl,rfl,(iRZ6 (by omega) (by omega)),(by omega),(by omega),(by rw [Nat.mul_one]; exact cI_load (by omega) 2 (u2) rfl),(by omega),(by rw [Nat.mul_one]; exact cI_load (by omega) 2 (u2) rfl),(iRZ6 (by omega) (by omega)),(iRZ6 (by omega) (by omega)),rfl,(by rw [hq6]; rfl),⟨rfl,L,rfl,rfl⟩,(by omega),(by rw [hq7]; rfl),rfl,rfl,rfl,rfl,trivial⟩ rfl
      | false =>
       have ghq6:=eqI_false hq6
       rw [ht] at ghq6
       rw [clE_eq (by omega) ghq3 (by unfold eqP degI; omega)]
       exact givesA_told (v:=(.v (.int .i64 (.ofNat 15)))) (ps:=[(!ltI (↑A.length) 2)=true,true=true,true=true,(!!ltI 10 ↑A.length)=false,IsI (0 + 1) A.length (cI A),A.length≤1000,(!allB (angAt (cI A)) A.length)=false,(!eqI ↑L.length ↑A.length)=false,false=false,false=false,false=false,false=false,inR .i64 (↑A.length - 1),false=false,(!eqI (↑B.length) (↑A.length - 1))=false,false=false,false=false,false=false,false=false,inR .i64 (↑A.length - 1),(0:Int)≤↑A.length - 1,((A.length:Int) - 1).toNat < A.length,loadL pg (cI A) (((A.length:Int) - 1).toNat * 1) 2=some (.v (.int .i64 (intAt (cI A) (((A.length:Int) - 1).toNat * 1)))),0 < A.length,loadL pg (cI A) (0 * 1) 2=some (.v (.int .i64 (intAt (cI A) (0 * 1)))),inR .i64 (intAt (cI A) (((A.length:Int) - 1).toNat * 1) - intAt (cI A) (0 * 1)),inR .i64 (intAt (cI A) (((A.length:Int) - 1).toNat * 1) - intAt (cI A) (0 * 1) + 1),false=false,(!eqI (↑W.length) (intAt (cI A) (((A.length:Int) - 1).toNat * 1) - intAt (cI A) (0 * 1) + 1))=true]) cm known_ck 200 [.go,.go,.go,.go,.go,.go,.go,.go,.go,.go,.go,.go,.b true,.go,.b true,.go,.b true,.go,.go,.go,.go,.b false,.go,.go,.go,.b false,.go,.go,.go,.go,.go,.go,.b false,.go,.b false,.go,.b false,.go,.b false,.go,.b false,.go,.b false,.go,.go,.go,.b false,.go,.b false,.go,.b false,.go,.b false,.go,.b false,.go,.go,.go,.go,.go,.go,.go,.go,.go,.nat,.sym,.go,.go,.go,.go,.go,.sym,.sym,.go,.go,.go,.go,.b false,.go,.go,.b true,.go] (by kernel_rfl) ⟨(by rw [hq1]; rfl),rfl,rfl,(by rw [hq2]; rfl),⟨rfl,A,rfl,rfl⟩,(by omega),(by rw [hq3]; rfl),(by rw [hq4]; rfl),rfl,rfl,rfl,rfl,(iRZ6 (by omega) (by omega)),rfl,(by rw [hq5]; rfl),rfl,rfl,rfl,rfl,(iRZ6 (by omega) (by omega)),(by omega),(by omega),(by rw [Nat.mul_one]; exact cI_load (by omega) 2 (u2) rfl),(by omega),(by rw [Nat.mul_one]; exact cI_load (by omega) 2 (u2) rfl),(iRZ6 (by omega) (by omega)),(iRZ6 (by omega) (by omega)),rfl,(by rw [hq6]; rfl),trivial⟩ rfl
     | false =>
      have ghq5:=eqI_false hq5
      rw [clE_eq (by omega) ghq3 (by unfold eqP degI; omega)]
      exact givesA_told (v:=(.v (.int .i64 (.ofNat 15)))) (ps:=[(!ltI (↑A.length) 2)=true,true=true,true=true,(!!ltI 10 ↑A.length)=false,IsI (0 + 1) A.length (cI A),A.length≤1000,(!allB (angAt (cI A)) A.length)=false,(!eqI ↑L.length ↑A.length)=false,false=false,false=false,false=false,false=false,inR .i64 (↑A.length - 1),false=false,(!eqI (↑B.length) (↑A.length - 1))=true,true=true,true=true,true=true,true=true,true=true,true=true]) cm known_ck 200 [.go,.go,.go,.go,.go,.go,.go,.go,.go,.go,.go,.go,.b true,.go,.b true,.go,.b true,.go,.go,.go,.go,.b false,.go,.go,.go,.b false,.go,.go,.go,.go,.go,.go,.b false,.go,.b false,.go,.b false,.go,.b false,.go,.b false,.go,.b false,.go,.go,.go,.b true,.b true,.b true,.b true,.b true,.b true,.go,.b true,.go] (by kernel_rfl) ⟨(by rw [hq1]; rfl),rfl,rfl,(by rw [hq2]; rfl),⟨rfl,A,rfl,rfl⟩,(by omega),(by rw [hq3]; rfl),(by rw [hq4]; rfl),rfl,rfl,rfl,rfl,(iRZ6 (by omega) (by omega)),rfl,(by rw [hq5]; rfl),rfl,rfl,rfl,rfl,rfl,rfl,trivial⟩ rfl
    | false =>
     have ghq4:=eqI_false hq4
     rw [clE_eq (by omega) ghq3 (by unfold eqP degI; omega)]
     exact givesA_told (v:=(.v (.int .i64 (.ofNat 15)))) (ps:=[(!ltI (↑A.length) 2)=true,true=true,true=true,(!!ltI 10 ↑A.length)=false,IsI (0 + 1) A.length (cI A),A.length≤1000,(!allB (angAt (cI A)) A.length)=false,(!eqI ↑L.length ↑A.length)=true,true=true,true=true,true=true,true=true,true=true,true=true,true=true,true=true,true=true,true=true,true=true,true=true]) cm known_ck 200 [.go,.go,.go,.go,.go,.go,.go,.go,.go,.go,.go,.go,.b true,.go,.b true,.go,.b true,.go,.go,.go,.go,.b false,.go,.go,.go,.b false,.go,.go,.go,.go,.go,.go,.b true,.b true,.b true,.b true,.b true,.b true,.go,.go,.b true,.b true,.b true,.b true,.b true,.b true,.go,.b true,.go] (by kernel_rfl) ⟨(by rw [hq1]; rfl),rfl,rfl,(by rw [hq2]; rfl),⟨rfl,A,rfl,rfl⟩,(by omega),(by rw [hq3]; rfl),(by rw [hq4]; rfl),rfl,rfl,rfl,rfl,rfl,rfl,rfl,rfl,rfl,rfl,rfl,rfl,trivial⟩ rfl
   | false =>
    have ghq3:=allB_false hq3
    rw [clE_ang (by omega) ghq3]
    exact givesA_told (v:=(.v (.int .i64 (.ofNat 2)))) (ps:=[(!ltI (↑A.length) 2)=true,true=true,true=true,(!!ltI 10 ↑A.length)=false,IsI (0 + 1) A.length (cI A),A.length≤1000,(!allB (angAt (cI A)) A.length)=true]) cm known_ck 200 [.go,.go,.go,.go,.go,.go,.go,.go,.go,.go,.go,.go,.b true,.go,.b true,.go,.b true,.go,.go,.go,.go,.b false,.go,.go,.go,.b true,.go] (by kernel_rfl) ⟨(by rw [hq1]; rfl),rfl,rfl,(by rw [hq2]; rfl),⟨rfl,A,rfl,rfl⟩,(by omega),(by rw [hq3]; rfl),trivial⟩ rfl
def rcC0:Code:=bodyC Try.f20
def rcC1:Code:=tlC rcC0
theorem rc_0 (ya yl yf yw:Value) (A:List Int) (L:PR) (B:List Bool) (W:List Int) (w:World) (hc:Goes pg 117 rcC1 ((q6_4 A B L W ya yf yl yw)) w (q6_8 A B L W w)):Goes pg 117 rcC0 (argLit [.agg (q6_7 A B L W ya yf yl yw)]) w (q6_8 A B L W w):=by
 exact goes_spine (T':=(q6_4 A B L W ya yf yl yw)) (by kernel_rfl) (gT cm (kN) 200 (e:=.normal) (ps:=[]) [.go,.go] (by kernel_rfl) (by kernel_rfl) trivial rfl) (hc)
def rcC2:Code:=tlC rcC1
theorem rc_1 (ya yl yf yw:Value) (A:List Int) (L:PR) (B:List Bool) (W:List Int) (w:World) (hc:Goes pg 117 rcC2 ((q6_3 A B L W ya yf yl yw)) w (q6_8 A B L W w)):Goes pg 117 rcC1 ((q6_4 A B L W ya yf yl yw)) w (q6_8 A B L W w):=by
 exact goes_spine (T':=(q6_3 A B L W ya yf yl yw)) (by kernel_rfl) (gT cm (kN) 200 (e:=.normal) (ps:=[]) [.go,.go,.go,.go] (by kernel_rfl) (by kernel_rfl) trivial rfl) (hc)
def rcC3:Code:=tlC rcC2
theorem rc_2 (ya yl yf yw:Value) (A:List Int) (L:PR) (B:List Bool) (W:List Int) (w:World) (hc:(2≤A.length∧A.length≤10)→Goes pg 117 rcC3 ((q6_3 A B L W ya yf yl yw)) w (OutR pg Try.f20 117 (.int .i64 (clE (cI A) A.length (cR L) L.length B.length (cI W) W.length)) w)):Goes pg 117 rcC2 ((q6_3 A B L W ya yf yl yw)) w (OutR pg Try.f20 117 (.int .i64 (clE (cI A) A.length (cR L) L.length B.length (cI W) W.length)) w):=by
 cases hq1:(ltI (↑A.length) 2) with
 | true =>
  have ghq1:=lT hq1
  rw [clE_many (by omega)]
  exact goes_out cm (kN) 200 (v:=(.v (.int .i64 (.ofNat 6)))) (ps:=[ltI (↑A.length) 2=true,true=true,true=true]) [.go,.go,.go,.b true,.b true,.go,.b true,.go] (by kernel_rfl) (by kernel_rfl) ⟨(by omega),rfl,rfl,trivial⟩ rfl
 | false =>
  have ghq1:=lF hq1
  cases hq2:(ltI 10 ↑A.length) with
  | true =>
   have ghq2:=lT hq2
   rw [clE_many (by omega)]
   exact goes_out cm (kN) 200 (v:=(.v (.int .i64 (.ofNat 6)))) (ps:=[ltI (↑A.length) 2=false,false=false,ltI 10 ↑A.length=true]) [.go,.go,.go,.b false,.go,.b false,.go,.go,.b true,.go] (by kernel_rfl) (by kernel_rfl) ⟨(by omega),rfl,hq2,trivial⟩ rfl
  | false =>
   have ghq2:=lF hq2
   exact goes_spine (T':=(q6_3 A B L W ya yf yl yw)) (by kernel_rfl) (gT cm (kN) 200 (e:=.normal) (ps:=[ltI (↑A.length) 2=false,false=false,ltI 10 ↑A.length=false]) [.go,.go,.go,.b false,.go,.b false,.go,.go,.b false] (by kernel_rfl) (by kernel_rfl) ⟨(by omega),rfl,hq2,trivial⟩ rfl) (hc (by omega))
theorem ang_iff {c:List AV} {i:Nat}:angAt c i↔((0 < i→intAt c ((i - 1) * 1) < intAt c (i * 1))∧(i=0 → -1 < intAt c (i * 1))∧intAt c (i * 1)≤90):=by
 cases i with
 | zero=>exact ⟨fun h=>⟨fun q=>absurd q (Nat.lt_irrefl 0),fun _=>h.1,h.2⟩,fun h=>⟨h.2.1 rfl,h.2.2⟩⟩
 | succ i=>exact ⟨fun h=>⟨fun _=>h.1,fun q=>absurd q (Nat.succ_ne_zero i),h.2⟩,fun h=>⟨h.1 (Nat.succ_pos i),h.2.2⟩⟩
def rcC4:Code:=tlC rcC3
theorem rc_3 (ya yl yf yw:Value) (A:List Int) (L:PR) (B:List Bool) (W:List Int) (hn:2≤A.length∧A.length≤10) (w:World) (hc:∀ i:UpI (angAt (cI A)) A.length,A.length≤i.1→Goes pg 117 rcC4 (⟨[(1,.ptr 0 0),(q6_11 A),(4,.v (.int .i64 i.1))],[],1,[(q6_6 A B L W ya yf yl yw)]⟩) w (OutR pg Try.f20 117 (.int .i64 (clE (cI A) A.length (cR L) L.length B.length (cI W) W.length)) w)):Goes pg 117 rcC3 ((q6_3 A B L W ya yf yl yw)) w (OutR pg Try.f20 117 (.int .i64 (clE (cI A) A.length (cR L) L.length B.length (cI W) W.length)) w):=by
 refine goes_spineQ (ι:=UpI (angAt (cI A)) A.length) (T:=fun i=>⟨[(1,.ptr 0 0),(q6_11 A),(4,.v (.int .i64 i.1))],[],1,[(q6_6 A B L W ya yf yl yw)]⟩) (R:=fun i=>A.length≤i.1) (by kernel_rfl)
  (goes_spine (T':=⟨[(1,.ptr 0 0),(q6_11 A),(4,.v (.int .i64 0))],[],1,[(q6_6 A B L W ya yf yl yw)]⟩) (by kernel_rfl) (gT cm (kN) 200 (e:=.normal) (ps:=[]) [.go] (by kernel_rfl) (by kernel_rfl) trivial rfl)
   (goes_blockloop (by kernel_rfl) (fun i:UpI (angAt (cI A)) A.length=>⟨[(1,.ptr 0 0),(q6_11 A),(4,.v (.int .i64 i.1))],[],1,[(q6_6 A B L W ya yf yl yw)]⟩) (fun i=>A.length - i.1) (fun i=>?_) ⟨0,Nat.zero_le _,fun j hj=>by omega⟩)) hc
 obtain ⟨i,hi1,hi2⟩:=i
 show (∃ j:UpI (angAt (cI A)) A.length,A.length - j.1 < A.length - i∧Goes pg 117 (loopC (tlC (hdC rcC3))) (⟨[(1,.ptr 0 0),(q6_11 A),(4,.v (.int .i64 i))],[],1,[(q6_6 A B L W ya yf yl yw)]⟩) w (Land 117 isN (⟨[(1,.ptr 0 0),(q6_11 A),(4,.v (.int .i64 j.1))],[],1,[(q6_6 A B L W ya yf yl yw)]⟩) w))∨(A.length≤i∧Goes pg 117 (loopC (tlC (hdC rcC3))) (⟨[(1,.ptr 0 0),(q6_11 A),(4,.v (.int .i64 i))],[],1,[(q6_6 A B L W ya yf yl yw)]⟩) w (Land 117 (isX 0) (⟨[(1,.ptr 0 0),(q6_11 A),(4,.v (.int .i64 i))],[],1,[(q6_6 A B L W ya yf yl yw)]⟩) w))∨Goes pg 117 (loopC (tlC (hdC rcC3))) (⟨[(1,.ptr 0 0),(q6_11 A),(4,.v (.int .i64 i))],[],1,[(q6_6 A B L W ya yf yl yw)]⟩) w (fun e a w'=>e = .ret∧(OutR pg Try.f20 117 (.int .i64 (clE (cI A) A.length (cR L) L.length B.length (cI W) W.length)) w) .ret a w')
 have hcl:=cI_len A
 have hti:((i:Int) - 1).toNat=i - 1:=by omega
 cases hq1:(ltI ↑i ↑A.length) with
 | true =>
  have ghq1:=lT hq1
  cases hq2:(ltI (intAt (cI A) (i * 1)) 0) with
  | true =>
   have ghq2:=lT hq2
   rw [clE_ang hn (fun k=>by have q:=k i (by omega); rw [ang_iff] at q; have q2:=ang_bd k (i - 1) (by omega); omega)]
   exact .inr (.inr (goes_ret cm (kN) 200 (v:=(.v (.int .i64 (.ofNat 2)))) (ps:=[ltI ↑i ↑A.length=true,i < A.length,loadL pg (cI A) (i * 1) 2=some (.v (.int .i64 (intAt (cI A) (i * 1)))),ltI (intAt (cI A) (i * 1)) 0=true,true=true,true=true,true=true,true=true,true=true,true=true,true=true,true=true,true=true,true=true]) [.go,.go,.go,.b true,.go,.go,.go,.sym,.sym,.go,.go,.b true,.b true,.b true,.b true,.b true,.b true,.go,.go,.b true,.b true,.b true,.b true,.go,.b true,.go] (by kernel_rfl) (by kernel_rfl) ⟨hq1,(by omega),(by rw [Nat.mul_one]; exact cI_load (by omega) 2 (u2) rfl),hq2,rfl,rfl,rfl,rfl,rfl,rfl,rfl,rfl,rfl,rfl,trivial⟩ rfl))
  | false =>
   have ghq2:=lF hq2
   cases hq3:(ltI 90 (intAt (cI A) (i * 1))) with
   | true =>
    have ghq3:=lT hq3
    rw [clE_ang hn (fun k=>by have q:=k i (by omega); rw [ang_iff] at q; have q2:=ang_bd k (i - 1) (by omega); omega)]
    exact .inr (.inr (goes_ret cm (kN) 200 (v:=(.v (.int .i64 (.ofNat 2)))) (ps:=[ltI ↑i ↑A.length=true,i < A.length,loadL pg (cI A) (i * 1) 2=some (.v (.int .i64 (intAt (cI A) (i * 1)))),ltI (intAt (cI A) (i * 1)) 0=false,false=false,false=false,false=false,i < A.length,false=false,loadL pg (cI A) (i * 1) 2=some (.v (.int .i64 (intAt (cI A) (i * 1)))),false=false,ltI 90 (intAt (cI A) (i * 1))=true,true=true,true=true,true=true,true=true]) [.go,.go,.go,.b true,.go,.go,.go,.sym,.sym,.go,.go,.b false,.go,.b false,.go,.b false,.go,.b false,.sym,.b false,.sym,.b false,.go,.go,.go,.b true,.b true,.b true,.b true,.go,.b true,.go] (by kernel_rfl) (by kernel_rfl) ⟨hq1,(by omega),(by rw [Nat.mul_one]; exact cI_load (by omega) 2 (u2) rfl),hq2,rfl,rfl,rfl,(by omega),rfl,(by rw [Nat.mul_one]; exact cI_load (by omega) 2 (u2) rfl),rfl,hq3,rfl,rfl,rfl,rfl,trivial⟩ rfl))
   | false =>
    have ghq3:=lF hq3
    cases hq4:(ltI 0 ↑i) with
    | true =>
     have ghq4:=lT hq4
     cases hq5:(ltI (intAt (cI A) (((i:Int) - 1).toNat * 1)) (intAt (cI A) (i * 1))) with
     | true =>
      have ghq5:=lT hq5
      rw [hti] at ghq5
      refine .inl ⟨⟨i + 1,by omega,up_next hi2 (show angAt (cI A) i by rw [ang_iff]; omega)⟩,(by show A.length - (i + 1) < A.length - i; omega),?_⟩
      exact gT cm (kN) 200 (e:=.normal) (ps:=[ltI ↑i ↑A.length=true,i < A.length,loadL pg (cI A) (i * 1) 2=some (.v (.int .i64 (intAt (cI A) (i * 1)))),ltI (intAt (cI A) (i * 1)) 0=false,false=false,false=false,false=false,i < A.length,false=false,loadL pg (cI A) (i * 1) 2=some (.v (.int .i64 (intAt (cI A) (i * 1)))),false=false,ltI 90 (intAt (cI A) (i * 1))=false,false=false,false=false,ltI 0 ↑i=true,true=true,true=true,true=true,i < A.length,true=true,loadL pg (cI A) (i * 1) 2=some (.v (.int .i64 (intAt (cI A) (i * 1)))),true=true,true=true,true=true,true=true,inR .i64 (↑i - 1),true=true,(0:Int)≤↑i - 1,((i:Int) - 1).toNat < A.length,true=true,loadL pg (cI A) (((i:Int) - 1).toNat * 1) 2=some (.v (.int .i64 (intAt (cI A) (((i:Int) - 1).toNat * 1)))),true=true,false=false,(!ltI (intAt (cI A) (((i:Int) - 1).toNat * 1)) (intAt (cI A) (i * 1)))=false,inR .i64 (↑i + 1)]) [.go,.go,.go,.b true,.go,.go,.go,.sym,.sym,.go,.go,.b false,.go,.b false,.go,.b false,.go,.b false,.sym,.b false,.sym,.b false,.go,.go,.go,.b false,.go,.b false,.go,.b false,.go,.b true,.go,.b true,.go,.b true,.go,.b true,.sym,.b true,.sym,.b true,.go,.b true,.go,.b true,.go,.b true,.go,.b true,.nat,.b true,.sym,.b true,.go,.b false,.go,.go,.b false,.go,.go,.go] (by kernel_rfl) (by kernel_rfl) ⟨hq1,(by omega),(by rw [Nat.mul_one]; exact cI_load (by omega) 2 (u2) rfl),hq2,rfl,rfl,rfl,(by omega),rfl,(by rw [Nat.mul_one]; exact cI_load (by omega) 2 (u2) rfl),rfl,hq3,rfl,rfl,hq4,rfl,rfl,rfl,(by omega),rfl,(by rw [Nat.mul_one]; exact cI_load (by omega) 2 (u2) rfl),rfl,rfl,rfl,rfl,(iRZ6 (by omega) (by omega)),rfl,(by omega),(by omega),rfl,(by rw [Nat.mul_one]; exact cI_load (by omega) 2 (u2) rfl),rfl,rfl,(by rw [hq5]; rfl),(iRZ6 (by omega) (by omega)),trivial⟩ rfl
     | false =>
      have ghq5:=lF hq5
      rw [hti] at ghq5
      rw [clE_ang hn (fun k=>by have q:=k i (by omega); rw [ang_iff] at q; have q2:=ang_bd k (i - 1) (by omega); omega)]
      exact .inr (.inr (goes_ret cm (kN) 200 (v:=(.v (.int .i64 (.ofNat 2)))) (ps:=[ltI ↑i ↑A.length=true,i < A.length,loadL pg (cI A) (i * 1) 2=some (.v (.int .i64 (intAt (cI A) (i * 1)))),ltI (intAt (cI A) (i * 1)) 0=false,false=false,false=false,false=false,i < A.length,false=false,loadL pg (cI A) (i * 1) 2=some (.v (.int .i64 (intAt (cI A) (i * 1)))),false=false,ltI 90 (intAt (cI A) (i * 1))=false,false=false,false=false,ltI 0 ↑i=true,true=true,true=true,true=true,i < A.length,true=true,loadL pg (cI A) (i * 1) 2=some (.v (.int .i64 (intAt (cI A) (i * 1)))),true=true,true=true,true=true,true=true,inR .i64 (↑i - 1),true=true,(0:Int)≤↑i - 1,((i:Int) - 1).toNat < A.length,true=true,loadL pg (cI A) (((i:Int) - 1).toNat * 1) 2=some (.v (.int .i64 (intAt (cI A) (((i:Int) - 1).toNat * 1)))),true=true,false=false,(!ltI (intAt (cI A) (((i:Int) - 1).toNat * 1)) (intAt (cI A) (i * 1)))=true]) [.go,.go,.go,.b true,.go,.go,.go,.sym,.sym,.go,.go,.b false,.go,.b false,.go,.b false,.go,.b false,.sym,.b false,.sym,.b false,.go,.go,.go,.b false,.go,.b false,.go,.b false,.go,.b true,.go,.b true,.go,.b true,.go,.b true,.sym,.b true,.sym,.b true,.go,.b true,.go,.b true,.go,.b true,.go,.b true,.nat,.b true,.sym,.b true,.go,.b false,.go,.go,.b true,.go] (by kernel_rfl) (by kernel_rfl) ⟨hq1,(by omega),(by rw [Nat.mul_one]; exact cI_load (by omega) 2 (u2) rfl),hq2,rfl,rfl,rfl,(by omega),rfl,(by rw [Nat.mul_one]; exact cI_load (by omega) 2 (u2) rfl),rfl,hq3,rfl,rfl,hq4,rfl,rfl,rfl,(by omega),rfl,(by rw [Nat.mul_one]; exact cI_load (by omega) 2 (u2) rfl),rfl,rfl,rfl,rfl,(iRZ6 (by omega) (by omega)),rfl,(by omega),(by omega),rfl,(by rw [Nat.mul_one]; exact cI_load (by omega) 2 (u2) rfl),rfl,rfl,(by rw [hq5]; rfl),trivial⟩ rfl))
    | false =>
     have ghq4:=lF hq4
     refine .inl ⟨⟨i + 1,by omega,up_next hi2 (show angAt (cI A) i by rw [ang_iff]; omega)⟩,(by show A.length - (i + 1) < A.length - i; omega),?_⟩
     exact gT cm (kN) 200 (e:=.normal) (ps:=[ltI ↑i ↑A.length=true,i < A.length,loadL pg (cI A) (i * 1) 2=some (.v (.int .i64 (intAt (cI A) (i * 1)))),ltI (intAt (cI A) (i * 1)) 0=false,false=false,false=false,false=false,i < A.length,false=false,loadL pg (cI A) (i * 1) 2=some (.v (.int .i64 (intAt (cI A) (i * 1)))),false=false,ltI 90 (intAt (cI A) (i * 1))=false,false=false,false=false,ltI 0 ↑i=false,false=false,false=false,false=false,false=false,false=false,false=false,false=false,false=false,false=false,false=false,false=false,false=false,false=false,inR .i64 (↑i + 1)]) [.go,.go,.go,.b true,.go,.go,.go,.sym,.sym,.go,.go,.b false,.go,.b false,.go,.b false,.go,.b false,.sym,.b false,.sym,.b false,.go,.go,.go,.b false,.go,.b false,.go,.b false,.go,.b false,.b false,.b false,.b false,.b false,.b false,.b false,.b false,.b false,.b false,.b false,.b false,.b false,.go,.go,.b false,.go,.go,.go] (by kernel_rfl) (by kernel_rfl) ⟨hq1,(by omega),(by rw [Nat.mul_one]; exact cI_load (by omega) 2 (u2) rfl),hq2,rfl,rfl,rfl,(by omega),rfl,(by rw [Nat.mul_one]; exact cI_load (by omega) 2 (u2) rfl),rfl,hq3,rfl,rfl,hq4,rfl,rfl,rfl,rfl,rfl,rfl,rfl,rfl,rfl,rfl,rfl,rfl,rfl,(iRZ6 (by omega) (by omega)),trivial⟩ rfl
 | false =>
  have ghq1:=lF hq1
  exact .inr (.inl ⟨(by show A.length≤i; omega),gT cm (kN) 200 (e:=.exit 0) (ps:=[ltI ↑i ↑A.length=false]) [.go,.go,.go,.b false] (by kernel_rfl) (by kernel_rfl) ⟨hq1,trivial⟩ rfl⟩)
def rcC5:Code:=tlC rcC4
theorem rc_4 (ya yl yf yw:Value) (A:List Int) (L:PR) (B:List Bool) (W:List Int) (hn:2≤A.length∧A.length≤10) (ha:∀ i,i < A.length→angAt (cI A) i) (w:World) (hc:(eqP (cI A) A.length L.length B.length W.length)→Goes pg 117 rcC5 ((q6_3 A B L W ya yf yl yw)) w (OutR pg Try.f20 117 (.int .i64 (clE (cI A) A.length (cR L) L.length B.length (cI W) W.length)) w)):Goes pg 117 rcC4 ((q6_3 A B L W ya yf yl yw)) w (OutR pg Try.f20 117 (.int .i64 (clE (cI A) A.length (cR L) L.length B.length (cI W) W.length)) w):=by
 have hcl:=cI_len A
 have ht:((A.length:Int) - 1).toNat=A.length - 1:=by omega
 have hb2:=ang_bd ha (A.length - 1) (by omega)
 have hb1:=hb2
 rw [← ht] at hb1
 have hb0:=ang_bd ha 0 (by omega)
 cases hq1:(eqI ↑L.length ↑A.length) with
 | true =>
  have ghq1:=eqI_true hq1
  cases hq2:(eqI (↑B.length) (↑A.length - 1)) with
  | true =>
   have ghq2:=eqI_true hq2
   cases hq3:(eqI (↑W.length) (intAt (cI A) (((A.length:Int) - 1).toNat * 1) - intAt (cI A) (0 * 1) + 1)) with
   | true =>
    have ghq3:=eqI_true hq3
    rw [ht] at ghq3
    exact goes_spine (T':=(q6_3 A B L W ya yf yl yw)) (by kernel_rfl) (gT cm (kN) 200 (e:=.normal) (ps:=[(!eqI ↑L.length ↑A.length)=false,false=false,false=false,false=false,false=false,inR .i64 (↑A.length - 1),false=false,(!eqI (↑B.length) (↑A.length - 1))=false,false=false,false=false,false=false,false=false,false=false,false=false,inR .i64 (↑A.length - 1),false=false,(0:Int)≤↑A.length - 1,((A.length:Int) - 1).toNat < A.length,false=false,loadL pg (cI A) (((A.length:Int) - 1).toNat * 1) 2=some (.v (.int .i64 (intAt (cI A) (((A.length:Int) - 1).toNat * 1)))),false=false,false=false,false=false,0 < A.length,false=false,loadL pg (cI A) (0 * 1) 2=some (.v (.int .i64 (intAt (cI A) (0 * 1)))),false=false,inR .i64 (intAt (cI A) (((A.length:Int) - 1).toNat * 1) - intAt (cI A) (0 * 1)),false=false,inR .i64 (intAt (cI A) (((A.length:Int) - 1).toNat * 1) - intAt (cI A) (0 * 1) + 1),false=false,(!eqI (↑W.length) (intAt (cI A) (((A.length:Int) - 1).toNat * 1) - intAt (cI A) (0 * 1) + 1))=false]) [.go,.go,.go,.go,.go,.go,.b false,.go,.b false,.go,.b false,.go,.b false,.go,.b false,.go,.b false,.go,.go,.go,.b false,.go,.b false,.go,.b false,.go,.b false,.go,.b false,.go,.b false,.go,.b false,.go,.b false,.nat,.b false,.sym,.b false,.go,.b false,.go,.b false,.sym,.b false,.sym,.b false,.go,.b false,.go,.b false,.go,.go,.b false] (by kernel_rfl) (by kernel_rfl) ⟨(by rw [hq1]; rfl),rfl,rfl,rfl,rfl,(iRZ6 (by omega) (by omega)),rfl,(by rw [hq2]; rfl),rfl,rfl,rfl,rfl,rfl,rfl,(iRZ6 (by omega) (by omega)),rfl,(by omega),(by omega),rfl,(by rw [Nat.mul_one]; exact cI_load (by omega) 2 (u2) rfl),rfl,rfl,rfl,(by omega),rfl,(by rw [Nat.mul_one]; exact cI_load (by omega) 2 (u2) rfl),rfl,(iRZ6 (by omega) (by omega)),rfl,(iRZ6 (by omega) (by omega)),rfl,(by rw [hq3]; rfl),trivial⟩ rfl) (hc (by unfold eqP degI; omega))
   | false =>
    have ghq3:=eqI_false hq3
    rw [ht] at ghq3
    rw [clE_eq hn ha (by unfold eqP degI; omega)]
    exact goes_out cm (kN) 200 (v:=(.v (.int .i64 (.ofNat 15)))) (ps:=[(!eqI ↑L.length ↑A.length)=false,false=false,false=false,false=false,false=false,inR .i64 (↑A.length - 1),false=false,(!eqI (↑B.length) (↑A.length - 1))=false,false=false,false=false,false=false,false=false,false=false,false=false,inR .i64 (↑A.length - 1),false=false,(0:Int)≤↑A.length - 1,((A.length:Int) - 1).toNat < A.length,false=false,loadL pg (cI A) (((A.length:Int) - 1).toNat * 1) 2=some (.v (.int .i64 (intAt (cI A) (((A.length:Int) - 1).toNat * 1)))),false=false,false=false,false=false,0 < A.length,false=false,loadL pg (cI A) (0 * 1) 2=some (.v (.int .i64 (intAt (cI A) (0 * 1)))),false=false,inR .i64 (intAt (cI A) (((A.length:Int) - 1).toNat * 1) - intAt (cI A) (0 * 1)),false=false,inR .i64 (intAt (cI A) (((A.length:Int) - 1).toNat * 1) - intAt (cI A) (0 * 1) + 1),false=false,(!eqI (↑W.length) (intAt (cI A) (((A.length:Int) - 1).toNat * 1) - intAt (cI A) (0 * 1) + 1))=true]) [.go,.go,.go,.go,.go,.go,.b false,.go,.b false,.go,.b false,.go,.b false,.go,.b false,.go,.b false,.go,.go,.go,.b false,.go,.b false,.go,.b false,.go,.b false,.go,.b false,.go,.b false,.go,.b false,.go,.b false,.nat,.b false,.sym,.b false,.go,.b false,.go,.b false,.sym,.b false,.sym,.b false,.go,.b false,.go,.b false,.go,.go,.b true,.go] (by kernel_rfl) (by kernel_rfl) ⟨(by rw [hq1]; rfl),rfl,rfl,rfl,rfl,(iRZ6 (by omega) (by omega)),rfl,(by rw [hq2]; rfl),rfl,rfl,rfl,rfl,rfl,rfl,(iRZ6 (by omega) (by omega)),rfl,(by omega),(by omega),rfl,(by rw [Nat.mul_one]; exact cI_load (by omega) 2 (u2) rfl),rfl,rfl,rfl,(by omega),rfl,(by rw [Nat.mul_one]; exact cI_load (by omega) 2 (u2) rfl),rfl,(iRZ6 (by omega) (by omega)),rfl,(iRZ6 (by omega) (by omega)),rfl,(by rw [hq3]; rfl),trivial⟩ rfl
  | false =>
   have ghq2:=eqI_false hq2
   rw [clE_eq hn ha (by unfold eqP degI; omega)]
   exact goes_out cm (kN) 200 (v:=(.v (.int .i64 (.ofNat 15)))) (ps:=[(!eqI ↑L.length ↑A.length)=false,false=false,false=false,false=false,false=false,inR .i64 (↑A.length - 1),false=false,(!eqI (↑B.length) (↑A.length - 1))=true,true=true,true=true,true=true,true=true,true=true,true=true,true=true,true=true,true=true,true=true,true=true,true=true,true=true,true=true,true=true,true=true]) [.go,.go,.go,.go,.go,.go,.b false,.go,.b false,.go,.b false,.go,.b false,.go,.b false,.go,.b false,.go,.go,.go,.b true,.b true,.b true,.b true,.b true,.b true,.b true,.b true,.b true,.b true,.b true,.b true,.b true,.b true,.b true,.b true,.go,.b true,.go] (by kernel_rfl) (by kernel_rfl) ⟨(by rw [hq1]; rfl),rfl,rfl,rfl,rfl,(iRZ6 (by omega) (by omega)),rfl,(by rw [hq2]; rfl),rfl,rfl,rfl,rfl,rfl,rfl,rfl,rfl,rfl,rfl,rfl,rfl,rfl,rfl,rfl,rfl,trivial⟩ rfl
 | false =>
  have ghq1:=eqI_false hq1
  rw [clE_eq hn ha (by unfold eqP degI; omega)]
  exact goes_out cm (kN) 200 (v:=(.v (.int .i64 (.ofNat 15)))) (ps:=[(!eqI ↑L.length ↑A.length)=true,true=true,true=true,true=true,true=true,true=true,true=true,true=true,true=true,true=true,true=true,true=true,true=true,true=true,true=true,true=true,true=true,true=true,true=true,true=true,true=true,true=true,true=true]) [.go,.go,.go,.go,.go,.go,.b true,.b true,.b true,.b true,.b true,.b true,.go,.go,.b true,.b true,.b true,.b true,.b true,.b true,.b true,.b true,.b true,.b true,.b true,.b true,.b true,.b true,.b true,.b true,.go,.b true,.go] (by kernel_rfl) (by kernel_rfl) ⟨(by rw [hq1]; rfl),rfl,rfl,rfl,rfl,rfl,rfl,rfl,rfl,rfl,rfl,rfl,rfl,rfl,rfl,rfl,rfl,rfl,rfl,rfl,rfl,rfl,rfl,trivial⟩ rfl
def rcC6:Code:=tlC rcC5
theorem rc_5 (ya yl yf yw:Value) (A:List Int) (L:PR) (B:List Bool) (W:List Int) (hn:2≤A.length∧A.length≤10) (ha:∀ i,i < A.length→angAt (cI A) i) (he:eqP (cI A) A.length L.length B.length W.length) (w:World) (hc:∀ i:UpI (rngAt 200 (cR L)) A.length,A.length≤i.1→Goes pg 117 rcC6 (⟨[(1,.ptr 0 0),(q6_11 A),(5,.v (.int .i64 i.1))],[],1,[(q6_6 A B L W ya yf yl yw)]⟩) w (OutR pg Try.f20 117 (.int .i64 (clE (cI A) A.length (cR L) L.length B.length (cI W) W.length)) w)):Goes pg 117 rcC5 ((q6_3 A B L W ya yf yl yw)) w (OutR pg Try.f20 117 (.int .i64 (clE (cI A) A.length (cR L) L.length B.length (cI W) W.length)) w):=by
 refine goes_spineQ (ι:=UpI (rngAt 200 (cR L)) A.length) (T:=fun i=>⟨[(1,.ptr 0 0),(q6_11 A),(5,.v (.int .i64 i.1))],[],1,[(q6_6 A B L W ya yf yl yw)]⟩) (R:=fun i=>A.length≤i.1) (by kernel_rfl)
  (goes_spine (T':=⟨[(1,.ptr 0 0),(q6_11 A),(5,.v (.int .i64 0))],[],1,[(q6_6 A B L W ya yf yl yw)]⟩) (by kernel_rfl) (gT cm (kN) 200 (e:=.normal) (ps:=[]) [.go] (by kernel_rfl) (by kernel_rfl) trivial rfl)
   (goes_blockloop (by kernel_rfl) (fun i:UpI (rngAt 200 (cR L)) A.length=>⟨[(1,.ptr 0 0),(q6_11 A),(5,.v (.int .i64 i.1))],[],1,[(q6_6 A B L W ya yf yl yw)]⟩) (fun i=>A.length - i.1) (fun i=>?_) ⟨0,Nat.zero_le _,fun j hj=>by omega⟩)) hc
 obtain ⟨i,hi1,hi2⟩:=i
 show (∃ j:UpI (rngAt 200 (cR L)) A.length,A.length - j.1 < A.length - i∧Goes pg 117 (loopC (tlC (hdC rcC5))) (⟨[(1,.ptr 0 0),(q6_11 A),(5,.v (.int .i64 i))],[],1,[(q6_6 A B L W ya yf yl yw)]⟩) w (Land 117 isN (⟨[(1,.ptr 0 0),(q6_11 A),(5,.v (.int .i64 j.1))],[],1,[(q6_6 A B L W ya yf yl yw)]⟩) w))∨(A.length≤i∧Goes pg 117 (loopC (tlC (hdC rcC5))) (⟨[(1,.ptr 0 0),(q6_11 A),(5,.v (.int .i64 i))],[],1,[(q6_6 A B L W ya yf yl yw)]⟩) w (Land 117 (isX 2) (⟨[(1,.ptr 0 0),(q6_11 A),(5,.v (.int .i64 i))],[],1,[(q6_6 A B L W ya yf yl yw)]⟩) w))∨Goes pg 117 (loopC (tlC (hdC rcC5))) (⟨[(1,.ptr 0 0),(q6_11 A),(5,.v (.int .i64 i))],[],1,[(q6_6 A B L W ya yf yl yw)]⟩) w (fun e a w'=>e = .ret∧(OutR pg Try.f20 117 (.int .i64 (clE (cI A) A.length (cR L) L.length B.length (cI W) W.length)) w) .ret a w')
 have hcl:=cR_len L
 have hLn:L.length=A.length:=he.1
 cases hq1:(ltI ↑i ↑A.length) with
 | true =>
  have ghq1:=lT hq1
  cases hq2:(ltI (intAt (cR L) (i * 2 + 0)) 0) with
  | true =>
   have ghq2:=lT hq2
   rw [clE_arg hn ha he (fun k=>by have q:=k.1 i (by omega); unfold rngAt at q; omega)]
   exact .inr (.inr (goes_ret cm (kN) 200 (v:=(.v (.int .i64 (.ofNat 2)))) (ps:=[ltI ↑i ↑A.length=true,i < L.length,loadL pg (cR L) (i * 2) 40=some (AV.agg [.v (.int .i64 (intAt (cR L) (i * 2 + 0))),.v (.int .i64 (intAt (cR L) (i * 2 + 1)))]),(!ltI (intAt (cR L) (i * 2 + 0)) 0)=false,false=false,false=false,false=false,false=false,false=false,false=false,false=false,false=false,(!false)=true]) [.go,.go,.go,.b true,.go,.go,.go,.sym,.sym,.go,.go,.go,.go,.go,.go,.b false,.b false,.b false,.b false,.b false,.go,.go,.b false,.b false,.b false,.b false,.go,.go,.go,.b true,.go] (by kernel_rfl) (by kernel_rfl) ⟨hq1,(by omega),(cR_load (by omega) 40 (Try.underlying40) rfl (inf:=(pg.info? 40).getD default) (by kernel_rfl) (by kernel_rfl)),(by rw [hq2]; rfl),rfl,rfl,rfl,rfl,rfl,rfl,rfl,rfl,rfl,trivial⟩ rfl))
  | false =>
   have ghq2:=lF hq2
   cases hq3:(ltI (intAt (cR L) (i * 2 + 1)) (intAt (cR L) (i * 2 + 0))) with
   | true =>
    have ghq3:=lT hq3
    rw [clE_arg hn ha he (fun k=>by have q:=k.1 i (by omega); unfold rngAt at q; omega)]
    exact .inr (.inr (goes_ret cm (kN) 200 (v:=(.v (.int .i64 (.ofNat 2)))) (ps:=[ltI ↑i ↑A.length=true,i < L.length,loadL pg (cR L) (i * 2) 40=some (AV.agg [.v (.int .i64 (intAt (cR L) (i * 2 + 0))),.v (.int .i64 (intAt (cR L) (i * 2 + 1)))]),(!ltI (intAt (cR L) (i * 2 + 0)) 0)=true,true=true,true=true,true=true,true=true,(!ltI (intAt (cR L) (i * 2 + 1)) (intAt (cR L) (i * 2 + 0)))=false,false=false,false=false,false=false,(!false)=true]) [.go,.go,.go,.b true,.go,.go,.go,.sym,.sym,.go,.go,.go,.go,.go,.go,.b true,.go,.b true,.go,.b true,.go,.b true,.go,.b true,.go,.go,.go,.b false,.b false,.b false,.b false,.go,.go,.go,.b true,.go] (by kernel_rfl) (by kernel_rfl) ⟨hq1,(by omega),(cR_load (by omega) 40 (Try.underlying40) rfl (inf:=(pg.info? 40).getD default) (by kernel_rfl) (by kernel_rfl)),(by rw [hq2]; rfl),rfl,rfl,rfl,rfl,(by rw [hq3]; rfl),rfl,rfl,rfl,rfl,trivial⟩ rfl))
   | false =>
    have ghq3:=lF hq3
    cases hq4:(ltI 200 (intAt (cR L) (i * 2 + 1))) with
    | true =>
     have ghq4:=lT hq4
     rw [clE_arg hn ha he (fun k=>by have q:=k.1 i (by omega); unfold rngAt at q; omega)]
     exact .inr (.inr (goes_ret cm (kN) 200 (v:=(.v (.int .i64 (.ofNat 2)))) (ps:=[ltI ↑i ↑A.length=true,i < L.length,loadL pg (cR L) (i * 2) 40=some (AV.agg [.v (.int .i64 (intAt (cR L) (i * 2 + 0))),.v (.int .i64 (intAt (cR L) (i * 2 + 1)))]),(!ltI (intAt (cR L) (i * 2 + 0)) 0)=true,true=true,true=true,true=true,true=true,(!ltI (intAt (cR L) (i * 2 + 1)) (intAt (cR L) (i * 2 + 0)))=true,true=true,true=true,true=true,(!!ltI 200 (intAt (cR L) (i * 2 + 1)))=true]) [.go,.go,.go,.b true,.go,.go,.go,.sym,.sym,.go,.go,.go,.go,.go,.go,.b true,.go,.b true,.go,.b true,.go,.b true,.go,.b true,.go,.go,.go,.b true,.go,.b true,.go,.b true,.go,.b true,.go,.go,.go,.go,.b true,.go] (by kernel_rfl) (by kernel_rfl) ⟨hq1,(by omega),(cR_load (by omega) 40 (Try.underlying40) rfl (inf:=(pg.info? 40).getD default) (by kernel_rfl) (by kernel_rfl)),(by rw [hq2]; rfl),rfl,rfl,rfl,rfl,(by rw [hq3]; rfl),rfl,rfl,rfl,(by rw [hq4]; rfl),trivial⟩ rfl))
    | false =>
     have ghq4:=lF hq4
     refine .inl ⟨⟨i + 1,by omega,up_next hi2 (show rngAt 200 (cR L) i by unfold rngAt; omega)⟩,(by show A.length - (i + 1) < A.length - i; omega),?_⟩
     exact gK cm (kN) 200 (e:=.normal) (m:=2) (ps:=[ltI ↑i ↑A.length=true,i < L.length,loadL pg (cR L) (i * 2) 40=some (AV.agg [.v (.int .i64 (intAt (cR L) (i * 2 + 0))),.v (.int .i64 (intAt (cR L) (i * 2 + 1)))]),(!ltI (intAt (cR L) (i * 2 + 0)) 0)=true,true=true,true=true,true=true,true=true,(!ltI (intAt (cR L) (i * 2 + 1)) (intAt (cR L) (i * 2 + 0)))=true,true=true,true=true,true=true,(!!ltI 200 (intAt (cR L) (i * 2 + 1)))=false,inR .i64 (↑i + 1)]) [.go,.go,.go,.b true,.go,.go,.go,.sym,.sym,.go,.go,.go,.go,.go,.go,.b true,.go,.b true,.go,.b true,.go,.b true,.go,.b true,.go,.go,.go,.b true,.go,.b true,.go,.b true,.go,.b true,.go,.go,.go,.go,.b false,.go,.go,.go] (by kernel_rfl) (by kernel_rfl) ⟨hq1,(by omega),(cR_load (by omega) 40 (Try.underlying40) rfl (inf:=(pg.info? 40).getD default) (by kernel_rfl) (by kernel_rfl)),(by rw [hq2]; rfl),rfl,rfl,rfl,rfl,(by rw [hq3]; rfl),rfl,rfl,rfl,(by rw [hq4]; rfl),(iRZ6 (by omega) (by omega)),trivial⟩ rfl (by show 1≤2; decide) ⟨⟨nb_ptr (by show 0 < 1; decide),nb_v _,nb_v _,trivial⟩,⟨⟨by show 0 < 1; decide,nbb_lamp⟩,trivial⟩,rfl⟩
 | false =>
  have ghq1:=lF hq1
  exact .inr (.inl ⟨(by show A.length≤i; omega),gT cm (kN) 200 (e:=.exit 2) (ps:=[ltI ↑i ↑A.length=false]) [.go,.go,.go,.b false] (by kernel_rfl) (by kernel_rfl) ⟨hq1,trivial⟩ rfl⟩)
def rcC7:Code:=tlC rcC6
theorem rc_6 (ya yl yf yw:Value) (A:List Int) (L:PR) (B:List Bool) (W:List Int) (hn:2≤A.length∧A.length≤10) (ha:∀ i,i < A.length→angAt (cI A) i) (he:eqP (cI A) A.length L.length B.length W.length) (hl:∀ i,i < A.length→rngAt 200 (cR L) i) (w:World) (hc:∀ i:UpI (wgtAt (cI W)) W.length,W.length≤i.1→Goes pg 117 rcC7 (⟨[(1,.ptr 0 0),(6,.v (.int .i64 i.1))],[],1,[(q6_6 A B L W ya yf yl yw)]⟩) w (OutR pg Try.f20 117 (.int .i64 (clE (cI A) A.length (cR L) L.length B.length (cI W) W.length)) w)):Goes pg 117 rcC6 ((q6_3 A B L W ya yf yl yw)) w (OutR pg Try.f20 117 (.int .i64 (clE (cI A) A.length (cR L) L.length B.length (cI W) W.length)) w):=by
 refine goes_spineQ (ι:=UpI (wgtAt (cI W)) W.length) (T:=fun i=>⟨[(1,.ptr 0 0),(6,.v (.int .i64 i.1))],[],1,[(q6_6 A B L W ya yf yl yw)]⟩) (R:=fun i=>W.length≤i.1) (by kernel_rfl)
  (goes_spine (T':=⟨[(1,.ptr 0 0),(6,.v (.int .i64 0))],[],1,[(q6_6 A B L W ya yf yl yw)]⟩) (by kernel_rfl) (gT cm (kN) 200 (e:=.normal) (ps:=[]) [.go] (by kernel_rfl) (by kernel_rfl) trivial rfl)
   (goes_blockloop (by kernel_rfl) (fun i:UpI (wgtAt (cI W)) W.length=>⟨[(1,.ptr 0 0),(6,.v (.int .i64 i.1))],[],1,[(q6_6 A B L W ya yf yl yw)]⟩) (fun i=>W.length - i.1) (fun i=>?_) ⟨0,Nat.zero_le _,fun j hj=>by omega⟩)) hc
 obtain ⟨i,hi1,hi2⟩:=i
 show (∃ j:UpI (wgtAt (cI W)) W.length,W.length - j.1 < W.length - i∧Goes pg 117 (loopC (tlC (hdC rcC6))) (⟨[(1,.ptr 0 0),(6,.v (.int .i64 i))],[],1,[(q6_6 A B L W ya yf yl yw)]⟩) w (Land 117 isN (⟨[(1,.ptr 0 0),(6,.v (.int .i64 j.1))],[],1,[(q6_6 A B L W ya yf yl yw)]⟩) w))∨(W.length≤i∧Goes pg 117 (loopC (tlC (hdC rcC6))) (⟨[(1,.ptr 0 0),(6,.v (.int .i64 i))],[],1,[(q6_6 A B L W ya yf yl yw)]⟩) w (Land 117 (isX 4) (⟨[(1,.ptr 0 0),(6,.v (.int .i64 i))],[],1,[(q6_6 A B L W ya yf yl yw)]⟩) w))∨Goes pg 117 (loopC (tlC (hdC rcC6))) (⟨[(1,.ptr 0 0),(6,.v (.int .i64 i))],[],1,[(q6_6 A B L W ya yf yl yw)]⟩) w (fun e a w'=>e = .ret∧(OutR pg Try.f20 117 (.int .i64 (clE (cI A) A.length (cR L) L.length B.length (cI W) W.length)) w) .ret a w')
 have hcl:=cI_len W
 have hW:W.length≤91:=by have q:=he.2.2; unfold degI at q; have hb2:=ang_bd ha (A.length - 1) (by omega); have hb0:=ang_bd ha 0 (by omega); omega
 cases hq1:(ltI ↑i ↑W.length) with
 | true =>
  have ghq1:=lT hq1
  cases hq2:(ltI (intAt (cI W) (i * 1)) 0) with
  | true =>
   have ghq2:=lT hq2
   rw [clE_arg hn ha he (fun k=>by have q:=k.2 i (by omega); unfold wgtAt at q; omega)]
   exact .inr (.inr (goes_ret cm (kN) 200 (v:=(.v (.int .i64 (.ofNat 2)))) (ps:=[ltI ↑i ↑W.length=true,i < W.length,loadL pg (cI W) (i * 1) 2=some (.v (.int .i64 (intAt (cI W) (i * 1)))),ltI (intAt (cI W) (i * 1)) 0=true,true=true,true=true,true=true,true=true,true=true,true=true]) [.go,.go,.go,.go,.go,.b true,.go,.go,.go,.sym,.sym,.go,.go,.b true,.b true,.b true,.b true,.b true,.b true,.go,.b true,.go] (by kernel_rfl) (by kernel_rfl) ⟨hq1,(by omega),(by rw [Nat.mul_one]; exact cI_load (by omega) 2 (u2) rfl),hq2,rfl,rfl,rfl,rfl,rfl,rfl,trivial⟩ rfl))
  | false =>
   have ghq2:=lF hq2
   cases hq3:(ltI 1000 (intAt (cI W) (i * 1))) with
   | true =>
    have ghq3:=lT hq3
    rw [clE_arg hn ha he (fun k=>by have q:=k.2 i (by omega); unfold wgtAt at q; omega)]
    exact .inr (.inr (goes_ret cm (kN) 200 (v:=(.v (.int .i64 (.ofNat 2)))) (ps:=[ltI ↑i ↑W.length=true,i < W.length,loadL pg (cI W) (i * 1) 2=some (.v (.int .i64 (intAt (cI W) (i * 1)))),ltI (intAt (cI W) (i * 1)) 0=false,false=false,false=false,false=false,i < W.length,false=false,loadL pg (cI W) (i * 1) 2=some (.v (.int .i64 (intAt (cI W) (i * 1)))),false=false,ltI 1000 (intAt (cI W) (i * 1))=true]) [.go,.go,.go,.go,.go,.b true,.go,.go,.go,.sym,.sym,.go,.go,.b false,.go,.b false,.go,.b false,.go,.b false,.sym,.b false,.sym,.b false,.go,.go,.b true,.go] (by kernel_rfl) (by kernel_rfl) ⟨hq1,(by omega),(by rw [Nat.mul_one]; exact cI_load (by omega) 2 (u2) rfl),hq2,rfl,rfl,rfl,(by omega),rfl,(by rw [Nat.mul_one]; exact cI_load (by omega) 2 (u2) rfl),rfl,hq3,trivial⟩ rfl))
   | false =>
    have ghq3:=lF hq3
    refine .inl ⟨⟨i + 1,by omega,up_next hi2 (show wgtAt (cI W) i by unfold wgtAt; omega)⟩,(by show W.length - (i + 1) < W.length - i; omega),?_⟩
    exact gT cm (kN) 200 (e:=.normal) (ps:=[ltI ↑i ↑W.length=true,i < W.length,loadL pg (cI W) (i * 1) 2=some (.v (.int .i64 (intAt (cI W) (i * 1)))),ltI (intAt (cI W) (i * 1)) 0=false,false=false,false=false,false=false,i < W.length,false=false,loadL pg (cI W) (i * 1) 2=some (.v (.int .i64 (intAt (cI W) (i * 1)))),false=false,ltI 1000 (intAt (cI W) (i * 1))=false,inR .i64 (↑i + 1)]) [.go,.go,.go,.go,.go,.b true,.go,.go,.go,.sym,.sym,.go,.go,.b false,.go,.b false,.go,.b false,.go,.b false,.sym,.b false,.sym,.b false,.go,.go,.b false,.go,.go,.go] (by kernel_rfl) (by kernel_rfl) ⟨hq1,(by omega),(by rw [Nat.mul_one]; exact cI_load (by omega) 2 (u2) rfl),hq2,rfl,rfl,rfl,(by omega),rfl,(by rw [Nat.mul_one]; exact cI_load (by omega) 2 (u2) rfl),rfl,hq3,(iRZ6 (by omega) (by omega)),trivial⟩ rfl
 | false =>
  have ghq1:=lF hq1
  exact .inr (.inl ⟨(by show W.length≤i; omega),gT cm (kN) 200 (e:=.exit 4) (ps:=[ltI ↑i ↑W.length=false]) [.go,.go,.go,.go,.go,.b false] (by kernel_rfl) (by kernel_rfl) ⟨hq1,trivial⟩ rfl⟩)
theorem rc_7 (ya yl yf yw:Value) (A:List Int) (L:PR) (B:List Bool) (W:List Int) (i0:Nat) (hn:2≤A.length∧A.length≤10) (ha:∀ i,i < A.length→angAt (cI A) i) (he:eqP (cI A) A.length L.length B.length W.length) (hl:∀ i,i < A.length→rngAt 200 (cR L) i) (hw:∀ i,i < W.length→wgtAt (cI W) i) (w:World):Goes pg 117 rcC7 (⟨[(1,.ptr 0 0),(6,.v (.int .i64 i0))],[],1,[(q6_6 A B L W ya yf yl yw)]⟩) w (OutR pg Try.f20 117 (.int .i64 (clE (cI A) A.length (cR L) L.length B.length (cI W) W.length)) w):=by
 rw [clE_ok hn ha he (by rw [he.1]; exact hl) hw]
 exact goes_out cm (kN) 200 (v:=(.v (.int .i64 (.ofNat 0)))) (ps:=[]) [.go] (by kernel_rfl) (by kernel_rfl) trivial rfl
theorem rc_g (ya yl yf yw:Value) (A:List Int) (L:PR) (B:List Bool) (W:List Int):GivesA pg 20 [.agg (q6_7 A B L W ya yf yl yw)] (.int .i64 (q6_10 A B L W)) :=
 givesA_parts 117 Try.func20 (by kernel_rfl) (by kernel_rfl) (by kernel_rfl) (fun w=>rc_0 ya yl yf yw A L B W w (rc_1 ya yl yf yw A L B W w (rc_2 ya yl yf yw A L B W w (fun hn=>rc_3 ya yl yf yw A L B W hn w (fun i hi=>goes_drop (by kernel_rfl) (by kernel_rfl) (by kernel_rfl) (by kernel_rfl) (rc_4 ya yl yf yw A L B W hn (fun j hj=>i.2.2 j (Nat.lt_of_lt_of_le hj hi)) w (fun he=>rc_5 ya yl yf yw A L B W hn (fun j hj=>i.2.2 j (Nat.lt_of_lt_of_le hj hi)) he w (fun k hk=>goes_drop (by kernel_rfl) (by kernel_rfl) (by kernel_rfl) (by kernel_rfl) (rc_6 ya yl yf yw A L B W hn (fun j hj=>i.2.2 j (Nat.lt_of_lt_of_le hj hi)) he (fun j hj=>k.2.2 j (Nat.lt_of_lt_of_le hj hk)) w (fun m hm=>rc_7 ya yl yf yw A L B W m.1 hn (fun j hj=>i.2.2 j (Nat.lt_of_lt_of_le hj hi)) he (fun j hj=>k.2.2 j (Nat.lt_of_lt_of_le hj hk)) (fun j hj=>m.2.2 j (Nat.lt_of_lt_of_le hj hm)) w))))))))))
def clB (p:Prop):Bool:=@decide p (Classical.propDecidable _)
theorem clB_true {p:Prop}:clB p=true↔p:=by unfold clB; exact @decide_eq_true_iff _ (Classical.propDecidable _)
theorem clB_yes {p:Prop} (h:p):clB p=true:=clB_true.2 h
theorem clB_no {p:Prop} (h:¬ p):clB p=false:=by
 cases e:clB p with
 | true=>exact absurd (clB_true.1 e) h
 | false=>rfl
theorem clB_false {p:Prop} (h:clB p=false):¬ p:=fun k=>by rw [clB_true.2 k] at h; cases h
theorem cB_at:∀ (L:List Bool) (i:Nat) (h:i < L.length),(cB L)[i]? = some (.v (.bool (L[i])))
 | [],i,h=>by simp at h
 | x :: l,0,h=>rfl
 | x :: l,i + 1,h=>cB_at l i (by simpa using h)
theorem cB_ld {L:List Bool} {j:Nat} (h:j < L.length) (t:TypeId) {d:TypeDesc} (hd:pg.underlying t=some d) (ha:aggD d=false):loadL pg (cB L) j t=some (.v (.bool (boolAt (cB L) j))):=by
 simp only [loadL,hd,ha,getL_eq,cB_at L j h,boolAt]
theorem cR_ld {L:PR} {j:Nat} (h:j < L.length * 2) (t:TypeId) {d:TypeDesc} (hd:pg.underlying t=some d) (ha:aggD d=false):loadL pg (cR L) j t=some (.v (.int .i64 (intAt (cR L) j))):=by
 have hi:j / 2 < L.length:=by omega
 obtain ⟨h3,h4⟩:=cR_at L (j / 2) L[j / 2] (List.getElem?_eq_getElem hi)
 have hj:j=j / 2 * 2∨j=j / 2 * 2 + 1:=by omega
 rcases hj with e | e
 ·rw [e]; simp only [loadL,hd,ha,getL_eq,h3,intAt]
 ·rw [e]; simp only [loadL,hd,ha,getL_eq,h4,intAt]
def degA (A:List AV) (i:Nat):Int:=intAt A (i * 1) - intAt A (0 * 1)
theorem ang_up {A:List AV} {n:Nat} (h:∀ i,i < n→angAt A i):∀ i j,i + j < n→intAt A (i * 1) + j≤intAt A ((i + j) * 1)
 | i,0,hj=>by simp
 | i,j + 1,hj=>by
  have h1:=ang_up h i j (by omega)
  have h2:=h (i + j + 1) hj
  simp only [angAt,bfI] at h2
  rw [show i + (j + 1)=i + j + 1 by omega]
  omega
theorem deg_bd {A:List AV} {n nl nf nw:Nat} (hn:2≤n∧n≤10) (ha:∀ i,i < n→angAt A i) (he:eqP A n nl nf nw) (i:Nat) (hi:i < n):0≤intAt A (i * 1) - intAt A (0 * 1)∧intAt A (i * 1) - intAt A (0 * 1) < nw∧nw≤91∧0≤intAt A (i * 1)∧intAt A (i * 1)≤90:=by
 have h0:=ang_up ha 0 i (by omega)
 have h1:=ang_up ha i (n - 1 - i) (by omega)
 rw [Nat.zero_add] at h0
 rw [show i + (n - 1 - i)=n - 1 by omega] at h1
 have hq:=he.2.2
 unfold degI at hq
 have b0:=ang_bd ha 0 (by omega)
 have b1:=ang_bd ha (n - 1) (by omega)
 have b2:=ang_bd ha i hi
 omega
section
variable {A L B W X : List AV} {n nl nf nw nx i : Nat}
end
def gapF (A:List AV) (x:Int):Nat→Nat→Nat
 | 0,i=>i
 | f + 1,i=>if intAt A ((i + 1) * 1) < x then gapF A x f (i + 1) else i
section
variable (A : List Int) (w : World) (x : Int)
abbrev q6_9:=(OutR pg Try.f58 17 (.int .i64 (gapF (cI A) x A.length 0)) w)
end
theorem gapF_at {A:List AV} {x:Int}:∀ (f i k:Nat),k < f→(∀ j,j < k→intAt A ((i + j + 1) * 1) < x)→¬ intAt A ((i + k + 1) * 1) < x→gapF A x f i=i + k
 | 0,i,k,hk,_,_=>by omega
 | f + 1,i,0,hk,h,h2=>if_neg h2
 | f + 1,i,k + 1,hk,h,h2=>by
  have h0:=h 0 (by omega)
  unfold gapF
  rw [if_pos h0,gapF_at f (i + 1) k (by omega) (fun j hj=>by rw [show i + 1 + j + 1=i + (j + 1) + 1 by omega]; exact h (j + 1) (by omega)) (by rw [show i + 1 + k + 1=i + (k + 1) + 1 by omega]; exact h2)]
  omega
def IsLamp (ca:List AV) (na:Nat) (cl:List AV) (nl:Nat) (cf:List AV) (nf:Nat) (cw:List AV) (nw:Nat):Prop:=∃ (A:List Int) (L:PR) (B:List Bool) (W:List Int),ca=cI A∧na=A.length∧cl=cR L∧nl=L.length∧cf=cB B∧nf=B.length∧cw=cI W∧nw=W.length
theorem ext_lamp {ya yl yf yw:Value} {A:List Int} {L:PR} {B:List Bool} {W:List Int} {a l f w:Nat}:Ext (.agg [.xl ya a 1 (cI A),.xl yl l 2 (cR L),.xl yf f 1 (cB B),.xl yw w 1 (cI W)]) :=
 ext_agg (extL_cons (ext_xl (extL_plain (cI_plain A))) (extL_cons (ext_xl (extL_plain (cR_plain L))) (extL_cons (ext_xl (extL_plain (cB_plain B))) (extL_cons (ext_xl (extL_plain (cI_plain W))) extL_nil))))
def gpK1:Code:=bodyC Try.f58
def gpK3:Code:=tlC gpK1
def gpK5:Code:=tlC gpK3
def gpK7:Code:=loopC (hdC gpK5)
def gpK8:Code:=tlC gpK5
theorem gp_9 (ya yl yf yw:Value) (A:List Int) (L:PR) (B:List Bool) (W:List Int) (x:Int) (hz:clE (cI A) A.length (cR L) L.length B.length (cI W) W.length=0) (hx:intAt (cI A) (0 * 1) < x∧x≤intAt (cI A) ((A.length - 1) * 1)) (i0:Nat) (h0a:i0≤(A.length - 2)) (h0b:∀ j,j < i0→intAt (cI A) ((0 + j + 1) * 1) < x) (h0c:¬ intAt (cI A) ((i0 + 1) * 1) < x) (w:World):Goes pg 17 gpK8 (⟨[(5,(.v (.int .i64 i0)))],[],1,[]⟩) w (q6_9 A w x):=by
 exact goes_eqR (r:=(.int .i64 (↑i0))) (by rw [gapF_at A.length 0 i0 (by have:=(clE_zero hz).1; omega) h0b (by rw [Nat.zero_add]; exact h0c),Nat.zero_add]) (goes_out cm (kN) 200 (v:=(.v (.int .i64 (↑i0)))) (ps:=[]) [.go,.go] (by kernel_rfl) (by kernel_rfl) trivial rfl)
theorem gp_6 (ya yl yf yw:Value) (A:List Int) (L:PR) (B:List Bool) (W:List Int) (x:Int) (hz:clE (cI A) A.length (cR L) L.length B.length (cI W) W.length=0) (hx:intAt (cI A) (0 * 1) < x∧x≤intAt (cI A) ((A.length - 1) * 1)) (w:World):Goes pg 17 gpK5 ((q6_1 A B L W x ya yf yl yw)) w (q6_9 A w x):=by
 obtain ⟨hn,ha,he,-,-⟩:=clE_zero hz
 refine goes_less (T':=⟨[(1,(.v (.int .i64 (x)))),(2,(.ptr 0 0)),(5,(.v (.int .i64 0)))],[],1,[(q6_5 A B L W ya yf yl yw)]⟩) (by kernel_rfl) (by kernel_rfl) (by kernel_rfl) (by kernel_rfl) (goes_spineQ (ι:={i:Nat // i≤(A.length - 2)∧∀ j,j < i→intAt (cI A) ((0 + j + 1) * 1) < x}) (T:=(fun i:{i:Nat // i≤(A.length - 2)∧∀ j,j < i→intAt (cI A) ((0 + j + 1) * 1) < x}=>⟨[(1,(.v (.int .i64 (x)))),(2,(.ptr 0 0)),(5,(.v (.int .i64 i.1)))],[],1,[(q6_5 A B L W ya yf yl yw)]⟩)) (R:=(fun i:{i:Nat // i≤(A.length - 2)∧∀ j,j < i→intAt (cI A) ((0 + j + 1) * 1) < x}=>¬ intAt (cI A) ((i.1 + 1) * 1) < x)) (by kernel_rfl) (goes_blockstep (by kernel_rfl) (fun i:{i:Nat // i≤(A.length - 2)∧∀ j,j < i→intAt (cI A) ((0 + j + 1) * 1) < x}=>⟨[(1,(.v (.int .i64 (x)))),(2,(.ptr 0 0)),(5,(.v (.int .i64 i.1)))],[],1,[(q6_5 A B L W ya yf yl yw)]⟩) (fun i:{i:Nat // i≤(A.length - 2)∧∀ j,j < i→intAt (cI A) ((0 + j + 1) * 1) < x}=>(A.length - 2) - i.1) (fun i=>?_) ⟨0,Nat.zero_le _,(fun j hj=>by omega)⟩) (fun ixR hxR=>goes_less (by kernel_rfl) (by kernel_rfl) (by kernel_rfl) (by kernel_rfl) (gp_9 ya yl yf yw A L B W x hz hx ixR.1 ixR.2.1 ixR.2.2 hxR w)))
 obtain ⟨i,hi1,hi2⟩:=i
 have e1:((i:Int) + 1).toNat=i + 1:=by omega
 show Goes pg 17 gpK7 (⟨[(1,(.v (.int .i64 (x)))),(2,(.ptr 0 0)),(5,(.v (.int .i64 i)))],[],1,[(q6_5 A B L W ya yf yl yw)]⟩) w (StepQ _ _ _ _ _ _ _ _)
 cases hl0_1:(ltI (intAt (cI A) ((i + 1) * 1)) x) with
 | true =>
  have ghl0_1:=lT hl0_1
  have hlt:i + 1≠A.length - 1:=fun q=>by rw [← q] at hx; omega
  refine Ev.step_on ⟨i + 1,by omega,(fun j hj=>by by_cases q:j < i; exact hi2 j q; (rw [show 0 + j + 1=i + 1 by omega]; omega))⟩ (by show (A.length - 2) - (i + 1) < (A.length - 2) - i; omega) ?_
  exact gT cm (kN) 200 (T':=⟨[(1,(.v (.int .i64 (x)))),(2,(.ptr 0 0)),(5,(.v (.int .i64 (((i + 1):Nat):Int))))],[],1,[(q6_5 A B L W ya yf yl yw)]⟩) (e:=.normal) (ps:=[inR .i64 (↑i + 1),i + 1 < A.length,loadL pg (cI A) ((i + 1) * 1) 2=some (.v (.int .i64 (intAt (cI A) ((i + 1) * 1)))),ltI (intAt (cI A) ((i + 1) * 1)) x=true,inR .i64 (↑i + 1)]) [.go,.go,.go,.go,.sym,.sym,.go,.go,.b true,.go,.go,.go] (by kernel_rfl) (by kernel_rfl) ⟨(iRZ6 (by omega) (by omega)),(by omega),(cI_ld (by omega) 2 (u2) rfl),hl0_1,(iRZ6 (by omega) (by omega)),trivial⟩ rfl
 | false =>
  have ghl0_1:=lF hl0_1
  exact Ev.step_out (by show ¬ intAt (cI A) ((i + 1) * 1) < x; omega) (gT cm (kN) 200 (T':=⟨[(1,(.v (.int .i64 (x)))),(2,(.ptr 0 0)),(5,(.v (.int .i64 i)))],[],1,[(q6_5 A B L W ya yf yl yw)]⟩) (e:=.exit 0) (ps:=[inR .i64 (↑i + 1),i + 1 < A.length,loadL pg (cI A) ((i + 1) * 1) 2=some (.v (.int .i64 (intAt (cI A) ((i + 1) * 1)))),ltI (intAt (cI A) ((i + 1) * 1)) x=false]) [.go,.go,.go,.go,.sym,.sym,.go,.go,.b false] (by kernel_rfl) (by kernel_rfl) ⟨(iRZ6 (by omega) (by omega)),(by omega),(cI_ld (by omega) 2 (u2) rfl),hl0_1,trivial⟩ rfl)
theorem gp_4 (ya yl yf yw:Value) (A:List Int) (L:PR) (B:List Bool) (W:List Int) (x:Int) (hz:clE (cI A) A.length (cR L) L.length B.length (cI W) W.length=0) (hx:intAt (cI A) (0 * 1) < x∧x≤intAt (cI A) ((A.length - 1) * 1)) (w:World):Goes pg 17 gpK3 ((q6_2 A B L W x ya yf yl yw)) w (q6_9 A w x):=by
 exact goes_spine (T':=(q6_1 A B L W x ya yf yl yw)) (by kernel_rfl) (gT cm (kN) 200 (T':=(q6_1 A B L W x ya yf yl yw)) (e:=.normal) (ps:=[]) [.go] (by kernel_rfl) (by kernel_rfl) trivial rfl) (gp_6 ya yl yf yw A L B W x hz hx w)
theorem gp_2 (ya yl yf yw:Value) (A:List Int) (L:PR) (B:List Bool) (W:List Int) (x:Int) (hz:clE (cI A) A.length (cR L) L.length B.length (cI W) W.length=0) (hx:intAt (cI A) (0 * 1) < x∧x≤intAt (cI A) ((A.length - 1) * 1)) (w:World):Goes pg 17 gpK1 (⟨[(0,.agg (q6_7 A B L W ya yf yl yw)),(1,.v (.int .i64 x))],[],0,[]⟩) w (q6_9 A w x):=by
 exact goes_spine (T':=(q6_2 A B L W x ya yf yl yw)) (by kernel_rfl) (gT cm (kN) 200 (T':=(q6_2 A B L W x ya yf yl yw)) (e:=.normal) (ps:=[]) [.go,.go] (by kernel_rfl) (by kernel_rfl) trivial rfl) (gp_4 ya yl yf yw A L B W x hz hx w)
theorem gp_g (ya yl yf yw:Value) (A:List Int) (L:PR) (B:List Bool) (W:List Int) (x:Int) (hz:clE (cI A) A.length (cR L) L.length B.length (cI W) W.length=0) (hx:intAt (cI A) (0 * 1) < x∧x≤intAt (cI A) ((A.length - 1) * 1)):GivesA pg 58 [.agg (q6_7 A B L W ya yf yl yw),.v (.int .i64 x)] (.int .i64 (gapF (cI A) x A.length 0)) :=
 givesA_parts 17 Try.func58 (by kernel_rfl) (by kernel_rfl) (by kernel_rfl) (fun w=>goes_less (by kernel_rfl) (by kernel_rfl) (by kernel_rfl) (by kernel_rfl) (gp_2 ya yl yf yw A L B W x hz hx w))
end
end Go.Proofs.Ytldekgkjofgacaa
