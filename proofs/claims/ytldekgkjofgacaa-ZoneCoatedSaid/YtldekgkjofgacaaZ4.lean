import Derived.Test.YtldekgkjofgacaaZ3a
set_option maxHeartbeats 4000000
set_option linter.all false
/- CheckLamp. -/
namespace Go.Proofs.Ytldekgkjofgacaa
open Go Ev
noncomputable section
theorem iRZ4 {a:Int} (h : -9223372036854775808≤a) (k:a≤9223372036854775807):inR .i64 a:=⟨h,k⟩
section
variable (A : List Int) (B : List Bool) (L : List (Int × Int)) (W : List Int) (w : World) (ya yf yl yw : Value)
@[reducible] def q4_7:Nat×Ev.AV:=(3,.v (.int .i64 A.length))
@[reducible] def q4_4:List Ev.AV:=[.xl ya A.length 1 (cI A),.xl yl L.length 2 (cR L),.xl yf B.length 1 (cB B),.xl yw W.length 1 (cI W)]
@[reducible] def q4_3:Nat×Ev.AB:=(0,.cells (q4_4 A B L W ya yf yl yw) 26)
@[reducible] def q4_1:Ev.Lit:=⟨[(1,.ptr 0 0),(q4_7 A)],[],1,[(q4_3 A B L W ya yf yl yw)]⟩
@[reducible] def q4_2:Ev.Lit:=⟨[(1,.ptr 0 0)],[],1,[(q4_3 A B L W ya yf yl yw)]⟩
@[reducible] def q4_6:=(clE (cI A) A.length (cR L) L.length B.length (cI W) W.length)
@[reducible] def q4_5:=(OutR Try.prog Try.f20 117 (.int .i64 (q4_6 A B L W)) w)
end
theorem cl_g (ya yl yf yw:Value) (A:List Int) (L:List (Int×Int)) (B:List Bool) (W:List Int):GivesA Try.prog 19 [.agg (q4_4 A B L W ya yf yl yw)] (.int .i64 (clE (cI A) A.length (cR L) L.length B.length (cI W) W.length)):=by
 have hcA:=cI_len A
 have ht:((A.length:Int) - 1).toNat=A.length - 1:=by omega
 cases hq1:(ltI (↑A.length) 2) with
 | true =>
  have ghq1:=ltI_true hq1
  rw [clE_many (by omega)]
  exact givesA_told (v:=(.v (.int .i64 (.ofNat 6)))) (ps:=[(!ltI (↑A.length) 2)=false,false=false,false=false,(!false)=true]) Try.checked.mixed known_ck 200 [.go,.go,.go,.go,.go,.go,.go,.go,.go,.go,.go,.go,.b false,.b false,.b false,.go,.go,.go,.b true,.go] (by kernel_rfl) ⟨(by rw [hq1]; rfl),rfl,rfl,rfl,trivial⟩ rfl
 | false =>
  have ghq1:=ltI_false hq1
  cases hq2:(ltI 10 ↑A.length) with
  | true =>
   have ghq2:=ltI_true hq2
   rw [clE_many (by omega)]
   exact givesA_told (v:=(.v (.int .i64 (.ofNat 6)))) (ps:=[(!ltI (↑A.length) 2)=true,true=true,true=true,(!!ltI 10 ↑A.length)=true]) Try.checked.mixed known_ck 200 [.go,.go,.go,.go,.go,.go,.go,.go,.go,.go,.go,.go,.b true,.go,.b true,.go,.b true,.go,.go,.go,.go,.b true,.go] (by kernel_rfl) ⟨(by rw [hq1]; rfl),rfl,rfl,(by rw [hq2]; rfl),trivial⟩ rfl
  | false =>
   have ghq2:=ltI_false hq2
   cases hq3:(allB (angAt (cI A)) A.length) with
   | true =>
    have ghq3:=allB_true.1 hq3
    have hb2:=ang_bd ghq3 (A.length - 1) (by omega)
    have hb1:=hb2
    rw [← ht] at hb1
    have hb0:=ang_bd ghq3 0 (by omega)
    cases hq4:(eqI ↑L.length ↑A.length) with
    | true =>
     have ghq4:=eqI_true hq4
     cases hq5:(eqI (↑B.length) (↑A.length - 1)) with
     | true =>
      have ghq5:=eqI_true hq5
      cases hq6:(eqI (↑W.length) (intAt (cI A) (((A.length:Int) - 1).toNat * 1) - intAt (cI A) (0 * 1) + 1)) with
      | true =>
       have ghq6:=eqI_true hq6
       rw [ht] at ghq6
       cases hq7:(allB (rngAt 200 (cR L)) L.length) with
       | true =>
        have ghq7:=allB_true.1 hq7
        cases hq8:(allB (wgtAt (cI W)) W.length) with
        | true =>
         have ghq8:=allB_true.1 hq8
         rw [clE_ok (by omega) ghq3 (by unfold eqP degI; omega) ghq7 ghq8]
         exact givesA_told (v:=(.v (.int .i64 (.ofNat 0)))) (ps:=[(!ltI (↑A.length) 2)=true,true=true,true=true,(!!ltI 10 ↑A.length)=false,IsI (0 + 1) A.length (cI A),A.length≤1000,(!allB (angAt (cI A)) A.length)=false,(!eqI ↑L.length ↑A.length)=false,false=false,false=false,false=false,false=false,inR IntKind.i64 (↑A.length - 1),false=false,(!eqI (↑B.length) (↑A.length - 1))=false,false=false,false=false,false=false,false=false,inR IntKind.i64 (↑A.length - 1),(0:Int)≤↑A.length - 1,((A.length:Int) - 1).toNat < A.length,loadL Try.prog (cI A) (((A.length:Int) - 1).toNat * 1) 2=some (AV.v (Value.int IntKind.i64 (intAt (cI A) (((A.length:Int) - 1).toNat * 1)))),0 < A.length,loadL Try.prog (cI A) (0 * 1) 2=some (AV.v (Value.int IntKind.i64 (intAt (cI A) (0 * 1)))),inR IntKind.i64 (intAt (cI A) (((A.length:Int) - 1).toNat * 1) - intAt (cI A) (0 * 1)),inR IntKind.i64 (intAt (cI A) (((A.length:Int) - 1).toNat * 1) - intAt (cI A) (0 * 1) + 1),false=false,(!eqI (↑W.length) (intAt (cI A) (((A.length:Int) - 1).toNat * 1) - intAt (cI A) (0 * 1) + 1))=false,IsP (1 + 1) L.length (cR L),L.length≤1000,(!allB (rngAt 200 (cR L)) L.length)=false,false=false,false=false,IsI (0 + 1) W.length (cI W),W.length≤1000,false=false,(!allB (wgtAt (cI W)) W.length)=false]) Try.checked.mixed known_ck 200 [.go,.go,.go,.go,.go,.go,.go,.go,.go,.go,.go,.go,.b true,.go,.b true,.go,.b true,.go,.go,.go,.go,.b false,.go,.go,.go,.b false,.go,.go,.go,.go,.go,.go,.b false,.go,.b false,.go,.b false,.go,.b false,.go,.b false,.go,.b false,.go,.go,.go,.b false,.go,.b false,.go,.b false,.go,.b false,.go,.b false,.go,.go,.go,.go,.go,.go,.go,.go,.go,.nat,.sym,.go,.go,.go,.go,.go,.sym,.sym,.go,.go,.go,.go,.b false,.go,.go,.b false,.go,.go,.go,.go,.b false,.go,.b false,.go,.b false,.b false,.go,.go,.b false,.go] (by kernel_rfl) ⟨(by rw [hq1]; rfl),rfl,rfl,(by rw [hq2]; rfl),⟨rfl,A,rfl,rfl⟩,(by omega),(by rw [hq3]; rfl),(by rw [hq4]; rfl),rfl,rfl,rfl,rfl,(iRZ4 (by omega) (by omega)),rfl,(by rw [hq5]; rfl),rfl,rfl,rfl,rfl,(iRZ4 (by omega) (by omega)),(by omega),(by omega),(by rw [Nat.mul_one]; exact cI_load (by omega) 2 (Try.underlying2) rfl),(by omega),(by rw [Nat.mul_one]; exact cI_load (by omega) 2 (Try.underlying2) rfl),(iRZ4 (by omega) (by omega)),(iRZ4 (by omega) (by omega)),rfl,(by rw [hq6]; rfl),⟨rfl,L,rfl,rfl⟩,(by omega),(by rw [hq7]; rfl),rfl,rfl,⟨rfl,W,rfl,rfl⟩,(by omega),rfl,(by rw [hq8]; rfl),trivial⟩ rfl
        | false =>
         have ghq8:=allB_false hq8
         rw [clE_arg (by omega) ghq3 (by unfold eqP degI; omega) (fun k=>ghq8 k.2)]
         exact givesA_told (v:=(.v (.int .i64 (.ofNat 2)))) (ps:=[(!ltI (↑A.length) 2)=true,true=true,true=true,(!!ltI 10 ↑A.length)=false,IsI (0 + 1) A.length (cI A),A.length≤1000,(!allB (angAt (cI A)) A.length)=false,(!eqI ↑L.length ↑A.length)=false,false=false,false=false,false=false,false=false,inR IntKind.i64 (↑A.length - 1),false=false,(!eqI (↑B.length) (↑A.length - 1))=false,false=false,false=false,false=false,false=false,inR IntKind.i64 (↑A.length - 1),(0:Int)≤↑A.length - 1,((A.length:Int) - 1).toNat < A.length,loadL Try.prog (cI A) (((A.length:Int) - 1).toNat * 1) 2=some (AV.v (Value.int IntKind.i64 (intAt (cI A) (((A.length:Int) - 1).toNat * 1)))),0 < A.length,loadL Try.prog (cI A) (0 * 1) 2=some (AV.v (Value.int IntKind.i64 (intAt (cI A) (0 * 1)))),inR IntKind.i64 (intAt (cI A) (((A.length:Int) - 1).toNat * 1) - intAt (cI A) (0 * 1)),inR IntKind.i64 (intAt (cI A) (((A.length:Int) - 1).toNat * 1) - intAt (cI A) (0 * 1) + 1),false=false,(!eqI (↑W.length) (intAt (cI A) (((A.length:Int) - 1).toNat * 1) - intAt (cI A) (0 * 1) + 1))=false,IsP (1 + 1) L.length (cR L),L.length≤1000,(!allB (rngAt 200 (cR L)) L.length)=false,false=false,false=false,IsI (0 + 1) W.length (cI W),W.length≤1000,false=false,(!allB (wgtAt (cI W)) W.length)=true]) Try.checked.mixed known_ck 200 [.go,.go,.go,.go,.go,.go,.go,.go,.go,.go,.go,.go,.b true,.go,.b true,.go,.b true,.go,.go,.go,.go,.b false,.go,.go,.go,.b false,.go,.go,.go,.go,.go,.go,.b false,.go,.b false,.go,.b false,.go,.b false,.go,.b false,.go,.b false,.go,.go,.go,.b false,.go,.b false,.go,.b false,.go,.b false,.go,.b false,.go,.go,.go,.go,.go,.go,.go,.go,.go,.nat,.sym,.go,.go,.go,.go,.go,.sym,.sym,.go,.go,.go,.go,.b false,.go,.go,.b false,.go,.go,.go,.go,.b false,.go,.b false,.go,.b false,.b false,.go,.go,.b true,.go] (by kernel_rfl) ⟨(by rw [hq1]; rfl),rfl,rfl,(by rw [hq2]; rfl),⟨rfl,A,rfl,rfl⟩,(by omega),(by rw [hq3]; rfl),(by rw [hq4]; rfl),rfl,rfl,rfl,rfl,(iRZ4 (by omega) (by omega)),rfl,(by rw [hq5]; rfl),rfl,rfl,rfl,rfl,(iRZ4 (by omega) (by omega)),(by omega),(by omega),(by rw [Nat.mul_one]; exact cI_load (by omega) 2 (Try.underlying2) rfl),(by omega),(by rw [Nat.mul_one]; exact cI_load (by omega) 2 (Try.underlying2) rfl),(iRZ4 (by omega) (by omega)),(iRZ4 (by omega) (by omega)),rfl,(by rw [hq6]; rfl),⟨rfl,L,rfl,rfl⟩,(by omega),(by rw [hq7]; rfl),rfl,rfl,⟨rfl,W,rfl,rfl⟩,(by omega),rfl,(by rw [hq8]; rfl),trivial⟩ rfl
       | false =>
        have ghq7:=allB_false hq7
        rw [clE_arg (by omega) ghq3 (by unfold eqP degI; omega) (fun k=>ghq7 k.1)]
        exact givesA_told (v:=(.v (.int .i64 (.ofNat 2)))) (ps:=[(!ltI (↑A.length) 2)=true,true=true,true=true,(!!ltI 10 ↑A.length)=false,IsI (0 + 1) A.length (cI A),A.length≤1000,(!allB (angAt (cI A)) A.length)=false,(!eqI ↑L.length ↑A.length)=false,false=false,false=false,false=false,false=false,inR IntKind.i64 (↑A.length - 1),false=false,(!eqI (↑B.length) (↑A.length - 1))=false,false=false,false=false,false=false,false=false,inR IntKind.i64 (↑A.length - 1),(0:Int)≤↑A.length - 1,((A.length:Int) - 1).toNat < A.length,loadL Try.prog (cI A) (((A.length:Int) - 1).toNat * 1) 2=some (AV.v (Value.int IntKind.i64 (intAt (cI A) (((A.length:Int) - 1).toNat * 1)))),0 < A.length,loadL Try.prog (cI A) (0 * 1) 2=some (AV.v (Value.int IntKind.i64 (intAt (cI A) (0 * 1)))),inR IntKind.i64 (intAt (cI A) (((A.length:Int) - 1).toNat * 1) - intAt (cI A) (0 * 1)),inR IntKind.i64 (intAt (cI A) (((A.length:Int) - 1).toNat * 1) - intAt (cI A) (0 * 1) + 1),false=false,(!eqI (↑W.length) (intAt (cI A) (((A.length:Int) - 1).toNat * 1) - intAt (cI A) (0 * 1) + 1))=false,IsP (1 + 1) L.length (cR L),L.length≤1000,(!allB (rngAt 200 (cR L)) L.length)=true,true=true,true=true,true=true,true=true]) Try.checked.mixed known_ck 200 [.go,.go,.go,.go,.go,.go,.go,.go,.go,.go,.go,.go,.b true,.go,.b true,.go,.b true,.go,.go,.go,.go,.b false,.go,.go,.go,.b false,.go,.go,.go,.go,.go,.go,.b false,.go,.b false,.go,.b false,.go,.b false,.go,.b false,.go,.b false,.go,.go,.go,.b false,.go,.b false,.go,.b false,.go,.b false,.go,.b false,.go,.go,.go,.go,.go,.go,.go,.go,.go,.nat,.sym,.go,.go,.go,.go,.go,.sym,.sym,.go,.go,.go,.go,.b false,.go,.go,.b false,.go,.go,.go,.go,.b true,.b true,.b true,.b true,.go,.b true,.go] (by kernel_rfl) ⟨(by rw [hq1]; rfl),rfl,rfl,(by rw [hq2]; rfl),⟨rfl,A,rfl,rfl⟩,(by omega),(by rw [hq3]; rfl),(by rw [hq4]; rfl),rfl,rfl,rfl,rfl,(iRZ4 (by omega) (by omega)),rfl,(by rw [hq5]; rfl),rfl,rfl,rfl,rfl,(iRZ4 (by omega) (by omega)),(by omega),(by omega),(by rw [Nat.mul_one]; exact cI_load (by omega) 2 (Try.underlying2) rfl),(by omega),(by rw [Nat.mul_one]; exact cI_load (by omega) 2 (Try.underlying2) rfl),(iRZ4 (by omega) (by omega)),(iRZ4 (by omega) (by omega)),rfl,(by rw [hq6]; rfl),⟨rfl,L,rfl,rfl⟩,(by omega),(by rw [hq7]; rfl),rfl,rfl,rfl,rfl,trivial⟩ rfl
      | false =>
       have ghq6:=eqI_false hq6
       rw [ht] at ghq6
       rw [clE_eq (by omega) ghq3 (by unfold eqP degI; omega)]
       exact givesA_told (v:=(.v (.int .i64 (.ofNat 15)))) (ps:=[(!ltI (↑A.length) 2)=true,true=true,true=true,(!!ltI 10 ↑A.length)=false,IsI (0 + 1) A.length (cI A),A.length≤1000,(!allB (angAt (cI A)) A.length)=false,(!eqI ↑L.length ↑A.length)=false,false=false,false=false,false=false,false=false,inR IntKind.i64 (↑A.length - 1),false=false,(!eqI (↑B.length) (↑A.length - 1))=false,false=false,false=false,false=false,false=false,inR IntKind.i64 (↑A.length - 1),(0:Int)≤↑A.length - 1,((A.length:Int) - 1).toNat < A.length,loadL Try.prog (cI A) (((A.length:Int) - 1).toNat * 1) 2=some (AV.v (Value.int IntKind.i64 (intAt (cI A) (((A.length:Int) - 1).toNat * 1)))),0 < A.length,loadL Try.prog (cI A) (0 * 1) 2=some (AV.v (Value.int IntKind.i64 (intAt (cI A) (0 * 1)))),inR IntKind.i64 (intAt (cI A) (((A.length:Int) - 1).toNat * 1) - intAt (cI A) (0 * 1)),inR IntKind.i64 (intAt (cI A) (((A.length:Int) - 1).toNat * 1) - intAt (cI A) (0 * 1) + 1),false=false,(!eqI (↑W.length) (intAt (cI A) (((A.length:Int) - 1).toNat * 1) - intAt (cI A) (0 * 1) + 1))=true]) Try.checked.mixed known_ck 200 [.go,.go,.go,.go,.go,.go,.go,.go,.go,.go,.go,.go,.b true,.go,.b true,.go,.b true,.go,.go,.go,.go,.b false,.go,.go,.go,.b false,.go,.go,.go,.go,.go,.go,.b false,.go,.b false,.go,.b false,.go,.b false,.go,.b false,.go,.b false,.go,.go,.go,.b false,.go,.b false,.go,.b false,.go,.b false,.go,.b false,.go,.go,.go,.go,.go,.go,.go,.go,.go,.nat,.sym,.go,.go,.go,.go,.go,.sym,.sym,.go,.go,.go,.go,.b false,.go,.go,.b true,.go] (by kernel_rfl) ⟨(by rw [hq1]; rfl),rfl,rfl,(by rw [hq2]; rfl),⟨rfl,A,rfl,rfl⟩,(by omega),(by rw [hq3]; rfl),(by rw [hq4]; rfl),rfl,rfl,rfl,rfl,(iRZ4 (by omega) (by omega)),rfl,(by rw [hq5]; rfl),rfl,rfl,rfl,rfl,(iRZ4 (by omega) (by omega)),(by omega),(by omega),(by rw [Nat.mul_one]; exact cI_load (by omega) 2 (Try.underlying2) rfl),(by omega),(by rw [Nat.mul_one]; exact cI_load (by omega) 2 (Try.underlying2) rfl),(iRZ4 (by omega) (by omega)),(iRZ4 (by omega) (by omega)),rfl,(by rw [hq6]; rfl),trivial⟩ rfl
     | false =>
      have ghq5:=eqI_false hq5
      rw [clE_eq (by omega) ghq3 (by unfold eqP degI; omega)]
      exact givesA_told (v:=(.v (.int .i64 (.ofNat 15)))) (ps:=[(!ltI (↑A.length) 2)=true,true=true,true=true,(!!ltI 10 ↑A.length)=false,IsI (0 + 1) A.length (cI A),A.length≤1000,(!allB (angAt (cI A)) A.length)=false,(!eqI ↑L.length ↑A.length)=false,false=false,false=false,false=false,false=false,inR IntKind.i64 (↑A.length - 1),false=false,(!eqI (↑B.length) (↑A.length - 1))=true,true=true,true=true,true=true,true=true,true=true,true=true]) Try.checked.mixed known_ck 200 [.go,.go,.go,.go,.go,.go,.go,.go,.go,.go,.go,.go,.b true,.go,.b true,.go,.b true,.go,.go,.go,.go,.b false,.go,.go,.go,.b false,.go,.go,.go,.go,.go,.go,.b false,.go,.b false,.go,.b false,.go,.b false,.go,.b false,.go,.b false,.go,.go,.go,.b true,.b true,.b true,.b true,.b true,.b true,.go,.b true,.go] (by kernel_rfl) ⟨(by rw [hq1]; rfl),rfl,rfl,(by rw [hq2]; rfl),⟨rfl,A,rfl,rfl⟩,(by omega),(by rw [hq3]; rfl),(by rw [hq4]; rfl),rfl,rfl,rfl,rfl,(iRZ4 (by omega) (by omega)),rfl,(by rw [hq5]; rfl),rfl,rfl,rfl,rfl,rfl,rfl,trivial⟩ rfl
    | false =>
     have ghq4:=eqI_false hq4
     rw [clE_eq (by omega) ghq3 (by unfold eqP degI; omega)]
     exact givesA_told (v:=(.v (.int .i64 (.ofNat 15)))) (ps:=[(!ltI (↑A.length) 2)=true,true=true,true=true,(!!ltI 10 ↑A.length)=false,IsI (0 + 1) A.length (cI A),A.length≤1000,(!allB (angAt (cI A)) A.length)=false,(!eqI ↑L.length ↑A.length)=true,true=true,true=true,true=true,true=true,true=true,true=true,true=true,true=true,true=true,true=true,true=true,true=true]) Try.checked.mixed known_ck 200 [.go,.go,.go,.go,.go,.go,.go,.go,.go,.go,.go,.go,.b true,.go,.b true,.go,.b true,.go,.go,.go,.go,.b false,.go,.go,.go,.b false,.go,.go,.go,.go,.go,.go,.b true,.b true,.b true,.b true,.b true,.b true,.go,.go,.b true,.b true,.b true,.b true,.b true,.b true,.go,.b true,.go] (by kernel_rfl) ⟨(by rw [hq1]; rfl),rfl,rfl,(by rw [hq2]; rfl),⟨rfl,A,rfl,rfl⟩,(by omega),(by rw [hq3]; rfl),(by rw [hq4]; rfl),rfl,rfl,rfl,rfl,rfl,rfl,rfl,rfl,rfl,rfl,rfl,rfl,trivial⟩ rfl
   | false =>
    have ghq3:=allB_false hq3
    rw [clE_ang (by omega) ghq3]
    exact givesA_told (v:=(.v (.int .i64 (.ofNat 2)))) (ps:=[(!ltI (↑A.length) 2)=true,true=true,true=true,(!!ltI 10 ↑A.length)=false,IsI (0 + 1) A.length (cI A),A.length≤1000,(!allB (angAt (cI A)) A.length)=true]) Try.checked.mixed known_ck 200 [.go,.go,.go,.go,.go,.go,.go,.go,.go,.go,.go,.go,.b true,.go,.b true,.go,.b true,.go,.go,.go,.go,.b false,.go,.go,.go,.b true,.go] (by kernel_rfl) ⟨(by rw [hq1]; rfl),rfl,rfl,(by rw [hq2]; rfl),⟨rfl,A,rfl,rfl⟩,(by omega),(by rw [hq3]; rfl),trivial⟩ rfl
def rcC0:Code:=bodyC Try.f20
def rcC1:Code:=tlC rcC0
theorem rc_0 (ya yl yf yw:Value) (A:List Int) (L:List (Int×Int)) (B:List Bool) (W:List Int) (w:World) (hc:Goes Try.prog 117 rcC1 ((q4_2 A B L W ya yf yl yw)) w (q4_5 A B L W w)):Goes Try.prog 117 rcC0 (argLit [.agg (q4_4 A B L W ya yf yl yw)]) w (q4_5 A B L W w):=by
 exact goes_spine (T':=(q4_2 A B L W ya yf yl yw)) (by kernel_rfl) (goes_told Try.checked.mixed (known_none) 200 (e:=.normal) (ps:=[]) [.go,.go] (by kernel_rfl) (by kernel_rfl) trivial rfl) (hc)
def rcC2:Code:=tlC rcC1
theorem rc_1 (ya yl yf yw:Value) (A:List Int) (L:List (Int×Int)) (B:List Bool) (W:List Int) (w:World) (hc:Goes Try.prog 117 rcC2 ((q4_1 A B L W ya yf yl yw)) w (q4_5 A B L W w)):Goes Try.prog 117 rcC1 ((q4_2 A B L W ya yf yl yw)) w (q4_5 A B L W w):=by
 exact goes_spine (T':=(q4_1 A B L W ya yf yl yw)) (by kernel_rfl) (goes_told Try.checked.mixed (known_none) 200 (e:=.normal) (ps:=[]) [.go,.go,.go,.go] (by kernel_rfl) (by kernel_rfl) trivial rfl) (hc)
def rcC3:Code:=tlC rcC2
theorem rc_2 (ya yl yf yw:Value) (A:List Int) (L:List (Int×Int)) (B:List Bool) (W:List Int) (w:World) (hc:(2≤A.length∧A.length≤10)→Goes Try.prog 117 rcC3 ((q4_1 A B L W ya yf yl yw)) w (OutR Try.prog Try.f20 117 (.int .i64 (clE (cI A) A.length (cR L) L.length B.length (cI W) W.length)) w)):Goes Try.prog 117 rcC2 ((q4_1 A B L W ya yf yl yw)) w (OutR Try.prog Try.f20 117 (.int .i64 (clE (cI A) A.length (cR L) L.length B.length (cI W) W.length)) w):=by
 cases hq1:(ltI (↑A.length) 2) with
 | true =>
  have ghq1:=ltI_true hq1
  rw [clE_many (by omega)]
  exact goes_out Try.checked.mixed (known_none) 200 (v:=(.v (.int .i64 (.ofNat 6)))) (ps:=[ltI (↑A.length) 2=true,true=true,true=true]) [.go,.go,.go,.b true,.b true,.go,.b true,.go] (by kernel_rfl) (by kernel_rfl) ⟨(by omega),rfl,rfl,trivial⟩ rfl
 | false =>
  have ghq1:=ltI_false hq1
  cases hq2:(ltI 10 ↑A.length) with
  | true =>
   have ghq2:=ltI_true hq2
   rw [clE_many (by omega)]
   exact goes_out Try.checked.mixed (known_none) 200 (v:=(.v (.int .i64 (.ofNat 6)))) (ps:=[ltI (↑A.length) 2=false,false=false,ltI 10 ↑A.length=true]) [.go,.go,.go,.b false,.go,.b false,.go,.go,.b true,.go] (by kernel_rfl) (by kernel_rfl) ⟨(by omega),rfl,hq2,trivial⟩ rfl
  | false =>
   have ghq2:=ltI_false hq2
   exact goes_spine (T':=(q4_1 A B L W ya yf yl yw)) (by kernel_rfl) (goes_told Try.checked.mixed (known_none) 200 (e:=.normal) (ps:=[ltI (↑A.length) 2=false,false=false,ltI 10 ↑A.length=false]) [.go,.go,.go,.b false,.go,.b false,.go,.go,.b false] (by kernel_rfl) (by kernel_rfl) ⟨(by omega),rfl,hq2,trivial⟩ rfl) (hc (by omega))
theorem ang_iff {c:List AV} {i:Nat}:angAt c i↔((0 < i→intAt c ((i - 1) * 1) < intAt c (i * 1))∧(i=0 → -1 < intAt c (i * 1))∧intAt c (i * 1)≤90):=by
 cases i with
 | zero=>exact ⟨fun h=>⟨fun q=>absurd q (Nat.lt_irrefl 0),fun _=>h.1,h.2⟩,fun h=>⟨h.2.1 rfl,h.2.2⟩⟩
 | succ i=>exact ⟨fun h=>⟨fun _=>h.1,fun q=>absurd q (Nat.succ_ne_zero i),h.2⟩,fun h=>⟨h.1 (Nat.succ_pos i),h.2.2⟩⟩
def rcC4:Code:=tlC rcC3
theorem rc_3 (ya yl yf yw:Value) (A:List Int) (L:List (Int×Int)) (B:List Bool) (W:List Int) (hn:2≤A.length∧A.length≤10) (w:World) (hc:∀ i:UpI (angAt (cI A)) A.length,A.length≤i.1→Goes Try.prog 117 rcC4 (⟨[(1,.ptr 0 0),(q4_7 A),(4,.v (.int .i64 ((i.1:Nat):Int)))],[],1,[(q4_3 A B L W ya yf yl yw)]⟩) w (OutR Try.prog Try.f20 117 (.int .i64 (clE (cI A) A.length (cR L) L.length B.length (cI W) W.length)) w)):Goes Try.prog 117 rcC3 ((q4_1 A B L W ya yf yl yw)) w (OutR Try.prog Try.f20 117 (.int .i64 (clE (cI A) A.length (cR L) L.length B.length (cI W) W.length)) w):=by
 refine goes_spineQ (ι:=UpI (angAt (cI A)) A.length) (T:=fun i=>⟨[(1,.ptr 0 0),(q4_7 A),(4,.v (.int .i64 ((i.1:Nat):Int)))],[],1,[(q4_3 A B L W ya yf yl yw)]⟩) (R:=fun i=>A.length≤i.1) (by kernel_rfl)
  (goes_spine (T':=⟨[(1,.ptr 0 0),(q4_7 A),(4,.v (.int .i64 ((0:Nat):Int)))],[],1,[(q4_3 A B L W ya yf yl yw)]⟩) (by kernel_rfl) (goes_told Try.checked.mixed (known_none) 200 (e:=.normal) (ps:=[]) [.go] (by kernel_rfl) (by kernel_rfl) trivial rfl)
   (goes_blockloop (by kernel_rfl) (fun i:UpI (angAt (cI A)) A.length=>⟨[(1,.ptr 0 0),(q4_7 A),(4,.v (.int .i64 ((i.1:Nat):Int)))],[],1,[(q4_3 A B L W ya yf yl yw)]⟩) (fun i=>A.length - i.1) (fun i=>?_) ⟨0,Nat.zero_le _,fun j hj=>by omega⟩)) hc
 obtain ⟨i,hi1,hi2⟩:=i
 show (∃ j:UpI (angAt (cI A)) A.length,A.length - j.1 < A.length - i∧Goes Try.prog 117 (loopC (tlC (hdC rcC3))) (⟨[(1,.ptr 0 0),(q4_7 A),(4,.v (.int .i64 ((i:Nat):Int)))],[],1,[(q4_3 A B L W ya yf yl yw)]⟩) w (Land 117 isN (⟨[(1,.ptr 0 0),(q4_7 A),(4,.v (.int .i64 ((j.1:Nat):Int)))],[],1,[(q4_3 A B L W ya yf yl yw)]⟩) w))∨(A.length≤i∧Goes Try.prog 117 (loopC (tlC (hdC rcC3))) (⟨[(1,.ptr 0 0),(q4_7 A),(4,.v (.int .i64 ((i:Nat):Int)))],[],1,[(q4_3 A B L W ya yf yl yw)]⟩) w (Land 117 (isX 0) (⟨[(1,.ptr 0 0),(q4_7 A),(4,.v (.int .i64 ((i:Nat):Int)))],[],1,[(q4_3 A B L W ya yf yl yw)]⟩) w))∨Goes Try.prog 117 (loopC (tlC (hdC rcC3))) (⟨[(1,.ptr 0 0),(q4_7 A),(4,.v (.int .i64 ((i:Nat):Int)))],[],1,[(q4_3 A B L W ya yf yl yw)]⟩) w (fun e a w'=>e = .ret∧(OutR Try.prog Try.f20 117 (.int .i64 (clE (cI A) A.length (cR L) L.length B.length (cI W) W.length)) w) .ret a w')
 have hcl:=cI_len A
 have hti:((i:Int) - 1).toNat=i - 1:=by omega
 cases hq1:(ltI ↑i ↑A.length) with
 | true =>
  have ghq1:=ltI_true hq1
  cases hq2:(ltI (intAt (cI A) (i * 1)) 0) with
  | true =>
   have ghq2:=ltI_true hq2
   rw [clE_ang hn (fun k=>by have q:=k i (by omega); rw [ang_iff] at q; have q2:=ang_bd k (i - 1) (by omega); omega)]
   exact .inr (.inr (goes_ret Try.checked.mixed (known_none) 200 (v:=(.v (.int .i64 (.ofNat 2)))) (ps:=[ltI ↑i ↑A.length=true,i < A.length,loadL Try.prog (cI A) (i * 1) 2=some (AV.v (Value.int IntKind.i64 (intAt (cI A) (i * 1)))),ltI (intAt (cI A) (i * 1)) 0=true,true=true,true=true,true=true,true=true,true=true,true=true,true=true,true=true,true=true,true=true]) [.go,.go,.go,.b true,.go,.go,.go,.sym,.sym,.go,.go,.b true,.b true,.b true,.b true,.b true,.b true,.go,.go,.b true,.b true,.b true,.b true,.go,.b true,.go] (by kernel_rfl) (by kernel_rfl) ⟨hq1,(by omega),(by rw [Nat.mul_one]; exact cI_load (by omega) 2 (Try.underlying2) rfl),hq2,rfl,rfl,rfl,rfl,rfl,rfl,rfl,rfl,rfl,rfl,trivial⟩ rfl))
  | false =>
   have ghq2:=ltI_false hq2
   cases hq3:(ltI 90 (intAt (cI A) (i * 1))) with
   | true =>
    have ghq3:=ltI_true hq3
    rw [clE_ang hn (fun k=>by have q:=k i (by omega); rw [ang_iff] at q; have q2:=ang_bd k (i - 1) (by omega); omega)]
    exact .inr (.inr (goes_ret Try.checked.mixed (known_none) 200 (v:=(.v (.int .i64 (.ofNat 2)))) (ps:=[ltI ↑i ↑A.length=true,i < A.length,loadL Try.prog (cI A) (i * 1) 2=some (AV.v (Value.int IntKind.i64 (intAt (cI A) (i * 1)))),ltI (intAt (cI A) (i * 1)) 0=false,false=false,false=false,false=false,i < A.length,false=false,loadL Try.prog (cI A) (i * 1) 2=some (AV.v (Value.int IntKind.i64 (intAt (cI A) (i * 1)))),false=false,ltI 90 (intAt (cI A) (i * 1))=true,true=true,true=true,true=true,true=true]) [.go,.go,.go,.b true,.go,.go,.go,.sym,.sym,.go,.go,.b false,.go,.b false,.go,.b false,.go,.b false,.sym,.b false,.sym,.b false,.go,.go,.go,.b true,.b true,.b true,.b true,.go,.b true,.go] (by kernel_rfl) (by kernel_rfl) ⟨hq1,(by omega),(by rw [Nat.mul_one]; exact cI_load (by omega) 2 (Try.underlying2) rfl),hq2,rfl,rfl,rfl,(by omega),rfl,(by rw [Nat.mul_one]; exact cI_load (by omega) 2 (Try.underlying2) rfl),rfl,hq3,rfl,rfl,rfl,rfl,trivial⟩ rfl))
   | false =>
    have ghq3:=ltI_false hq3
    cases hq4:(ltI 0 ↑i) with
    | true =>
     have ghq4:=ltI_true hq4
     cases hq5:(ltI (intAt (cI A) (((i:Int) - 1).toNat * 1)) (intAt (cI A) (i * 1))) with
     | true =>
      have ghq5:=ltI_true hq5
      rw [hti] at ghq5
      refine .inl ⟨⟨i + 1,by omega,up_next hi2 (show angAt (cI A) i by rw [ang_iff]; omega)⟩,(by show A.length - (i + 1) < A.length - i; omega),?_⟩
      exact goes_told Try.checked.mixed (known_none) 200 (e:=.normal) (ps:=[ltI ↑i ↑A.length=true,i < A.length,loadL Try.prog (cI A) (i * 1) 2=some (AV.v (Value.int IntKind.i64 (intAt (cI A) (i * 1)))),ltI (intAt (cI A) (i * 1)) 0=false,false=false,false=false,false=false,i < A.length,false=false,loadL Try.prog (cI A) (i * 1) 2=some (AV.v (Value.int IntKind.i64 (intAt (cI A) (i * 1)))),false=false,ltI 90 (intAt (cI A) (i * 1))=false,false=false,false=false,ltI 0 ↑i=true,true=true,true=true,true=true,i < A.length,true=true,loadL Try.prog (cI A) (i * 1) 2=some (AV.v (Value.int IntKind.i64 (intAt (cI A) (i * 1)))),true=true,true=true,true=true,true=true,inR IntKind.i64 (↑i - 1),true=true,(0:Int)≤↑i - 1,((i:Int) - 1).toNat < A.length,true=true,loadL Try.prog (cI A) (((i:Int) - 1).toNat * 1) 2=some (AV.v (Value.int IntKind.i64 (intAt (cI A) (((i:Int) - 1).toNat * 1)))),true=true,false=false,(!ltI (intAt (cI A) (((i:Int) - 1).toNat * 1)) (intAt (cI A) (i * 1)))=false,inR IntKind.i64 (↑i + 1)]) [.go,.go,.go,.b true,.go,.go,.go,.sym,.sym,.go,.go,.b false,.go,.b false,.go,.b false,.go,.b false,.sym,.b false,.sym,.b false,.go,.go,.go,.b false,.go,.b false,.go,.b false,.go,.b true,.go,.b true,.go,.b true,.go,.b true,.sym,.b true,.sym,.b true,.go,.b true,.go,.b true,.go,.b true,.go,.b true,.nat,.b true,.sym,.b true,.go,.b false,.go,.go,.b false,.go,.go,.go] (by kernel_rfl) (by kernel_rfl) ⟨hq1,(by omega),(by rw [Nat.mul_one]; exact cI_load (by omega) 2 (Try.underlying2) rfl),hq2,rfl,rfl,rfl,(by omega),rfl,(by rw [Nat.mul_one]; exact cI_load (by omega) 2 (Try.underlying2) rfl),rfl,hq3,rfl,rfl,hq4,rfl,rfl,rfl,(by omega),rfl,(by rw [Nat.mul_one]; exact cI_load (by omega) 2 (Try.underlying2) rfl),rfl,rfl,rfl,rfl,(iRZ4 (by omega) (by omega)),rfl,(by omega),(by omega),rfl,(by rw [Nat.mul_one]; exact cI_load (by omega) 2 (Try.underlying2) rfl),rfl,rfl,(by rw [hq5]; rfl),(iRZ4 (by omega) (by omega)),trivial⟩ rfl
     | false =>
      have ghq5:=ltI_false hq5
      rw [hti] at ghq5
      rw [clE_ang hn (fun k=>by have q:=k i (by omega); rw [ang_iff] at q; have q2:=ang_bd k (i - 1) (by omega); omega)]
      exact .inr (.inr (goes_ret Try.checked.mixed (known_none) 200 (v:=(.v (.int .i64 (.ofNat 2)))) (ps:=[ltI ↑i ↑A.length=true,i < A.length,loadL Try.prog (cI A) (i * 1) 2=some (AV.v (Value.int IntKind.i64 (intAt (cI A) (i * 1)))),ltI (intAt (cI A) (i * 1)) 0=false,false=false,false=false,false=false,i < A.length,false=false,loadL Try.prog (cI A) (i * 1) 2=some (AV.v (Value.int IntKind.i64 (intAt (cI A) (i * 1)))),false=false,ltI 90 (intAt (cI A) (i * 1))=false,false=false,false=false,ltI 0 ↑i=true,true=true,true=true,true=true,i < A.length,true=true,loadL Try.prog (cI A) (i * 1) 2=some (AV.v (Value.int IntKind.i64 (intAt (cI A) (i * 1)))),true=true,true=true,true=true,true=true,inR IntKind.i64 (↑i - 1),true=true,(0:Int)≤↑i - 1,((i:Int) - 1).toNat < A.length,true=true,loadL Try.prog (cI A) (((i:Int) - 1).toNat * 1) 2=some (AV.v (Value.int IntKind.i64 (intAt (cI A) (((i:Int) - 1).toNat * 1)))),true=true,false=false,(!ltI (intAt (cI A) (((i:Int) - 1).toNat * 1)) (intAt (cI A) (i * 1)))=true]) [.go,.go,.go,.b true,.go,.go,.go,.sym,.sym,.go,.go,.b false,.go,.b false,.go,.b false,.go,.b false,.sym,.b false,.sym,.b false,.go,.go,.go,.b false,.go,.b false,.go,.b false,.go,.b true,.go,.b true,.go,.b true,.go,.b true,.sym,.b true,.sym,.b true,.go,.b true,.go,.b true,.go,.b true,.go,.b true,.nat,.b true,.sym,.b true,.go,.b false,.go,.go,.b true,.go] (by kernel_rfl) (by kernel_rfl) ⟨hq1,(by omega),(by rw [Nat.mul_one]; exact cI_load (by omega) 2 (Try.underlying2) rfl),hq2,rfl,rfl,rfl,(by omega),rfl,(by rw [Nat.mul_one]; exact cI_load (by omega) 2 (Try.underlying2) rfl),rfl,hq3,rfl,rfl,hq4,rfl,rfl,rfl,(by omega),rfl,(by rw [Nat.mul_one]; exact cI_load (by omega) 2 (Try.underlying2) rfl),rfl,rfl,rfl,rfl,(iRZ4 (by omega) (by omega)),rfl,(by omega),(by omega),rfl,(by rw [Nat.mul_one]; exact cI_load (by omega) 2 (Try.underlying2) rfl),rfl,rfl,(by rw [hq5]; rfl),trivial⟩ rfl))
    | false =>
     have ghq4:=ltI_false hq4
     refine .inl ⟨⟨i + 1,by omega,up_next hi2 (show angAt (cI A) i by rw [ang_iff]; omega)⟩,(by show A.length - (i + 1) < A.length - i; omega),?_⟩
     exact goes_told Try.checked.mixed (known_none) 200 (e:=.normal) (ps:=[ltI ↑i ↑A.length=true,i < A.length,loadL Try.prog (cI A) (i * 1) 2=some (AV.v (Value.int IntKind.i64 (intAt (cI A) (i * 1)))),ltI (intAt (cI A) (i * 1)) 0=false,false=false,false=false,false=false,i < A.length,false=false,loadL Try.prog (cI A) (i * 1) 2=some (AV.v (Value.int IntKind.i64 (intAt (cI A) (i * 1)))),false=false,ltI 90 (intAt (cI A) (i * 1))=false,false=false,false=false,ltI 0 ↑i=false,false=false,false=false,false=false,false=false,false=false,false=false,false=false,false=false,false=false,false=false,false=false,false=false,false=false,inR IntKind.i64 (↑i + 1)]) [.go,.go,.go,.b true,.go,.go,.go,.sym,.sym,.go,.go,.b false,.go,.b false,.go,.b false,.go,.b false,.sym,.b false,.sym,.b false,.go,.go,.go,.b false,.go,.b false,.go,.b false,.go,.b false,.b false,.b false,.b false,.b false,.b false,.b false,.b false,.b false,.b false,.b false,.b false,.b false,.go,.go,.b false,.go,.go,.go] (by kernel_rfl) (by kernel_rfl) ⟨hq1,(by omega),(by rw [Nat.mul_one]; exact cI_load (by omega) 2 (Try.underlying2) rfl),hq2,rfl,rfl,rfl,(by omega),rfl,(by rw [Nat.mul_one]; exact cI_load (by omega) 2 (Try.underlying2) rfl),rfl,hq3,rfl,rfl,hq4,rfl,rfl,rfl,rfl,rfl,rfl,rfl,rfl,rfl,rfl,rfl,rfl,rfl,(iRZ4 (by omega) (by omega)),trivial⟩ rfl
 | false =>
  have ghq1:=ltI_false hq1
  exact .inr (.inl ⟨(by show A.length≤i; omega),goes_told Try.checked.mixed (known_none) 200 (e:=.exit 0) (ps:=[ltI ↑i ↑A.length=false]) [.go,.go,.go,.b false] (by kernel_rfl) (by kernel_rfl) ⟨hq1,trivial⟩ rfl⟩)
def rcC5:Code:=tlC rcC4
theorem rc_4 (ya yl yf yw:Value) (A:List Int) (L:List (Int×Int)) (B:List Bool) (W:List Int) (hn:2≤A.length∧A.length≤10) (ha:∀ i,i < A.length→angAt (cI A) i) (w:World) (hc:(eqP (cI A) A.length L.length B.length W.length)→Goes Try.prog 117 rcC5 ((q4_1 A B L W ya yf yl yw)) w (OutR Try.prog Try.f20 117 (.int .i64 (clE (cI A) A.length (cR L) L.length B.length (cI W) W.length)) w)):Goes Try.prog 117 rcC4 ((q4_1 A B L W ya yf yl yw)) w (OutR Try.prog Try.f20 117 (.int .i64 (clE (cI A) A.length (cR L) L.length B.length (cI W) W.length)) w):=by
 have hcl:=cI_len A
 have ht:((A.length:Int) - 1).toNat=A.length - 1:=by omega
 have hb2:=ang_bd ha (A.length - 1) (by omega)
 have hb1:=hb2
 rw [← ht] at hb1
 have hb0:=ang_bd ha 0 (by omega)
 cases hq1:(eqI ↑L.length ↑A.length) with
 | true =>
  have ghq1:=eqI_true hq1
  cases hq2:(eqI (↑B.length) (↑A.length - 1)) with
  | true =>
   have ghq2:=eqI_true hq2
   cases hq3:(eqI (↑W.length) (intAt (cI A) (((A.length:Int) - 1).toNat * 1) - intAt (cI A) (0 * 1) + 1)) with
   | true =>
    have ghq3:=eqI_true hq3
    rw [ht] at ghq3
    exact goes_spine (T':=(q4_1 A B L W ya yf yl yw)) (by kernel_rfl) (goes_told Try.checked.mixed (known_none) 200 (e:=.normal) (ps:=[(!eqI ↑L.length ↑A.length)=false,false=false,false=false,false=false,false=false,inR IntKind.i64 (↑A.length - 1),false=false,(!eqI (↑B.length) (↑A.length - 1))=false,false=false,false=false,false=false,false=false,false=false,false=false,inR IntKind.i64 (↑A.length - 1),false=false,(0:Int)≤↑A.length - 1,((A.length:Int) - 1).toNat < A.length,false=false,loadL Try.prog (cI A) (((A.length:Int) - 1).toNat * 1) 2=some (AV.v (Value.int IntKind.i64 (intAt (cI A) (((A.length:Int) - 1).toNat * 1)))),false=false,false=false,false=false,0 < A.length,false=false,loadL Try.prog (cI A) (0 * 1) 2=some (AV.v (Value.int IntKind.i64 (intAt (cI A) (0 * 1)))),false=false,inR IntKind.i64 (intAt (cI A) (((A.length:Int) - 1).toNat * 1) - intAt (cI A) (0 * 1)),false=false,inR IntKind.i64 (intAt (cI A) (((A.length:Int) - 1).toNat * 1) - intAt (cI A) (0 * 1) + 1),false=false,(!eqI (↑W.length) (intAt (cI A) (((A.length:Int) - 1).toNat * 1) - intAt (cI A) (0 * 1) + 1))=false]) [.go,.go,.go,.go,.go,.go,.b false,.go,.b false,.go,.b false,.go,.b false,.go,.b false,.go,.b false,.go,.go,.go,.b false,.go,.b false,.go,.b false,.go,.b false,.go,.b false,.go,.b false,.go,.b false,.go,.b false,.nat,.b false,.sym,.b false,.go,.b false,.go,.b false,.sym,.b false,.sym,.b false,.go,.b false,.go,.b false,.go,.go,.b false] (by kernel_rfl) (by kernel_rfl) ⟨(by rw [hq1]; rfl),rfl,rfl,rfl,rfl,(iRZ4 (by omega) (by omega)),rfl,(by rw [hq2]; rfl),rfl,rfl,rfl,rfl,rfl,rfl,(iRZ4 (by omega) (by omega)),rfl,(by omega),(by omega),rfl,(by rw [Nat.mul_one]; exact cI_load (by omega) 2 (Try.underlying2) rfl),rfl,rfl,rfl,(by omega),rfl,(by rw [Nat.mul_one]; exact cI_load (by omega) 2 (Try.underlying2) rfl),rfl,(iRZ4 (by omega) (by omega)),rfl,(iRZ4 (by omega) (by omega)),rfl,(by rw [hq3]; rfl),trivial⟩ rfl) (hc (by unfold eqP degI; omega))
   | false =>
    have ghq3:=eqI_false hq3
    rw [ht] at ghq3
    rw [clE_eq hn ha (by unfold eqP degI; omega)]
    exact goes_out Try.checked.mixed (known_none) 200 (v:=(.v (.int .i64 (.ofNat 15)))) (ps:=[(!eqI ↑L.length ↑A.length)=false,false=false,false=false,false=false,false=false,inR IntKind.i64 (↑A.length - 1),false=false,(!eqI (↑B.length) (↑A.length - 1))=false,false=false,false=false,false=false,false=false,false=false,false=false,inR IntKind.i64 (↑A.length - 1),false=false,(0:Int)≤↑A.length - 1,((A.length:Int) - 1).toNat < A.length,false=false,loadL Try.prog (cI A) (((A.length:Int) - 1).toNat * 1) 2=some (AV.v (Value.int IntKind.i64 (intAt (cI A) (((A.length:Int) - 1).toNat * 1)))),false=false,false=false,false=false,0 < A.length,false=false,loadL Try.prog (cI A) (0 * 1) 2=some (AV.v (Value.int IntKind.i64 (intAt (cI A) (0 * 1)))),false=false,inR IntKind.i64 (intAt (cI A) (((A.length:Int) - 1).toNat * 1) - intAt (cI A) (0 * 1)),false=false,inR IntKind.i64 (intAt (cI A) (((A.length:Int) - 1).toNat * 1) - intAt (cI A) (0 * 1) + 1),false=false,(!eqI (↑W.length) (intAt (cI A) (((A.length:Int) - 1).toNat * 1) - intAt (cI A) (0 * 1) + 1))=true]) [.go,.go,.go,.go,.go,.go,.b false,.go,.b false,.go,.b false,.go,.b false,.go,.b false,.go,.b false,.go,.go,.go,.b false,.go,.b false,.go,.b false,.go,.b false,.go,.b false,.go,.b false,.go,.b false,.go,.b false,.nat,.b false,.sym,.b false,.go,.b false,.go,.b false,.sym,.b false,.sym,.b false,.go,.b false,.go,.b false,.go,.go,.b true,.go] (by kernel_rfl) (by kernel_rfl) ⟨(by rw [hq1]; rfl),rfl,rfl,rfl,rfl,(iRZ4 (by omega) (by omega)),rfl,(by rw [hq2]; rfl),rfl,rfl,rfl,rfl,rfl,rfl,(iRZ4 (by omega) (by omega)),rfl,(by omega),(by omega),rfl,(by rw [Nat.mul_one]; exact cI_load (by omega) 2 (Try.underlying2) rfl),rfl,rfl,rfl,(by omega),rfl,(by rw [Nat.mul_one]; exact cI_load (by omega) 2 (Try.underlying2) rfl),rfl,(iRZ4 (by omega) (by omega)),rfl,(iRZ4 (by omega) (by omega)),rfl,(by rw [hq3]; rfl),trivial⟩ rfl
  | false =>
   have ghq2:=eqI_false hq2
   rw [clE_eq hn ha (by unfold eqP degI; omega)]
   exact goes_out Try.checked.mixed (known_none) 200 (v:=(.v (.int .i64 (.ofNat 15)))) (ps:=[(!eqI ↑L.length ↑A.length)=false,false=false,false=false,false=false,false=false,inR IntKind.i64 (↑A.length - 1),false=false,(!eqI (↑B.length) (↑A.length - 1))=true,true=true,true=true,true=true,true=true,true=true,true=true,true=true,true=true,true=true,true=true,true=true,true=true,true=true,true=true,true=true,true=true]) [.go,.go,.go,.go,.go,.go,.b false,.go,.b false,.go,.b false,.go,.b false,.go,.b false,.go,.b false,.go,.go,.go,.b true,.b true,.b true,.b true,.b true,.b true,.b true,.b true,.b true,.b true,.b true,.b true,.b true,.b true,.b true,.b true,.go,.b true,.go] (by kernel_rfl) (by kernel_rfl) ⟨(by rw [hq1]; rfl),rfl,rfl,rfl,rfl,(iRZ4 (by omega) (by omega)),rfl,(by rw [hq2]; rfl),rfl,rfl,rfl,rfl,rfl,rfl,rfl,rfl,rfl,rfl,rfl,rfl,rfl,rfl,rfl,rfl,trivial⟩ rfl
 | false =>
  have ghq1:=eqI_false hq1
  rw [clE_eq hn ha (by unfold eqP degI; omega)]
  exact goes_out Try.checked.mixed (known_none) 200 (v:=(.v (.int .i64 (.ofNat 15)))) (ps:=[(!eqI ↑L.length ↑A.length)=true,true=true,true=true,true=true,true=true,true=true,true=true,true=true,true=true,true=true,true=true,true=true,true=true,true=true,true=true,true=true,true=true,true=true,true=true,true=true,true=true,true=true,true=true]) [.go,.go,.go,.go,.go,.go,.b true,.b true,.b true,.b true,.b true,.b true,.go,.go,.b true,.b true,.b true,.b true,.b true,.b true,.b true,.b true,.b true,.b true,.b true,.b true,.b true,.b true,.b true,.b true,.go,.b true,.go] (by kernel_rfl) (by kernel_rfl) ⟨(by rw [hq1]; rfl),rfl,rfl,rfl,rfl,rfl,rfl,rfl,rfl,rfl,rfl,rfl,rfl,rfl,rfl,rfl,rfl,rfl,rfl,rfl,rfl,rfl,rfl,trivial⟩ rfl
def rcC6:Code:=tlC rcC5
theorem rc_5 (ya yl yf yw:Value) (A:List Int) (L:List (Int×Int)) (B:List Bool) (W:List Int) (hn:2≤A.length∧A.length≤10) (ha:∀ i,i < A.length→angAt (cI A) i) (he:eqP (cI A) A.length L.length B.length W.length) (w:World) (hc:∀ i:UpI (rngAt 200 (cR L)) A.length,A.length≤i.1→Goes Try.prog 117 rcC6 (⟨[(1,.ptr 0 0),(q4_7 A),(5,.v (.int .i64 ((i.1:Nat):Int)))],[],1,[(q4_3 A B L W ya yf yl yw)]⟩) w (OutR Try.prog Try.f20 117 (.int .i64 (clE (cI A) A.length (cR L) L.length B.length (cI W) W.length)) w)):Goes Try.prog 117 rcC5 ((q4_1 A B L W ya yf yl yw)) w (OutR Try.prog Try.f20 117 (.int .i64 (clE (cI A) A.length (cR L) L.length B.length (cI W) W.length)) w):=by
 refine goes_spineQ (ι:=UpI (rngAt 200 (cR L)) A.length) (T:=fun i=>⟨[(1,.ptr 0 0),(q4_7 A),(5,.v (.int .i64 ((i.1:Nat):Int)))],[],1,[(q4_3 A B L W ya yf yl yw)]⟩) (R:=fun i=>A.length≤i.1) (by kernel_rfl)
  (goes_spine (T':=⟨[(1,.ptr 0 0),(q4_7 A),(5,.v (.int .i64 ((0:Nat):Int)))],[],1,[(q4_3 A B L W ya yf yl yw)]⟩) (by kernel_rfl) (goes_told Try.checked.mixed (known_none) 200 (e:=.normal) (ps:=[]) [.go] (by kernel_rfl) (by kernel_rfl) trivial rfl)
   (goes_blockloop (by kernel_rfl) (fun i:UpI (rngAt 200 (cR L)) A.length=>⟨[(1,.ptr 0 0),(q4_7 A),(5,.v (.int .i64 ((i.1:Nat):Int)))],[],1,[(q4_3 A B L W ya yf yl yw)]⟩) (fun i=>A.length - i.1) (fun i=>?_) ⟨0,Nat.zero_le _,fun j hj=>by omega⟩)) hc
 obtain ⟨i,hi1,hi2⟩:=i
 show (∃ j:UpI (rngAt 200 (cR L)) A.length,A.length - j.1 < A.length - i∧Goes Try.prog 117 (loopC (tlC (hdC rcC5))) (⟨[(1,.ptr 0 0),(q4_7 A),(5,.v (.int .i64 ((i:Nat):Int)))],[],1,[(q4_3 A B L W ya yf yl yw)]⟩) w (Land 117 isN (⟨[(1,.ptr 0 0),(q4_7 A),(5,.v (.int .i64 ((j.1:Nat):Int)))],[],1,[(q4_3 A B L W ya yf yl yw)]⟩) w))∨(A.length≤i∧Goes Try.prog 117 (loopC (tlC (hdC rcC5))) (⟨[(1,.ptr 0 0),(q4_7 A),(5,.v (.int .i64 ((i:Nat):Int)))],[],1,[(q4_3 A B L W ya yf yl yw)]⟩) w (Land 117 (isX 2) (⟨[(1,.ptr 0 0),(q4_7 A),(5,.v (.int .i64 ((i:Nat):Int)))],[],1,[(q4_3 A B L W ya yf yl yw)]⟩) w))∨Goes Try.prog 117 (loopC (tlC (hdC rcC5))) (⟨[(1,.ptr 0 0),(q4_7 A),(5,.v (.int .i64 ((i:Nat):Int)))],[],1,[(q4_3 A B L W ya yf yl yw)]⟩) w (fun e a w'=>e = .ret∧(OutR Try.prog Try.f20 117 (.int .i64 (clE (cI A) A.length (cR L) L.length B.length (cI W) W.length)) w) .ret a w')
 have hcl:=cR_len L
 have hLn:L.length=A.length:=he.1
 cases hq1:(ltI ↑i ↑A.length) with
 | true =>
  have ghq1:=ltI_true hq1
  cases hq2:(ltI (intAt (cR L) (i * 2 + 0)) 0) with
  | true =>
   have ghq2:=ltI_true hq2
   rw [clE_arg hn ha he (fun k=>by have q:=k.1 i (by omega); unfold rngAt at q; omega)]
   exact .inr (.inr (goes_ret Try.checked.mixed (known_none) 200 (v:=(.v (.int .i64 (.ofNat 2)))) (ps:=[ltI ↑i ↑A.length=true,i < L.length,loadL Try.prog (cR L) (i * 2) 40=some (AV.agg [AV.v (Value.int IntKind.i64 (intAt (cR L) (i * 2 + 0))),AV.v (Value.int IntKind.i64 (intAt (cR L) (i * 2 + 1)))]),(!ltI (intAt (cR L) (i * 2 + 0)) 0)=false,false=false,false=false,false=false,false=false,false=false,false=false,false=false,false=false,(!false)=true]) [.go,.go,.go,.b true,.go,.go,.go,.sym,.sym,.go,.go,.go,.go,.go,.go,.b false,.b false,.b false,.b false,.b false,.go,.go,.b false,.b false,.b false,.b false,.go,.go,.go,.b true,.go] (by kernel_rfl) (by kernel_rfl) ⟨hq1,(by omega),(cR_load (by omega) 40 (Try.underlying40) rfl (inf:=(Try.prog.info? 40).getD default) (by kernel_rfl) (by kernel_rfl)),(by rw [hq2]; rfl),rfl,rfl,rfl,rfl,rfl,rfl,rfl,rfl,rfl,trivial⟩ rfl))
  | false =>
   have ghq2:=ltI_false hq2
   cases hq3:(ltI (intAt (cR L) (i * 2 + 1)) (intAt (cR L) (i * 2 + 0))) with
   | true =>
    have ghq3:=ltI_true hq3
    rw [clE_arg hn ha he (fun k=>by have q:=k.1 i (by omega); unfold rngAt at q; omega)]
    exact .inr (.inr (goes_ret Try.checked.mixed (known_none) 200 (v:=(.v (.int .i64 (.ofNat 2)))) (ps:=[ltI ↑i ↑A.length=true,i < L.length,loadL Try.prog (cR L) (i * 2) 40=some (AV.agg [AV.v (Value.int IntKind.i64 (intAt (cR L) (i * 2 + 0))),AV.v (Value.int IntKind.i64 (intAt (cR L) (i * 2 + 1)))]),(!ltI (intAt (cR L) (i * 2 + 0)) 0)=true,true=true,true=true,true=true,true=true,(!ltI (intAt (cR L) (i * 2 + 1)) (intAt (cR L) (i * 2 + 0)))=false,false=false,false=false,false=false,(!false)=true]) [.go,.go,.go,.b true,.go,.go,.go,.sym,.sym,.go,.go,.go,.go,.go,.go,.b true,.go,.b true,.go,.b true,.go,.b true,.go,.b true,.go,.go,.go,.b false,.b false,.b false,.b false,.go,.go,.go,.b true,.go] (by kernel_rfl) (by kernel_rfl) ⟨hq1,(by omega),(cR_load (by omega) 40 (Try.underlying40) rfl (inf:=(Try.prog.info? 40).getD default) (by kernel_rfl) (by kernel_rfl)),(by rw [hq2]; rfl),rfl,rfl,rfl,rfl,(by rw [hq3]; rfl),rfl,rfl,rfl,rfl,trivial⟩ rfl))
   | false =>
    have ghq3:=ltI_false hq3
    cases hq4:(ltI 200 (intAt (cR L) (i * 2 + 1))) with
    | true =>
     have ghq4:=ltI_true hq4
     rw [clE_arg hn ha he (fun k=>by have q:=k.1 i (by omega); unfold rngAt at q; omega)]
     exact .inr (.inr (goes_ret Try.checked.mixed (known_none) 200 (v:=(.v (.int .i64 (.ofNat 2)))) (ps:=[ltI ↑i ↑A.length=true,i < L.length,loadL Try.prog (cR L) (i * 2) 40=some (AV.agg [AV.v (Value.int IntKind.i64 (intAt (cR L) (i * 2 + 0))),AV.v (Value.int IntKind.i64 (intAt (cR L) (i * 2 + 1)))]),(!ltI (intAt (cR L) (i * 2 + 0)) 0)=true,true=true,true=true,true=true,true=true,(!ltI (intAt (cR L) (i * 2 + 1)) (intAt (cR L) (i * 2 + 0)))=true,true=true,true=true,true=true,(!!ltI 200 (intAt (cR L) (i * 2 + 1)))=true]) [.go,.go,.go,.b true,.go,.go,.go,.sym,.sym,.go,.go,.go,.go,.go,.go,.b true,.go,.b true,.go,.b true,.go,.b true,.go,.b true,.go,.go,.go,.b true,.go,.b true,.go,.b true,.go,.b true,.go,.go,.go,.go,.b true,.go] (by kernel_rfl) (by kernel_rfl) ⟨hq1,(by omega),(cR_load (by omega) 40 (Try.underlying40) rfl (inf:=(Try.prog.info? 40).getD default) (by kernel_rfl) (by kernel_rfl)),(by rw [hq2]; rfl),rfl,rfl,rfl,rfl,(by rw [hq3]; rfl),rfl,rfl,rfl,(by rw [hq4]; rfl),trivial⟩ rfl))
    | false =>
     have ghq4:=ltI_false hq4
     refine .inl ⟨⟨i + 1,by omega,up_next hi2 (show rngAt 200 (cR L) i by unfold rngAt; omega)⟩,(by show A.length - (i + 1) < A.length - i; omega),?_⟩
     exact goes_cut Try.checked.mixed (known_none) 200 (e:=.normal) (m:=2) (ps:=[ltI ↑i ↑A.length=true,i < L.length,loadL Try.prog (cR L) (i * 2) 40=some (AV.agg [AV.v (Value.int IntKind.i64 (intAt (cR L) (i * 2 + 0))),AV.v (Value.int IntKind.i64 (intAt (cR L) (i * 2 + 1)))]),(!ltI (intAt (cR L) (i * 2 + 0)) 0)=true,true=true,true=true,true=true,true=true,(!ltI (intAt (cR L) (i * 2 + 1)) (intAt (cR L) (i * 2 + 0)))=true,true=true,true=true,true=true,(!!ltI 200 (intAt (cR L) (i * 2 + 1)))=false,inR IntKind.i64 (↑i + 1)]) [.go,.go,.go,.b true,.go,.go,.go,.sym,.sym,.go,.go,.go,.go,.go,.go,.b true,.go,.b true,.go,.b true,.go,.b true,.go,.b true,.go,.go,.go,.b true,.go,.b true,.go,.b true,.go,.b true,.go,.go,.go,.go,.b false,.go,.go,.go] (by kernel_rfl) (by kernel_rfl) ⟨hq1,(by omega),(cR_load (by omega) 40 (Try.underlying40) rfl (inf:=(Try.prog.info? 40).getD default) (by kernel_rfl) (by kernel_rfl)),(by rw [hq2]; rfl),rfl,rfl,rfl,rfl,(by rw [hq3]; rfl),rfl,rfl,rfl,(by rw [hq4]; rfl),(iRZ4 (by omega) (by omega)),trivial⟩ rfl (by show 1≤2; decide) ⟨⟨nb_ptr (by show 0 < 1; decide),nb_v _,nb_v _,trivial⟩,⟨⟨by show 0 < 1; decide,nbb_lamp⟩,trivial⟩,rfl⟩
 | false =>
  have ghq1:=ltI_false hq1
  exact .inr (.inl ⟨(by show A.length≤i; omega),goes_told Try.checked.mixed (known_none) 200 (e:=.exit 2) (ps:=[ltI ↑i ↑A.length=false]) [.go,.go,.go,.b false] (by kernel_rfl) (by kernel_rfl) ⟨hq1,trivial⟩ rfl⟩)
def rcC7:Code:=tlC rcC6
theorem rc_6 (ya yl yf yw:Value) (A:List Int) (L:List (Int×Int)) (B:List Bool) (W:List Int) (hn:2≤A.length∧A.length≤10) (ha:∀ i,i < A.length→angAt (cI A) i) (he:eqP (cI A) A.length L.length B.length W.length) (hl:∀ i,i < A.length→rngAt 200 (cR L) i) (w:World) (hc:∀ i:UpI (wgtAt (cI W)) W.length,W.length≤i.1→Goes Try.prog 117 rcC7 (⟨[(1,.ptr 0 0),(6,.v (.int .i64 ((i.1:Nat):Int)))],[],1,[(q4_3 A B L W ya yf yl yw)]⟩) w (OutR Try.prog Try.f20 117 (.int .i64 (clE (cI A) A.length (cR L) L.length B.length (cI W) W.length)) w)):Goes Try.prog 117 rcC6 ((q4_1 A B L W ya yf yl yw)) w (OutR Try.prog Try.f20 117 (.int .i64 (clE (cI A) A.length (cR L) L.length B.length (cI W) W.length)) w):=by
 refine goes_spineQ (ι:=UpI (wgtAt (cI W)) W.length) (T:=fun i=>⟨[(1,.ptr 0 0),(6,.v (.int .i64 ((i.1:Nat):Int)))],[],1,[(q4_3 A B L W ya yf yl yw)]⟩) (R:=fun i=>W.length≤i.1) (by kernel_rfl)
  (goes_spine (T':=⟨[(1,.ptr 0 0),(6,.v (.int .i64 ((0:Nat):Int)))],[],1,[(q4_3 A B L W ya yf yl yw)]⟩) (by kernel_rfl) (goes_told Try.checked.mixed (known_none) 200 (e:=.normal) (ps:=[]) [.go] (by kernel_rfl) (by kernel_rfl) trivial rfl)
   (goes_blockloop (by kernel_rfl) (fun i:UpI (wgtAt (cI W)) W.length=>⟨[(1,.ptr 0 0),(6,.v (.int .i64 ((i.1:Nat):Int)))],[],1,[(q4_3 A B L W ya yf yl yw)]⟩) (fun i=>W.length - i.1) (fun i=>?_) ⟨0,Nat.zero_le _,fun j hj=>by omega⟩)) hc
 obtain ⟨i,hi1,hi2⟩:=i
 show (∃ j:UpI (wgtAt (cI W)) W.length,W.length - j.1 < W.length - i∧Goes Try.prog 117 (loopC (tlC (hdC rcC6))) (⟨[(1,.ptr 0 0),(6,.v (.int .i64 ((i:Nat):Int)))],[],1,[(q4_3 A B L W ya yf yl yw)]⟩) w (Land 117 isN (⟨[(1,.ptr 0 0),(6,.v (.int .i64 ((j.1:Nat):Int)))],[],1,[(q4_3 A B L W ya yf yl yw)]⟩) w))∨(W.length≤i∧Goes Try.prog 117 (loopC (tlC (hdC rcC6))) (⟨[(1,.ptr 0 0),(6,.v (.int .i64 ((i:Nat):Int)))],[],1,[(q4_3 A B L W ya yf yl yw)]⟩) w (Land 117 (isX 4) (⟨[(1,.ptr 0 0),(6,.v (.int .i64 ((i:Nat):Int)))],[],1,[(q4_3 A B L W ya yf yl yw)]⟩) w))∨Goes Try.prog 117 (loopC (tlC (hdC rcC6))) (⟨[(1,.ptr 0 0),(6,.v (.int .i64 ((i:Nat):Int)))],[],1,[(q4_3 A B L W ya yf yl yw)]⟩) w (fun e a w'=>e = .ret∧(OutR Try.prog Try.f20 117 (.int .i64 (clE (cI A) A.length (cR L) L.length B.length (cI W) W.length)) w) .ret a w')
 have hcl:=cI_len W
 have hW:W.length≤91:=by have q:=he.2.2; unfold degI at q; have hb2:=ang_bd ha (A.length - 1) (by omega); have hb0:=ang_bd ha 0 (by omega); omega
 cases hq1:(ltI ↑i ↑W.length) with
 | true =>
  have ghq1:=ltI_true hq1
  cases hq2:(ltI (intAt (cI W) (i * 1)) 0) with
  | true =>
   have ghq2:=ltI_true hq2
   rw [clE_arg hn ha he (fun k=>by have q:=k.2 i (by omega); unfold wgtAt at q; omega)]
   exact .inr (.inr (goes_ret Try.checked.mixed (known_none) 200 (v:=(.v (.int .i64 (.ofNat 2)))) (ps:=[ltI ↑i ↑W.length=true,i < W.length,loadL Try.prog (cI W) (i * 1) 2=some (AV.v (Value.int IntKind.i64 (intAt (cI W) (i * 1)))),ltI (intAt (cI W) (i * 1)) 0=true,true=true,true=true,true=true,true=true,true=true,true=true]) [.go,.go,.go,.go,.go,.b true,.go,.go,.go,.sym,.sym,.go,.go,.b true,.b true,.b true,.b true,.b true,.b true,.go,.b true,.go] (by kernel_rfl) (by kernel_rfl) ⟨hq1,(by omega),(by rw [Nat.mul_one]; exact cI_load (by omega) 2 (Try.underlying2) rfl),hq2,rfl,rfl,rfl,rfl,rfl,rfl,trivial⟩ rfl))
  | false =>
   have ghq2:=ltI_false hq2
   cases hq3:(ltI 1000 (intAt (cI W) (i * 1))) with
   | true =>
    have ghq3:=ltI_true hq3
    rw [clE_arg hn ha he (fun k=>by have q:=k.2 i (by omega); unfold wgtAt at q; omega)]
    exact .inr (.inr (goes_ret Try.checked.mixed (known_none) 200 (v:=(.v (.int .i64 (.ofNat 2)))) (ps:=[ltI ↑i ↑W.length=true,i < W.length,loadL Try.prog (cI W) (i * 1) 2=some (AV.v (Value.int IntKind.i64 (intAt (cI W) (i * 1)))),ltI (intAt (cI W) (i * 1)) 0=false,false=false,false=false,false=false,i < W.length,false=false,loadL Try.prog (cI W) (i * 1) 2=some (AV.v (Value.int IntKind.i64 (intAt (cI W) (i * 1)))),false=false,ltI 1000 (intAt (cI W) (i * 1))=true]) [.go,.go,.go,.go,.go,.b true,.go,.go,.go,.sym,.sym,.go,.go,.b false,.go,.b false,.go,.b false,.go,.b false,.sym,.b false,.sym,.b false,.go,.go,.b true,.go] (by kernel_rfl) (by kernel_rfl) ⟨hq1,(by omega),(by rw [Nat.mul_one]; exact cI_load (by omega) 2 (Try.underlying2) rfl),hq2,rfl,rfl,rfl,(by omega),rfl,(by rw [Nat.mul_one]; exact cI_load (by omega) 2 (Try.underlying2) rfl),rfl,hq3,trivial⟩ rfl))
   | false =>
    have ghq3:=ltI_false hq3
    refine .inl ⟨⟨i + 1,by omega,up_next hi2 (show wgtAt (cI W) i by unfold wgtAt; omega)⟩,(by show W.length - (i + 1) < W.length - i; omega),?_⟩
    exact goes_told Try.checked.mixed (known_none) 200 (e:=.normal) (ps:=[ltI ↑i ↑W.length=true,i < W.length,loadL Try.prog (cI W) (i * 1) 2=some (AV.v (Value.int IntKind.i64 (intAt (cI W) (i * 1)))),ltI (intAt (cI W) (i * 1)) 0=false,false=false,false=false,false=false,i < W.length,false=false,loadL Try.prog (cI W) (i * 1) 2=some (AV.v (Value.int IntKind.i64 (intAt (cI W) (i * 1)))),false=false,ltI 1000 (intAt (cI W) (i * 1))=false,inR IntKind.i64 (↑i + 1)]) [.go,.go,.go,.go,.go,.b true,.go,.go,.go,.sym,.sym,.go,.go,.b false,.go,.b false,.go,.b false,.go,.b false,.sym,.b false,.sym,.b false,.go,.go,.b false,.go,.go,.go] (by kernel_rfl) (by kernel_rfl) ⟨hq1,(by omega),(by rw [Nat.mul_one]; exact cI_load (by omega) 2 (Try.underlying2) rfl),hq2,rfl,rfl,rfl,(by omega),rfl,(by rw [Nat.mul_one]; exact cI_load (by omega) 2 (Try.underlying2) rfl),rfl,hq3,(iRZ4 (by omega) (by omega)),trivial⟩ rfl
 | false =>
  have ghq1:=ltI_false hq1
  exact .inr (.inl ⟨(by show W.length≤i; omega),goes_told Try.checked.mixed (known_none) 200 (e:=.exit 4) (ps:=[ltI ↑i ↑W.length=false]) [.go,.go,.go,.go,.go,.b false] (by kernel_rfl) (by kernel_rfl) ⟨hq1,trivial⟩ rfl⟩)
theorem rc_7 (ya yl yf yw:Value) (A:List Int) (L:List (Int×Int)) (B:List Bool) (W:List Int) (i0:Nat) (hn:2≤A.length∧A.length≤10) (ha:∀ i,i < A.length→angAt (cI A) i) (he:eqP (cI A) A.length L.length B.length W.length) (hl:∀ i,i < A.length→rngAt 200 (cR L) i) (hw:∀ i,i < W.length→wgtAt (cI W) i) (w:World):Goes Try.prog 117 rcC7 (⟨[(1,.ptr 0 0),(6,.v (.int .i64 ((i0:Nat):Int)))],[],1,[(q4_3 A B L W ya yf yl yw)]⟩) w (OutR Try.prog Try.f20 117 (.int .i64 (clE (cI A) A.length (cR L) L.length B.length (cI W) W.length)) w):=by
 rw [clE_ok hn ha he (by rw [he.1]; exact hl) hw]
 exact goes_out Try.checked.mixed (known_none) 200 (v:=(.v (.int .i64 (.ofNat 0)))) (ps:=[]) [.go] (by kernel_rfl) (by kernel_rfl) trivial rfl
theorem rc_g (ya yl yf yw:Value) (A:List Int) (L:List (Int×Int)) (B:List Bool) (W:List Int):GivesA Try.prog 20 [.agg (q4_4 A B L W ya yf yl yw)] (.int .i64 (q4_6 A B L W)) :=
 givesA_parts 117 Try.func20 (by kernel_rfl) (by kernel_rfl) (by kernel_rfl) (fun w=>rc_0 ya yl yf yw A L B W w (rc_1 ya yl yf yw A L B W w (rc_2 ya yl yf yw A L B W w (fun hn=>rc_3 ya yl yf yw A L B W hn w (fun i hi=>goes_drop (by kernel_rfl) (by kernel_rfl) (by kernel_rfl) (by kernel_rfl) (rc_4 ya yl yf yw A L B W hn (fun j hj=>i.2.2 j (Nat.lt_of_lt_of_le hj hi)) w (fun he=>rc_5 ya yl yf yw A L B W hn (fun j hj=>i.2.2 j (Nat.lt_of_lt_of_le hj hi)) he w (fun k hk=>goes_drop (by kernel_rfl) (by kernel_rfl) (by kernel_rfl) (by kernel_rfl) (rc_6 ya yl yf yw A L B W hn (fun j hj=>i.2.2 j (Nat.lt_of_lt_of_le hj hi)) he (fun j hj=>k.2.2 j (Nat.lt_of_lt_of_le hj hk)) w (fun m hm=>rc_7 ya yl yf yw A L B W m.1 hn (fun j hj=>i.2.2 j (Nat.lt_of_lt_of_le hj hi)) he (fun j hj=>k.2.2 j (Nat.lt_of_lt_of_le hj hk)) (fun j hj=>m.2.2 j (Nat.lt_of_lt_of_le hj hm)) w))))))))))
end
end Go.Proofs.Ytldekgkjofgacaa
