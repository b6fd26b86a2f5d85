import Derived.Test.YtldekgkjofgacaaZ0
import Derived.Test.YtldekgkjofgacaaFt
set_option maxHeartbeats 4000000
set_option linter.all false
/- areAngles, areWeights. -/
namespace Go.Proofs.Ytldekgkjofgacaa
open Go Ev
noncomputable section
section
variable (L : List Int) (i : Nat) (w : World) (y : Value)
abbrev q3a_8:Nat×Ev.AV:=(6,.xl y L.length 1 (cI L))
abbrev q3a_6:Nat×Ev.AV:=(7,.v (.int .i64 L.length))
abbrev q3a_1:Ev.Lit:=⟨[(3,.v (.int .i64 (bfI (cI L) i))),(q3a_8 L y),(q3a_6 L),(8,.v (.int .i64 (i:Nat)))],[],0,[]⟩
abbrev q3a_9:Nat×Ev.AV:=(5,.xl y L.length 1 (cI L))
abbrev q3a_7:Nat×Ev.AV:=(6,.v (.int .i64 L.length))
abbrev q3a_2:Ev.Lit:=⟨[(q3a_9 L y),(q3a_7 L),(7,.v (.int .i64 (i:Nat)))],[],0,[]⟩
abbrev q3a_10:Nat×Ev.AV:=(0,.xl y L.length 1 (cI L))
abbrev q3a_3:Ev.Lit:=⟨[(q3a_10 L y),(3,.v (.int .i64 (.negSucc 0)))],[],0,[]⟩
abbrev q3a_4:=(OutR Try.prog Try.f49 21 (.bool (allB (angAt (cI L)) L.length)) w)
abbrev q3a_5:Ev.Lit:=⟨[(q3a_10 L y)],[],0,[]⟩
end
def aaC0:Code:=bodyC Try.f49
def aaC1:Code:=tlC aaC0
theorem aa_0 (y:Value) (L:List Int) (hL:L.length≤1000) (w:World) (hc:Goes Try.prog 21 aaC1 ((q3a_5 L y)) w (q3a_4 L w)):Goes Try.prog 21 aaC0 (argLit [.xl y L.length 1 (cI L)]) w (q3a_4 L w):=by
 exact goes_spine (T':=(q3a_5 L y)) (by kernel_rfl) (goes_told Try.checked.mixed (known_none) 200 (e:=.normal) (ps:=[]) [.go] (by kernel_rfl) (by kernel_rfl) trivial rfl) (hc)
def aaC2:Code:=tlC aaC1
theorem aa_1 (y:Value) (L:List Int) (hL:L.length≤1000) (w:World) (hc:Goes Try.prog 21 aaC2 ((q3a_3 L y)) w (q3a_4 L w)):Goes Try.prog 21 aaC1 ((q3a_5 L y)) w (q3a_4 L w):=by
 exact goes_spine (T':=(q3a_3 L y)) (by kernel_rfl) (goes_told Try.checked.mixed (known_none) 200 (e:=.normal) (ps:=[]) [.go] (by kernel_rfl) (by kernel_rfl) trivial rfl) (hc)
def aaC3:Code:=tlC aaC2
theorem aa_2 (y:Value) (L:List Int) (hL:L.length≤1000) (w:World) (hc:∀ i:UpI (angAt (cI L)) L.length,L.length≤i.1→Goes Try.prog 21 aaC3 (⟨[(3,.v (.int .i64 (bfI (cI L) i.1))),(q3a_8 L y),(q3a_6 L),(8,.v (.int .i64 (i.1:Nat)))],[],0,[]⟩) w (OutR Try.prog Try.f49 21 (.bool (allB (angAt (cI L)) L.length)) w)):Goes Try.prog 21 aaC2 ((q3a_3 L y)) w (OutR Try.prog Try.f49 21 (.bool (allB (angAt (cI L)) L.length)) w):=by
 refine goes_spineQ (ι:=UpI (angAt (cI L)) L.length) (T:=fun i=>⟨[(3,.v (.int .i64 (bfI (cI L) i.1))),(q3a_8 L y),(q3a_6 L),(8,.v (.int .i64 (i.1:Nat)))],[],0,[]⟩) (R:=fun i=>L.length≤i.1) (by kernel_rfl)
  (goes_spine (T':=⟨[(3,.v (.int .i64 (bfI (cI L) 0))),(q3a_8 L y),(q3a_6 L),(8,.v (.int .i64 (0:Nat)))],[],0,[]⟩) (by kernel_rfl) (goes_told Try.checked.mixed (known_none) 200 (e:=.normal) (ps:=[]) [.go,.go,.go] (by kernel_rfl) (by kernel_rfl) trivial rfl)
   (goes_blockloop (by kernel_rfl) (fun i:UpI (angAt (cI L)) L.length=>⟨[(3,.v (.int .i64 (bfI (cI L) i.1))),(q3a_8 L y),(q3a_6 L),(8,.v (.int .i64 (i.1:Nat)))],[],0,[]⟩) (fun i=>L.length - i.1) (fun i=>?_) ⟨0,Nat.zero_le _,fun j hj=>by omega⟩)) hc
 obtain ⟨i,hi1,hi2⟩:=i
 show (∃ j:UpI (angAt (cI L)) L.length,L.length - j.1 < L.length - i∧Goes Try.prog 21 (loopC (tlC (hdC aaC2))) ((q3a_1 L i y)) w (Land 21 isN (⟨[(3,.v (.int .i64 (bfI (cI L) j.1))),(q3a_8 L y),(q3a_6 L),(8,.v (.int .i64 (j.1:Nat)))],[],0,[]⟩) w))∨(L.length≤i∧Goes Try.prog 21 (loopC (tlC (hdC aaC2))) ((q3a_1 L i y)) w (Land 21 (isX 0) ((q3a_1 L i y)) w))∨Goes Try.prog 21 (loopC (tlC (hdC aaC2))) ((q3a_1 L i y)) w (fun e a w'=>e = .ret∧(OutR Try.prog Try.f49 21 (.bool (allB (angAt (cI L)) L.length)) w) .ret a w')
 have hcl:=cI_len L
 cases hq1:(ltI ↑i ↑L.length) with
 | true =>
  have ghq1:=lT hq1
  cases hq2:(ltI (bfI (cI L) i) (intAt (cI L) (i * 1))) with
  | true =>
   have ghq2:=lT hq2
   cases hq3:(ltI 90 (intAt (cI L) (i * 1))) with
   | true =>
    have ghq3:=lT hq3
    rw [allB_no (show i < L.length by omega) (by unfold angAt; omega)]
    exact .inr (.inr (goes_ret Try.checked.mixed (known_none) 200 (v:=(.v (.bool .false))) (ps:=[ltI ↑i ↑L.length=true,i < L.length,loadL Try.prog (cI L) (i * 1) 2=some (AV.v (Value.int IntKind.i64 (intAt (cI L) (i * 1)))),(!ltI (bfI (cI L) i) (intAt (cI L) (i * 1)))=false,false=false,ltI 90 (intAt (cI L) (i * 1))=true]) [.go,.b true,.sym,.sym,.go,.go,.go,.go,.go,.b false,.go,.b false,.go,.go,.b true,.go] (by kernel_rfl) (by kernel_rfl) ⟨hq1,(by omega),(by rw [Nat.mul_one]; exact cI_load (by omega) 2 (Try.underlying2) rfl),(by rw [hq2]; rfl),rfl,hq3,trivial⟩ rfl))
   | false =>
    have ghq3:=lF hq3
    refine .inl ⟨⟨i + 1,by omega,up_next hi2 (show angAt (cI L) i by unfold angAt; omega)⟩,(by show L.length - (i + 1) < L.length - i; omega),?_⟩
    exact goes_told Try.checked.mixed (known_none) 200 (e:=.normal) (ps:=[ltI ↑i ↑L.length=true,i < L.length,loadL Try.prog (cI L) (i * 1) 2=some (AV.v (Value.int IntKind.i64 (intAt (cI L) (i * 1)))),(!ltI (bfI (cI L) i) (intAt (cI L) (i * 1)))=false,false=false,ltI 90 (intAt (cI L) (i * 1))=false,inR IntKind.i64 (↑i + 1)]) [.go,.b true,.sym,.sym,.go,.go,.go,.go,.go,.b false,.go,.b false,.go,.go,.b false,.go,.go,.go,.go] (by kernel_rfl) (by kernel_rfl) ⟨hq1,(by omega),(by rw [Nat.mul_one]; exact cI_load (by omega) 2 (Try.underlying2) rfl),(by rw [hq2]; rfl),rfl,hq3,(by show -9223372036854775808≤_∧_≤9223372036854775807; constructor <;> omega),trivial⟩ rfl
  | false =>
   have ghq2:=lF hq2
   rw [allB_no (show i < L.length by omega) (by unfold angAt; omega)]
   exact .inr (.inr (goes_ret Try.checked.mixed (known_none) 200 (v:=(.v (.bool .false))) (ps:=[ltI ↑i ↑L.length=true,i < L.length,loadL Try.prog (cI L) (i * 1) 2=some (AV.v (Value.int IntKind.i64 (intAt (cI L) (i * 1)))),(!ltI (bfI (cI L) i) (intAt (cI L) (i * 1)))=true,true=true,true=true]) [.go,.b true,.sym,.sym,.go,.go,.go,.go,.go,.b true,.b true,.go,.b true,.go] (by kernel_rfl) (by kernel_rfl) ⟨hq1,(by omega),(by rw [Nat.mul_one]; exact cI_load (by omega) 2 (Try.underlying2) rfl),(by rw [hq2]; rfl),rfl,rfl,trivial⟩ rfl))
 | false =>
  have ghq1:=lF hq1
  exact .inr (.inl ⟨(by show L.length≤i; omega),goes_told Try.checked.mixed (known_none) 200 (e:=.exit 0) (ps:=[ltI ↑i ↑L.length=false]) [.go,.b false] (by kernel_rfl) (by kernel_rfl) ⟨hq1,trivial⟩ rfl⟩)
theorem aa_3 (y:Value) (L:List Int) (i:Nat) (hL:L.length≤1000) (h3:∀ j,j < L.length→angAt (cI L) j) (w:World):Goes Try.prog 21 aaC3 ((q3a_1 L i y)) w (OutR Try.prog Try.f49 21 (.bool (allB (angAt (cI L)) L.length)) w):=by
 rw [allB_true.2 h3]
 exact goes_out Try.checked.mixed (known_none) 200 (v:=(.v (.bool .true))) (ps:=[]) [.go] (by kernel_rfl) (by kernel_rfl) trivial rfl
theorem aa_g (y:Value) (L:List Int) (hL:L.length≤1000):GivesA Try.prog 49 [.xl y L.length 1 (cI L)] (.bool (allB (angAt (cI L)) L.length)) :=
 givesA_parts 21 Try.func49 (by kernel_rfl) (by kernel_rfl) (by kernel_rfl) (fun w=>aa_0 y L hL w (aa_1 y L hL w (aa_2 y L hL w (fun i hi=>aa_3 y L i.1 hL (fun j hj=>i.2.2 j (Nat.lt_of_lt_of_le hj hi)) w))))
def awC0:Code:=bodyC Try.f52
def awC1:Code:=tlC awC0
theorem aw_0 (y:Value) (L:List Int) (hL:L.length≤1000) (w:World) (hc:Goes Try.prog 15 awC1 ((q3a_5 L y)) w (OutR Try.prog Try.f52 15 (.bool (allB (wgtAt (cI L)) L.length)) w)):Goes Try.prog 15 awC0 (argLit [.xl y L.length 1 (cI L)]) w (OutR Try.prog Try.f52 15 (.bool (allB (wgtAt (cI L)) L.length)) w):=by
 exact goes_spine (T':=(q3a_5 L y)) (by kernel_rfl) (goes_told Try.checked.mixed (known_none) 200 (e:=.normal) (ps:=[]) [.go] (by kernel_rfl) (by kernel_rfl) trivial rfl) (hc)
def awC2:Code:=tlC awC1
theorem aw_1 (y:Value) (L:List Int) (hL:L.length≤1000) (w:World) (hc:∀ i:UpI (wgtAt (cI L)) L.length,L.length≤i.1→Goes Try.prog 15 awC2 (⟨[(q3a_9 L y),(q3a_7 L),(7,.v (.int .i64 (i.1:Nat)))],[],0,[]⟩) w (OutR Try.prog Try.f52 15 (.bool (allB (wgtAt (cI L)) L.length)) w)):Goes Try.prog 15 awC1 ((q3a_5 L y)) w (OutR Try.prog Try.f52 15 (.bool (allB (wgtAt (cI L)) L.length)) w):=by
 refine goes_spineQ (ι:=UpI (wgtAt (cI L)) L.length) (T:=fun i=>⟨[(q3a_9 L y),(q3a_7 L),(7,.v (.int .i64 (i.1:Nat)))],[],0,[]⟩) (R:=fun i=>L.length≤i.1) (by kernel_rfl)
  (goes_spine (T':=⟨[(q3a_9 L y),(q3a_7 L),(7,.v (.int .i64 (0:Nat)))],[],0,[]⟩) (by kernel_rfl) (goes_told Try.checked.mixed (known_none) 200 (e:=.normal) (ps:=[]) [.go,.go,.go] (by kernel_rfl) (by kernel_rfl) trivial rfl)
   (goes_blockloop (by kernel_rfl) (fun i:UpI (wgtAt (cI L)) L.length=>⟨[(q3a_9 L y),(q3a_7 L),(7,.v (.int .i64 (i.1:Nat)))],[],0,[]⟩) (fun i=>L.length - i.1) (fun i=>?_) ⟨0,Nat.zero_le _,fun j hj=>by omega⟩)) hc
 obtain ⟨i,hi1,hi2⟩:=i
 show (∃ j:UpI (wgtAt (cI L)) L.length,L.length - j.1 < L.length - i∧Goes Try.prog 15 (loopC (tlC (hdC awC1))) ((q3a_2 L i y)) w (Land 15 isN (⟨[(q3a_9 L y),(q3a_7 L),(7,.v (.int .i64 (j.1:Nat)))],[],0,[]⟩) w))∨(L.length≤i∧Goes Try.prog 15 (loopC (tlC (hdC awC1))) ((q3a_2 L i y)) w (Land 15 (isX 0) ((q3a_2 L i y)) w))∨Goes Try.prog 15 (loopC (tlC (hdC awC1))) ((q3a_2 L i y)) w (fun e a w'=>e = .ret∧(OutR Try.prog Try.f52 15 (.bool (allB (wgtAt (cI L)) L.length)) w) .ret a w')
 have hcl:=cI_len L
 cases hq1:(ltI ↑i ↑L.length) with
 | true =>
  have ghq1:=lT hq1
  cases hq2:(ltI (intAt (cI L) (i * 1)) 0) with
  | true =>
   have ghq2:=lT hq2
   rw [allB_no (show i < L.length by omega) (by unfold wgtAt; omega)]
   exact .inr (.inr (goes_ret Try.checked.mixed (known_none) 200 (v:=(.v (.bool .false))) (ps:=[ltI ↑i ↑L.length=true,i < L.length,loadL Try.prog (cI L) (i * 1) 2=some (AV.v (Value.int IntKind.i64 (intAt (cI L) (i * 1)))),(!ltI (intAt (cI L) (i * 1)) 0)=false,false=false,false=false,(!false)=true]) [.go,.b true,.sym,.sym,.go,.go,.go,.go,.go,.go,.go,.b false,.b false,.b false,.go,.go,.go,.b true,.go] (by kernel_rfl) (by kernel_rfl) ⟨hq1,(by omega),(by rw [Nat.mul_one]; exact cI_load (by omega) 2 (Try.underlying2) rfl),(by rw [hq2]; rfl),rfl,rfl,rfl,trivial⟩ rfl))
  | false =>
   have ghq2:=lF hq2
   cases hq3:(ltI 1000 (intAt (cI L) (i * 1))) with
   | true =>
    have ghq3:=lT hq3
    rw [allB_no (show i < L.length by omega) (by unfold wgtAt; omega)]
    exact .inr (.inr (goes_ret Try.checked.mixed (known_none) 200 (v:=(.v (.bool .false))) (ps:=[ltI ↑i ↑L.length=true,i < L.length,loadL Try.prog (cI L) (i * 1) 2=some (AV.v (Value.int IntKind.i64 (intAt (cI L) (i * 1)))),(!ltI (intAt (cI L) (i * 1)) 0)=true,true=true,true=true,(!!ltI 1000 (intAt (cI L) (i * 1)))=true]) [.go,.b true,.sym,.sym,.go,.go,.go,.go,.go,.go,.go,.b true,.go,.b true,.go,.b true,.go,.go,.go,.go,.b true,.go] (by kernel_rfl) (by kernel_rfl) ⟨hq1,(by omega),(by rw [Nat.mul_one]; exact cI_load (by omega) 2 (Try.underlying2) rfl),(by rw [hq2]; rfl),rfl,rfl,(by rw [hq3]; rfl),trivial⟩ rfl))
   | false =>
    have ghq3:=lF hq3
    refine .inl ⟨⟨i + 1,by omega,up_next hi2 (show wgtAt (cI L) i by unfold wgtAt; omega)⟩,(by show L.length - (i + 1) < L.length - i; omega),?_⟩
    exact goes_told Try.checked.mixed (known_none) 200 (e:=.normal) (ps:=[ltI ↑i ↑L.length=true,i < L.length,loadL Try.prog (cI L) (i * 1) 2=some (AV.v (Value.int IntKind.i64 (intAt (cI L) (i * 1)))),(!ltI (intAt (cI L) (i * 1)) 0)=true,true=true,true=true,(!!ltI 1000 (intAt (cI L) (i * 1)))=false,inR IntKind.i64 (↑i + 1)]) [.go,.b true,.sym,.sym,.go,.go,.go,.go,.go,.go,.go,.b true,.go,.b true,.go,.b true,.go,.go,.go,.go,.b false,.go,.go] (by kernel_rfl) (by kernel_rfl) ⟨hq1,(by omega),(by rw [Nat.mul_one]; exact cI_load (by omega) 2 (Try.underlying2) rfl),(by rw [hq2]; rfl),rfl,rfl,(by rw [hq3]; rfl),(by show -9223372036854775808≤_∧_≤9223372036854775807; constructor <;> omega),trivial⟩ rfl
 | false =>
  have ghq1:=lF hq1
  exact .inr (.inl ⟨(by show L.length≤i; omega),goes_told Try.checked.mixed (known_none) 200 (e:=.exit 0) (ps:=[ltI ↑i ↑L.length=false]) [.go,.b false] (by kernel_rfl) (by kernel_rfl) ⟨hq1,trivial⟩ rfl⟩)
theorem aw_2 (y:Value) (L:List Int) (i:Nat) (hL:L.length≤1000) (h3:∀ j,j < L.length→wgtAt (cI L) j) (w:World):Goes Try.prog 15 awC2 ((q3a_2 L i y)) w (OutR Try.prog Try.f52 15 (.bool (allB (wgtAt (cI L)) L.length)) w):=by
 rw [allB_true.2 h3]
 exact goes_out Try.checked.mixed (known_none) 200 (v:=(.v (.bool .true))) (ps:=[]) [.go] (by kernel_rfl) (by kernel_rfl) trivial rfl
theorem awt_g (y:Value) (L:List Int) (hL:L.length≤1000):GivesA Try.prog 52 [.xl y L.length 1 (cI L)] (.bool (allB (wgtAt (cI L)) L.length)) :=
 givesA_parts 15 Try.func52 (by kernel_rfl) (by kernel_rfl) (by kernel_rfl) (fun w=>aw_0 y L hL w (aw_1 y L hL w (fun i hi=>aw_2 y L i.1 hL (fun j hj=>i.2.2 j (Nat.lt_of_lt_of_le hj hi)) w)))
def arC0:Code:=bodyC Try.f51
def arC1:Code:=tlC arC0
theorem ar_0 (m:Int) (y:Value) (L:List (Int×Int)) (hL:L.length≤1000) (w:World) (hc:Goes Try.prog 30 arC1 (⟨[(0,.v (.int .i64 m)),(1,.xl y L.length 2 (cR L))],[],0,[]⟩) w (OutR Try.prog Try.f51 30 (.bool (allB (rngAt m (cR L)) L.length)) w)):Goes Try.prog 30 arC0 (argLit [.v (.int .i64 m),.xl y L.length 2 (cR L)]) w (OutR Try.prog Try.f51 30 (.bool (allB (rngAt m (cR L)) L.length)) w):=by
 exact goes_spine (T':=⟨[(0,.v (.int .i64 m)),(1,.xl y L.length 2 (cR L))],[],0,[]⟩) (by kernel_rfl) (goes_told Try.checked.mixed (known_none) 200 (e:=.normal) (ps:=[]) [.go] (by kernel_rfl) (by kernel_rfl) trivial rfl) (hc)
def arC2:Code:=tlC arC1
theorem ar_1 (m:Int) (y:Value) (L:List (Int×Int)) (hL:L.length≤1000) (w:World) (hc:∀ i:UpI (rngAt m (cR L)) L.length,L.length≤i.1→Goes Try.prog 30 arC2 (⟨[(0,.v (.int .i64 m)),(7,.xl y L.length 2 (cR L)),(8,.v (.int .i64 L.length)),(9,.v (.int .i64 (i.1:Nat)))],[],0,[]⟩) w (OutR Try.prog Try.f51 30 (.bool (allB (rngAt m (cR L)) L.length)) w)):Goes Try.prog 30 arC1 (⟨[(0,.v (.int .i64 m)),(1,.xl y L.length 2 (cR L))],[],0,[]⟩) w (OutR Try.prog Try.f51 30 (.bool (allB (rngAt m (cR L)) L.length)) w):=by
 refine goes_spineQ (ι:=UpI (rngAt m (cR L)) L.length) (T:=fun i=>⟨[(0,.v (.int .i64 m)),(7,.xl y L.length 2 (cR L)),(8,.v (.int .i64 L.length)),(9,.v (.int .i64 (i.1:Nat)))],[],0,[]⟩) (R:=fun i=>L.length≤i.1) (by kernel_rfl)
  (goes_spine (T':=⟨[(0,.v (.int .i64 m)),(7,.xl y L.length 2 (cR L)),(8,.v (.int .i64 L.length)),(9,.v (.int .i64 (0:Nat)))],[],0,[]⟩) (by kernel_rfl) (goes_told Try.checked.mixed (known_none) 200 (e:=.normal) (ps:=[]) [.go,.go,.go] (by kernel_rfl) (by kernel_rfl) trivial rfl)
   (goes_blockloop (by kernel_rfl) (fun i:UpI (rngAt m (cR L)) L.length=>⟨[(0,.v (.int .i64 m)),(7,.xl y L.length 2 (cR L)),(8,.v (.int .i64 L.length)),(9,.v (.int .i64 (i.1:Nat)))],[],0,[]⟩) (fun i=>L.length - i.1) (fun i=>?_) ⟨0,Nat.zero_le _,fun j hj=>by omega⟩)) hc
 obtain ⟨i,hi1,hi2⟩:=i
 show (∃ j:UpI (rngAt m (cR L)) L.length,L.length - j.1 < L.length - i∧Goes Try.prog 30 (loopC (tlC (hdC arC1))) (⟨[(0,.v (.int .i64 m)),(7,.xl y L.length 2 (cR L)),(8,.v (.int .i64 L.length)),(9,.v (.int .i64 (i:Nat)))],[],0,[]⟩) w (Land 30 isN (⟨[(0,.v (.int .i64 m)),(7,.xl y L.length 2 (cR L)),(8,.v (.int .i64 L.length)),(9,.v (.int .i64 (j.1:Nat)))],[],0,[]⟩) w))∨(L.length≤i∧Goes Try.prog 30 (loopC (tlC (hdC arC1))) (⟨[(0,.v (.int .i64 m)),(7,.xl y L.length 2 (cR L)),(8,.v (.int .i64 L.length)),(9,.v (.int .i64 (i:Nat)))],[],0,[]⟩) w (Land 30 (isX 0) (⟨[(0,.v (.int .i64 m)),(7,.xl y L.length 2 (cR L)),(8,.v (.int .i64 L.length)),(9,.v (.int .i64 (i:Nat)))],[],0,[]⟩) w))∨Goes Try.prog 30 (loopC (tlC (hdC arC1))) (⟨[(0,.v (.int .i64 m)),(7,.xl y L.length 2 (cR L)),(8,.v (.int .i64 L.length)),(9,.v (.int .i64 (i:Nat)))],[],0,[]⟩) w (fun e a w'=>e = .ret∧(OutR Try.prog Try.f51 30 (.bool (allB (rngAt m (cR L)) L.length)) w) .ret a w')
 have hcl:=cR_len L
 cases hq1:(ltI ↑i ↑L.length) with
 | true =>
  have ghq1:=lT hq1
  cases hq2:(ltI (intAt (cR L) (i * 2 + 0)) 0) with
  | true =>
   have ghq2:=lT hq2
   rw [allB_no (show i < L.length by omega) (by unfold rngAt; omega)]
   exact .inr (.inr (goes_ret Try.checked.mixed (known_none) 200 (v:=(.v (.bool .false))) (ps:=[ltI ↑i ↑L.length=true,i < L.length,loadL Try.prog (cR L) (i * 2) 40=some (AV.agg [AV.v (Value.int IntKind.i64 (intAt (cR L) (i * 2 + 0))),AV.v (Value.int IntKind.i64 (intAt (cR L) (i * 2 + 1)))]),ltI (intAt (cR L) (i * 2 + 0)) 0=true,true=true,true=true,true=true,true=true,true=true,true=true,true=true,true=true,true=true]) [.go,.b true,.sym,.sym,.go,.go,.go,.go,.go,.go,.b true,.b true,.b true,.b true,.b true,.go,.go,.b true,.b true,.b true,.b true,.go,.b true,.go] (by kernel_rfl) (by kernel_rfl) ⟨hq1,(by omega),(cR_load (by omega) 40 (Try.underlying40) rfl (inf:=(Try.prog.info? 40).getD default) (by kernel_rfl) (by kernel_rfl)),hq2,rfl,rfl,rfl,rfl,rfl,rfl,rfl,rfl,rfl,trivial⟩ rfl))
  | false =>
   have ghq2:=lF hq2
   cases hq3:(ltI (intAt (cR L) (i * 2 + 1)) (intAt (cR L) (i * 2 + 0))) with
   | true =>
    have ghq3:=lT hq3
    rw [allB_no (show i < L.length by omega) (by unfold rngAt; omega)]
    exact .inr (.inr (goes_ret Try.checked.mixed (known_none) 200 (v:=(.v (.bool .false))) (ps:=[ltI ↑i ↑L.length=true,i < L.length,loadL Try.prog (cR L) (i * 2) 40=some (AV.agg [AV.v (Value.int IntKind.i64 (intAt (cR L) (i * 2 + 0))),AV.v (Value.int IntKind.i64 (intAt (cR L) (i * 2 + 1)))]),ltI (intAt (cR L) (i * 2 + 0)) 0=false,false=false,false=false,false=false,false=false,ltI (intAt (cR L) (i * 2 + 1)) (intAt (cR L) (i * 2 + 0))=true,true=true,true=true,true=true,true=true]) [.go,.b true,.sym,.sym,.go,.go,.go,.go,.go,.go,.b false,.go,.b false,.go,.b false,.go,.b false,.go,.b false,.go,.go,.go,.b true,.b true,.b true,.b true,.go,.b true,.go] (by kernel_rfl) (by kernel_rfl) ⟨hq1,(by omega),(cR_load (by omega) 40 (Try.underlying40) rfl (inf:=(Try.prog.info? 40).getD default) (by kernel_rfl) (by kernel_rfl)),hq2,rfl,rfl,rfl,rfl,hq3,rfl,rfl,rfl,rfl,trivial⟩ rfl))
   | false =>
    have ghq3:=lF hq3
    cases hq4:(ltI m (intAt (cR L) (i * 2 + 1))) with
    | true =>
     have ghq4:=lT hq4
     rw [allB_no (show i < L.length by omega) (by unfold rngAt; omega)]
     exact .inr (.inr (goes_ret Try.checked.mixed (known_none) 200 (v:=(.v (.bool .false))) (ps:=[ltI ↑i ↑L.length=true,i < L.length,loadL Try.prog (cR L) (i * 2) 40=some (AV.agg [AV.v (Value.int IntKind.i64 (intAt (cR L) (i * 2 + 0))),AV.v (Value.int IntKind.i64 (intAt (cR L) (i * 2 + 1)))]),ltI (intAt (cR L) (i * 2 + 0)) 0=false,false=false,false=false,false=false,false=false,ltI (intAt (cR L) (i * 2 + 1)) (intAt (cR L) (i * 2 + 0))=false,false=false,false=false,false=false,ltI m (intAt (cR L) (i * 2 + 1))=true]) [.go,.b true,.sym,.sym,.go,.go,.go,.go,.go,.go,.b false,.go,.b false,.go,.b false,.go,.b false,.go,.b false,.go,.go,.go,.b false,.go,.b false,.go,.b false,.go,.b false,.go,.go,.b true,.go] (by kernel_rfl) (by kernel_rfl) ⟨hq1,(by omega),(cR_load (by omega) 40 (Try.underlying40) rfl (inf:=(Try.prog.info? 40).getD default) (by kernel_rfl) (by kernel_rfl)),hq2,rfl,rfl,rfl,rfl,hq3,rfl,rfl,rfl,hq4,trivial⟩ rfl))
    | false =>
     have ghq4:=lF hq4
     refine .inl ⟨⟨i + 1,by omega,up_next hi2 (show rngAt m (cR L) i by unfold rngAt; omega)⟩,(by show L.length - (i + 1) < L.length - i; omega),?_⟩
     exact goes_cut Try.checked.mixed (known_none) 200 (e:=.normal) (m:=1) (ps:=[ltI ↑i ↑L.length=true,i < L.length,loadL Try.prog (cR L) (i * 2) 40=some (AV.agg [AV.v (Value.int IntKind.i64 (intAt (cR L) (i * 2 + 0))),AV.v (Value.int IntKind.i64 (intAt (cR L) (i * 2 + 1)))]),ltI (intAt (cR L) (i * 2 + 0)) 0=false,false=false,false=false,false=false,false=false,ltI (intAt (cR L) (i * 2 + 1)) (intAt (cR L) (i * 2 + 0))=false,false=false,false=false,false=false,ltI m (intAt (cR L) (i * 2 + 1))=false,inR IntKind.i64 (↑i + 1)]) [.go,.b true,.sym,.sym,.go,.go,.go,.go,.go,.go,.b false,.go,.b false,.go,.b false,.go,.b false,.go,.b false,.go,.go,.go,.b false,.go,.b false,.go,.b false,.go,.b false,.go,.go,.b false,.go,.go] (by kernel_rfl) (by kernel_rfl) ⟨hq1,(by omega),(cR_load (by omega) 40 (Try.underlying40) rfl (inf:=(Try.prog.info? 40).getD default) (by kernel_rfl) (by kernel_rfl)),hq2,rfl,rfl,rfl,rfl,hq3,rfl,rfl,rfl,hq4,(by show -9223372036854775808≤_∧_≤9223372036854775807; constructor <;> omega),trivial⟩ rfl (by show 0≤1; decide) ⟨⟨nb_v _,nb_xl (cR_plain L),nb_v _,nb_v _,trivial⟩,trivial,rfl⟩
 | false =>
  have ghq1:=lF hq1
  exact .inr (.inl ⟨(by show L.length≤i; omega),goes_told Try.checked.mixed (known_none) 200 (e:=.exit 0) (ps:=[ltI ↑i ↑L.length=false]) [.go,.b false] (by kernel_rfl) (by kernel_rfl) ⟨hq1,trivial⟩ rfl⟩)
theorem ar_2 (m:Int) (y:Value) (L:List (Int×Int)) (i:Nat) (hL:L.length≤1000) (h3:∀ j,j < L.length→rngAt m (cR L) j) (w:World):Goes Try.prog 30 arC2 (⟨[(0,.v (.int .i64 m)),(7,.xl y L.length 2 (cR L)),(8,.v (.int .i64 L.length)),(9,.v (.int .i64 (i:Nat)))],[],0,[]⟩) w (OutR Try.prog Try.f51 30 (.bool (allB (rngAt m (cR L)) L.length)) w):=by
 rw [allB_true.2 h3]
 exact goes_out Try.checked.mixed (known_none) 200 (v:=(.v (.bool .true))) (ps:=[]) [.go] (by kernel_rfl) (by kernel_rfl) trivial rfl
theorem ar_g (m:Int) (y:Value) (L:List (Int×Int)) (hL:L.length≤1000):GivesA Try.prog 51 [.v (.int .i64 m),.xl y L.length 2 (cR L)] (.bool (allB (rngAt m (cR L)) L.length)) :=
 givesA_parts 30 Try.func51 (by kernel_rfl) (by kernel_rfl) (by kernel_rfl) (fun w=>ar_0 m y L hL w (ar_1 m y L hL w (fun i hi=>ar_2 m y L i.1 hL (fun j hj=>i.2.2 j (Nat.lt_of_lt_of_le hj hi)) w)))
def IsP (k n:Nat) (c:List AV):Prop:=k=2∧∃ L,c=cR L∧n=L.length
def aaS:List Vw→Option (Res1×List Prop):=fun vs =>
 match vs with
 | [.lst n k c]=>some (.val (.v (.bool (allB (angAt c) n))),[IsI k n c,n≤1000])
 | _=>none
def aaO:OrcH:=avOrc 49 [1] aaS
theorem known_aa:Known Try.prog (clsO aaO):=known_av (fun vs r ps h hp=>by
 unfold aaS at h
 split at h
 ·cases h
  obtain ⟨⟨rfl,L,rfl,rfl⟩,hn,-⟩:=hp
  refine ⟨⟨⟨_,cI_plain L⟩,trivial⟩,fun ys hy=>?_⟩
  obtain ⟨y1,rfl⟩:=len1 hy
  exact ⟨_,rfl,aa_g y1 L hn⟩
 ·cases h)
def awS:List Vw→Option (Res1×List Prop):=fun vs =>
 match vs with
 | [.lst n k c]=>some (.val (.v (.bool (allB (wgtAt c) n))),[IsI k n c,n≤1000])
 | _=>none
def awO:OrcH:=avOrc 52 [1] awS
theorem known_aw:Known Try.prog (clsO awO):=known_av (fun vs r ps h hp=>by
 unfold awS at h
 split at h
 ·cases h
  obtain ⟨⟨rfl,L,rfl,rfl⟩,hn,-⟩:=hp
  refine ⟨⟨⟨_,cI_plain L⟩,trivial⟩,fun ys hy=>?_⟩
  obtain ⟨y1,rfl⟩:=len1 hy
  exact ⟨_,rfl,awt_g y1 L hn⟩
 ·cases h)
def arS:List Vw→Option (Res1×List Prop):=fun vs =>
 match vs with
 | [.val v,.lst n k c]=>match numV v with
  | some m=>some (.val (.v (.bool (allB (rngAt m c) n))),[IsP k n c,n≤1000])
  | none=>none
 | _=>none
def arO:OrcH:=avOrc 51 [0,2] arS
theorem known_ar:Known Try.prog (clsO arO):=known_av (fun vs r ps h hp=>by
 unfold arS at h
 split at h
 ·split at h
  ·rename_i m e
   cases h
   obtain ⟨⟨rfl,L,rfl,rfl⟩,hn,-⟩:=hp
   refine ⟨⟨⟨_,cR_plain L⟩,trivial⟩,fun ys hy=>?_⟩
   obtain ⟨y1,y2,rfl⟩:=len2 hy
   rw [numV_eq e]
   exact ⟨_,rfl,ar_g m y2 L hn⟩
  ·cases h
 ·cases h)
def ckO:OrcH:=orO aaO (orO awO arO)
theorem known_ck:Known Try.prog (clsO ckO):=known_or known_aa (known_or known_aw known_ar)
def degI (A:List AV) (n:Nat):Int:=intAt A ((n - 1) * 1) - intAt A (0 * 1) + 1
def eqP (A:List AV) (n nl nf nw:Nat):Prop:=nl=n∧nf + 1=n∧(nw:Int)=degI A n
open Classical in
def clE (A:List AV) (n:Nat) (L:List AV) (nl nf:Nat) (W:List AV) (nw:Nat):Int :=
 if 2≤n∧n≤10 then (if ∀ i,i < n→angAt A i then (if eqP A n nl nf nw then (if (∀ i,i < nl→rngAt 200 L i)∧(∀ i,i < nw→wgtAt W i) then 0 else 2) else 15) else 2) else 6
section
variable {A L W : List AV} {n nl nf nw i : Nat}
theorem clE_many (h:¬ (2≤n∧n≤10)):clE A n L nl nf W nw=6:=if_neg h
theorem clE_ang (h:2≤n∧n≤10) (h2:¬ ∀ i,i < n→angAt A i):clE A n L nl nf W nw=2:=by unfold clE; rw [if_pos h,if_neg h2]
theorem clE_eq (h:2≤n∧n≤10) (h2:∀ i,i < n→angAt A i) (h3:¬ eqP A n nl nf nw):clE A n L nl nf W nw=15:=by unfold clE; rw [if_pos h,if_pos h2,if_neg h3]
theorem clE_arg (h:2≤n∧n≤10) (h2:∀ i,i < n→angAt A i) (h3:eqP A n nl nf nw) (h4:¬ ((∀ i,i < nl→rngAt 200 L i)∧(∀ i,i < nw→wgtAt W i))):clE A n L nl nf W nw=2:=by unfold clE; rw [if_pos h,if_pos h2,if_pos h3,if_neg h4]
theorem clE_ok (h:2≤n∧n≤10) (h2:∀ i,i < n→angAt A i) (h3:eqP A n nl nf nw) (h4:∀ i,i < nl→rngAt 200 L i) (h5:∀ i,i < nw→wgtAt W i):clE A n L nl nf W nw=0:=by unfold clE; rw [if_pos h,if_pos h2,if_pos h3,if_pos ⟨h4,h5⟩]
theorem clE_zero (h:clE A n L nl nf W nw=0):(2≤n∧n≤10)∧(∀ i,i < n→angAt A i)∧eqP A n nl nf nw∧(∀ i,i < nl→rngAt 200 L i)∧(∀ i,i < nw→wgtAt W i):=by
 unfold clE at h
 split at h
 ·split at h
  ·split at h
   ·split at h
    ·rename_i h4
     exact ⟨‹_›,‹_›,‹_›,h4.1,h4.2⟩
    ·omega
   ·omega
  ·omega
 ·omega
end
theorem ang_bd {A:List AV} {n:Nat} (h:∀ i,i < n→angAt A i):∀ i,i < n→0≤intAt A (i * 1)∧intAt A (i * 1)≤90
 | 0,hi=>by have:=h 0 hi; simp only [angAt,bfI] at this; omega
 | i + 1,hi=>by
  have h1:=ang_bd h i (by omega)
  have:=h (i + 1) hi
  simp only [angAt,bfI] at this
  omega
theorem nbb_lamp {K:Nat} {ya yl yf yw:Value} {A:List Int} {L:List (Int×Int)} {B:List Bool} {W:List Int} {a l f w:Nat} {t:TypeId}:NBB K (.cells [.xl ya a 1 (cI A),.xl yl l 2 (cR L),.xl yf f 1 (cB B),.xl yw w 1 (cI W)] t):=nbb_cells (fun v hv=>by
 simp only [List.mem_cons,List.not_mem_nil,or_false] at hv
 rcases hv with rfl | rfl | rfl | rfl
 ·exact nb_xl (cI_plain A)
 ·exact nb_xl (cR_plain L)
 ·exact nb_xl (cB_plain B)
 ·exact nb_xl (cI_plain W))
theorem goes_drop {sz:Nat} {c:Code} {T T':Ev.Lit} {w0:BaseW} {Q:Exit→Act→World→Prop} (h1:T.fs.s.n=T'.n) (h2:T.fs.df=T'.df) (h3:(T'.tms.map (·.1)).map T.fs.tm.get=T'.tms.map (fun q=>some q.2)) (h4:(T'.bs.map (·.1)).map T.fs.s.H.get=T'.bs.map (fun q=>some q.2)) (h:Goes Try.prog sz c T' w0 Q):Goes Try.prog sz c T w0 Q :=
 fun F n σ a w hW hro hN=>h F n σ a w hW hro (hN.litP (holds_view h1 h2 h3 h4))
end
end Go.Proofs.Ytldekgkjofgacaa
