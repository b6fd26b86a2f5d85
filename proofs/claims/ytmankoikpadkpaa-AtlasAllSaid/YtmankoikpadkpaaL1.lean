import Derived.Test.YtmankoikpadkpaaL0
set_option maxHeartbeats 4000000
set_option linter.all false
/- areSeen, isBalanced. -/
namespace Go.Proofs.Ytmankoikpadkpaa
open Go Ev
noncomputable section
theorem okS_no {c:List AV} {n i:Nat} (hi:i < n) (h:¬ seenAt c i):okS c n=false:=by
 cases e:okS c n with
 | true=>exact absurd (okS_all.1 e i hi) h
 | false=>rfl
theorem sum_in {c:List AV} {n i:Nat} (h:∀ i,i < n→seenAt c i) (hi:i < n) : -(i:Int)≤sumI c i∧sumI c i≤i∧seenAt c i:=by
 have h1:=sumI_bd (c:=c) (n:=i) (fun j hj=>h j (by omega))
 exact ⟨h1.1,h1.2,h i hi⟩
def asC0:Code:=bodyC Try.f44
def asC1:Code:=tlC asC0
theorem as_0 (y:Value) (L:List Int) (hL:L.length≤1000) (w:World) (hc:Goes Try.prog 15 asC1 (⟨[(0,.xl y L.length 1 (cI L))],[],0,[]⟩) w (OutR Try.prog Try.f44 15 (.bool (okS (cI L) L.length)) w)):Goes Try.prog 15 asC0 (argLit [.xl y L.length 1 (cI L)]) w (OutR Try.prog Try.f44 15 (.bool (okS (cI L) L.length)) w):=by
 exact goes_spine (T':=⟨[(0,.xl y L.length 1 (cI L))],[],0,[]⟩) (by kernel_rfl) (goes_told Try.checked.mixed (known_none) 200 (e:=.normal) (ps:=[]) [.go] (by kernel_rfl) (by kernel_rfl) trivial rfl) (hc)
def asC2:Code:=tlC asC1
theorem as_1 (y:Value) (L:List Int) (hL:L.length≤1000) (w:World) (hc:∀ i:UpI (seenAt (cI L)) L.length,L.length≤i.1→Goes Try.prog 15 asC2 (⟨[(5,.xl y L.length 1 (cI L)),(6,.v (.int .i64 L.length)),(7,.v (.int .i64 (i.1:Nat)))],[],0,[]⟩) w (OutR Try.prog Try.f44 15 (.bool (okS (cI L) L.length)) w)):Goes Try.prog 15 asC1 (⟨[(0,.xl y L.length 1 (cI L))],[],0,[]⟩) w (OutR Try.prog Try.f44 15 (.bool (okS (cI L) L.length)) w):=by
 refine goes_spineQ (ι:=UpI (seenAt (cI L)) L.length) (T:=fun i=>⟨[(5,.xl y L.length 1 (cI L)),(6,.v (.int .i64 L.length)),(7,.v (.int .i64 (i.1:Nat)))],[],0,[]⟩) (R:=fun i=>L.length≤i.1) (by kernel_rfl)
  (goes_spine (T':=⟨[(5,.xl y L.length 1 (cI L)),(6,.v (.int .i64 L.length)),(7,.v (.int .i64 (0:Nat)))],[],0,[]⟩) (by kernel_rfl) (goes_told Try.checked.mixed (known_none) 200 (e:=.normal) (ps:=[]) [.go,.go,.go] (by kernel_rfl) (by kernel_rfl) trivial rfl)
   (goes_blockloop (by kernel_rfl) (fun i:UpI (seenAt (cI L)) L.length=>⟨[(5,.xl y L.length 1 (cI L)),(6,.v (.int .i64 L.length)),(7,.v (.int .i64 (i.1:Nat)))],[],0,[]⟩) (fun i=>L.length - i.1) (fun i=>?_) ⟨0,Nat.zero_le _,fun j hj=>by omega⟩)) hc
 obtain ⟨i,hi1,hi2⟩:=i
 show (∃ j:UpI (seenAt (cI L)) L.length,L.length - j.1 < L.length - i∧Goes Try.prog 15 (loopC (tlC (hdC asC1))) (⟨[(5,.xl y L.length 1 (cI L)),(6,.v (.int .i64 L.length)),(7,.v (.int .i64 (i:Nat)))],[],0,[]⟩) w (Land 15 isN (⟨[(5,.xl y L.length 1 (cI L)),(6,.v (.int .i64 L.length)),(7,.v (.int .i64 (j.1:Nat)))],[],0,[]⟩) w))∨(L.length≤i∧Goes Try.prog 15 (loopC (tlC (hdC asC1))) (⟨[(5,.xl y L.length 1 (cI L)),(6,.v (.int .i64 L.length)),(7,.v (.int .i64 (i:Nat)))],[],0,[]⟩) w (Land 15 (isX 0) (⟨[(5,.xl y L.length 1 (cI L)),(6,.v (.int .i64 L.length)),(7,.v (.int .i64 (i:Nat)))],[],0,[]⟩) w))∨Goes Try.prog 15 (loopC (tlC (hdC asC1))) (⟨[(5,.xl y L.length 1 (cI L)),(6,.v (.int .i64 L.length)),(7,.v (.int .i64 (i:Nat)))],[],0,[]⟩) w (fun e a w'=>e = .ret∧(OutR Try.prog Try.f44 15 (.bool (okS (cI L) L.length)) w) .ret a w')
 have hcl:=cI_len L
 cases hq1:(ltI ↑i ↑L.length) with
 | true =>
  have ghq1:=ltI_true hq1
  cases hq2:(ltI (intAt (cI L) (i * 1)) (-1)) with
  | true =>
   have ghq2:=ltI_true hq2
   rw [okS_no (show i < L.length by omega) (by unfold seenAt; omega)]
   exact .inr (.inr (goes_ret Try.checked.mixed (known_none) 200 (v:=(.v (.bool .false))) (ps:=[ltI ↑i ↑L.length=true,i < L.length,loadL Try.prog (cI L) (i * 1) 3=some (AV.v (Value.int IntKind.i64 (intAt (cI L) (i * 1)))),(!ltI (intAt (cI L) (i * 1)) (-1))=false,false=false,false=false,(!false)=true]) [.go,.b true,.sym,.sym,.go,.go,.go,.go,.go,.go,.go,.b false,.b false,.b false,.go,.go,.go,.b true,.go] (by kernel_rfl) (by kernel_rfl) ⟨hq1,(by omega),(by rw [Nat.mul_one]; exact cI_load (by omega) 3 (Try.underlying3) rfl),(by rw [hq2]; rfl),rfl,rfl,rfl,trivial⟩ rfl))
  | false =>
   have ghq2:=ltI_false hq2
   cases hq3:(ltI 1 (intAt (cI L) (i * 1))) with
   | true =>
    have ghq3:=ltI_true hq3
    rw [okS_no (show i < L.length by omega) (by unfold seenAt; omega)]
    exact .inr (.inr (goes_ret Try.checked.mixed (known_none) 200 (v:=(.v (.bool .false))) (ps:=[ltI ↑i ↑L.length=true,i < L.length,loadL Try.prog (cI L) (i * 1) 3=some (AV.v (Value.int IntKind.i64 (intAt (cI L) (i * 1)))),(!ltI (intAt (cI L) (i * 1)) (-1))=true,true=true,true=true,(!!ltI 1 (intAt (cI L) (i * 1)))=true]) [.go,.b true,.sym,.sym,.go,.go,.go,.go,.go,.go,.go,.b true,.go,.b true,.go,.b true,.go,.go,.go,.go,.b true,.go] (by kernel_rfl) (by kernel_rfl) ⟨hq1,(by omega),(by rw [Nat.mul_one]; exact cI_load (by omega) 3 (Try.underlying3) rfl),(by rw [hq2]; rfl),rfl,rfl,(by rw [hq3]; rfl),trivial⟩ rfl))
   | false =>
    have ghq3:=ltI_false hq3
    refine .inl ⟨⟨i + 1,by omega,up_next hi2 (show seenAt (cI L) i by unfold seenAt; omega)⟩,(by show L.length - (i + 1) < L.length - i; omega),?_⟩
    exact goes_told Try.checked.mixed (known_none) 200 (e:=.normal) (ps:=[ltI ↑i ↑L.length=true,i < L.length,loadL Try.prog (cI L) (i * 1) 3=some (AV.v (Value.int IntKind.i64 (intAt (cI L) (i * 1)))),(!ltI (intAt (cI L) (i * 1)) (-1))=true,true=true,true=true,(!!ltI 1 (intAt (cI L) (i * 1)))=false,inR IntKind.i64 (↑i + 1)]) [.go,.b true,.sym,.sym,.go,.go,.go,.go,.go,.go,.go,.b true,.go,.b true,.go,.b true,.go,.go,.go,.go,.b false,.go,.go] (by kernel_rfl) (by kernel_rfl) ⟨hq1,(by omega),(by rw [Nat.mul_one]; exact cI_load (by omega) 3 (Try.underlying3) rfl),(by rw [hq2]; rfl),rfl,rfl,(by rw [hq3]; rfl),(by show -9223372036854775808≤_∧_≤9223372036854775807; constructor <;> omega),trivial⟩ rfl
 | false =>
  have ghq1:=ltI_false hq1
  exact .inr (.inl ⟨(by show L.length≤i; omega),goes_told Try.checked.mixed (known_none) 200 (e:=.exit 0) (ps:=[ltI ↑i ↑L.length=false]) [.go,.b false] (by kernel_rfl) (by kernel_rfl) ⟨hq1,trivial⟩ rfl⟩)
theorem as_2 (y:Value) (L:List Int) (i:Nat) (hL:L.length≤1000) (h3:∀ j,j < L.length→seenAt (cI L) j) (w:World):Goes Try.prog 15 asC2 (⟨[(5,.xl y L.length 1 (cI L)),(6,.v (.int .i64 L.length)),(7,.v (.int .i64 (i:Nat)))],[],0,[]⟩) w (OutR Try.prog Try.f44 15 (.bool (okS (cI L) L.length)) w):=by
 rw [okS_all.2 h3]
 exact goes_out Try.checked.mixed (known_none) 200 (v:=(.v (.bool .true))) (ps:=[]) [.go] (by kernel_rfl) (by kernel_rfl) trivial rfl
theorem as_g (y:Value) (L:List Int) (hL:L.length≤1000):GivesA Try.prog 44 [.xl y L.length 1 (cI L)] (.bool (okS (cI L) L.length)) :=
 givesA_parts 15 Try.func44 (by kernel_rfl) (by kernel_rfl) (by kernel_rfl) (fun w=>as_0 y L hL w (as_1 y L hL w (fun i hi=>as_2 y L i.1 hL (fun j hj=>i.2.2 j (Nat.lt_of_lt_of_le hj hi)) w)))
def ibC0:Code:=bodyC Try.f45
def ibC1:Code:=tlC ibC0
theorem ib_0 (y:Value) (L:List Int) (hL:L.length≤1000) (hS:∀ j,j < L.length→seenAt (cI L) j) (w:World) (hc:Goes Try.prog 18 ibC1 (⟨[(0,.xl y L.length 1 (cI L))],[],0,[]⟩) w (OutR Try.prog Try.f45 18 (.bool (eqI (sumI (cI L) L.length) 0)) w)):Goes Try.prog 18 ibC0 (argLit [.xl y L.length 1 (cI L)]) w (OutR Try.prog Try.f45 18 (.bool (eqI (sumI (cI L) L.length) 0)) w):=by
 exact goes_spine (T':=⟨[(0,.xl y L.length 1 (cI L))],[],0,[]⟩) (by kernel_rfl) (goes_told Try.checked.mixed (known_none) 200 (e:=.normal) (ps:=[]) [.go] (by kernel_rfl) (by kernel_rfl) trivial rfl) (hc)
def ibC2:Code:=tlC ibC1
theorem ib_1 (y:Value) (L:List Int) (hL:L.length≤1000) (hS:∀ j,j < L.length→seenAt (cI L) j) (w:World) (hc:Goes Try.prog 18 ibC2 (⟨[(0,.xl y L.length 1 (cI L)),(3,.v (.int .i64 0))],[],0,[]⟩) w (OutR Try.prog Try.f45 18 (.bool (eqI (sumI (cI L) L.length) 0)) w)):Goes Try.prog 18 ibC1 (⟨[(0,.xl y L.length 1 (cI L))],[],0,[]⟩) w (OutR Try.prog Try.f45 18 (.bool (eqI (sumI (cI L) L.length) 0)) w):=by
 exact goes_spine (T':=⟨[(0,.xl y L.length 1 (cI L)),(3,.v (.int .i64 0))],[],0,[]⟩) (by kernel_rfl) (goes_told Try.checked.mixed (known_none) 200 (e:=.normal) (ps:=[]) [.go] (by kernel_rfl) (by kernel_rfl) trivial rfl) (hc)
def ibC3:Code:=tlC ibC2
theorem ib_2 (y:Value) (L:List Int) (hL:L.length≤1000) (hS:∀ j,j < L.length→seenAt (cI L) j) (w:World) (hc:∀ i:CnI L.length,L.length≤i.1→Goes Try.prog 18 ibC3 (⟨[(3,.v (.int .i64 (sumI (cI L) i.1))),(6,.xl y L.length 1 (cI L)),(7,.v (.int .i64 L.length)),(8,.v (.int .i64 (i.1:Nat)))],[],0,[]⟩) w (OutR Try.prog Try.f45 18 (.bool (eqI (sumI (cI L) L.length) 0)) w)):Goes Try.prog 18 ibC2 (⟨[(0,.xl y L.length 1 (cI L)),(3,.v (.int .i64 0))],[],0,[]⟩) w (OutR Try.prog Try.f45 18 (.bool (eqI (sumI (cI L) L.length) 0)) w):=by
 refine goes_spineQ (ι:=CnI L.length) (T:=fun i=>⟨[(3,.v (.int .i64 (sumI (cI L) i.1))),(6,.xl y L.length 1 (cI L)),(7,.v (.int .i64 L.length)),(8,.v (.int .i64 (i.1:Nat)))],[],0,[]⟩) (R:=fun i=>L.length≤i.1) (by kernel_rfl)
  (goes_spine (T':=⟨[(3,.v (.int .i64 (sumI (cI L) 0))),(6,.xl y L.length 1 (cI L)),(7,.v (.int .i64 L.length)),(8,.v (.int .i64 (0:Nat)))],[],0,[]⟩) (by kernel_rfl) (goes_told Try.checked.mixed (known_none) 200 (e:=.normal) (ps:=[]) [.go,.go,.go] (by kernel_rfl) (by kernel_rfl) trivial rfl)
   (goes_blockloop (by kernel_rfl) (fun i:CnI L.length=>⟨[(3,.v (.int .i64 (sumI (cI L) i.1))),(6,.xl y L.length 1 (cI L)),(7,.v (.int .i64 L.length)),(8,.v (.int .i64 (i.1:Nat)))],[],0,[]⟩) (fun i=>L.length - i.1) (fun i=>?_) ⟨0,Nat.zero_le _⟩)) hc
 obtain ⟨i,hi1⟩:=i
 show (∃ j:CnI L.length,L.length - j.1 < L.length - i∧Goes Try.prog 18 (loopC (tlC (hdC ibC2))) (⟨[(3,.v (.int .i64 (sumI (cI L) i))),(6,.xl y L.length 1 (cI L)),(7,.v (.int .i64 L.length)),(8,.v (.int .i64 (i:Nat)))],[],0,[]⟩) w (Land 18 isN (⟨[(3,.v (.int .i64 (sumI (cI L) j.1))),(6,.xl y L.length 1 (cI L)),(7,.v (.int .i64 L.length)),(8,.v (.int .i64 (j.1:Nat)))],[],0,[]⟩) w))∨(L.length≤i∧Goes Try.prog 18 (loopC (tlC (hdC ibC2))) (⟨[(3,.v (.int .i64 (sumI (cI L) i))),(6,.xl y L.length 1 (cI L)),(7,.v (.int .i64 L.length)),(8,.v (.int .i64 (i:Nat)))],[],0,[]⟩) w (Land 18 (isX 0) (⟨[(3,.v (.int .i64 (sumI (cI L) i))),(6,.xl y L.length 1 (cI L)),(7,.v (.int .i64 L.length)),(8,.v (.int .i64 (i:Nat)))],[],0,[]⟩) w))∨Goes Try.prog 18 (loopC (tlC (hdC ibC2))) (⟨[(3,.v (.int .i64 (sumI (cI L) i))),(6,.xl y L.length 1 (cI L)),(7,.v (.int .i64 L.length)),(8,.v (.int .i64 (i:Nat)))],[],0,[]⟩) w (fun e a w'=>e = .ret∧(OutR Try.prog Try.f45 18 (.bool (eqI (sumI (cI L) L.length) 0)) w) .ret a w')
 have hcl:=cI_len L
 cases hq1:(ltI ↑i ↑L.length) with
 | true =>
  have ghq1:=ltI_true hq1
  have hz:=sum_in hS (show i < L.length by omega)
  unfold seenAt at hz
  refine .inl ⟨⟨i + 1,by omega⟩,(by show L.length - (i + 1) < L.length - i; omega),?_⟩
  exact goes_told Try.checked.mixed (known_none) 200 (e:=.normal) (ps:=[ltI ↑i ↑L.length=true,i < L.length,loadL Try.prog (cI L) (i * 1) 3=some (AV.v (Value.int IntKind.i64 (intAt (cI L) (i * 1)))),inR IntKind.i64 (sumI (cI L) i + intAt (cI L) (i * 1)),inR IntKind.i64 (↑i + 1)]) [.go,.b true,.sym,.sym,.go,.go,.go,.go,.go,.go,.go] (by kernel_rfl) (by kernel_rfl) ⟨hq1,(by omega),(by rw [Nat.mul_one]; exact cI_load (by omega) 3 (Try.underlying3) rfl),(by show -9223372036854775808≤_∧_≤9223372036854775807; constructor <;> omega),(by show -9223372036854775808≤_∧_≤9223372036854775807; constructor <;> omega),trivial⟩ rfl
 | false =>
  have ghq1:=ltI_false hq1
  exact .inr (.inl ⟨(by show L.length≤i; omega),goes_told Try.checked.mixed (known_none) 200 (e:=.exit 0) (ps:=[ltI ↑i ↑L.length=false]) [.go,.b false] (by kernel_rfl) (by kernel_rfl) ⟨hq1,trivial⟩ rfl⟩)
theorem ib_3 (y:Value) (L:List Int) (i:Nat) (h3:L.length=i) (w:World):Goes Try.prog 18 ibC3 (⟨[(3,.v (.int .i64 (sumI (cI L) i))),(6,.xl y L.length 1 (cI L)),(7,.v (.int .i64 L.length)),(8,.v (.int .i64 (i:Nat)))],[],0,[]⟩) w (OutR Try.prog Try.f45 18 (.bool (eqI (sumI (cI L) L.length) 0)) w):=by
 rw [show L.length=i from h3]
 exact goes_out Try.checked.mixed (known_none) 200 (v:=(.v (.bool (eqI (sumI (cI L) i) 0)))) (ps:=[]) [.go,.go,.go] (by kernel_rfl) (by kernel_rfl) trivial rfl
theorem ib_g (y:Value) (L:List Int) (hL:L.length≤1000) (hS:∀ j,j < L.length→seenAt (cI L) j):GivesA Try.prog 45 [.xl y L.length 1 (cI L)] (.bool (eqI (sumI (cI L) L.length) 0)) :=
 givesA_parts 18 Try.func45 (by kernel_rfl) (by kernel_rfl) (by kernel_rfl) (fun w=>ib_0 y L hL hS w (ib_1 y L hL hS w (ib_2 y L hL hS w (fun i hi=>ib_3 y L i.1 (Nat.le_antisymm hi i.2) w))))
end
end Go.Proofs.Ytmankoikpadkpaa
