import Derived.Test.YtmankoikpadkpaaL2
import Derived.Test.YtmankoikpadkpaaFu
set_option maxHeartbeats 4000000
set_option linter.all false
/- For the tool. -/
namespace Go.Proofs.Ytmankoikpadkpaa
open Go Ev
noncomputable section
theorem iRL3 {a:Int} (h : -9223372036854775808≤a) (k:a≤9223372036854775807):inR .i64 a:=⟨h,k⟩
section
variable (R : List (Value × List Int)) (i : Nat) (n : Int) (w : World) (y : Value)
@[reducible] def qL3_8:Nat×Ev.AV:=(6,.v (.int .i64 (((i:Nat):Int))))
@[reducible] def qL3_7:Nat×Ev.AB:=(0,.cells [.v (.int .i64 n),.xl y R.length 1 (cRw R)] 24)
@[reducible] def qL3_1:Ev.Lit:=⟨[(1,.ptr 0 0),(qL3_8 i),(7,.v (.int .i64 (0)))],[],1,[(qL3_7 R n y)]⟩
@[reducible] def qL3_2:Ev.Lit:=⟨[(1,.ptr 0 0),(3,.v (.int .i64 (((i:Nat):Int))))],[],1,[(qL3_7 R n y)]⟩
@[reducible] def qL3_3:Ev.Lit:=⟨[(1,.ptr 0 0),(qL3_8 i)],[],1,[(qL3_7 R n y)]⟩
@[reducible] def qL3_9:Nat×Ev.AV:=(4,.v (.int .i64 (((i:Nat):Int))))
@[reducible] def qL3_4:Ev.Lit:=⟨[(1,.ptr 0 0),(qL3_9 i)],[],1,[(qL3_7 R n y)]⟩
@[reducible] def qL3_5:Ev.Lit:=⟨[(1,.ptr 0 0)],[],1,[(qL3_7 R n y)]⟩
@[reducible] def qL3_6:=(OutR Try.prog Try.f19 95 (.int .i64 (plE n (cRw R) R.length)) w)
end
theorem rw_load {R:List (Value×List Int)} {i k:Nat} (hi:i < R.length) (hk:k < xlN (cRw R) (i * 1)) (t:TypeId) {d:TypeDesc} (hd:Try.prog.underlying t=some d) (ha:aggD d=false):loadL Try.prog (xlC (cRw R) (i * 1)) (k * 1) t=some (.v (.int .i64 (intAt (xlC (cRw R) (i * 1)) (k * 1)))):=by
 rw [Nat.mul_one i] at hk ⊢
 rw [cRw_n hi] at hk
 rw [cRw_c hi,Nat.mul_one]
 exact cI_load hk t hd ha
theorem see_not {R:List (Value×List Int)} {i k:Nat} (hk:k < xlN (cRw R) (i * 1)) (h:¬ seenAt (xlC (cRw R) (i * 1)) k):¬ seeAt (cRw R) i:=fun hs=>h (okS_all.1 hs k hk)
def rpC0:Code:=bodyC Try.f19
def rpC1:Code:=tlC rpC0
theorem rp_0 (n:Int) (y:Value) (R:List (Value×List Int)) (w:World) (hc:Goes Try.prog 95 rpC1 ((qL3_5 R n y)) w (qL3_6 R n w)):Goes Try.prog 95 rpC0 (argLit [.agg [.v (.int .i64 n),.xl y R.length 1 (cRw R)]]) w (qL3_6 R n w):=by
 exact goes_spine (T':=(qL3_5 R n y)) (by kernel_rfl) (goes_told Try.checked.mixed (known_none) 200 (e:=.normal) (ps:=[]) [.go,.go] (by kernel_rfl) (by kernel_rfl) trivial rfl) (hc)
def rpC2:Code:=tlC rpC1
theorem rp_1 (n:Int) (y:Value) (R:List (Value×List Int)) (w:World) (hc:R.length≤4→Goes Try.prog 95 rpC2 ((qL3_5 R n y)) w (OutR Try.prog Try.f19 95 (.int .i64 (plE n (cRw R) R.length)) w)):Goes Try.prog 95 rpC1 ((qL3_5 R n y)) w (OutR Try.prog Try.f19 95 (.int .i64 (plE n (cRw R) R.length)) w):=by
 cases hq1:(ltI 4 ↑R.length) with
 | true =>
  have ghq1:=ltI_true hq1
  rw [plE_many (by omega)]
  exact goes_out Try.checked.mixed (known_none) 200 (v:=(.v (.int .i64 (.ofNat 6)))) (ps:=[ltI 4 ↑R.length=true]) [.go,.go,.go,.go,.b true,.go] (by kernel_rfl) (by kernel_rfl) ⟨hq1,trivial⟩ rfl
 | false =>
  have ghq1:=ltI_false hq1
  exact goes_spine (T':=(qL3_5 R n y)) (by kernel_rfl) (goes_told Try.checked.mixed (known_none) 200 (e:=.normal) (ps:=[ltI 4 ↑R.length=false]) [.go,.go,.go,.go,.b false] (by kernel_rfl) (by kernel_rfl) ⟨hq1,trivial⟩ rfl) (hc (by omega))
def rpC3:Code:=tlC rpC2
theorem rp_2 (n:Int) (y:Value) (R:List (Value×List Int)) (hm:R.length≤4) (w:World) (hc:(1≤n∧n≤39)→Goes Try.prog 95 rpC3 ((qL3_5 R n y)) w (OutR Try.prog Try.f19 95 (.int .i64 (plE n (cRw R) R.length)) w)):Goes Try.prog 95 rpC2 ((qL3_5 R n y)) w (OutR Try.prog Try.f19 95 (.int .i64 (plE n (cRw R) R.length)) w):=by
 cases hq1:(ltI n 1) with
 | true =>
  have ghq1:=ltI_true hq1
  rw [plE_arg hm (by omega)]
  exact goes_out Try.checked.mixed (known_none) 200 (v:=(.v (.int .i64 (.ofNat 2)))) (ps:=[ltI n 1=true,true=true,true=true,true=true]) [.go,.go,.go,.go,.b true,.b true,.b true,.go,.b true,.go] (by kernel_rfl) (by kernel_rfl) ⟨hq1,rfl,rfl,rfl,trivial⟩ rfl
 | false =>
  have ghq1:=ltI_false hq1
  cases hq2:(ltI 39 n) with
  | true =>
   have ghq2:=ltI_true hq2
   rw [plE_arg hm (by omega)]
   exact goes_out Try.checked.mixed (known_none) 200 (v:=(.v (.int .i64 (.ofNat 2)))) (ps:=[ltI n 1=false,false=false,false=false,ltI 39 n=true]) [.go,.go,.go,.go,.b false,.go,.b false,.go,.b false,.go,.go,.b true,.go] (by kernel_rfl) (by kernel_rfl) ⟨hq1,rfl,rfl,hq2,trivial⟩ rfl
  | false =>
   have ghq2:=ltI_false hq2
   exact goes_spine (T':=(qL3_5 R n y)) (by kernel_rfl) (goes_told Try.checked.mixed (known_none) 200 (e:=.normal) (ps:=[ltI n 1=false,false=false,false=false,ltI 39 n=false]) [.go,.go,.go,.go,.b false,.go,.b false,.go,.b false,.go,.go,.b false] (by kernel_rfl) (by kernel_rfl) ⟨hq1,rfl,rfl,hq2,trivial⟩ rfl) (hc (by omega))
def rpC4:Code:=tlC rpC3
theorem rp_3 (n:Int) (y:Value) (R:List (Value×List Int)) (hm:R.length≤4) (hn:1≤n∧n≤39) (w:World) (hc:∀ i:UpI (lenAt n (cRw R)) R.length,R.length≤i.1→Goes Try.prog 95 rpC4 (⟨[(1,.ptr 0 0),(3,.v (.int .i64 (((i.1:Nat):Int))))],[],1,[(qL3_7 R n y)]⟩) w (OutR Try.prog Try.f19 95 (.int .i64 (plE n (cRw R) R.length)) w)):Goes Try.prog 95 rpC3 ((qL3_5 R n y)) w (OutR Try.prog Try.f19 95 (.int .i64 (plE n (cRw R) R.length)) w):=by
 refine goes_spineQ (ι:=UpI (lenAt n (cRw R)) R.length) (T:=fun i=>⟨[(1,.ptr 0 0),(3,.v (.int .i64 (((i.1:Nat):Int))))],[],1,[(qL3_7 R n y)]⟩) (R:=fun i=>R.length≤i.1) (by kernel_rfl)
  (goes_spine (T':=⟨[(1,.ptr 0 0),(3,.v (.int .i64 (((0:Nat):Int))))],[],1,[(qL3_7 R n y)]⟩) (by kernel_rfl) (goes_told Try.checked.mixed (known_none) 200 (e:=.normal) (ps:=[]) [.go] (by kernel_rfl) (by kernel_rfl) trivial rfl)
   (goes_blockloop (by kernel_rfl) (fun i:UpI (lenAt n (cRw R)) R.length=>⟨[(1,.ptr 0 0),(3,.v (.int .i64 (((i.1:Nat):Int))))],[],1,[(qL3_7 R n y)]⟩) (fun i=>R.length - i.1) (fun i=>?_) ⟨0,Nat.zero_le _,fun j hj=>by omega⟩)) hc
 obtain ⟨i,hi1,hi2⟩:=i
 show (∃ j:UpI (lenAt n (cRw R)) R.length,R.length - j.1 < R.length - i∧Goes Try.prog 95 (loopC (tlC (hdC rpC3))) ((qL3_2 R i n y)) w (Land 95 isN (⟨[(1,.ptr 0 0),(3,.v (.int .i64 (((j.1:Nat):Int))))],[],1,[(qL3_7 R n y)]⟩) w))∨(R.length≤i∧Goes Try.prog 95 (loopC (tlC (hdC rpC3))) ((qL3_2 R i n y)) w (Land 95 (isX 0) ((qL3_2 R i n y)) w))∨Goes Try.prog 95 (loopC (tlC (hdC rpC3))) ((qL3_2 R i n y)) w (fun e a w'=>e = .ret∧(OutR Try.prog Try.f19 95 (.int .i64 (plE n (cRw R) R.length)) w) .ret a w')
 have hcl:=cRw_len R
 cases hq1:(ltI ↑i ↑R.length) with
 | true =>
  have ghq1:=ltI_true hq1
  cases hq2:(eqI (↑(xlN (cRw R) (i * 1))) n) with
  | true =>
   have ghq2:=eqI_true hq2
   refine .inl ⟨⟨i + 1,by omega,up_next hi2 (show lenAt n (cRw R) i by unfold lenAt; omega)⟩,(by show R.length - (i + 1) < R.length - i; omega),?_⟩
   exact goes_told Try.checked.mixed (known_none) 200 (e:=.normal) (ps:=[ltI ↑i ↑R.length=true,i < R.length,loadL Try.prog (cRw R) (i * 1) 29=some (AV.xl (xlY (cRw R) (i * 1)) (xlN (cRw R) (i * 1)) 1 (xlC (cRw R) (i * 1))),(!eqI (↑(xlN (cRw R) (i * 1))) n)=false,inR IntKind.i64 (↑i + 1)]) [.go,.go,.go,.go,.go,.b true,.go,.go,.go,.sym,.sym,.go,.go,.go,.go,.b false,.go,.go,.go] (by kernel_rfl) (by kernel_rfl) ⟨hq1,(by omega),(by rw [Nat.mul_one]; exact cRw_load (by omega) 29 (Try.underlying29) rfl),(by rw [hq2]; rfl),(iRL3 (by omega) (by omega)),trivial⟩ rfl
  | false =>
   have ghq2:=eqI_false hq2
   rw [plE_len hm hn (show i < R.length by omega) (by unfold lenAt; omega)]
   exact .inr (.inr (goes_ret Try.checked.mixed (known_none) 200 (v:=(.v (.int .i64 (.ofNat 15)))) (ps:=[ltI ↑i ↑R.length=true,i < R.length,loadL Try.prog (cRw R) (i * 1) 29=some (AV.xl (xlY (cRw R) (i * 1)) (xlN (cRw R) (i * 1)) 1 (xlC (cRw R) (i * 1))),(!eqI (↑(xlN (cRw R) (i * 1))) n)=true]) [.go,.go,.go,.go,.go,.b true,.go,.go,.go,.sym,.sym,.go,.go,.go,.go,.b true,.go] (by kernel_rfl) (by kernel_rfl) ⟨hq1,(by omega),(by rw [Nat.mul_one]; exact cRw_load (by omega) 29 (Try.underlying29) rfl),(by rw [hq2]; rfl),trivial⟩ rfl))
 | false =>
  have ghq1:=ltI_false hq1
  exact .inr (.inl ⟨(by show R.length≤i; omega),goes_told Try.checked.mixed (known_none) 200 (e:=.exit 0) (ps:=[ltI ↑i ↑R.length=false]) [.go,.go,.go,.go,.go,.b false] (by kernel_rfl) (by kernel_rfl) ⟨hq1,trivial⟩ rfl⟩)
theorem rp_4in (n:Int) (y:Value) (R:List (Value×List Int)) (i:Nat) (hm:R.length≤4) (hn:1≤n∧n≤39) (hl:∀ i,i < R.length→lenAt n (cRw R) i) (hi:i < R.length) (w:World):Goes Try.prog 95 (blkB (hdC (tlC (loopC (tlC (hdC rpC4)))))) ((qL3_4 R i n y)) w (LandQ 95 (fun k:UpI (seenAt (xlC (cRw R) (i * 1))) n.toNat=>⟨[(1,.ptr 0 0),(qL3_9 i),(5,.v (.int .i64 (((k.1:Nat):Int))))],[],1,[(qL3_7 R n y)]⟩) (fun k=>n.toNat≤k.1) w (OutR Try.prog Try.f19 95 (.int .i64 (plE n (cRw R) R.length)) w)):=by
 refine goes_spine (T':=⟨[(1,.ptr 0 0),(qL3_9 i),(5,.v (.int .i64 (((0:Nat):Int))))],[],1,[(qL3_7 R n y)]⟩) (by kernel_rfl) (goes_told Try.checked.mixed (known_none) 200 (e:=.normal) (ps:=[]) [.go] (by kernel_rfl) (by kernel_rfl) trivial rfl) (goes_blockloop (by kernel_rfl) (fun k:UpI (seenAt (xlC (cRw R) (i * 1))) n.toNat=>⟨[(1,.ptr 0 0),(qL3_9 i),(5,.v (.int .i64 (((k.1:Nat):Int))))],[],1,[(qL3_7 R n y)]⟩) (fun k=>n.toNat - k.1) (R:=fun k=>n.toNat≤k.1) (fun k=>?_) ⟨0,Nat.zero_le _,fun j hj=>by omega⟩)
 obtain ⟨k,hk1,hk2⟩:=k
 show (∃ j:UpI (seenAt (xlC (cRw R) (i * 1))) n.toNat,n.toNat - j.1 < n.toNat - k∧Goes Try.prog 95 (loopC (tlC (blkB (hdC (tlC (loopC (tlC (hdC rpC4)))))))) (⟨[(1,.ptr 0 0),(qL3_9 i),(5,.v (.int .i64 (((k:Nat):Int))))],[],1,[(qL3_7 R n y)]⟩) w (Land 95 isN (⟨[(1,.ptr 0 0),(qL3_9 i),(5,.v (.int .i64 (((j.1:Nat):Int))))],[],1,[(qL3_7 R n y)]⟩) w))∨(n.toNat≤k∧Goes Try.prog 95 (loopC (tlC (blkB (hdC (tlC (loopC (tlC (hdC rpC4)))))))) (⟨[(1,.ptr 0 0),(qL3_9 i),(5,.v (.int .i64 (((k:Nat):Int))))],[],1,[(qL3_7 R n y)]⟩) w (Land 95 (isX 4) (⟨[(1,.ptr 0 0),(qL3_9 i),(5,.v (.int .i64 (((k:Nat):Int))))],[],1,[(qL3_7 R n y)]⟩) w))∨Goes Try.prog 95 (loopC (tlC (blkB (hdC (tlC (loopC (tlC (hdC rpC4)))))))) (⟨[(1,.ptr 0 0),(qL3_9 i),(5,.v (.int .i64 (((k:Nat):Int))))],[],1,[(qL3_7 R n y)]⟩) w (fun e a w'=>e = .ret∧(OutR Try.prog Try.f19 95 (.int .i64 (plE n (cRw R) R.length)) w) .ret a w')
 cases hq1:(ltI (↑k) n) with
 | true =>
  have ghq1:=ltI_true hq1
  have hkx:k < xlN (cRw R) (i * 1):=by have hq:=hl i hi; unfold lenAt at hq; omega
  cases hq2:(ltI (intAt (xlC (cRw R) (i * 1)) (k * 1)) (-1)) with
  | true =>
   have ghq2:=ltI_true hq2
   rw [plE_see hm hn hl hi (see_not hkx (by unfold seenAt; omega))]
   exact .inr (.inr (goes_ret Try.checked.mixed (known_none) 200 (v:=(.v (.int .i64 (.ofNat 3)))) (ps:=[ltI (↑k) n=true,i < R.length,loadL Try.prog (cRw R) (i * 1) 29=some (AV.xl (xlY (cRw R) (i * 1)) (xlN (cRw R) (i * 1)) 1 (xlC (cRw R) (i * 1))),k < xlN (cRw R) (i * 1),loadL Try.prog (xlC (cRw R) (i * 1)) (k * 1) 3=some (AV.v (Value.int IntKind.i64 (intAt (xlC (cRw R) (i * 1)) (k * 1)))),ltI (intAt (xlC (cRw R) (i * 1)) (k * 1)) (-1)=true,true=true,true=true,true=true,true=true,true=true,true=true,true=true,true=true,true=true]) [.go,.go,.go,.go,.b true,.go,.go,.go,.sym,.sym,.go,.sym,.sym,.go,.go,.b true,.b true,.b true,.b true,.b true,.b true,.b true,.b true,.b true,.go,.b true,.go] (by kernel_rfl) (by kernel_rfl) ⟨hq1,(by omega),(by rw [Nat.mul_one]; exact cRw_load (by omega) 29 (Try.underlying29) rfl),hkx,(rw_load hi hkx 3 (Try.underlying3) rfl),hq2,rfl,rfl,rfl,rfl,rfl,rfl,rfl,rfl,rfl,trivial⟩ rfl))
  | false =>
   have ghq2:=ltI_false hq2
   cases hq3:(ltI 1 (intAt (xlC (cRw R) (i * 1)) (k * 1))) with
   | true =>
    have ghq3:=ltI_true hq3
    rw [plE_see hm hn hl hi (see_not hkx (by unfold seenAt; omega))]
    exact .inr (.inr (goes_ret Try.checked.mixed (known_none) 200 (v:=(.v (.int .i64 (.ofNat 3)))) (ps:=[ltI (↑k) n=true,i < R.length,loadL Try.prog (cRw R) (i * 1) 29=some (AV.xl (xlY (cRw R) (i * 1)) (xlN (cRw R) (i * 1)) 1 (xlC (cRw R) (i * 1))),k < xlN (cRw R) (i * 1),loadL Try.prog (xlC (cRw R) (i * 1)) (k * 1) 3=some (AV.v (Value.int IntKind.i64 (intAt (xlC (cRw R) (i * 1)) (k * 1)))),ltI (intAt (xlC (cRw R) (i * 1)) (k * 1)) (-1)=false,false=false,false=false,false=false,i < R.length,false=false,loadL Try.prog (cRw R) (i * 1) 29=some (AV.xl (xlY (cRw R) (i * 1)) (xlN (cRw R) (i * 1)) 1 (xlC (cRw R) (i * 1))),false=false,false=false,k < xlN (cRw R) (i * 1),false=false,loadL Try.prog (xlC (cRw R) (i * 1)) (k * 1) 3=some (AV.v (Value.int IntKind.i64 (intAt (xlC (cRw R) (i * 1)) (k * 1)))),false=false,ltI 1 (intAt (xlC (cRw R) (i * 1)) (k * 1))=true]) [.go,.go,.go,.go,.b true,.go,.go,.go,.sym,.sym,.go,.sym,.sym,.go,.go,.b false,.go,.b false,.go,.b false,.go,.b false,.sym,.b false,.sym,.b false,.go,.b false,.sym,.b false,.sym,.b false,.go,.go,.b true,.go] (by kernel_rfl) (by kernel_rfl) ⟨hq1,(by omega),(by rw [Nat.mul_one]; exact cRw_load (by omega) 29 (Try.underlying29) rfl),hkx,(rw_load hi hkx 3 (Try.underlying3) rfl),hq2,rfl,rfl,rfl,(by omega),rfl,(by rw [Nat.mul_one]; exact cRw_load (by omega) 29 (Try.underlying29) rfl),rfl,rfl,hkx,rfl,(rw_load hi hkx 3 (Try.underlying3) rfl),rfl,hq3,trivial⟩ rfl))
   | false =>
    have ghq3:=ltI_false hq3
    refine .inl ⟨⟨k + 1,by omega,up_next hk2 (show seenAt (xlC (cRw R) (i * 1)) k by unfold seenAt; omega)⟩,(by show n.toNat - (k + 1) < n.toNat - k; omega),?_⟩
    exact goes_told Try.checked.mixed (known_none) 200 (e:=.normal) (ps:=[ltI (↑k) n=true,i < R.length,loadL Try.prog (cRw R) (i * 1) 29=some (AV.xl (xlY (cRw R) (i * 1)) (xlN (cRw R) (i * 1)) 1 (xlC (cRw R) (i * 1))),k < xlN (cRw R) (i * 1),loadL Try.prog (xlC (cRw R) (i * 1)) (k * 1) 3=some (AV.v (Value.int IntKind.i64 (intAt (xlC (cRw R) (i * 1)) (k * 1)))),ltI (intAt (xlC (cRw R) (i * 1)) (k * 1)) (-1)=false,false=false,false=false,false=false,i < R.length,false=false,loadL Try.prog (cRw R) (i * 1) 29=some (AV.xl (xlY (cRw R) (i * 1)) (xlN (cRw R) (i * 1)) 1 (xlC (cRw R) (i * 1))),false=false,false=false,k < xlN (cRw R) (i * 1),false=false,loadL Try.prog (xlC (cRw R) (i * 1)) (k * 1) 3=some (AV.v (Value.int IntKind.i64 (intAt (xlC (cRw R) (i * 1)) (k * 1)))),false=false,ltI 1 (intAt (xlC (cRw R) (i * 1)) (k * 1))=false,inR IntKind.i64 (↑k + 1)]) [.go,.go,.go,.go,.b true,.go,.go,.go,.sym,.sym,.go,.sym,.sym,.go,.go,.b false,.go,.b false,.go,.b false,.go,.b false,.sym,.b false,.sym,.b false,.go,.b false,.sym,.b false,.sym,.b false,.go,.go,.b false,.go,.go,.go] (by kernel_rfl) (by kernel_rfl) ⟨hq1,(by omega),(by rw [Nat.mul_one]; exact cRw_load (by omega) 29 (Try.underlying29) rfl),hkx,(rw_load hi hkx 3 (Try.underlying3) rfl),hq2,rfl,rfl,rfl,(by omega),rfl,(by rw [Nat.mul_one]; exact cRw_load (by omega) 29 (Try.underlying29) rfl),rfl,rfl,hkx,rfl,(rw_load hi hkx 3 (Try.underlying3) rfl),rfl,hq3,(iRL3 (by omega) (by omega)),trivial⟩ rfl
 | false =>
  have ghq1:=ltI_false hq1
  exact .inr (.inl ⟨(by show n.toNat≤k; omega),goes_told Try.checked.mixed (known_none) 200 (e:=.exit 4) (ps:=[ltI (↑k) n=false]) [.go,.go,.go,.go,.b false] (by kernel_rfl) (by kernel_rfl) ⟨hq1,trivial⟩ rfl⟩)
def rpC5:Code:=tlC rpC4
theorem rp_4 (n:Int) (y:Value) (R:List (Value×List Int)) (i0:Nat) (hm:R.length≤4) (hn:1≤n∧n≤39) (hl:∀ i,i < R.length→lenAt n (cRw R) i) (w:World) (hc:∀ i:UpI (seeAt (cRw R)) R.length,R.length≤i.1→Goes Try.prog 95 rpC5 (⟨[(1,.ptr 0 0),(4,.v (.int .i64 (((i.1:Nat):Int))))],[],1,[(qL3_7 R n y)]⟩) w (qL3_6 R n w)):Goes Try.prog 95 rpC4 (⟨[(1,.ptr 0 0),(3,.v (.int .i64 (((i0:Nat):Int))))],[],1,[(qL3_7 R n y)]⟩) w (qL3_6 R n w):=by
 refine goes_spineQ (ι:=UpI (seeAt (cRw R)) R.length) (T:=fun i=>⟨[(1,.ptr 0 0),(4,.v (.int .i64 (((i.1:Nat):Int))))],[],1,[(qL3_7 R n y)]⟩) (R:=fun i=>R.length≤i.1) (by kernel_rfl)
  (goes_spine (T':=⟨[(1,.ptr 0 0),(4,.v (.int .i64 (((0:Nat):Int))))],[],1,[(qL3_7 R n y)]⟩) (by kernel_rfl) (goes_told Try.checked.mixed (known_none) 200 (e:=.normal) (ps:=[]) [.go] (by kernel_rfl) (by kernel_rfl) trivial rfl)
   (goes_blockstep (by kernel_rfl) (fun i:UpI (seeAt (cRw R)) R.length=>⟨[(1,.ptr 0 0),(4,.v (.int .i64 (((i.1:Nat):Int))))],[],1,[(qL3_7 R n y)]⟩) (fun i=>R.length - i.1) (fun i=>?_) ⟨0,Nat.zero_le _,fun j hj=>by omega⟩)) hc
 obtain ⟨i,hi1,hi2⟩:=i
 show Goes Try.prog 95 (loopC (tlC (hdC rpC4))) ((qL3_4 R i n y)) w _
 cases hq1:(ltI (i:Int) (R.length:Int)) with
 | true =>
  have ghq1:=ltI_true hq1
  have hi:i < R.length:=by omega
  refine goes_spine (T':=(qL3_4 R i n y)) (by kernel_rfl) (goes_told Try.checked.mixed (known_none) 200 (e:=.normal) (ps:=[ltI (i:Int) (R.length:Int)=true]) [.go,.go,.go,.go,.go,.b true] (by kernel_rfl) (by kernel_rfl) ⟨hq1,trivial⟩ rfl) ?_
  refine step_spine (κ:=UpI (seenAt (xlC (cRw R) (i * 1))) n.toNat) (S:=fun k=>⟨[(1,.ptr 0 0),(qL3_9 i),(5,.v (.int .i64 (((k.1:Nat):Int))))],[],1,[(qL3_7 R n y)]⟩) (RS:=fun k=>n.toNat≤k.1) (by kernel_rfl) (goes_blkQ (by kernel_rfl) (rp_4in n y R i hm hn hl hi w)) (fun k hk=>?_)
  exact step_on ⟨i + 1,by omega,up_next hi2 (show seeAt (cRw R) i from okS_all.2 (fun j hj=>k.2.2 j (by have hq:=hl i hi; unfold lenAt at hq; omega)))⟩ (by show R.length - (i + 1) < R.length - i; omega) (goes_told Try.checked.mixed (known_none) 200 (e:=.normal) (ps:=[inR IntKind.i64 ((i:Int) + 1)]) [.go,.go,.go] (by kernel_rfl) (by kernel_rfl) ⟨(iRL3 (by omega) (by omega)),trivial⟩ rfl)
 | false =>
  have ghq1:=ltI_false hq1
  exact step_out (by show R.length≤i; omega) (goes_told Try.checked.mixed (known_none) 200 (e:=.exit 2) (ps:=[ltI (i:Int) (R.length:Int)=false]) [.go,.go,.go,.go,.go,.b false] (by kernel_rfl) (by kernel_rfl) ⟨hq1,trivial⟩ rfl)
theorem rp_5in (n:Int) (y:Value) (R:List (Value×List Int)) (i:Nat) (hm:R.length≤4) (hn:1≤n∧n≤39) (hl:∀ i,i < R.length→lenAt n (cRw R) i) (hs:∀ i,i < R.length→seeAt (cRw R) i) (hi:i < R.length) (w:World):Goes Try.prog 95 (hdC (tlC (blkB (hdC (tlC (loopC (tlC (hdC rpC5)))))))) ((qL3_1 R i n y)) w (LandQ 95 (fun k:CnI n.toNat=>⟨[(1,.ptr 0 0),(qL3_8 i),(7,.v (.int .i64 ((sumI (xlC (cRw R) (i * 1)) k.1)))),(8,.v (.int .i64 (((k.1:Nat):Int))))],[],1,[(qL3_7 R n y)]⟩) (fun k=>n.toNat≤k.1) w (qL3_6 R n w)):=by
 refine goes_spine (T':=⟨[(1,.ptr 0 0),(qL3_8 i),(7,.v (.int .i64 ((sumI (xlC (cRw R) (i * 1)) 0)))),(8,.v (.int .i64 (((0:Nat):Int))))],[],1,[(qL3_7 R n y)]⟩) (by kernel_rfl) (goes_told Try.checked.mixed (known_none) 200 (e:=.normal) (ps:=[]) [.go] (by kernel_rfl) (by kernel_rfl) trivial rfl) (goes_blockloop (by kernel_rfl) (fun k:CnI n.toNat=>⟨[(1,.ptr 0 0),(qL3_8 i),(7,.v (.int .i64 ((sumI (xlC (cRw R) (i * 1)) k.1)))),(8,.v (.int .i64 (((k.1:Nat):Int))))],[],1,[(qL3_7 R n y)]⟩) (fun k=>n.toNat - k.1) (R:=fun k=>n.toNat≤k.1) (fun k=>?_) ⟨0,Nat.zero_le _⟩)
 obtain ⟨k,hk1⟩:=k
 show (∃ j:CnI n.toNat,n.toNat - j.1 < n.toNat - k∧Goes Try.prog 95 (loopC (tlC (hdC (tlC (blkB (hdC (tlC (loopC (tlC (hdC rpC5)))))))))) (⟨[(1,.ptr 0 0),(qL3_8 i),(7,.v (.int .i64 ((sumI (xlC (cRw R) (i * 1)) k)))),(8,.v (.int .i64 (((k:Nat):Int))))],[],1,[(qL3_7 R n y)]⟩) w (Land 95 isN (⟨[(1,.ptr 0 0),(qL3_8 i),(7,.v (.int .i64 ((sumI (xlC (cRw R) (i * 1)) j.1)))),(8,.v (.int .i64 (((j.1:Nat):Int))))],[],1,[(qL3_7 R n y)]⟩) w))∨(n.toNat≤k∧Goes Try.prog 95 (loopC (tlC (hdC (tlC (blkB (hdC (tlC (loopC (tlC (hdC rpC5)))))))))) (⟨[(1,.ptr 0 0),(qL3_8 i),(7,.v (.int .i64 ((sumI (xlC (cRw R) (i * 1)) k)))),(8,.v (.int .i64 (((k:Nat):Int))))],[],1,[(qL3_7 R n y)]⟩) w (Land 95 (isX 8) (⟨[(1,.ptr 0 0),(qL3_8 i),(7,.v (.int .i64 ((sumI (xlC (cRw R) (i * 1)) k)))),(8,.v (.int .i64 (((k:Nat):Int))))],[],1,[(qL3_7 R n y)]⟩) w))∨Goes Try.prog 95 (loopC (tlC (hdC (tlC (blkB (hdC (tlC (loopC (tlC (hdC rpC5)))))))))) (⟨[(1,.ptr 0 0),(qL3_8 i),(7,.v (.int .i64 ((sumI (xlC (cRw R) (i * 1)) k)))),(8,.v (.int .i64 (((k:Nat):Int))))],[],1,[(qL3_7 R n y)]⟩) w (fun e a w'=>e = .ret∧(qL3_6 R n w) .ret a w')
 cases hq1:(ltI (↑k) n) with
 | true =>
  have ghq1:=ltI_true hq1
  have hkx:k < xlN (cRw R) (i * 1):=by have hq:=hl i hi; unfold lenAt at hq; omega
  have hz:=sum_in (okS_all.1 (hs i hi)) hkx
  unfold seenAt at hz
  refine .inl ⟨⟨k + 1,by omega⟩,(by show n.toNat - (k + 1) < n.toNat - k; omega),?_⟩
  exact goes_told Try.checked.mixed (known_none) 200 (e:=.normal) (ps:=[ltI (↑k) n=true,i < R.length,loadL Try.prog (cRw R) (i * 1) 29=some (AV.xl (xlY (cRw R) (i * 1)) (xlN (cRw R) (i * 1)) 1 (xlC (cRw R) (i * 1))),k < xlN (cRw R) (i * 1),loadL Try.prog (xlC (cRw R) (i * 1)) (k * 1) 3=some (AV.v (Value.int IntKind.i64 (intAt (xlC (cRw R) (i * 1)) (k * 1)))),inR IntKind.i64 (sumI (xlC (cRw R) (i * 1)) k + intAt (xlC (cRw R) (i * 1)) (k * 1)),inR IntKind.i64 (↑k + 1)]) [.go,.go,.go,.go,.b true,.go,.go,.go,.go,.sym,.sym,.go,.sym,.sym,.go,.go,.go,.go,.go] (by kernel_rfl) (by kernel_rfl) ⟨hq1,(by omega),(by rw [Nat.mul_one]; exact cRw_load (by omega) 29 (Try.underlying29) rfl),hkx,(rw_load hi hkx 3 (Try.underlying3) rfl),(iRL3 (by omega) (by omega)),(iRL3 (by omega) (by omega)),trivial⟩ rfl
 | false =>
  have ghq1:=ltI_false hq1
  exact .inr (.inl ⟨(by show n.toNat≤k; omega),goes_told Try.checked.mixed (known_none) 200 (e:=.exit 8) (ps:=[ltI (↑k) n=false]) [.go,.go,.go,.go,.b false] (by kernel_rfl) (by kernel_rfl) ⟨hq1,trivial⟩ rfl⟩)
theorem rp_5b (n:Int) (y:Value) (R:List (Value×List Int)) (i:Nat) (hm:R.length≤4) (hn:1≤n∧n≤39) (hl:∀ i,i < R.length→lenAt n (cRw R) i) (hs:∀ i,i < R.length→seeAt (cRw R) i) (hi:i < R.length) (w:World):Goes Try.prog 95 (blkB (hdC (tlC (loopC (tlC (hdC rpC5)))))) ((qL3_3 R i n y)) w (LandQ 95 (fun k:CnI n.toNat=>⟨[(1,.ptr 0 0),(qL3_8 i),(7,.v (.int .i64 ((sumI (xlC (cRw R) (i * 1)) k.1)))),(8,.v (.int .i64 (((k.1:Nat):Int))))],[],1,[(qL3_7 R n y)]⟩) (fun k=>balAt (cRw R) i) w (OutR Try.prog Try.f19 95 (.int .i64 (plE n (cRw R) R.length)) w)):=by
 refine goes_spine (T':=(qL3_1 R i n y)) (by kernel_rfl) (goes_told Try.checked.mixed (known_none) 200 (e:=.normal) (ps:=[]) [.go] (by kernel_rfl) (by kernel_rfl) trivial rfl) ?_
 refine goes_spineQ (ι:=CnI n.toNat) (T:=fun k=>⟨[(1,.ptr 0 0),(qL3_8 i),(7,.v (.int .i64 ((sumI (xlC (cRw R) (i * 1)) k.1)))),(8,.v (.int .i64 (((k.1:Nat):Int))))],[],1,[(qL3_7 R n y)]⟩) (R:=fun k=>n.toNat≤k.1) (by kernel_rfl) (goes_mono (rp_5in n y R i hm hn hl hs hi w) (fun e a w' hp=>?_)) (fun k hk=>?_)
 ·rcases hp with hp | ⟨rfl,hq⟩
  ·exact .inl hp
  ·exact .inr ⟨rfl,.inr ⟨rfl,hq⟩⟩
 ·obtain ⟨k,hk1⟩:=k
  have hkn:xlN (cRw R) (i * 1)=k:=by have hq:=hl i hi; unfold lenAt at hq; have hk':n.toNat≤k:=hk; omega
  show Goes Try.prog 95 (tlC (tlC (blkB (hdC (tlC (loopC (tlC (hdC rpC5)))))))) (⟨[(1,.ptr 0 0),(qL3_8 i),(7,.v (.int .i64 ((sumI (xlC (cRw R) (i * 1)) k)))),(8,.v (.int .i64 (((k:Nat):Int))))],[],1,[(qL3_7 R n y)]⟩) w _
  cases hq1:(eqI (sumI (xlC (cRw R) (i * 1)) k) 0) with
  | true=>exact goes_mono (goes_told Try.checked.mixed (known_none) 200 (T':=⟨[(1,.ptr 0 0),(qL3_8 i),(7,.v (.int .i64 ((sumI (xlC (cRw R) (i * 1)) k)))),(8,.v (.int .i64 (((k:Nat):Int))))],[],1,[(qL3_7 R n y)]⟩) (e:=.normal) (ps:=[(!eqI (sumI (xlC (cRw R) (i * 1)) k) 0)=false]) [.go,.go,.b false] (by kernel_rfl) (by kernel_rfl) ⟨(by rw [hq1]; rfl),trivial⟩ rfl) (fun e a w' ⟨h1,σ,h2⟩=>.inl ⟨isN_ok h1,⟨k,hk1⟩,(by show balAt (cRw R) i; unfold balAt; rw [hkn]; exact eqI_true hq1),σ,h2⟩)
  | false =>
   rw [plE_bal hm hn hl hs hi (by unfold balAt; rw [hkn]; exact eqI_false hq1)]
   exact goes_mono (goes_ret Try.checked.mixed (known_none) 200 (v:=.v (.int .i64 16)) (ps:=[(!eqI (sumI (xlC (cRw R) (i * 1)) k) 0)=true]) [.go,.go,.b true,.go] (by kernel_rfl) (by kernel_rfl) ⟨(by rw [hq1]; rfl),trivial⟩ rfl) (fun e a w' hp=>.inr hp)
def rpC6:Code:=tlC rpC5
theorem rp_5 (n:Int) (y:Value) (R:List (Value×List Int)) (i0:Nat) (hm:R.length≤4) (hn:1≤n∧n≤39) (hl:∀ i,i < R.length→lenAt n (cRw R) i) (hs:∀ i,i < R.length→seeAt (cRw R) i) (w:World) (hc:∀ i:UpI (balAt (cRw R)) R.length,R.length≤i.1→Goes Try.prog 95 rpC6 (⟨[(1,.ptr 0 0),(6,.v (.int .i64 (((i.1:Nat):Int))))],[],1,[(qL3_7 R n y)]⟩) w (qL3_6 R n w)):Goes Try.prog 95 rpC5 (⟨[(1,.ptr 0 0),(4,.v (.int .i64 (((i0:Nat):Int))))],[],1,[(qL3_7 R n y)]⟩) w (qL3_6 R n w):=by
 refine goes_spineQ (ι:=UpI (balAt (cRw R)) R.length) (T:=fun i=>⟨[(1,.ptr 0 0),(6,.v (.int .i64 (((i.1:Nat):Int))))],[],1,[(qL3_7 R n y)]⟩) (R:=fun i=>R.length≤i.1) (by kernel_rfl)
  (goes_spine (T':=⟨[(1,.ptr 0 0),(6,.v (.int .i64 (((0:Nat):Int))))],[],1,[(qL3_7 R n y)]⟩) (by kernel_rfl) (goes_told Try.checked.mixed (known_none) 200 (e:=.normal) (ps:=[]) [.go] (by kernel_rfl) (by kernel_rfl) trivial rfl)
   (goes_blockstep (by kernel_rfl) (fun i:UpI (balAt (cRw R)) R.length=>⟨[(1,.ptr 0 0),(6,.v (.int .i64 (((i.1:Nat):Int))))],[],1,[(qL3_7 R n y)]⟩) (fun i=>R.length - i.1) (fun i=>?_) ⟨0,Nat.zero_le _,fun j hj=>by omega⟩)) hc
 obtain ⟨i,hi1,hi2⟩:=i
 show Goes Try.prog 95 (loopC (tlC (hdC rpC5))) ((qL3_3 R i n y)) w _
 cases hq1:(ltI (i:Int) (R.length:Int)) with
 | true =>
  have ghq1:=ltI_true hq1
  have hi:i < R.length:=by omega
  refine goes_spine (T':=(qL3_3 R i n y)) (by kernel_rfl) (goes_told Try.checked.mixed (known_none) 200 (e:=.normal) (ps:=[ltI (i:Int) (R.length:Int)=true]) [.go,.go,.go,.go,.go,.b true] (by kernel_rfl) (by kernel_rfl) ⟨hq1,trivial⟩ rfl) ?_
  refine step_spine (κ:=CnI n.toNat) (S:=fun k=>⟨[(1,.ptr 0 0),(qL3_8 i),(7,.v (.int .i64 ((sumI (xlC (cRw R) (i * 1)) k.1)))),(8,.v (.int .i64 (((k.1:Nat):Int))))],[],1,[(qL3_7 R n y)]⟩) (RS:=fun k=>balAt (cRw R) i) (by kernel_rfl) (goes_blkQ (by kernel_rfl) (rp_5b n y R i hm hn hl hs hi w)) (fun k hk=>?_)
  exact step_on ⟨i + 1,by omega,up_next hi2 (show balAt (cRw R) i from hk)⟩ (by show R.length - (i + 1) < R.length - i; omega) (goes_told Try.checked.mixed (known_none) 200 (e:=.normal) (ps:=[inR IntKind.i64 ((i:Int) + 1)]) [.go,.go,.go] (by kernel_rfl) (by kernel_rfl) ⟨(iRL3 (by omega) (by omega)),trivial⟩ rfl)
 | false =>
  have ghq1:=ltI_false hq1
  exact step_out (by show R.length≤i; omega) (goes_told Try.checked.mixed (known_none) 200 (e:=.exit 6) (ps:=[ltI (i:Int) (R.length:Int)=false]) [.go,.go,.go,.go,.go,.b false] (by kernel_rfl) (by kernel_rfl) ⟨hq1,trivial⟩ rfl)
theorem rp_6 (n:Int) (y:Value) (R:List (Value×List Int)) (i0:Nat) (hm:R.length≤4) (hn:1≤n∧n≤39) (hl:∀ i,i < R.length→lenAt n (cRw R) i) (hs:∀ i,i < R.length→seeAt (cRw R) i) (hb:∀ i,i < R.length→balAt (cRw R) i) (w:World):Goes Try.prog 95 rpC6 (⟨[(1,.ptr 0 0),(6,.v (.int .i64 (((i0:Nat):Int))))],[],1,[(qL3_7 R n y)]⟩) w (OutR Try.prog Try.f19 95 (.int .i64 (plE n (cRw R) R.length)) w):=by
 rw [plE_ok hm hn hl hs hb]
 exact goes_out Try.checked.mixed (known_none) 200 (v:=(.v (.int .i64 (.ofNat 0)))) (ps:=[]) [.go] (by kernel_rfl) (by kernel_rfl) trivial rfl
theorem rp_g (n:Int) (y:Value) (R:List (Value×List Int)):GivesA Try.prog 19 [.agg [.v (.int .i64 n),.xl y R.length 1 (cRw R)]] (.int .i64 (plE n (cRw R) R.length)) :=
 givesA_parts 95 Try.func19 (by kernel_rfl) (by kernel_rfl) (by kernel_rfl) (fun w =>
  rp_0 n y R w (rp_1 n y R w (fun hm=>rp_2 n y R hm w (fun hn =>
   rp_3 n y R hm hn w (fun i hi =>
    (rp_4 n y R i.1 hm hn (fun j hj=>i.2.2 j (Nat.lt_of_lt_of_le hj hi)) w (fun i' hi' =>
     (rp_5 n y R i'.1 hm hn (fun j hj=>i.2.2 j (Nat.lt_of_lt_of_le hj hi)) (fun j hj=>i'.2.2 j (Nat.lt_of_lt_of_le hj hi')) w (fun i2 hi2 =>
      (rp_6 n y R i2.1 hm hn (fun j hj=>i.2.2 j (Nat.lt_of_lt_of_le hj hi)) (fun j hj=>i'.2.2 j (Nat.lt_of_lt_of_le hj hi')) (fun j hj=>i2.2.2 j (Nat.lt_of_lt_of_le hj hi2)) w))))))))))
end
end Go.Proofs.Ytmankoikpadkpaa
