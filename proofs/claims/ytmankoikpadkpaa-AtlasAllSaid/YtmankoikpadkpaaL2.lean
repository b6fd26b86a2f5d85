import Derived.Test.YtmankoikpadkpaaL1
import Derived.Test.YtmankoikpadkpaaFt
set_option maxHeartbeats 4000000
set_option linter.all false
/- Oracles of areSeen, isBalanced; the error of a plan. -/
namespace Go.Proofs.Ytmankoikpadkpaa
open Go Ev
noncomputable section
def asS:List Vw→Option (Res1×List Prop):=fun vs =>
 match vs with
 | [.lst n k c]=>some (.val (.v (.bool (okS c n))),[IsI k n c,n≤1000])
 | _=>none
def asO:OrcH:=avOrc 44 [1] asS
theorem known_as:Known Try.prog (clsO asO):=known_av (fun vs r ps h hp=>by
 unfold asS at h
 split at h
 ·cases h
  obtain ⟨⟨rfl,L,rfl,rfl⟩,hn,-⟩:=hp
  refine ⟨⟨⟨_,cI_plain L⟩,trivial⟩,fun ys hy=>?_⟩
  obtain ⟨y1,rfl⟩:=len1 hy
  exact ⟨_,rfl,as_g y1 L hn⟩
 ·cases h)
def ibS:List Vw→Option (Res1×List Prop):=fun vs =>
 match vs with
 | [.lst n k c]=>some (.val (.v (.bool (eqI (sumI c n) 0))),[IsI k n c,n≤1000,okS c n=true])
 | _=>none
def ibO:OrcH:=avOrc 45 [1] ibS
theorem known_ib:Known Try.prog (clsO ibO):=known_av (fun vs r ps h hp=>by
 unfold ibS at h
 split at h
 ·cases h
  obtain ⟨⟨rfl,L,rfl,rfl⟩,hn,hS,-⟩:=hp
  refine ⟨⟨⟨_,cI_plain L⟩,trivial⟩,fun ys hy=>?_⟩
  obtain ⟨y1,rfl⟩:=len1 hy
  exact ⟨_,rfl,ib_g y1 L hn (okS_all.1 hS)⟩
 ·cases h)
def pcO:OrcH:=orO asO ibO
theorem known_pc:Known Try.prog (clsO pcO):=known_or known_as known_ib
def lenAt (n:Int) (c:List AV) (i:Nat):Prop:=((xlN c (i * 1):Nat):Int)=n
def seeAt (c:List AV) (i:Nat):Prop:=okS (xlC c (i * 1)) (xlN c (i * 1))=true
def balAt (c:List AV) (i:Nat):Prop:=sumI (xlC c (i * 1)) (xlN c (i * 1))=0
open Classical in
def plE (n:Int) (c:List AV) (m:Nat):Int :=
 if m≤4 then (if 1≤n∧n≤39 then (if ∀ i,i < m→lenAt n c i then (if ∀ i,i < m→seeAt c i then (if ∀ i,i < m→balAt c i then 0 else 16) else 3) else 15) else 2) else 6
section
variable {n : Int} {c : List AV} {m i : Nat}
theorem plE_many (h:¬ m≤4):plE n c m=6:=if_neg h
theorem plE_arg (h:m≤4) (h2:¬ (1≤n∧n≤39)):plE n c m=2:=by unfold plE; rw [if_pos h,if_neg h2]
theorem plE_len (h:m≤4) (h2:1≤n∧n≤39) (hi:i < m) (h3:¬ lenAt n c i):plE n c m=15:=by unfold plE; rw [if_pos h,if_pos h2,if_neg (fun k=>h3 (k i hi))]
theorem plE_see (h:m≤4) (h2:1≤n∧n≤39) (h3:∀ i,i < m→lenAt n c i) (hi:i < m) (h4:¬ seeAt c i):plE n c m=3:=by unfold plE; rw [if_pos h,if_pos h2,if_pos h3,if_neg (fun k=>h4 (k i hi))]
theorem plE_bal (h:m≤4) (h2:1≤n∧n≤39) (h3:∀ i,i < m→lenAt n c i) (h4:∀ i,i < m→seeAt c i) (hi:i < m) (h5:¬ balAt c i):plE n c m=16:=by unfold plE; rw [if_pos h,if_pos h2,if_pos h3,if_pos h4,if_neg (fun k=>h5 (k i hi))]
theorem plE_ok (h:m≤4) (h2:1≤n∧n≤39) (h3:∀ i,i < m→lenAt n c i) (h4:∀ i,i < m→seeAt c i) (h5:∀ i,i < m→balAt c i):plE n c m=0:=by unfold plE; rw [if_pos h,if_pos h2,if_pos h3,if_pos h4,if_pos h5]
theorem plE_zero (h:plE n c m=0):m≤4∧(1≤n∧n≤39)∧(∀ i,i < m→lenAt n c i)∧(∀ i,i < m→seeAt c i)∧(∀ i,i < m→balAt c i):=by
 unfold plE at h
 split at h
 ·split at h
  ·split at h
   ·split at h
    ·split at h
     ·exact ⟨‹_›,‹_›,‹_›,‹_›,‹_›⟩
     ·omega
    ·omega
   ·omega
  ·omega
 ·omega
end
theorem cRw_isI {R:List (Value×List Int)} {i:Nat} (h:i < R.length):IsI 1 (xlN (cRw R) (i * 1)) (xlC (cRw R) (i * 1)):=by
 rw [Nat.mul_one]
 exact ⟨rfl,rwL R i,cRw_c h,cRw_n h⟩
def plC0:Code:=bodyC Try.f18
def plC1:Code:=tlC plC0
theorem pl_0 (n:Int) (y:Value) (R:List (Value×List Int)) (w:World) (hc:Goes Try.prog 52 plC1 (⟨[(1,.ptr 0 0)],[],1,[(0,.cells [.v (.int .i64 n),.xl y R.length 1 (cRw R)] 24)]⟩) w (OutR Try.prog Try.f18 52 (.int .i64 (plE n (cRw R) R.length)) w)):Goes Try.prog 52 plC0 (argLit [.agg [.v (.int .i64 n),.xl y R.length 1 (cRw R)]]) w (OutR Try.prog Try.f18 52 (.int .i64 (plE n (cRw R) R.length)) w):=by
 exact goes_spine (T':=⟨[(1,.ptr 0 0)],[],1,[(0,.cells [.v (.int .i64 n),.xl y R.length 1 (cRw R)] 24)]⟩) (by kernel_rfl) (goes_told Try.checked.mixed (known_pc) 200 (e:=.normal) (ps:=[]) [.go,.go] (by kernel_rfl) (by kernel_rfl) trivial rfl) (hc)
def plC2:Code:=tlC plC1
theorem pl_1 (n:Int) (y:Value) (R:List (Value×List Int)) (w:World) (hc:R.length≤4→Goes Try.prog 52 plC2 (⟨[(1,.ptr 0 0)],[],1,[(0,.cells [.v (.int .i64 n),.xl y R.length 1 (cRw R)] 24)]⟩) w (OutR Try.prog Try.f18 52 (.int .i64 (plE n (cRw R) R.length)) w)):Goes Try.prog 52 plC1 (⟨[(1,.ptr 0 0)],[],1,[(0,.cells [.v (.int .i64 n),.xl y R.length 1 (cRw R)] 24)]⟩) w (OutR Try.prog Try.f18 52 (.int .i64 (plE n (cRw R) R.length)) w):=by
 cases hq1:(ltI 4 ↑R.length) with
 | true =>
  have ghq1:=ltI_true hq1
  rw [plE_many (by omega)]
  exact goes_out Try.checked.mixed (known_pc) 200 (v:=(.v (.int .i64 (.ofNat 6)))) (ps:=[ltI 4 ↑R.length=true]) [.go,.go,.go,.go,.b true,.go] (by kernel_rfl) (by kernel_rfl) ⟨hq1,trivial⟩ rfl
 | false =>
  have ghq1:=ltI_false hq1
  exact goes_spine (T':=⟨[(1,.ptr 0 0)],[],1,[(0,.cells [.v (.int .i64 n),.xl y R.length 1 (cRw R)] 24)]⟩) (by kernel_rfl) (goes_told Try.checked.mixed (known_pc) 200 (e:=.normal) (ps:=[ltI 4 ↑R.length=false]) [.go,.go,.go,.go,.b false] (by kernel_rfl) (by kernel_rfl) ⟨hq1,trivial⟩ rfl) (hc (by omega))
def plC3:Code:=tlC plC2
theorem pl_2 (n:Int) (y:Value) (R:List (Value×List Int)) (hm:R.length≤4) (w:World) (hc:(1≤n∧n≤39)→Goes Try.prog 52 plC3 (⟨[(1,.ptr 0 0)],[],1,[(0,.cells [.v (.int .i64 n),.xl y R.length 1 (cRw R)] 24)]⟩) w (OutR Try.prog Try.f18 52 (.int .i64 (plE n (cRw R) R.length)) w)):Goes Try.prog 52 plC2 (⟨[(1,.ptr 0 0)],[],1,[(0,.cells [.v (.int .i64 n),.xl y R.length 1 (cRw R)] 24)]⟩) w (OutR Try.prog Try.f18 52 (.int .i64 (plE n (cRw R) R.length)) w):=by
 cases hq1:(ltI n 1) with
 | true =>
  have ghq1:=ltI_true hq1
  rw [plE_arg hm (by omega)]
  exact goes_out Try.checked.mixed (known_pc) 200 (v:=(.v (.int .i64 (.ofNat 2)))) (ps:=[(!ltI n 1)=false,false=false,false=false,(!false)=true]) [.go,.go,.go,.go,.go,.go,.go,.b false,.b false,.b false,.go,.go,.go,.b true,.go] (by kernel_rfl) (by kernel_rfl) ⟨(by rw [hq1]; rfl),rfl,rfl,rfl,trivial⟩ rfl
 | false =>
  have ghq1:=ltI_false hq1
  cases hq2:(ltI 39 n) with
  | true =>
   have ghq2:=ltI_true hq2
   rw [plE_arg hm (by omega)]
   exact goes_out Try.checked.mixed (known_pc) 200 (v:=(.v (.int .i64 (.ofNat 2)))) (ps:=[(!ltI n 1)=true,true=true,true=true,(!!ltI 39 n)=true]) [.go,.go,.go,.go,.go,.go,.go,.b true,.go,.b true,.go,.b true,.go,.go,.go,.go,.b true,.go] (by kernel_rfl) (by kernel_rfl) ⟨(by rw [hq1]; rfl),rfl,rfl,(by rw [hq2]; rfl),trivial⟩ rfl
  | false =>
   have ghq2:=ltI_false hq2
   exact goes_spine (T':=⟨[(1,.ptr 0 0)],[],1,[(0,.cells [.v (.int .i64 n),.xl y R.length 1 (cRw R)] 24)]⟩) (by kernel_rfl) (goes_told Try.checked.mixed (known_pc) 200 (e:=.normal) (ps:=[(!ltI n 1)=true,true=true,true=true,(!!ltI 39 n)=false]) [.go,.go,.go,.go,.go,.go,.go,.b true,.go,.b true,.go,.b true,.go,.go,.go,.go,.b false] (by kernel_rfl) (by kernel_rfl) ⟨(by rw [hq1]; rfl),rfl,rfl,(by rw [hq2]; rfl),trivial⟩ rfl) (hc (by omega))
def plC4:Code:=tlC plC3
theorem pl_3 (n:Int) (y:Value) (R:List (Value×List Int)) (hm:R.length≤4) (hn:1≤n∧n≤39) (w:World) (hc:∀ i:UpI (lenAt n (cRw R)) R.length,R.length≤i.1→Goes Try.prog 52 plC4 (⟨[(1,.ptr 0 0),(18,.xl y R.length 1 (cRw R)),(19,.v (.int .i64 R.length)),(20,.v (.int .i64 (i.1:Nat)))],[],1,[(0,.cells [.v (.int .i64 n),.xl y R.length 1 (cRw R)] 24)]⟩) w (OutR Try.prog Try.f18 52 (.int .i64 (plE n (cRw R) R.length)) w)):Goes Try.prog 52 plC3 (⟨[(1,.ptr 0 0)],[],1,[(0,.cells [.v (.int .i64 n),.xl y R.length 1 (cRw R)] 24)]⟩) w (OutR Try.prog Try.f18 52 (.int .i64 (plE n (cRw R) R.length)) w):=by
 refine goes_spineQ (ι:=UpI (lenAt n (cRw R)) R.length) (T:=fun i=>⟨[(1,.ptr 0 0),(18,.xl y R.length 1 (cRw R)),(19,.v (.int .i64 R.length)),(20,.v (.int .i64 (i.1:Nat)))],[],1,[(0,.cells [.v (.int .i64 n),.xl y R.length 1 (cRw R)] 24)]⟩) (R:=fun i=>R.length≤i.1) (by kernel_rfl)
  (goes_spine (T':=⟨[(1,.ptr 0 0),(18,.xl y R.length 1 (cRw R)),(19,.v (.int .i64 R.length)),(20,.v (.int .i64 (0:Nat)))],[],1,[(0,.cells [.v (.int .i64 n),.xl y R.length 1 (cRw R)] 24)]⟩) (by kernel_rfl) (goes_told Try.checked.mixed (known_pc) 200 (e:=.normal) (ps:=[]) [.go,.go,.go,.go] (by kernel_rfl) (by kernel_rfl) trivial rfl)
   (goes_blockloop (by kernel_rfl) (fun i:UpI (lenAt n (cRw R)) R.length=>⟨[(1,.ptr 0 0),(18,.xl y R.length 1 (cRw R)),(19,.v (.int .i64 R.length)),(20,.v (.int .i64 (i.1:Nat)))],[],1,[(0,.cells [.v (.int .i64 n),.xl y R.length 1 (cRw R)] 24)]⟩) (fun i=>R.length - i.1) (fun i=>?_) ⟨0,Nat.zero_le _,fun j hj=>by omega⟩)) hc
 obtain ⟨i,hi1,hi2⟩:=i
 show (∃ j:UpI (lenAt n (cRw R)) R.length,R.length - j.1 < R.length - i∧Goes Try.prog 52 (loopC (tlC (hdC plC3))) (⟨[(1,.ptr 0 0),(18,.xl y R.length 1 (cRw R)),(19,.v (.int .i64 R.length)),(20,.v (.int .i64 (i:Nat)))],[],1,[(0,.cells [.v (.int .i64 n),.xl y R.length 1 (cRw R)] 24)]⟩) w (Land 52 isN (⟨[(1,.ptr 0 0),(18,.xl y R.length 1 (cRw R)),(19,.v (.int .i64 R.length)),(20,.v (.int .i64 (j.1:Nat)))],[],1,[(0,.cells [.v (.int .i64 n),.xl y R.length 1 (cRw R)] 24)]⟩) w))∨(R.length≤i∧Goes Try.prog 52 (loopC (tlC (hdC plC3))) (⟨[(1,.ptr 0 0),(18,.xl y R.length 1 (cRw R)),(19,.v (.int .i64 R.length)),(20,.v (.int .i64 (i:Nat)))],[],1,[(0,.cells [.v (.int .i64 n),.xl y R.length 1 (cRw R)] 24)]⟩) w (Land 52 (isX 0) (⟨[(1,.ptr 0 0),(18,.xl y R.length 1 (cRw R)),(19,.v (.int .i64 R.length)),(20,.v (.int .i64 (i:Nat)))],[],1,[(0,.cells [.v (.int .i64 n),.xl y R.length 1 (cRw R)] 24)]⟩) w))∨Goes Try.prog 52 (loopC (tlC (hdC plC3))) (⟨[(1,.ptr 0 0),(18,.xl y R.length 1 (cRw R)),(19,.v (.int .i64 R.length)),(20,.v (.int .i64 (i:Nat)))],[],1,[(0,.cells [.v (.int .i64 n),.xl y R.length 1 (cRw R)] 24)]⟩) w (fun e a w'=>e = .ret∧(OutR Try.prog Try.f18 52 (.int .i64 (plE n (cRw R) R.length)) w) .ret a w')
 have hcl:=cRw_len R
 cases hq1:(ltI ↑i ↑R.length) with
 | true =>
  have ghq1:=ltI_true hq1
  cases hq2:(eqI (↑(xlN (cRw R) (i * 1))) n) with
  | true =>
   have ghq2:=eqI_true hq2
   refine .inl ⟨⟨i + 1,by omega,up_next hi2 (show lenAt n (cRw R) i by unfold lenAt; omega)⟩,(by show R.length - (i + 1) < R.length - i; omega),?_⟩
   exact goes_told Try.checked.mixed (known_pc) 200 (e:=.normal) (ps:=[ltI ↑i ↑R.length=true,i < R.length,loadL Try.prog (cRw R) (i * 1) 29=some (AV.xl (xlY (cRw R) (i * 1)) (xlN (cRw R) (i * 1)) 1 (xlC (cRw R) (i * 1))),(!eqI (↑(xlN (cRw R) (i * 1))) n)=false,inR IntKind.i64 (↑i + 1)]) [.go,.b true,.sym,.sym,.go,.go,.go,.go,.go,.go,.b false,.go,.go] (by kernel_rfl) (by kernel_rfl) ⟨hq1,(by omega),(by rw [Nat.mul_one]; exact cRw_load (by omega) 29 (Try.underlying29) rfl),(by rw [hq2]; rfl),(by show -9223372036854775808≤_∧_≤9223372036854775807; constructor <;> omega),trivial⟩ rfl
  | false =>
   have ghq2:=eqI_false hq2
   rw [plE_len hm hn (show i < R.length by omega) (by unfold lenAt; omega)]
   exact .inr (.inr (goes_ret Try.checked.mixed (known_pc) 200 (v:=(.v (.int .i64 (.ofNat 15)))) (ps:=[ltI ↑i ↑R.length=true,i < R.length,loadL Try.prog (cRw R) (i * 1) 29=some (AV.xl (xlY (cRw R) (i * 1)) (xlN (cRw R) (i * 1)) 1 (xlC (cRw R) (i * 1))),(!eqI (↑(xlN (cRw R) (i * 1))) n)=true]) [.go,.b true,.sym,.sym,.go,.go,.go,.go,.go,.go,.b true,.go] (by kernel_rfl) (by kernel_rfl) ⟨hq1,(by omega),(by rw [Nat.mul_one]; exact cRw_load (by omega) 29 (Try.underlying29) rfl),(by rw [hq2]; rfl),trivial⟩ rfl))
 | false =>
  have ghq1:=ltI_false hq1
  exact .inr (.inl ⟨(by show R.length≤i; omega),goes_told Try.checked.mixed (known_pc) 200 (e:=.exit 0) (ps:=[ltI ↑i ↑R.length=false]) [.go,.b false] (by kernel_rfl) (by kernel_rfl) ⟨hq1,trivial⟩ rfl⟩)
def plC5:Code:=tlC plC4
theorem pl_4 (n:Int) (y:Value) (R:List (Value×List Int)) (i0:Nat) (hm:R.length≤4) (hn:1≤n∧n≤39) (hl:∀ i,i < R.length→lenAt n (cRw R) i) (w:World) (hc:∀ i:UpI (seeAt (cRw R)) R.length,R.length≤i.1→Goes Try.prog 52 plC5 (⟨[(1,.ptr 0 0),(31,.xl y R.length 1 (cRw R)),(32,.v (.int .i64 R.length)),(33,.v (.int .i64 (i.1:Nat)))],[],1,[(0,.cells [.v (.int .i64 n),.xl y R.length 1 (cRw R)] 24)]⟩) w (OutR Try.prog Try.f18 52 (.int .i64 (plE n (cRw R) R.length)) w)):Goes Try.prog 52 plC4 (⟨[(1,.ptr 0 0),(18,.xl y R.length 1 (cRw R)),(19,.v (.int .i64 R.length)),(20,.v (.int .i64 (i0:Nat)))],[],1,[(0,.cells [.v (.int .i64 n),.xl y R.length 1 (cRw R)] 24)]⟩) w (OutR Try.prog Try.f18 52 (.int .i64 (plE n (cRw R) R.length)) w):=by
 refine goes_spineQ (ι:=UpI (seeAt (cRw R)) R.length) (T:=fun i=>⟨[(1,.ptr 0 0),(31,.xl y R.length 1 (cRw R)),(32,.v (.int .i64 R.length)),(33,.v (.int .i64 (i.1:Nat)))],[],1,[(0,.cells [.v (.int .i64 n),.xl y R.length 1 (cRw R)] 24)]⟩) (R:=fun i=>R.length≤i.1) (by kernel_rfl)
  (goes_spine (T':=⟨[(1,.ptr 0 0),(31,.xl y R.length 1 (cRw R)),(32,.v (.int .i64 R.length)),(33,.v (.int .i64 (0:Nat)))],[],1,[(0,.cells [.v (.int .i64 n),.xl y R.length 1 (cRw R)] 24)]⟩) (by kernel_rfl) (goes_told Try.checked.mixed (known_pc) 200 (e:=.normal) (ps:=[]) [.go,.go,.go,.go] (by kernel_rfl) (by kernel_rfl) trivial rfl)
   (goes_blockloop (by kernel_rfl) (fun i:UpI (seeAt (cRw R)) R.length=>⟨[(1,.ptr 0 0),(31,.xl y R.length 1 (cRw R)),(32,.v (.int .i64 R.length)),(33,.v (.int .i64 (i.1:Nat)))],[],1,[(0,.cells [.v (.int .i64 n),.xl y R.length 1 (cRw R)] 24)]⟩) (fun i=>R.length - i.1) (fun i=>?_) ⟨0,Nat.zero_le _,fun j hj=>by omega⟩)) hc
 obtain ⟨i,hi1,hi2⟩:=i
 show (∃ j:UpI (seeAt (cRw R)) R.length,R.length - j.1 < R.length - i∧Goes Try.prog 52 (loopC (tlC (hdC plC4))) (⟨[(1,.ptr 0 0),(31,.xl y R.length 1 (cRw R)),(32,.v (.int .i64 R.length)),(33,.v (.int .i64 (i:Nat)))],[],1,[(0,.cells [.v (.int .i64 n),.xl y R.length 1 (cRw R)] 24)]⟩) w (Land 52 isN (⟨[(1,.ptr 0 0),(31,.xl y R.length 1 (cRw R)),(32,.v (.int .i64 R.length)),(33,.v (.int .i64 (j.1:Nat)))],[],1,[(0,.cells [.v (.int .i64 n),.xl y R.length 1 (cRw R)] 24)]⟩) w))∨(R.length≤i∧Goes Try.prog 52 (loopC (tlC (hdC plC4))) (⟨[(1,.ptr 0 0),(31,.xl y R.length 1 (cRw R)),(32,.v (.int .i64 R.length)),(33,.v (.int .i64 (i:Nat)))],[],1,[(0,.cells [.v (.int .i64 n),.xl y R.length 1 (cRw R)] 24)]⟩) w (Land 52 (isX 2) (⟨[(1,.ptr 0 0),(31,.xl y R.length 1 (cRw R)),(32,.v (.int .i64 R.length)),(33,.v (.int .i64 (i:Nat)))],[],1,[(0,.cells [.v (.int .i64 n),.xl y R.length 1 (cRw R)] 24)]⟩) w))∨Goes Try.prog 52 (loopC (tlC (hdC plC4))) (⟨[(1,.ptr 0 0),(31,.xl y R.length 1 (cRw R)),(32,.v (.int .i64 R.length)),(33,.v (.int .i64 (i:Nat)))],[],1,[(0,.cells [.v (.int .i64 n),.xl y R.length 1 (cRw R)] 24)]⟩) w (fun e a w'=>e = .ret∧(OutR Try.prog Try.f18 52 (.int .i64 (plE n (cRw R) R.length)) w) .ret a w')
 have hcl:=cRw_len R
 cases hq1:(ltI ↑i ↑R.length) with
 | true =>
  have ghq1:=ltI_true hq1
  cases hq2:(okS (xlC (cRw R) (i * 1)) (xlN (cRw R) (i * 1))) with
  | true =>
   refine .inl ⟨⟨i + 1,by omega,up_next hi2 (show seeAt (cRw R) i by unfold seeAt; assumption)⟩,(by show R.length - (i + 1) < R.length - i; omega),?_⟩
   exact goes_told Try.checked.mixed (known_pc) 200 (e:=.normal) (ps:=[ltI ↑i ↑R.length=true,i < R.length,loadL Try.prog (cRw R) (i * 1) 29=some (AV.xl (xlY (cRw R) (i * 1)) (xlN (cRw R) (i * 1)) 1 (xlC (cRw R) (i * 1))),IsI (0 + 1) (xlN (cRw R) (i * 1)) (xlC (cRw R) (i * 1)),xlN (cRw R) (i * 1)≤1000,(!okS (xlC (cRw R) (i * 1)) (xlN (cRw R) (i * 1)))=false,inR IntKind.i64 (↑i + 1)]) [.go,.b true,.sym,.sym,.go,.go,.go,.b false,.go,.go] (by kernel_rfl) (by kernel_rfl) ⟨hq1,(by omega),(by rw [Nat.mul_one]; exact cRw_load (by omega) 29 (Try.underlying29) rfl),(cRw_isI (by omega)),(by have hq:=hl i (by omega); unfold lenAt at hq; omega),(by rw [hq2]; rfl),(by show -9223372036854775808≤_∧_≤9223372036854775807; constructor <;> omega),trivial⟩ rfl
  | false =>
   rw [plE_see hm hn hl (show i < R.length by omega) (by unfold seeAt; simp only [*]; decide)]
   exact .inr (.inr (goes_ret Try.checked.mixed (known_pc) 200 (v:=(.v (.int .i64 (.ofNat 3)))) (ps:=[ltI ↑i ↑R.length=true,i < R.length,loadL Try.prog (cRw R) (i * 1) 29=some (AV.xl (xlY (cRw R) (i * 1)) (xlN (cRw R) (i * 1)) 1 (xlC (cRw R) (i * 1))),IsI (0 + 1) (xlN (cRw R) (i * 1)) (xlC (cRw R) (i * 1)),xlN (cRw R) (i * 1)≤1000,(!okS (xlC (cRw R) (i * 1)) (xlN (cRw R) (i * 1)))=true]) [.go,.b true,.sym,.sym,.go,.go,.go,.b true,.go] (by kernel_rfl) (by kernel_rfl) ⟨hq1,(by omega),(by rw [Nat.mul_one]; exact cRw_load (by omega) 29 (Try.underlying29) rfl),(cRw_isI (by omega)),(by have hq:=hl i (by omega); unfold lenAt at hq; omega),(by rw [hq2]; rfl),trivial⟩ rfl))
 | false =>
  have ghq1:=ltI_false hq1
  exact .inr (.inl ⟨(by show R.length≤i; omega),goes_told Try.checked.mixed (known_pc) 200 (e:=.exit 2) (ps:=[ltI ↑i ↑R.length=false]) [.go,.b false] (by kernel_rfl) (by kernel_rfl) ⟨hq1,trivial⟩ rfl⟩)
def plC6:Code:=tlC plC5
theorem pl_5 (n:Int) (y:Value) (R:List (Value×List Int)) (i0:Nat) (hm:R.length≤4) (hn:1≤n∧n≤39) (hl:∀ i,i < R.length→lenAt n (cRw R) i) (hs:∀ i,i < R.length→seeAt (cRw R) i) (w:World) (hc:∀ i:UpI (balAt (cRw R)) R.length,R.length≤i.1→Goes Try.prog 52 plC6 (⟨[(1,.ptr 0 0),(42,.xl y R.length 1 (cRw R)),(43,.v (.int .i64 R.length)),(44,.v (.int .i64 (i.1:Nat)))],[],1,[(0,.cells [.v (.int .i64 n),.xl y R.length 1 (cRw R)] 24)]⟩) w (OutR Try.prog Try.f18 52 (.int .i64 (plE n (cRw R) R.length)) w)):Goes Try.prog 52 plC5 (⟨[(1,.ptr 0 0),(31,.xl y R.length 1 (cRw R)),(32,.v (.int .i64 R.length)),(33,.v (.int .i64 (i0:Nat)))],[],1,[(0,.cells [.v (.int .i64 n),.xl y R.length 1 (cRw R)] 24)]⟩) w (OutR Try.prog Try.f18 52 (.int .i64 (plE n (cRw R) R.length)) w):=by
 refine goes_spineQ (ι:=UpI (balAt (cRw R)) R.length) (T:=fun i=>⟨[(1,.ptr 0 0),(42,.xl y R.length 1 (cRw R)),(43,.v (.int .i64 R.length)),(44,.v (.int .i64 (i.1:Nat)))],[],1,[(0,.cells [.v (.int .i64 n),.xl y R.length 1 (cRw R)] 24)]⟩) (R:=fun i=>R.length≤i.1) (by kernel_rfl)
  (goes_spine (T':=⟨[(1,.ptr 0 0),(42,.xl y R.length 1 (cRw R)),(43,.v (.int .i64 R.length)),(44,.v (.int .i64 (0:Nat)))],[],1,[(0,.cells [.v (.int .i64 n),.xl y R.length 1 (cRw R)] 24)]⟩) (by kernel_rfl) (goes_told Try.checked.mixed (known_pc) 200 (e:=.normal) (ps:=[]) [.go,.go,.go,.go] (by kernel_rfl) (by kernel_rfl) trivial rfl)
   (goes_blockloop (by kernel_rfl) (fun i:UpI (balAt (cRw R)) R.length=>⟨[(1,.ptr 0 0),(42,.xl y R.length 1 (cRw R)),(43,.v (.int .i64 R.length)),(44,.v (.int .i64 (i.1:Nat)))],[],1,[(0,.cells [.v (.int .i64 n),.xl y R.length 1 (cRw R)] 24)]⟩) (fun i=>R.length - i.1) (fun i=>?_) ⟨0,Nat.zero_le _,fun j hj=>by omega⟩)) hc
 obtain ⟨i,hi1,hi2⟩:=i
 show (∃ j:UpI (balAt (cRw R)) R.length,R.length - j.1 < R.length - i∧Goes Try.prog 52 (loopC (tlC (hdC plC5))) (⟨[(1,.ptr 0 0),(42,.xl y R.length 1 (cRw R)),(43,.v (.int .i64 R.length)),(44,.v (.int .i64 (i:Nat)))],[],1,[(0,.cells [.v (.int .i64 n),.xl y R.length 1 (cRw R)] 24)]⟩) w (Land 52 isN (⟨[(1,.ptr 0 0),(42,.xl y R.length 1 (cRw R)),(43,.v (.int .i64 R.length)),(44,.v (.int .i64 (j.1:Nat)))],[],1,[(0,.cells [.v (.int .i64 n),.xl y R.length 1 (cRw R)] 24)]⟩) w))∨(R.length≤i∧Goes Try.prog 52 (loopC (tlC (hdC plC5))) (⟨[(1,.ptr 0 0),(42,.xl y R.length 1 (cRw R)),(43,.v (.int .i64 R.length)),(44,.v (.int .i64 (i:Nat)))],[],1,[(0,.cells [.v (.int .i64 n),.xl y R.length 1 (cRw R)] 24)]⟩) w (Land 52 (isX 4) (⟨[(1,.ptr 0 0),(42,.xl y R.length 1 (cRw R)),(43,.v (.int .i64 R.length)),(44,.v (.int .i64 (i:Nat)))],[],1,[(0,.cells [.v (.int .i64 n),.xl y R.length 1 (cRw R)] 24)]⟩) w))∨Goes Try.prog 52 (loopC (tlC (hdC plC5))) (⟨[(1,.ptr 0 0),(42,.xl y R.length 1 (cRw R)),(43,.v (.int .i64 R.length)),(44,.v (.int .i64 (i:Nat)))],[],1,[(0,.cells [.v (.int .i64 n),.xl y R.length 1 (cRw R)] 24)]⟩) w (fun e a w'=>e = .ret∧(OutR Try.prog Try.f18 52 (.int .i64 (plE n (cRw R) R.length)) w) .ret a w')
 have hcl:=cRw_len R
 cases hq1:(ltI ↑i ↑R.length) with
 | true =>
  have ghq1:=ltI_true hq1
  cases hq2:(eqI (sumI (xlC (cRw R) (i * 1)) (xlN (cRw R) (i * 1))) 0) with
  | true =>
   have ghq2:=eqI_true hq2
   refine .inl ⟨⟨i + 1,by omega,up_next hi2 (show balAt (cRw R) i by unfold balAt; exact eqI_true (by assumption))⟩,(by show R.length - (i + 1) < R.length - i; omega),?_⟩
   exact goes_told Try.checked.mixed (known_pc) 200 (e:=.normal) (ps:=[ltI ↑i ↑R.length=true,i < R.length,loadL Try.prog (cRw R) (i * 1) 29=some (AV.xl (xlY (cRw R) (i * 1)) (xlN (cRw R) (i * 1)) 1 (xlC (cRw R) (i * 1))),IsI (0 + 1) (xlN (cRw R) (i * 1)) (xlC (cRw R) (i * 1)),xlN (cRw R) (i * 1)≤1000,okS (xlC (cRw R) (i * 1)) (xlN (cRw R) (i * 1))=true,(!eqI (sumI (xlC (cRw R) (i * 1)) (xlN (cRw R) (i * 1))) 0)=false,inR IntKind.i64 (↑i + 1)]) [.go,.b true,.sym,.sym,.go,.go,.go,.b false,.go,.go] (by kernel_rfl) (by kernel_rfl) ⟨hq1,(by omega),(by rw [Nat.mul_one]; exact cRw_load (by omega) 29 (Try.underlying29) rfl),(cRw_isI (by omega)),(by have hq:=hl i (by omega); unfold lenAt at hq; omega),(hs i (by omega)),(by rw [hq2]; rfl),(by show -9223372036854775808≤_∧_≤9223372036854775807; constructor <;> omega),trivial⟩ rfl
  | false =>
   have ghq2:=eqI_false hq2
   rw [plE_bal hm hn hl hs (show i < R.length by omega) (by unfold balAt; exact eqI_false (by assumption))]
   exact .inr (.inr (goes_ret Try.checked.mixed (known_pc) 200 (v:=(.v (.int .i64 (.ofNat 16)))) (ps:=[ltI ↑i ↑R.length=true,i < R.length,loadL Try.prog (cRw R) (i * 1) 29=some (AV.xl (xlY (cRw R) (i * 1)) (xlN (cRw R) (i * 1)) 1 (xlC (cRw R) (i * 1))),IsI (0 + 1) (xlN (cRw R) (i * 1)) (xlC (cRw R) (i * 1)),xlN (cRw R) (i * 1)≤1000,okS (xlC (cRw R) (i * 1)) (xlN (cRw R) (i * 1))=true,(!eqI (sumI (xlC (cRw R) (i * 1)) (xlN (cRw R) (i * 1))) 0)=true]) [.go,.b true,.sym,.sym,.go,.go,.go,.b true,.go] (by kernel_rfl) (by kernel_rfl) ⟨hq1,(by omega),(by rw [Nat.mul_one]; exact cRw_load (by omega) 29 (Try.underlying29) rfl),(cRw_isI (by omega)),(by have hq:=hl i (by omega); unfold lenAt at hq; omega),(hs i (by omega)),(by rw [hq2]; rfl),trivial⟩ rfl))
 | false =>
  have ghq1:=ltI_false hq1
  exact .inr (.inl ⟨(by show R.length≤i; omega),goes_told Try.checked.mixed (known_pc) 200 (e:=.exit 4) (ps:=[ltI ↑i ↑R.length=false]) [.go,.b false] (by kernel_rfl) (by kernel_rfl) ⟨hq1,trivial⟩ rfl⟩)
theorem pl_6 (n:Int) (y:Value) (R:List (Value×List Int)) (i0:Nat) (hm:R.length≤4) (hn:1≤n∧n≤39) (hl:∀ i,i < R.length→lenAt n (cRw R) i) (hs:∀ i,i < R.length→seeAt (cRw R) i) (hb:∀ i,i < R.length→balAt (cRw R) i) (w:World):Goes Try.prog 52 plC6 (⟨[(1,.ptr 0 0),(42,.xl y R.length 1 (cRw R)),(43,.v (.int .i64 R.length)),(44,.v (.int .i64 (i0:Nat)))],[],1,[(0,.cells [.v (.int .i64 n),.xl y R.length 1 (cRw R)] 24)]⟩) w (OutR Try.prog Try.f18 52 (.int .i64 (plE n (cRw R) R.length)) w):=by
 rw [plE_ok hm hn hl hs hb]
 exact goes_out Try.checked.mixed (known_pc) 200 (v:=(.v (.int .i64 (.ofNat 0)))) (ps:=[]) [.go] (by kernel_rfl) (by kernel_rfl) trivial rfl
theorem pl_g (n:Int) (y:Value) (R:List (Value×List Int)):GivesA Try.prog 18 [.agg [.v (.int .i64 n),.xl y R.length 1 (cRw R)]] (.int .i64 (plE n (cRw R) R.length)) :=
 givesA_parts 52 Try.func18 (by kernel_rfl) (by kernel_rfl) (by kernel_rfl) (fun w =>
  pl_0 n y R w (pl_1 n y R w (fun hm=>pl_2 n y R hm w (fun hn =>
   pl_3 n y R hm hn w (fun i hi =>
    (pl_4 n y R i.1 hm hn (fun j hj=>i.2.2 j (Nat.lt_of_lt_of_le hj hi)) w (fun i' hi' =>
     (pl_5 n y R i'.1 hm hn (fun j hj=>i.2.2 j (Nat.lt_of_lt_of_le hj hi)) (fun j hj=>i'.2.2 j (Nat.lt_of_lt_of_le hj hi')) w (fun i2 hi2 =>
      (pl_6 n y R i2.1 hm hn (fun j hj=>i.2.2 j (Nat.lt_of_lt_of_le hj hi)) (fun j hj=>i'.2.2 j (Nat.lt_of_lt_of_le hj hi')) (fun j hj=>i2.2.2 j (Nat.lt_of_lt_of_le hj hi2)) w))))))))))
end
end Go.Proofs.Ytmankoikpadkpaa
