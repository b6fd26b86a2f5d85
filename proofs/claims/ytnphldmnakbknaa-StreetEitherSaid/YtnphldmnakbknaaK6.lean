import Derived.Test.YtnphldmnakbknaaD1
import Derived.Test.YtnphldmnakbknaaI1
set_option maxHeartbeats 4000000
set_option linter.all false
/- A number of a list (mathematics). -/
namespace Go.Proofs.Ytnphldmnakbknaa
open Go Ev
noncomputable section
section
variable (C D : List Int) (x : Int) (z z0 : Value)
abbrev qK6_11:Nat×Ev.AV:=(1,(.xl (z) (C.length) 1 (cI C)))
abbrev qK6_9:Nat×Ev.AV:=(18,(.xl (z0) (D.length) 1 (cI D)))
abbrev qK6_7:Nat×Ev.AV:=(19,(.v (.int .i64 D.length)))
abbrev qK6_1:Ev.Lit:=⟨[(qK6_11 C z),(qK6_9 D z0),(qK6_7 D),(20,(.v (.int .i64 (.ofNat 0))))],[],0,[]⟩
abbrev qK6_10:Nat×Ev.AV:=(0,(.xl (z) (C.length) 1 (cI C)))
abbrev qK6_8:Nat×Ev.AV:=(7,(.v (.int .i64 C.length)))
abbrev qK6_2:Ev.Lit:=⟨[(qK6_10 C z),(1,(.v (.int .i64 (x)))),(qK6_8 C),(8,(.v (.int .i64 (.ofNat 0))))],[],0,[]⟩
abbrev qK6_3:Ev.Lit:=⟨[(qK6_10 C z),(1,(.v (.int .i64 (x)))),(5,(.v (.int .i64 (.ofNat 0))))],[],0,[]⟩
abbrev qK6_4:Ev.Lit:=⟨[(0,(.xl (z0) (D.length) 1 (cI D))),(qK6_11 C z)],[],0,[]⟩
abbrev qK6_5:Ev.Lit:=⟨[(qK6_10 C z),(1,(.v (.int .i64 (x))))],[],0,[]⟩
abbrev qK6_6:Ev.Lit:=⟨[(0,(.xl z C.length 1 (cI C))),(1,(.v (.int .i64 x)))],[],0,[]⟩
end
theorem fst_le_of' {f:Nat→Bool} {i:Nat} (hf:f i=true):∀ {n:Nat},i < n→fstF f n≤i
 | n + 1,h=>by
  have h1:=fst_le f n
  by_cases e:i=n
  ·subst e
   simp only [fstF,hf,if_true]
   split <;> omega
  ·have ih:=fst_le_of' hf (show i < n by omega)
   simp only [fstF]
   rw [if_pos (by omega)]
   exact ih
def inB (c:List AV) (k:Nat) (x:Int):Bool:=@decide (∃ i,i < k∧intAt c (i * 1)=x) (Classical.propDecidable _)
theorem inB_true {c:List AV} {k:Nat} {x:Int}:inB c k x=true↔∃ i,i < k∧intAt c (i * 1)=x:=by unfold inB; exact @decide_eq_true_iff _ (Classical.propDecidable _)
theorem inB_yes {c:List AV} {k i:Nat} {x:Int} (hi:i < k) (h:intAt c (i * 1)=x):inB c k x=true:=inB_true.2 ⟨i,hi,h⟩
theorem inB_no {c:List AV} {k:Nat} {x:Int} (h:∀ i,i < k→¬ intAt c (i * 1)=x):inB c k x=false:=by unfold inB; exact @decide_eq_false _ (Classical.propDecidable _) (fun ⟨i,a,b⟩=>h i a b)
def ixF (c:List AV) (k:Nat) (x:Int):Int:=if fstF (fun i=>eqI x (intAt c (i * 1))) k < k then ((fstF (fun i=>eqI x (intAt c (i * 1))) k:Nat):Int) else -1
theorem ixF_at {c:List AV} {k i:Nat} {x:Int} (h:∀ j,j < i→¬ intAt c (j * 1)=x) (hi:i < k) (e:x=intAt c (i * 1)):ixF c k x=((i:Nat):Int):=by
 have h1:fstF (fun i=>eqI x (intAt c (i * 1))) k=i:=fst_at (fun j hj=>by
  show eqI x (intAt c (j * 1))=false
  rw [eqI_iff]; exact decide_eq_false (fun q=>h j hj q.symm)) (by show eqI x (intAt c (i * 1))=true; rw [← e]; exact eqI_self x) hi
 unfold ixF
 rw [h1,if_pos hi]
theorem ixF_none {c:List AV} {k:Nat} {x:Int} (h:∀ j,j < k→¬ intAt c (j * 1)=x):ixF c k x = -1:=by
 have h1:fstF (fun i=>eqI x (intAt c (i * 1))) k=k:=fst_none (fun j hj=>by
  show eqI x (intAt c (j * 1))=false
  rw [eqI_iff]; exact decide_eq_false (fun q=>h j hj q.symm))
 unfold ixF
 rw [h1,if_neg (Nat.lt_irrefl _)]
theorem ixF_in {c:List AV} {k:Nat} {x:Int}:(!ltI (ixF c k x) 0)=inB c k x:=by
 rcases Nat.lt_or_ge (fstF (fun i=>eqI x (intAt c (i * 1))) k) k with h | h
 ·have e:ixF c k x=((fstF (fun i=>eqI x (intAt c (i * 1))) k:Nat):Int):=by unfold ixF; rw [if_pos h]
  have h2:x=intAt c (fstF (fun i=>eqI x (intAt c (i * 1))) k * 1):=eqI_true (fst_lt h).1
  rw [e,inB_yes h h2.symm,ltI_iff,decide_eq_false (by omega)]
  rfl
 ·have h1:fstF (fun i=>eqI x (intAt c (i * 1))) k=k:=by have:=fst_le (fun i=>eqI x (intAt c (i * 1))) k; omega
  have e:ixF c k x = -1:=by unfold ixF; rw [if_neg (by omega)]
  have h3:∀ i,i < k→¬ intAt c (i * 1)=x:=fun i hi q=>by
   have h4:=fst_le_of' (f:=fun i=>eqI x (intAt c (i * 1))) (show eqI x (intAt c (i * 1))=true by rw [q]; exact eqI_self x) hi
   omega
  rw [e,inB_no h3]
  rfl
def ddP (c:List AV) (k:Nat) (e:List AV) (m:Nat) (d:Int):Prop:=(m:Int)≤d∧incB e m=true∧∀ i,i < m→inB c k (intAt e (i * 1))=true
def ddB (c:List AV) (k:Nat) (e:List AV) (m:Nat) (d:Int):Bool:=@decide (ddP c k e m d) (Classical.propDecidable _)
theorem ddB_true {c e:List AV} {k m:Nat} {d:Int}:ddB c k e m d=true↔ddP c k e m d:=by unfold ddB; exact @decide_eq_true_iff _ (Classical.propDecidable _)
theorem ddB_no {c e:List AV} {k m:Nat} {d:Int} (h:¬ ddP c k e m d):ddB c k e m d=false:=by unfold ddB; exact @decide_eq_false _ (Classical.propDecidable _) h
def ixK1:Code:=bodyC Try.f72
def ixK3:Code:=tlC ixK1
def ixK6:Code:=tlC ixK3
def ixK7:Code:=(hdC ixK3)
def ixK9:Code:=tlC ixK7
def ixK13:Code:=loopC ixK9
theorem ix_16 (z:Value) (C:List Int) (x:Int) (hC:C.length≤1000) (h0b:∀ j,j < (C.length)→¬ intAt (cI C) (j * 1)=x) (hqix15_1:(ltI C.length C.length)=false) (w:World) (hs:LN):Goes pg 19 ixK6 (⟨[],[],0,[]⟩) (BaseW.H w hs) (OutH pg Try.f72 19 (.int .i64 (ixF (cI C) C.length x)) w):=by
 have hcl_C:=cI_len C
 have ghqix15_1:=lF hqix15_1
 exact gL isR_e (gT cm (kN) 200 (T':=⟨[(4,(.v (.int .i64 (.negSucc 0))))],[],0,[]⟩) (e:=.ret) (ps:=[]) [.go] (by kernel_rfl) (by kernel_rfl) trivial rfl) (Hd.en_eq (r:=(.int .i64 (-1))) (by rw [ixF_none h0b]) (Hd.en_ret (v:=(.v (.int .i64 (.negSucc 0)))) (by kernel_rfl) rfl))
theorem ix_14 (z:Value) (C:List Int) (x:Int) (hC:C.length≤1000) (i:Nat) (hi1:i≤C.length) (hi2:∀ j,j < i→¬ intAt (cI C) (j * 1)=x) (w:World) (hs:LN):Goes pg 19 ixK13 (⟨[(qK6_10 C z),(1,(.v (.int .i64 (x)))),(qK6_8 C),(8,(.v (.int .i64 i)))],[],0,[]⟩) (BaseW.H w hs) (Hd.StepC pg 19 0 (fun i:{i:Nat // i≤C.length∧∀ j,j < i→¬ intAt (cI C) (j * 1)=x}=>⟨[(qK6_10 C z),(1,(.v (.int .i64 (x)))),(qK6_8 C),(8,(.v (.int .i64 i.1)))],[],0,[]⟩) (fun i:{i:Nat // i≤C.length∧∀ j,j < i→¬ intAt (cI C) (j * 1)=x}=>C.length - i.1) ixK6 w (OutH pg Try.f72 19 (.int .i64 (ixF (cI C) C.length x)) w) (⟨i,hi1,hi2⟩:{i:Nat // i≤C.length∧∀ j,j < i→¬ intAt (cI C) (j * 1)=x})):=by
 have hcl_C:=cI_len C
 rcases bE (ltI i C.length) with hqix15_1 | hqix15_1
 ·skip
  have ghqix15_1:=lT hqix15_1
  rcases bE (eqI x (intAt (cI C) (i * 1))) with hqix15_2 | hqix15_2
  ·skip
   have ghqix15_2:=eqI_true hqix15_2
   exact gL isR_e (gT cm (kN) 200 (T':=⟨[(4,(.v (.int .i64 i)))],[],0,[]⟩) (e:=.ret) (ps:=[ltI i C.length=true,i < C.length,loadL pg (cI C) (i * 1) 3=some (.v (.int .i64 (intAt (cI C) (i * 1)))),eqI x (intAt (cI C) (i * 1))=true]) [.go,.b true,.go,.go,.go,.go,.go,.sym,.sym,.go,.b true,.go,.go] (by kernel_rfl) (by kernel_rfl) ⟨hqix15_1,(by omega),(by rw [Nat.mul_one]; exact cI_load (by omega) 3 (u3) rfl),hqix15_2,trivial⟩ rfl) (Hd.en_so (by intro h; cases h) (by intro h; cases h) (Hd.en_eq (r:=(.int .i64 i)) (by rw [ixF_at hi2 (by omega) (by omega)]) (Hd.en_ret (v:=(.v (.int .i64 i))) (by kernel_rfl) rfl)))
  ·skip
   have ghqix15_2:=eqI_false hqix15_2
   exact gL isN_e (gT cm (kN) 200 (T':=⟨[(qK6_10 C z),(1,(.v (.int .i64 (x)))),(qK6_8 C),(8,(.v (.int .i64 (((i + 1):Nat):Int))))],[],0,[]⟩) (e:=.normal) (ps:=[ltI i C.length=true,i < C.length,loadL pg (cI C) (i * 1) 3=some (.v (.int .i64 (intAt (cI C) (i * 1)))),eqI x (intAt (cI C) (i * 1))=false,inR .i64 (((i:Nat):Int) + 1)]) [.go,.b true,.go,.go,.go,.go,.go,.sym,.sym,.go,.b false,.go,.go] (by kernel_rfl) (by kernel_rfl) ⟨hqix15_1,(by omega),(by rw [Nat.mul_one]; exact cI_load (by omega) 3 (u3) rfl),hqix15_2,(by show -9223372036854775808≤_∧_≤9223372036854775807; constructor <;> omega),trivial⟩ rfl) (eO (⟨i + 1,by omega,(up_next0 hi2 (by omega))⟩) (by show C.length - (i + 1) < C.length - i; omega) rfl)
 ·skip
  have ghqix15_1:=lF hqix15_1
  obtain rfl:i=C.length:=by omega
  exact gL isX_e (gT cm (kN) 200 (T':=⟨[],[],0,[]⟩) (e:=.exit 0) (ps:=[ltI C.length C.length=false]) [.go,.b false] (by kernel_rfl) (by kernel_rfl) ⟨hqix15_1,trivial⟩ rfl) (Hd.en_sx (ix_16 z C x hC hi2  hqix15_1 w hs))
theorem ix_12 (z:Value) (C:List Int) (x:Int) (hC:C.length≤1000) (w:World) (hs:LN):Goes pg 19 ixK9 ((qK6_2 C x z)) (BaseW.H w hs) (Hd.AfterN pg 19 ixK6 w (OutH pg Try.f72 19 (.int .i64 (ixF (cI C) C.length x)) w)):=by
 have hcl_C:=cI_len C
 exact Hd.goes_loopA (id:=0) (by kernel_rfl) (by kernel_rfl) (fun i:{i:Nat // i≤C.length∧∀ j,j < i→¬ intAt (cI C) (j * 1)=x}=>⟨[(qK6_10 C z),(1,(.v (.int .i64 (x)))),(qK6_8 C),(8,(.v (.int .i64 i.1)))],[],0,[]⟩) (fun i:{i:Nat // i≤C.length∧∀ j,j < i→¬ intAt (cI C) (j * 1)=x}=>C.length - i.1) (fun ix_ hs=>ix_14 z C x hC ix_.1 ix_.2.1 ix_.2.2 w hs) ⟨0,Nat.zero_le _,(fun j hj=>by omega)⟩ hs
theorem ix_11 (z:Value) (C:List Int) (x:Int) (hC:C.length≤1000) (w:World) (hs:LN):Goes pg 19 ixK9 ((qK6_2 C x z)) (BaseW.H w hs) (Hd.AfterN pg 19 ixK6 w (OutH pg Try.f72 19 (.int .i64 (ixF (cI C) C.length x)) w)):=by
 exact ix_12 z C x hC w hs
theorem ix_8 (z:Value) (C:List Int) (x:Int) (hC:C.length≤1000) (w:World) (hs:LN):Goes pg 19 ixK7 ((qK6_5 C x z)) (BaseW.H w hs) (Hd.AfterN pg 19 ixK6 w (OutH pg Try.f72 19 (.int .i64 (ixF (cI C) C.length x)) w)):=by
 have hcl_C:=cI_len C
 refine gS (by kernel_rfl) ?_
 exact gL isN_e (gT cm (kN) 200 (T':=(qK6_2 C x z)) (e:=.normal) (ps:=[]) [.go,.go,.go] (by kernel_rfl) (by kernel_rfl) trivial rfl) (Hd.en_n (ix_11 z C x hC w hs))
theorem ix_5 (z:Value) (C:List Int) (x:Int) (hC:C.length≤1000) (w:World) (hs:LN):Goes pg 19 ixK3 ((qK6_5 C x z)) (BaseW.H w hs) (OutH pg Try.f72 19 (.int .i64 (ixF (cI C) C.length x)) w):=by
 exact gS (by kernel_rfl) (ix_8 z C x hC w hs)
theorem ix_2 (z:Value) (C:List Int) (x:Int) (hC:C.length≤1000) (w:World) (hs:LN):Goes pg 19 ixK1 ((qK6_6 C x z)) (BaseW.H w hs) (OutH pg Try.f72 19 (.int .i64 (ixF (cI C) C.length x)) w):=by
 have hcl_C:=cI_len C
 refine gS (by kernel_rfl) ?_
 exact gL isN_e (gT cm (kN) 200 (T':=(qK6_5 C x z)) (e:=.normal) (ps:=[]) [.go] (by kernel_rfl) (by kernel_rfl) trivial rfl) (Hd.en_n (ix_5 z C x hC w hs))
theorem index_g (z:Value) (C:List Int) (x:Int) (hC:C.length≤1000):GivesA pg 72 [(.xl z C.length 1 (cI C)),(.v (.int .i64 x))] (.int .i64 (ixF (cI C) C.length x)) :=
 givesA_partsH 19 Try.func72 (by kernel_rfl) (by kernel_rfl) (by kernel_rfl) (fun w=>goes_less (by kernel_rfl) (by kernel_rfl) (by kernel_rfl) (by kernel_rfl) (ix_2 z C x hC w []))
def nnK1:Code:=bodyC Try.f50
def nnK3:Code:=tlC nnK1
def nnK6:Code:=tlC nnK3
def nnK7:Code:=(hdC nnK3)
def nnK9:Code:=tlC nnK7
def nnK13:Code:=loopC nnK9
theorem nn_16 (z:Value) (C:List Int) (x:Int) (hC:C.length≤1000) (h0b:∀ j,j < (C.length)→¬ intAt (cI C) (j * 1)=x) (hqnn15_1:(ltI C.length C.length)=false) (w:World) (hs:LN):Goes pg 18 nnK6 (⟨[],[],0,[]⟩) (BaseW.H w hs) (OutH pg Try.f50 18 (.bool (inB (cI C) C.length x)) w):=by
 have hcl_C:=cI_len C
 have ghqnn15_1:=lF hqnn15_1
 exact gL isR_e (gT cm (kN) 200 (T':=⟨[(4,(.v (.bool .false)))],[],0,[]⟩) (e:=.ret) (ps:=[]) [.go] (by kernel_rfl) (by kernel_rfl) trivial rfl) (Hd.en_eq (r:=(.bool .false)) (by rw [inB_no h0b]) (Hd.en_ret (v:=(.v (.bool .false))) (by kernel_rfl) rfl))
theorem nn_14 (z:Value) (C:List Int) (x:Int) (hC:C.length≤1000) (i:Nat) (hi1:i≤C.length) (hi2:∀ j,j < i→¬ intAt (cI C) (j * 1)=x) (w:World) (hs:LN):Goes pg 18 nnK13 (⟨[(qK6_10 C z),(1,(.v (.int .i64 (x)))),(5,(.v (.int .i64 i)))],[],0,[]⟩) (BaseW.H w hs) (Hd.StepC pg 18 0 (fun i:{i:Nat // i≤C.length∧∀ j,j < i→¬ intAt (cI C) (j * 1)=x}=>⟨[(qK6_10 C z),(1,(.v (.int .i64 (x)))),(5,(.v (.int .i64 i.1)))],[],0,[]⟩) (fun i:{i:Nat // i≤C.length∧∀ j,j < i→¬ intAt (cI C) (j * 1)=x}=>C.length - i.1) nnK6 w (OutH pg Try.f50 18 (.bool (inB (cI C) C.length x)) w) (⟨i,hi1,hi2⟩:{i:Nat // i≤C.length∧∀ j,j < i→¬ intAt (cI C) (j * 1)=x})):=by
 have hcl_C:=cI_len C
 rcases bE (ltI i C.length) with hqnn15_1 | hqnn15_1
 ·skip
  have ghqnn15_1:=lT hqnn15_1
  rcases bE (eqI (intAt (cI C) (i * 1)) x) with hqnn15_2 | hqnn15_2
  ·skip
   have ghqnn15_2:=eqI_true hqnn15_2
   exact gL isR_e (gT cm (kN) 200 (T':=⟨[(4,(.v (.bool .true)))],[],0,[]⟩) (e:=.ret) (ps:=[ltI i C.length=true,i < C.length,loadL pg (cI C) (i * 1) 3=some (.v (.int .i64 (intAt (cI C) (i * 1)))),eqI (intAt (cI C) (i * 1)) x=true]) [.go,.go,.go,.go,.b true,.go,.go,.sym,.sym,.go,.go,.b true,.go] (by kernel_rfl) (by kernel_rfl) ⟨hqnn15_1,(by omega),(by rw [Nat.mul_one]; exact cI_load (by omega) 3 (u3) rfl),hqnn15_2,trivial⟩ rfl) (Hd.en_so (by intro h; cases h) (by intro h; cases h) (Hd.en_eq (r:=(.bool .true)) (by rw [inB_yes (i:=i) (by omega) (by omega)]) (Hd.en_ret (v:=(.v (.bool .true))) (by kernel_rfl) rfl)))
  ·skip
   have ghqnn15_2:=eqI_false hqnn15_2
   exact gL isN_e (gT cm (kN) 200 (T':=⟨[(qK6_10 C z),(1,(.v (.int .i64 (x)))),(5,(.v (.int .i64 (((i + 1):Nat):Int))))],[],0,[]⟩) (e:=.normal) (ps:=[ltI i C.length=true,i < C.length,loadL pg (cI C) (i * 1) 3=some (.v (.int .i64 (intAt (cI C) (i * 1)))),eqI (intAt (cI C) (i * 1)) x=false,inR .i64 (((i:Nat):Int) + 1)]) [.go,.go,.go,.go,.b true,.go,.go,.sym,.sym,.go,.go,.b false,.go,.go,.go] (by kernel_rfl) (by kernel_rfl) ⟨hqnn15_1,(by omega),(by rw [Nat.mul_one]; exact cI_load (by omega) 3 (u3) rfl),hqnn15_2,(by show -9223372036854775808≤_∧_≤9223372036854775807; constructor <;> omega),trivial⟩ rfl) (eO (⟨i + 1,by omega,(up_next0 hi2 (by omega))⟩) (by show C.length - (i + 1) < C.length - i; omega) rfl)
 ·skip
  have ghqnn15_1:=lF hqnn15_1
  obtain rfl:i=C.length:=by omega
  exact gL isX_e (gT cm (kN) 200 (T':=⟨[],[],0,[]⟩) (e:=.exit 0) (ps:=[ltI C.length C.length=false]) [.go,.go,.go,.go,.b false] (by kernel_rfl) (by kernel_rfl) ⟨hqnn15_1,trivial⟩ rfl) (Hd.en_sx (nn_16 z C x hC hi2  hqnn15_1 w hs))
theorem nn_12 (z:Value) (C:List Int) (x:Int) (hC:C.length≤1000) (w:World) (hs:LN):Goes pg 18 nnK9 ((qK6_3 C x z)) (BaseW.H w hs) (Hd.AfterN pg 18 nnK6 w (OutH pg Try.f50 18 (.bool (inB (cI C) C.length x)) w)):=by
 have hcl_C:=cI_len C
 exact Hd.goes_loopA (id:=0) (by kernel_rfl) (by kernel_rfl) (fun i:{i:Nat // i≤C.length∧∀ j,j < i→¬ intAt (cI C) (j * 1)=x}=>⟨[(qK6_10 C z),(1,(.v (.int .i64 (x)))),(5,(.v (.int .i64 i.1)))],[],0,[]⟩) (fun i:{i:Nat // i≤C.length∧∀ j,j < i→¬ intAt (cI C) (j * 1)=x}=>C.length - i.1) (fun ix_ hs=>nn_14 z C x hC ix_.1 ix_.2.1 ix_.2.2 w hs) ⟨0,Nat.zero_le _,(fun j hj=>by omega)⟩ hs
theorem nn_11 (z:Value) (C:List Int) (x:Int) (hC:C.length≤1000) (w:World) (hs:LN):Goes pg 18 nnK9 ((qK6_3 C x z)) (BaseW.H w hs) (Hd.AfterN pg 18 nnK6 w (OutH pg Try.f50 18 (.bool (inB (cI C) C.length x)) w)):=by
 exact nn_12 z C x hC w hs
theorem nn_8 (z:Value) (C:List Int) (x:Int) (hC:C.length≤1000) (w:World) (hs:LN):Goes pg 18 nnK7 ((qK6_5 C x z)) (BaseW.H w hs) (Hd.AfterN pg 18 nnK6 w (OutH pg Try.f50 18 (.bool (inB (cI C) C.length x)) w)):=by
 have hcl_C:=cI_len C
 refine gS (by kernel_rfl) ?_
 exact gL isN_e (gT cm (kN) 200 (T':=(qK6_3 C x z)) (e:=.normal) (ps:=[]) [.go] (by kernel_rfl) (by kernel_rfl) trivial rfl) (Hd.en_n (nn_11 z C x hC w hs))
theorem nn_5 (z:Value) (C:List Int) (x:Int) (hC:C.length≤1000) (w:World) (hs:LN):Goes pg 18 nnK3 ((qK6_5 C x z)) (BaseW.H w hs) (OutH pg Try.f50 18 (.bool (inB (cI C) C.length x)) w):=by
 exact gS (by kernel_rfl) (nn_8 z C x hC w hs)
theorem nn_2 (z:Value) (C:List Int) (x:Int) (hC:C.length≤1000) (w:World) (hs:LN):Goes pg 18 nnK1 ((qK6_6 C x z)) (BaseW.H w hs) (OutH pg Try.f50 18 (.bool (inB (cI C) C.length x)) w):=by
 have hcl_C:=cI_len C
 refine gS (by kernel_rfl) ?_
 exact gL isN_e (gT cm (kN) 200 (T':=(qK6_5 C x z)) (e:=.normal) (ps:=[]) [.go] (by kernel_rfl) (by kernel_rfl) trivial rfl) (Hd.en_n (nn_5 z C x hC w hs))
theorem inr_g (z:Value) (C:List Int) (x:Int) (hC:C.length≤1000):GivesA pg 50 [(.xl z C.length 1 (cI C)),(.v (.int .i64 x))] (.bool (inB (cI C) C.length x)) :=
 givesA_partsH 18 Try.func50 (by kernel_rfl) (by kernel_rfl) (by kernel_rfl) (fun w=>goes_less (by kernel_rfl) (by kernel_rfl) (by kernel_rfl) (by kernel_rfl) (nn_2 z C x hC w []))
def xxS:List Vw→Option (Res1×List Prop):=fun vs =>
 match vs with
 | [.lst n k c,.val v]=>match numV v with
  | some x=>some (.val (.v (.int .i64 (ixF c n x))),[IsC k n c,n≤1000])
  | none=>none
 | _=>none
def xxO:OrcH:=avOrc 72 [1,0] xxS
theorem known_xx:Known pg (clsO xxO):=known_av (fun vs r ps h hp=>by
 unfold xxS at h
 split at h
 ·split at h
  ·rename_i x e
   cases h
   obtain ⟨⟨rfl,L,rfl,rfl⟩,hn,-⟩:=hp
   refine ⟨⟨⟨_,cI_plain L⟩,trivial⟩,fun ys hy=>?_⟩
   obtain ⟨y1,y2,rfl⟩:=len2 hy
   rw [numV_eq e]
   exact ⟨_,rfl,index_g y1 L x hn⟩
  ·cases h
 ·cases h)
def nnS:List Vw→Option (Res1×List Prop):=fun vs =>
 match vs with
 | [.lst n k c,.val v]=>match numV v with
  | some x=>some (.val (.v (.bool (inB c n x))),[IsC k n c,n≤1000])
  | none=>none
 | _=>none
def nnO:OrcH:=avOrc 50 [1,0] nnS
theorem known_nn:Known pg (clsO nnO):=known_av (fun vs r ps h hp=>by
 unfold nnS at h
 split at h
 ·split at h
  ·rename_i x e
   cases h
   obtain ⟨⟨rfl,L,rfl,rfl⟩,hn,-⟩:=hp
   refine ⟨⟨⟨_,cI_plain L⟩,trivial⟩,fun ys hy=>?_⟩
   obtain ⟨y1,y2,rfl⟩:=len2 hy
   rw [numV_eq e]
   exact ⟨_,rfl,inr_g y1 L x hn⟩
  ·cases h
 ·cases h)
def cnK1:Code:=bodyC Try.f66
theorem cn_2 (z:Value) (C:List Int) (x:Int) (hC:C.length≤1000) (w:World) (hs:LN):Goes pg 9 cnK1 ((qK6_6 C x z)) (BaseW.H w hs) (OutH pg Try.f66 9 (.bool (inB (cI C) C.length x)) w):=by
 have hcl_C:=cI_len C
 exact gL isR_e (gT cm (known_xx) 200 (T':=⟨[(4,(.v (.bool (!ltI (ixF (cI C) C.length x) 0))))],[],0,[]⟩) (e:=.ret) (ps:=[IsC (0 + 1) C.length (cI C),C.length≤1000]) [.go,.go,.go,.go,.go] (by kernel_rfl) (by kernel_rfl) ⟨⟨rfl,_,rfl,rfl⟩,(by omega),trivial⟩ rfl) (Hd.en_eq (r:=(.bool (!ltI (ixF (cI C) C.length x) 0))) (by rw [ixF_in]) (Hd.en_ret (v:=(.v (.bool (!ltI (ixF (cI C) C.length x) 0)))) (by kernel_rfl) rfl))
theorem cont_g (z:Value) (C:List Int) (x:Int) (hC:C.length≤1000):GivesA pg 66 [(.xl z C.length 1 (cI C)),(.v (.int .i64 x))] (.bool (inB (cI C) C.length x)) :=
 givesA_partsH 9 Try.func66 (by kernel_rfl) (by kernel_rfl) (by kernel_rfl) (fun w=>goes_less (by kernel_rfl) (by kernel_rfl) (by kernel_rfl) (by kernel_rfl) (cn_2 z C x hC w []))
def cnS:List Vw→Option (Res1×List Prop):=fun vs =>
 match vs with
 | [.lst n k c,.val v]=>match numV v with
  | some x=>some (.val (.v (.bool (inB c n x))),[IsC k n c,n≤1000])
  | none=>none
 | _=>none
def cnO:OrcH:=avOrc 66 [1,0] cnS
theorem known_cn:Known pg (clsO cnO):=known_av (fun vs r ps h hp=>by
 unfold cnS at h
 split at h
 ·split at h
  ·rename_i x e
   cases h
   obtain ⟨⟨rfl,L,rfl,rfl⟩,hn,-⟩:=hp
   refine ⟨⟨⟨_,cI_plain L⟩,trivial⟩,fun ys hy=>?_⟩
   obtain ⟨y1,y2,rfl⟩:=len2 hy
   rw [numV_eq e]
   exact ⟨_,rfl,cont_g y1 L x hn⟩
  ·cases h
 ·cases h)
def adK1:Code:=bodyC Try.f48
def adK3:Code:=tlC adK1
def adK6:Code:=tlC adK3
def adK9:Code:=tlC adK6
def adK10:Code:=(hdC adK6)
def adK12:Code:=tlC adK10
def adK16:Code:=loopC adK12
theorem ad_19 (z0:Value) (D:List Int) (z:Value) (C:List Int) (d:Int) (hD:D.length≤1000) (hC:C.length≤1000) (hqad7_1:(ltI d D.length)=false) (hqad7_2:(incB (cI D) D.length)=true) (h0b:∀ j,j < (D.length)→inB (cI C) C.length (intAt (cI D) (j * 1))=true) (hqad18_1:(ltI D.length D.length)=false) (w:World) (hs:LN):Goes pg 29 adK9 (⟨[],[],0,[]⟩) (BaseW.H w hs) (OutH pg Try.f48 29 (.bool (ddB (cI C) C.length (cI D) D.length d)) w):=by
 have hcl_D:=cI_len D
 have hcl_C:=cI_len C
 have hcl_D:=cI_len D
 have ghqad7_1:=lF hqad7_1
 have ghqad18_1:=lF hqad18_1
 exact gL isR_e (gT cm (known_or known_in known_cn) 200 (T':=⟨[(6,(.v (.bool .true)))],[],0,[]⟩) (e:=.ret) (ps:=[]) [.go] (by kernel_rfl) (by kernel_rfl) trivial rfl) (Hd.en_eq (r:=(.bool .true)) (by rw [ddB_true.2 ⟨by omega,hqad7_2,fun j hj=>h0b j hj⟩]) (Hd.en_ret (v:=(.v (.bool .true))) (by kernel_rfl) rfl))
theorem ad_17 (z0:Value) (D:List Int) (z:Value) (C:List Int) (d:Int) (hD:D.length≤1000) (hC:C.length≤1000) (hqad7_1:(ltI d D.length)=false) (hqad7_2:(incB (cI D) D.length)=true) (i:Nat) (hi1:i≤D.length) (hi2:∀ j,j < i→inB (cI C) C.length (intAt (cI D) (j * 1))=true) (w:World) (hs:LN):Goes pg 29 adK16 (⟨[(qK6_11 C z),(qK6_9 D z0),(qK6_7 D),(20,(.v (.int .i64 i)))],[],0,[]⟩) (BaseW.H w hs) (Hd.StepC pg 29 0 (fun i:{i:Nat // i≤D.length∧∀ j,j < i→inB (cI C) C.length (intAt (cI D) (j * 1))=true}=>⟨[(qK6_11 C z),(qK6_9 D z0),(qK6_7 D),(20,(.v (.int .i64 i.1)))],[],0,[]⟩) (fun i:{i:Nat // i≤D.length∧∀ j,j < i→inB (cI C) C.length (intAt (cI D) (j * 1))=true}=>D.length - i.1) adK9 w (OutH pg Try.f48 29 (.bool (ddB (cI C) C.length (cI D) D.length d)) w) (⟨i,hi1,hi2⟩:{i:Nat // i≤D.length∧∀ j,j < i→inB (cI C) C.length (intAt (cI D) (j * 1))=true})):=by
 have hcl_D:=cI_len D
 have hcl_C:=cI_len C
 have hcl_D:=cI_len D
 have ghqad7_1:=lF hqad7_1
 rcases bE (ltI i D.length) with hqad18_1 | hqad18_1
 ·skip
  have ghqad18_1:=lT hqad18_1
  rcases bE (inB (cI C) C.length (intAt (cI D) (i * 1))) with hqad18_2 | hqad18_2
  ·skip
   exact gL isN_e (gT cm (known_or known_in known_cn) 200 (T':=⟨[(qK6_11 C z),(qK6_9 D z0),(qK6_7 D),(20,(.v (.int .i64 (((i + 1):Nat):Int))))],[],0,[]⟩) (e:=.normal) (ps:=[ltI i D.length=true,i < D.length,loadL pg (cI D) (i * 1) 3=some (.v (.int .i64 (intAt (cI D) (i * 1)))),IsC (0 + 1) C.length (cI C),C.length≤1000,(!inB (cI C) C.length (intAt (cI D) (i * 1)))=false,inR .i64 (((i:Nat):Int) + 1)]) [.go,.b true,.sym,.sym,.go,.go,.go,.go,.b false,.go,.go] (by kernel_rfl) (by kernel_rfl) ⟨hqad18_1,(by omega),(by rw [Nat.mul_one]; exact cI_load (by omega) 3 (u3) rfl),⟨rfl,_,rfl,rfl⟩,(by omega),(by rw [hqad18_2]; rfl),(by show -9223372036854775808≤_∧_≤9223372036854775807; constructor <;> omega),trivial⟩ rfl) (eO (⟨i + 1,by omega,(up_next0 hi2 hqad18_2)⟩) (by show D.length - (i + 1) < D.length - i; omega) rfl)
  ·skip
   exact gL isR_e (gT cm (known_or known_in known_cn) 200 (T':=⟨[(6,(.v (.bool .false)))],[],0,[]⟩) (e:=.ret) (ps:=[ltI i D.length=true,i < D.length,loadL pg (cI D) (i * 1) 3=some (.v (.int .i64 (intAt (cI D) (i * 1)))),IsC (0 + 1) C.length (cI C),C.length≤1000,(!inB (cI C) C.length (intAt (cI D) (i * 1)))=true]) [.go,.b true,.sym,.sym,.go,.go,.go,.go,.b true,.go] (by kernel_rfl) (by kernel_rfl) ⟨hqad18_1,(by omega),(by rw [Nat.mul_one]; exact cI_load (by omega) 3 (u3) rfl),⟨rfl,_,rfl,rfl⟩,(by omega),(by rw [hqad18_2]; rfl),trivial⟩ rfl) (Hd.en_so (by intro h; cases h) (by intro h; cases h) (Hd.en_eq (r:=(.bool .false)) (by rw [ddB_no (fun q=>by have q1:=q.2.2 i (by omega); rw [hqad18_2] at q1; cases q1)]) (Hd.en_ret (v:=(.v (.bool .false))) (by kernel_rfl) rfl)))
 ·skip
  have ghqad18_1:=lF hqad18_1
  obtain rfl:i=D.length:=by omega
  exact gL isX_e (gT cm (known_or known_in known_cn) 200 (T':=⟨[],[],0,[]⟩) (e:=.exit 0) (ps:=[ltI D.length D.length=false]) [.go,.b false] (by kernel_rfl) (by kernel_rfl) ⟨hqad18_1,trivial⟩ rfl) (Hd.en_sx (ad_19 z0 D z C d hD hC hqad7_1 hqad7_2 hi2  hqad18_1 w hs))
theorem ad_15 (z0:Value) (D:List Int) (z:Value) (C:List Int) (d:Int) (hD:D.length≤1000) (hC:C.length≤1000) (hqad7_1:(ltI d D.length)=false) (hqad7_2:(incB (cI D) D.length)=true) (w:World) (hs:LN):Goes pg 29 adK12 ((qK6_1 C D z z0)) (BaseW.H w hs) (Hd.AfterN pg 29 adK9 w (OutH pg Try.f48 29 (.bool (ddB (cI C) C.length (cI D) D.length d)) w)):=by
 have hcl_D:=cI_len D
 have hcl_C:=cI_len C
 have hcl_D:=cI_len D
 have ghqad7_1:=lF hqad7_1
 exact Hd.goes_loopA (id:=0) (by kernel_rfl) (by kernel_rfl) (fun i:{i:Nat // i≤D.length∧∀ j,j < i→inB (cI C) C.length (intAt (cI D) (j * 1))=true}=>⟨[(qK6_11 C z),(qK6_9 D z0),(qK6_7 D),(20,(.v (.int .i64 i.1)))],[],0,[]⟩) (fun i:{i:Nat // i≤D.length∧∀ j,j < i→inB (cI C) C.length (intAt (cI D) (j * 1))=true}=>D.length - i.1) (fun ix_ hs=>ad_17 z0 D z C d hD hC hqad7_1 hqad7_2 ix_.1 ix_.2.1 ix_.2.2 w hs) ⟨0,Nat.zero_le _,(fun j hj=>by omega)⟩ hs
theorem ad_14 (z0:Value) (D:List Int) (z:Value) (C:List Int) (d:Int) (hD:D.length≤1000) (hC:C.length≤1000) (hqad7_1:(ltI d D.length)=false) (hqad7_2:(incB (cI D) D.length)=true) (w:World) (hs:LN):Goes pg 29 adK12 ((qK6_1 C D z z0)) (BaseW.H w hs) (Hd.AfterN pg 29 adK9 w (OutH pg Try.f48 29 (.bool (ddB (cI C) C.length (cI D) D.length d)) w)):=by
 exact ad_15 z0 D z C d hD hC hqad7_1 hqad7_2 w hs
theorem ad_11 (z0:Value) (D:List Int) (z:Value) (C:List Int) (d:Int) (hD:D.length≤1000) (hC:C.length≤1000) (hqad7_1:(ltI d D.length)=false) (hqad7_2:(incB (cI D) D.length)=true) (w:World) (hs:LN):Goes pg 29 adK10 ((qK6_4 C D z z0)) (BaseW.H w hs) (Hd.AfterN pg 29 adK9 w (OutH pg Try.f48 29 (.bool (ddB (cI C) C.length (cI D) D.length d)) w)):=by
 have hcl_D:=cI_len D
 have hcl_C:=cI_len C
 have hcl_D:=cI_len D
 have ghqad7_1:=lF hqad7_1
 refine gS (by kernel_rfl) ?_
 exact gL isN_e (gT cm (known_or known_in known_cn) 200 (T':=(qK6_1 C D z z0)) (e:=.normal) (ps:=[]) [.go,.go,.go] (by kernel_rfl) (by kernel_rfl) trivial rfl) (Hd.en_n (ad_14 z0 D z C d hD hC hqad7_1 hqad7_2 w hs))
theorem ad_8 (z0:Value) (D:List Int) (z:Value) (C:List Int) (d:Int) (hD:D.length≤1000) (hC:C.length≤1000) (hqad7_1:(ltI d D.length)=false) (hqad7_2:(incB (cI D) D.length)=true) (w:World) (hs:LN):Goes pg 29 adK6 ((qK6_4 C D z z0)) (BaseW.H w hs) (OutH pg Try.f48 29 (.bool (ddB (cI C) C.length (cI D) D.length d)) w):=by
 exact gS (by kernel_rfl) (ad_11 z0 D z C d hD hC hqad7_1 hqad7_2 w hs)
theorem ad_5 (z0:Value) (D:List Int) (z:Value) (C:List Int) (d:Int) (hD:D.length≤1000) (hC:C.length≤1000) (w:World) (hs:LN):Goes pg 29 adK3 (⟨[(0,(.xl (z0) (D.length) 1 (cI D))),(qK6_11 C z),(2,(.v (.int .i64 (d))))],[],0,[]⟩) (BaseW.H w hs) (OutH pg Try.f48 29 (.bool (ddB (cI C) C.length (cI D) D.length d)) w):=by
 have hcl_D:=cI_len D
 have hcl_C:=cI_len C
 have hcl_D:=cI_len D
 refine gS (by kernel_rfl) ?_
 rcases bE (ltI d D.length) with hqad7_1 | hqad7_1
 ·skip
  have ghqad7_1:=lT hqad7_1
  exact gL isR_e (gT cm (known_or known_in known_cn) 200 (T':=⟨[(6,(.v (.bool .false)))],[],0,[]⟩) (e:=.ret) (ps:=[ltI d D.length=true,true=true,true=true,true=true]) [.go,.go,.go,.go,.go,.b true,.b true,.b true,.go,.b true,.go] (by kernel_rfl) (by kernel_rfl) ⟨hqad7_1,rfl,rfl,rfl,trivial⟩ rfl) (Hd.en_o (by intro h; cases h) (Hd.en_eq (r:=(.bool .false)) (by rw [ddB_no (fun q=>by have q1:=q.1; omega)]) (Hd.en_ret (v:=(.v (.bool .false))) (by kernel_rfl) rfl)))
 ·skip
  have ghqad7_1:=lF hqad7_1
  rcases bE (incB (cI D) D.length) with hqad7_2 | hqad7_2
  ·skip
   exact gL isN_e (gT cm (known_or known_in known_cn) 200 (T':=(qK6_4 C D z z0)) (e:=.normal) (ps:=[ltI d D.length=false,false=false,IsC (0 + 1) D.length (cI D),D.length≤1000,false=false,(!incB (cI D) D.length)=false]) [.go,.go,.go,.go,.go,.b false,.go,.b false,.b false,.go,.go,.b false] (by kernel_rfl) (by kernel_rfl) ⟨hqad7_1,rfl,⟨rfl,_,rfl,rfl⟩,(by omega),rfl,(by rw [hqad7_2]; rfl),trivial⟩ rfl) (Hd.en_n (ad_8 z0 D z C d hD hC hqad7_1 hqad7_2 w hs))
  ·skip
   exact gL isR_e (gT cm (known_or known_in known_cn) 200 (T':=⟨[(6,(.v (.bool .false)))],[],0,[]⟩) (e:=.ret) (ps:=[ltI d D.length=false,false=false,IsC (0 + 1) D.length (cI D),D.length≤1000,false=false,(!incB (cI D) D.length)=true]) [.go,.go,.go,.go,.go,.b false,.go,.b false,.b false,.go,.go,.b true,.go] (by kernel_rfl) (by kernel_rfl) ⟨hqad7_1,rfl,⟨rfl,_,rfl,rfl⟩,(by omega),rfl,(by rw [hqad7_2]; rfl),trivial⟩ rfl) (Hd.en_o (by intro h; cases h) (Hd.en_eq (r:=(.bool .false)) (by rw [ddB_no (fun q=>by have q1:=q.2.1; rw [hqad7_2] at q1; cases q1)]) (Hd.en_ret (v:=(.v (.bool .false))) (by kernel_rfl) rfl)))
theorem ad_2 (z0:Value) (D:List Int) (z:Value) (C:List Int) (d:Int) (hD:D.length≤1000) (hC:C.length≤1000) (w:World) (hs:LN):Goes pg 29 adK1 (⟨[(0,(.xl z0 D.length 1 (cI D))),(1,(.xl z C.length 1 (cI C))),(2,(.v (.int .i64 d)))],[],0,[]⟩) (BaseW.H w hs) (OutH pg Try.f48 29 (.bool (ddB (cI C) C.length (cI D) D.length d)) w):=by
 have hcl_D:=cI_len D
 have hcl_C:=cI_len C
 have hcl_D:=cI_len D
 refine gS (by kernel_rfl) ?_
 exact gL isN_e (gT cm (known_or known_in known_cn) 200 (T':=⟨[(0,(.xl (z0) (D.length) 1 (cI D))),(qK6_11 C z),(2,(.v (.int .i64 (d))))],[],0,[]⟩) (e:=.normal) (ps:=[]) [.go] (by kernel_rfl) (by kernel_rfl) trivial rfl) (Hd.en_n (ad_5 z0 D z C d hD hC w hs))
theorem adead_g (z0:Value) (D:List Int) (z:Value) (C:List Int) (d:Int) (hD:D.length≤1000) (hC:C.length≤1000):GivesA pg 48 [(.xl z0 D.length 1 (cI D)),(.xl z C.length 1 (cI C)),(.v (.int .i64 d))] (.bool (ddB (cI C) C.length (cI D) D.length d)) :=
 givesA_partsH 29 Try.func48 (by kernel_rfl) (by kernel_rfl) (by kernel_rfl) (fun w=>goes_less (by kernel_rfl) (by kernel_rfl) (by kernel_rfl) (by kernel_rfl) (ad_2 z0 D z C d hD hC w []))
def stX (st:Nat→Bool) (f:List AV):Nat→Nat→Bool
 | 0=>st
 | i + 1=>updB (stX st f i) (intAt f (i * 1)).toNat false
theorem stX_at {st:Nat→Bool} {f:List AV} {j:Nat}:∀ {g:Nat},(∀ i,i < g→0≤intAt f (i * 1))→stX st f g j=(st j && !inB f g j)
 | 0,_=>by rw [inB_no (fun i hi=>by omega)]; simp [stX]
 | g + 1,h=>by
  have ih:=stX_at (st:=st) (j:=j) (g:=g) (fun i hi=>h i (by omega))
  have hg:=h g (by omega)
  simp only [stX,updB]
  by_cases e:j=(intAt f (g * 1)).toNat
  ·rw [if_pos e,inB_yes (i:=g) (by omega) (by omega)]; simp
  ·rw [if_neg e,ih]
   congr 2
   cases h1:inB f g j with
   | true =>
    obtain ⟨i,a,b⟩:=inB_true.1 h1
    rw [inB_yes (i:=i) (by omega) b]
   | false =>
    rw [inB_no (fun i hi q=>?_)]
    by_cases e2:i=g
    ·subst e2; omega
    ·rw [inB_yes (i:=i) (by omega) q] at h1; cases h1
theorem stC_at {c:List AV} {j:Nat}:∀ {k:Nat},(∀ i,i < k→0≤intAt c (i * 1))→stC c k j=inB c k j
 | 0,_=>by rw [inB_no (fun i hi=>by omega)]; rfl
 | k + 1,h=>by
  have ih:=stC_at (c:=c) (j:=j) (k:=k) (fun i hi=>h i (by omega))
  have hg:=h k (by omega)
  simp only [stC,updB]
  by_cases e:j=(intAt c (k * 1)).toNat
  ·rw [if_pos e,inB_yes (i:=k) (by omega) (by omega)]
  ·rw [if_neg e,ih]
   cases h1:inB c k j with
   | true =>
    obtain ⟨i,a,b⟩:=inB_true.1 h1
    rw [inB_yes (i:=i) (by omega) b]
   | false =>
    rw [inB_no (fun i hi q=>?_)]
    by_cases e2:i=k
    ·subst e2; omega
    ·rw [inB_yes (i:=i) (by omega) q] at h1; cases h1
theorem flt_memR {st:Nat→Bool} {j:Nat} (hj:st j=true):∀ {m:Nat},j < m→((j:Nat):Int)∈flt st m
 | m + 1,h=>by
  simp only [flt]
  by_cases e:j=m
  ·subst e
   rw [if_pos hj]
   exact List.mem_append.2 (.inr (List.mem_singleton.2 rfl))
  ·have ih:=flt_memR hj (show j < m by omega)
   split
   ·exact List.mem_append.2 (.inl ih)
   ·exact ih
theorem litF_pos {c:List AV} {q:Int} {xs:List AV} {p:Nat}:∀ {k:Nat},0 < litF c q xs k p↔∃ i,i < k∧lgP c q (intAt xs (i * 1)).toNat p
 | 0=>⟨fun h=>by simp only [litF] at h; omega,fun ⟨i,h,_⟩=>by omega⟩
 | k + 1=>by
  have ih:=litF_pos (c:=c) (q:=q) (xs:=xs) (p:=p) (k:=k)
  have hb:=(litF_bd (c:=c) (q:=q) (xs:=xs) k p).1
  simp only [litF,Nat.zero_add]
  by_cases e:lgP c q (intAt xs (k * 1)).toNat p
  ·rw [if_pos e]
   exact ⟨fun _=>⟨k,by omega,e⟩,fun _=>by omega⟩
  ·rw [if_neg e,Int.add_zero,ih]
   refine ⟨fun ⟨i,a,b⟩=>⟨i,by omega,b⟩,fun ⟨i,a,b⟩=>?_⟩
   by_cases e2:i=k
   ·subst e2; exact absurd b e
   ·exact ⟨i,by omega,b⟩
def lvP (c:List AV) (q:Int) (e:List AV) (k:Nat) (f:List AV) (g:Nat) (p:Nat):Prop:=∃ i,i < k∧inB f g (intAt e (i * 1))=false∧lgP c q (intAt e (i * 1)).toNat p
def lvB (c:List AV) (q:Int) (e:List AV) (k:Nat) (f:List AV) (g:Nat) (p:Nat):Bool:=@decide (lvP c q e k f g p) (Classical.propDecidable _)
theorem lvB_true {c e f:List AV} {q:Int} {k g p:Nat}:lvB c q e k f g p=true↔lvP c q e k f g p:=by unfold lvB; exact @decide_eq_true_iff _ (Classical.propDecidable _)
theorem lvB_no {c e f:List AV} {q:Int} {k g p:Nat} (h:¬ lvP c q e k f g p):lvB c q e k f g p=false:=by unfold lvB; exact @decide_eq_false _ (Classical.propDecidable _) h
theorem dk_lit {C D:List Int} {n d q:Int} {y:Value} {P:PL} {p:Nat} (hm:P.length≤24) (hch:chP (cI C) C.length P.length) (hD:∀ i,i < D.length→0≤intAt (cI D) (i * 1)) :
  ltI 0 (litF (cT P) q (cI (flt (stM n d q y P (stX (stC (cI C) C.length) (cI D) D.length)) P.length)) (flt (stM n d q y P (stX (stC (cI C) C.length) (cI D) D.length)) P.length).length p)=lvB (cT P) q (cI C) C.length (cI D) D.length p:=by
 rw [flt_M hm]
 have hs:∀ j:Nat,stX (stC (cI C) C.length) (cI D) D.length j=(inB (cI C) C.length j && !inB (cI D) D.length j):=fun j=>by
  rw [stX_at hD,stC_at (fun i hi=>(hch.1 i hi).1)]
 generalize hX:flt (stX (stC (cI C) C.length) (cI D) D.length) P.length=X
 have key:0 < litF (cT P) q (cI X) X.length p↔lvP (cT P) q (cI C) C.length (cI D) D.length p:=by
  rw [litF_pos]
  constructor
  ·rintro ⟨i,hi,hl⟩
   have hx:intAt (cI X) (i * 1)=X[i]:=by rw [Nat.mul_one]; exact cI_int hi
   have hmem:X[i]∈flt (stX (stC (cI C) C.length) (cI D) D.length) P.length:=by rw [hX]; exact List.getElem_mem hi
   obtain ⟨h0,h1,h2⟩:=flt_mem hmem
   rw [hs,Bool.and_eq_true] at h2
   have e9:((X[i].toNat:Nat):Int)=X[i]:=by omega
   rw [e9] at h2
   obtain ⟨k,hk,ek⟩:=inB_true.1 h2.1
   refine ⟨k,hk,?_,?_⟩
   ·rw [ek]
    cases h8:inB (cI D) D.length X[i] with
    | false=>rfl
    | true=>rw [h8] at h2; exact absurd h2.2 (by decide)
   ·rw [ek,← hx]; exact hl
  ·rintro ⟨k,hk,hn,hl⟩
   have hb:=hch.1 k hk
   obtain ⟨j,hj⟩:=Int.eq_ofNat_of_zero_le hb.1
   have hst:stX (stC (cI C) C.length) (cI D) D.length j=true:=by
    rw [hs,← hj,inB_yes hk rfl,hn]; rfl
   have hmem:=flt_memR hst (show j < P.length by omega)
   rw [hX] at hmem
   obtain ⟨i,hi,ei⟩:=List.getElem_of_mem hmem
   refine ⟨i,hi,?_⟩
   have hx:intAt (cI X) (i * 1)=X[i]:=by rw [Nat.mul_one]; exact cI_int hi
   rw [hx,ei,← hj]
   exact hl
 cases hv:lvB (cT P) q (cI C) C.length (cI D) D.length p with
 | true =>
  have:=key.2 (lvB_true.1 hv)
  rw [ltI_iff]; exact decide_eq_true this
 | false =>
  rw [ltI_iff]; exact decide_eq_false (fun w=>by rw [lvB_true.2 (key.1 w)] at hv; cases hv)
def cdP (n d:Int) (e:List AV) (k:Nat) (p:Int) (f:List AV) (g:Nat):Prop:=(0≤p∧p < n)∧ddP e k f g d
def cdE (n d q:Int) (c:List AV) (m:Nat) (e:List AV) (k:Nat) (p:Int) (f:List AV) (g:Nat):Int :=
 if icE n d q c m e k=0 then (if @decide (cdP n d e k p f g) (Classical.propDecidable _)=true then (if lvB c q e k f g p.toNat=true then 14 else 0) else 3) else icE n d q c m e k
section
variable {n d q p : Int} {c e f : List AV} {m k g : Nat}
theorem cdE_bad (h:¬ icE n d q c m e k=0):cdE n d q c m e k p f g=icE n d q c m e k:=by unfold cdE; rw [if_neg h]
theorem cdE_no (h:icE n d q c m e k=0) (h2:¬ cdP n d e k p f g):cdE n d q c m e k p f g=3:=by unfold cdE; rw [if_pos h,@decide_eq_false _ (Classical.propDecidable _) h2]; rfl
theorem cdE_lv (h:icE n d q c m e k=0) (h2:cdP n d e k p f g) (h3:lvB c q e k f g p.toNat=true):cdE n d q c m e k p f g=14:=by unfold cdE; rw [if_pos h,@decide_eq_true _ (Classical.propDecidable _) h2,if_pos rfl,if_pos h3]
theorem cdE_ok (h:icE n d q c m e k=0) (h2:cdP n d e k p f g) (h3:lvB c q e k f g p.toNat=false):cdE n d q c m e k p f g=0:=by unfold cdE; rw [if_pos h,@decide_eq_true _ (Classical.propDecidable _) h2,if_pos rfl,h3]; rfl
end
def adS:List Vw→Option (Res1×List Prop):=fun vs =>
 match vs with
 | [.lst g k0 f,.lst k j e,.val v]=>match numV v with
  | some d=>some (.val (.v (.bool (ddB e k f g d))),[IsC k0 g f,IsC j k e,g≤1000,k≤1000])
  | none=>none
 | _=>none
def adO:OrcH:=avOrc 48 [1,1,0] adS
theorem known_ad:Known pg (clsO adO):=known_av (fun vs r ps h hp=>by
 unfold adS at h
 split at h
 ·split at h
  ·rename_i d e
   cases h
   obtain ⟨⟨rfl,D,rfl,rfl⟩,⟨rfl,C,rfl,rfl⟩,hD,hC,-⟩:=hp
   refine ⟨⟨⟨_,cI_plain D⟩,⟨_,cI_plain C⟩,trivial⟩,fun ys hy=>?_⟩
   match ys,hy with
   | [y1,y2,y3],_ =>
    rw [numV_eq e]
    exact ⟨_,rfl,adead_g y1 D y2 C d hD hC⟩
  ·cases h
 ·cases h)
theorem dd_rng {C D:List Int} {d m:Int} (h:ddP (cI C) C.length (cI D) D.length d) (hch:chP (cI C) C.length m):∀ i,i < D.length→0≤intAt (cI D) (i * 1)∧intAt (cI D) (i * 1) < m:=fun i hi=>by
 obtain ⟨k,hk,e⟩:=inB_true.1 (h.2.2 i hi)
 have:=hch.1 k hk
 rw [e] at this
 exact this
theorem dd_ch {C D:List Int} {d m:Int} (h:ddP (cI C) C.length (cI D) D.length d) (hch:chP (cI C) C.length m):chB (cI D) D.length m=true:=chB_true.2 ⟨dd_rng h hch,incB_true.1 h.2.1⟩
def o3O:OrcH:=orO (orO ckO nrO) (orO ltOc adO)
theorem known_o3:Known pg (clsO o3O):=known_or (known_or known_ck known_nr) (known_or known_ltc known_ad)
def o4O:OrcH:=orO (orO isO riO) (orO nnO lgO)
theorem known_o4:Known pg (clsO o4O):=known_or (known_or known_is known_ri) (known_or known_nn known_lg)
end
end Go.Proofs.Ytnphldmnakbknaa
