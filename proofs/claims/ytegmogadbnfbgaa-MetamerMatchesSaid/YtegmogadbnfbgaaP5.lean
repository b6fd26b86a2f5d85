/- Texts of this proof, put together. -/
import Derived.Test.YtegmogadbnfbgaaP4
set_option maxHeartbeats 4000000
set_option linter.all false
/- Cases and truths that are too great; the spans of both sides. -/
namespace Go.Proofs.Ytegmogadbnfbgaa
open Go Ev
noncomputable section
section
variable (E : List (Value × List (Int × Int))) (L : List (Int × Int)) (y yl : Value)
@[reducible] def a3z:Nat×Ev.AB:=(0,(.cells [(.xl (y) (E.length) 1 (Z1 E)),(.xl (yl) (L.length) 2 (cR L))] 25))
@[reducible] def b0r:Ev.Lit:=⟨[(1,(.ptr 0 0)),(3,(.v (.int .i64 (.ofNat 0))))],[],1,[(a3z E L y yl)]⟩
@[reducible] def a56:Ev.Lit:=⟨[(1,(.ptr 0 0))],[],1,[(a3z E L y yl)]⟩
end
def gwP(c:List AV)(m n:Nat):Prop:=12<n∨6<m∨∃ i,i<m∧12<U5 c (i*1)
open Classical in
def gwB(c:List AV)(m n:Nat):Bool:=decide (gwP c m n)
theorem gwB_true{c:List AV}{m n:Nat}:gwB c m n=true↔gwP c m n:=@decide_eq_true_iff _ (Classical.propDecidable _)
theorem gwB_false{c:List AV}{m n:Nat}:gwB c m n=false↔¬ gwP c m n:=@decide_eq_false_iff_not _ (Classical.propDecidable _)
theorem a53{c:List AV}{m n:Nat}(h:12<n∨6<m):gwB c m n=true:=gwB_true.2 (h.elim .inl (fun h=>.inr (.inl h)))
theorem b7o{c:List AV}{m n i:Nat}(hi:i<m)(h:12<U5 c (i*1)):gwB c m n=true:=gwB_true.2 (.inr (.inr ⟨i,hi,h⟩))
theorem c0R{c:List AV}{m n:Nat}(h:¬ (12<n∨6<m))(h2:∀ i,i<m→¬ 12<U5 c (i*1)):gwB c m n=false:=gwB_false.2 (fun k=>by
 rcases k with k|k|⟨i,k1,k2⟩
 ·exact h (.inl k)
 ·exact h (.inr k)
 ·exact h2 i k1 k2)
theorem c5z{c:List AV}{m n:Nat}(h:¬ gwB c m n=true):m≤6:=by
 rcases Nat.lt_or_ge 6 m with k|k
 ·exact absurd (a53 (.inr k)) h
 ·exact k
theorem b8A{l0 h0 l1 h1 s:Int}(a:0≤l0∧l0≤h0)(b:0≤l1∧l1≤h1)(hs:0≤s):l0*l1*s≤h0*h1*s:=by
 have h2:l0*l1≤h0*h1:=Int.mul_le_mul a.2 b.2 b.1 (by omega)
 exact Int.mul_le_mul_of_nonneg_right h2 hs
noncomputable def b8d:Code:=R8 Try.f13
noncomputable def b93:Code:=N4 b8d
noncomputable def b5a:Code:=N4 b93
noncomputable def a9n:Code:=N4 b5a
noncomputable def b4a:Code:=(m9 b5a)
noncomputable def b1a:Code:=N4 b4a
noncomputable def b9V:Code:=L2 b1a
theorem b9P(y:Value)(E:List (Value×List (Int×Int)))(yl:Value)(L:List (Int×Int))(hqgwg7_1:(X8 12 L.length)=false)(hqgwg7_2:(X8 6 E.length)=false)(h0b:∀ j,j<(E.length)→¬ 12<U5 (Z1 E) (j*1))(hqgwg18_1:(X8 E.length E.length)=false)(w:World)(hs:List Nat):Y4 Try.prog 28 a9n (⟨[],[],1,[]⟩) (BaseW.H w hs) (V3 Try.prog Try.f13 28 (.bool (gwB (Z1 E) E.length L.length)) w):=by
 have hcl_L:=Y6 L
 have ghqgwg7_1:=Z6 hqgwg7_1
 have ghqgwg7_2:=Z6 hqgwg7_2
 have ghqgwg18_1:=Z6 hqgwg18_1
 exact Z8 W1 (Z7 Try.checked.mixed (Z5) 200 (T':=⟨[(2,(.v (.bool .false)))],[],1,[]⟩) (e:=.ret) (ps:=[]) [.go] (by kernel_rfl) (by kernel_rfl) trivial rfl) (Hd.en_eq (r:=(.bool .false)) (by rw [c0R (c:=(Z1 E)) (m:=E.length) (n:=L.length) (by omega) h0b]) (Hd.en_ret (v:=(.v (.bool .false))) (by kernel_rfl) rfl))
theorem c0n(y:Value)(E:List (Value×List (Int×Int)))(yl:Value)(L:List (Int×Int))(hqgwg7_1:(X8 12 L.length)=false)(hqgwg7_2:(X8 6 E.length)=false)(i:Nat)(hi1:i≤E.length)(hi2:∀ j,j<i→¬ 12<U5 (Z1 E) (j*1))(w:World)(hs:List Nat):Y4 Try.prog 28 b9V (⟨[(1,(.ptr 0 0)),(3,(.v (.int .i64 i)))],[],1,[(a3z E L y yl)]⟩) (BaseW.H w hs) (Hd.StepC Try.prog 28 0 (fun i:{i:Nat // i≤E.length∧∀ j,j<i→¬ 12<U5 (Z1 E) (j*1)}=>⟨[(1,(.ptr 0 0)),(3,(.v (.int .i64 i.1)))],[],1,[(a3z E L y yl)]⟩) (fun i:{i:Nat // i≤E.length∧∀ j,j<i→¬ 12<U5 (Z1 E) (j*1)}=>E.length - i.1) a9n w (V3 Try.prog Try.f13 28 (.bool (gwB (Z1 E) E.length L.length)) w) (⟨i,hi1,hi2⟩:{i:Nat // i≤E.length∧∀ j,j<i→¬ 12<U5 (Z1 E) (j*1)})):=by
 have hcl_L:=Y6 L
 have ghqgwg7_1:=Z6 hqgwg7_1
 have ghqgwg7_2:=Z6 hqgwg7_2
 rcases Bool.eq_false_or_eq_true (X8 i E.length) with hqgwg18_1|hqgwg18_1
 ·have ghqgwg18_1:=Y1 hqgwg18_1
  rcases Bool.eq_false_or_eq_true (X8 12 ((U5 (Z1 E) (i*1):Nat):Int)) with hqgwg18_2|hqgwg18_2
  ·have ghqgwg18_2:=Y1 hqgwg18_2
   exact Z8 W1 (Z7 Try.checked.mixed (Z5) 200 (T':=⟨[(2,(.v (.bool .true)))],[],1,[]⟩) (e:=.ret) (ps:=[X8 i E.length=true,i<E.length,W7 Try.prog (Z1 E) (i*1) 23=some (AV.xl (xlY (Z1 E) (i*1)) (U5 (Z1 E) (i*1)) 2 (X7 (Z1 E) (i*1))),X8 12 ((U5 (Z1 E) (i*1):Nat):Int)=true]) [.go,.go,.go,.go,.go,.b true,.go,.go,.go,.sym,.sym,.go,.go,.b true,.go] (by kernel_rfl) (by kernel_rfl) ⟨hqgwg18_1,(by omega),(by rw [Nat.mul_one];exact Q0 (by omega) 23 (Try.underlying23) rfl),hqgwg18_2,trivial⟩ rfl) (Hd.en_so (by intro h;cases h) (by intro h;cases h) (Hd.en_eq (r:=(.bool .true)) (by rw [b7o (c:=(Z1 E)) (m:=E.length) (n:=L.length) (i:=i) (by omega) (by omega)]) (Hd.en_ret (v:=(.v (.bool .true))) (by kernel_rfl) rfl)))
  ·have ghqgwg18_2:=Z6 hqgwg18_2
   exact Z8 V0 (Z7 Try.checked.mixed (Z5) 200 (T':=⟨[(1,(.ptr 0 0)),(3,(.v (.int .i64 (((i+1):Nat):Int))))],[],1,[(a3z E L y yl)]⟩) (e:=.normal) (ps:=[X8 i E.length=true,i<E.length,W7 Try.prog (Z1 E) (i*1) 23=some (AV.xl (xlY (Z1 E) (i*1)) (U5 (Z1 E) (i*1)) 2 (X7 (Z1 E) (i*1))),X8 12 ((U5 (Z1 E) (i*1):Nat):Int)=false,O8 IntKind.i64 (((i:Nat):Int)+1)]) [.go,.go,.go,.go,.go,.b true,.go,.go,.go,.sym,.sym,.go,.go,.b false,.go,.go,.go] (by kernel_rfl) (by kernel_rfl) ⟨hqgwg18_1,(by omega),(by rw [Nat.mul_one];exact Q0 (by omega) 23 (Try.underlying23) rfl),hqgwg18_2,(by show -9223372036854775808≤_∧_≤9223372036854775807;constructor<;>omega),trivial⟩ rfl) (Hd.en_on (⟨i+1,by omega,(H7 (q:=fun j=>¬ 12<U5 (Z1 E) (j*1)) hi2 (by omega))⟩) (by show E.length - (i+1)<E.length - i;omega) rfl)
 ·have ghqgwg18_1:=Z6 hqgwg18_1
  obtain rfl:i=E.length:=by omega
  exact Z8 E7 (Z7 Try.checked.mixed (Z5) 200 (T':=⟨[],[],1,[]⟩) (e:=.exit 0) (ps:=[X8 E.length E.length=false]) [.go,.go,.go,.go,.go,.b false] (by kernel_rfl) (by kernel_rfl) ⟨hqgwg18_1,trivial⟩ rfl) (Hd.en_sx (b9P y E yl L hqgwg7_1 hqgwg7_2 hi2  hqgwg18_1 w hs))
theorem c0o(y:Value)(E:List (Value×List (Int×Int)))(yl:Value)(L:List (Int×Int))(hqgwg7_1:(X8 12 L.length)=false)(hqgwg7_2:(X8 6 E.length)=false)(w:World)(hs:List Nat):Y4 Try.prog 28 b1a ((b0r E L y yl)) (BaseW.H w hs) (Hd.AfterN Try.prog 28 a9n w (V3 Try.prog Try.f13 28 (.bool (gwB (Z1 E) E.length L.length)) w)):=by
 have hcl_L:=Y6 L
 have ghqgwg7_1:=Z6 hqgwg7_1
 have ghqgwg7_2:=Z6 hqgwg7_2
 exact Hd.goes_loopA (id:=0) (by kernel_rfl) (by kernel_rfl) (fun i:{i:Nat // i≤E.length∧∀ j,j<i→¬ 12<U5 (Z1 E) (j*1)}=>⟨[(1,(.ptr 0 0)),(3,(.v (.int .i64 i.1)))],[],1,[(a3z E L y yl)]⟩) (fun i:{i:Nat // i≤E.length∧∀ j,j<i→¬ 12<U5 (Z1 E) (j*1)}=>E.length - i.1) (fun ix_ hs=>c0n y E yl L hqgwg7_1 hqgwg7_2 ix_.1 ix_.2.1 ix_.2.2 w hs) ⟨0,Nat.zero_le _,(fun j hj=>by omega)⟩ hs
theorem c21(y:Value)(E:List (Value×List (Int×Int)))(yl:Value)(L:List (Int×Int))(hqgwg7_1:(X8 12 L.length)=false)(hqgwg7_2:(X8 6 E.length)=false)(w:World)(hs:List Nat):Y4 Try.prog 28 b1a ((b0r E L y yl)) (BaseW.H w hs) (Hd.AfterN Try.prog 28 a9n w (V3 Try.prog Try.f13 28 (.bool (gwB (Z1 E) E.length L.length)) w)):=by
 exact c0o y E yl L hqgwg7_1 hqgwg7_2 w hs
theorem c03(y:Value)(E:List (Value×List (Int×Int)))(yl:Value)(L:List (Int×Int))(hqgwg7_1:(X8 12 L.length)=false)(hqgwg7_2:(X8 6 E.length)=false)(w:World)(hs:List Nat):Y4 Try.prog 28 b4a ((a56 E L y yl)) (BaseW.H w hs) (Hd.AfterN Try.prog 28 a9n w (V3 Try.prog Try.f13 28 (.bool (gwB (Z1 E) E.length L.length)) w)):=by
 have hcl_L:=Y6 L
 have ghqgwg7_1:=Z6 hqgwg7_1
 have ghqgwg7_2:=Z6 hqgwg7_2
 refine Hd.goes_seqA (by kernel_rfl) ?_
 exact Z8 V0 (Z7 Try.checked.mixed (Z5) 200 (T':=(b0r E L y yl)) (e:=.normal) (ps:=[]) [.go] (by kernel_rfl) (by kernel_rfl) trivial rfl) (Hd.en_n (c21 y E yl L hqgwg7_1 hqgwg7_2 w hs))
theorem c2w(y:Value)(E:List (Value×List (Int×Int)))(yl:Value)(L:List (Int×Int))(hqgwg7_1:(X8 12 L.length)=false)(hqgwg7_2:(X8 6 E.length)=false)(w:World)(hs:List Nat):Y4 Try.prog 28 b5a ((a56 E L y yl)) (BaseW.H w hs) (V3 Try.prog Try.f13 28 (.bool (gwB (Z1 E) E.length L.length)) w):=by
 exact Hd.goes_seqA (by kernel_rfl) (c03 y E yl L hqgwg7_1 hqgwg7_2 w hs)
theorem c2Z(y:Value)(E:List (Value×List (Int×Int)))(yl:Value)(L:List (Int×Int))(w:World)(hs:List Nat):Y4 Try.prog 28 b93 ((a56 E L y yl)) (BaseW.H w hs) (V3 Try.prog Try.f13 28 (.bool (gwB (Z1 E) E.length L.length)) w):=by
 have hcl_L:=Y6 L
 refine Hd.goes_seqA (by kernel_rfl) ?_
 rcases Bool.eq_false_or_eq_true (X8 12 L.length) with hqgwg7_1|hqgwg7_1
 ·have ghqgwg7_1:=Y1 hqgwg7_1
  exact Z8 W1 (Z7 Try.checked.mixed (Z5) 200 (T':=⟨[(2,(.v (.bool .true)))],[],1,[]⟩) (e:=.ret) (ps:=[X8 12 L.length=true,true=true,true=true,true=true,true=true]) [.go,.go,.go,.go,.go,.b true,.b true,.b true,.b true,.go,.b true,.go] (by kernel_rfl) (by kernel_rfl) ⟨hqgwg7_1,rfl,rfl,rfl,rfl,trivial⟩ rfl) (Hd.en_o (by intro h;cases h) (Hd.en_eq (r:=(.bool .true)) (by rw [a53 (c:=(Z1 E)) (m:=E.length) (n:=L.length) (by omega)]) (Hd.en_ret (v:=(.v (.bool .true))) (by kernel_rfl) rfl)))
 ·have ghqgwg7_1:=Z6 hqgwg7_1
  rcases Bool.eq_false_or_eq_true (X8 6 E.length) with hqgwg7_2|hqgwg7_2
  ·have ghqgwg7_2:=Y1 hqgwg7_2
   exact Z8 W1 (Z7 Try.checked.mixed (Z5) 200 (T':=⟨[(2,(.v (.bool .true)))],[],1,[]⟩) (e:=.ret) (ps:=[X8 12 L.length=false,false=false,false=false,false=false,X8 6 E.length=true]) [.go,.go,.go,.go,.go,.b false,.go,.b false,.go,.b false,.go,.b false,.go,.go,.b true,.go] (by kernel_rfl) (by kernel_rfl) ⟨hqgwg7_1,rfl,rfl,rfl,hqgwg7_2,trivial⟩ rfl) (Hd.en_o (by intro h;cases h) (Hd.en_eq (r:=(.bool .true)) (by rw [a53 (c:=(Z1 E)) (m:=E.length) (n:=L.length) (by omega)]) (Hd.en_ret (v:=(.v (.bool .true))) (by kernel_rfl) rfl)))
  ·have ghqgwg7_2:=Z6 hqgwg7_2
   exact Z8 V0 (Z7 Try.checked.mixed (Z5) 200 (T':=(a56 E L y yl)) (e:=.normal) (ps:=[X8 12 L.length=false,false=false,false=false,false=false,X8 6 E.length=false]) [.go,.go,.go,.go,.go,.b false,.go,.b false,.go,.b false,.go,.b false,.go,.go,.b false] (by kernel_rfl) (by kernel_rfl) ⟨hqgwg7_1,rfl,rfl,rfl,hqgwg7_2,trivial⟩ rfl) (Hd.en_n (c2w y E yl L hqgwg7_1 hqgwg7_2 w hs))
theorem c4I(y:Value)(E:List (Value×List (Int×Int)))(yl:Value)(L:List (Int×Int))(w:World)(hs:List Nat):Y4 Try.prog 28 b8d (⟨[(0,(.agg [.xl y E.length 1 (Z1 E),.xl yl L.length 2 (cR L)]))],[],0,[]⟩) (BaseW.H w hs) (V3 Try.prog Try.f13 28 (.bool (gwB (Z1 E) E.length L.length)) w):=by
 have hcl_L:=Y6 L
 refine Hd.goes_seqA (by kernel_rfl) ?_
 exact Z8 V0 (Z7 Try.checked.mixed (Z5) 200 (T':=(a56 E L y yl)) (e:=.normal) (ps:=[]) [.go,.go] (by kernel_rfl) (by kernel_rfl) trivial rfl) (Hd.en_n (c2Z y E yl L w hs))
theorem c4L(y:Value)(E:List (Value×List (Int×Int)))(yl:Value)(L:List (Int×Int)):GivesA Try.prog 13 [(.agg [.xl y E.length 1 (Z1 E),.xl yl L.length 2 (cR L)])] (.bool (gwB (Z1 E) E.length L.length)) :=
 W0 28 Try.func13 (by kernel_rfl) (by kernel_rfl) (by kernel_rfl) (fun w=>W2 (by kernel_rfl) (by kernel_rfl) (by kernel_rfl) (by kernel_rfl) (c4I y E yl L w []))
end
end Go.Proofs.Ytegmogadbnfbgaa
set_option maxHeartbeats 2000000
set_option linter.all false
/- What is known of a sight of two chips that is the caller's own. -/
namespace Go.Proofs.Ytegmogadbnfbgaa
open Go Ev
noncomputable section
section
variable (E : List (Value × List (Int × Int))) (L : List (Int × Int)) (y yl : Value)
@[reducible] def b1X:Ev.AV:=(.agg [.xl y E.length 1 (Z1 E),.xl yl L.length 2 (cR L)])
end
def Q1(c d:List AV)(n:Nat):Prop:=∀ b,b<n → -1000≤Z9 c (b*1) - Z9 d (b*1)∧Z9 c (b*1) - Z9 d (b*1)≤1000
def c6k:List Yw→Option (C9×List Prop):=fun vs =>
 match vs with
 |[.str [.ext a0,.ext a1,.fnc f0 cc],.one (.ext ar),.one (.ext ag)]=>match a0,a1,f0,cc with
  |.xl y m k1 cE,.xl yl n k2 cL,.func f,[.xl z r k5 cM,.xl zk s k6 cK]=>match ar,ag,Nat.beq f 82 with
   |.xl yr q kp cP,.v (.bool g),true=>some (.blk (fun i=>.slu i 0 n 0) (.row (cI (tI (W8 cP (Y7 cM cK n) g) n)) 2 1),[V5 k1 cE m,Y5 k2 n cL,V9 k5 r cM,V9 k6 s cK,Y5 kp q cP,1≤n∧n≤8,q=n,r=n,s=n,Q1 cM cK n])
   |_,_,_=>none
  |_,_,_,_=>none
 |_=>none
def c75:R6:=u0 90 [.str [.ext,.ext,.fnc],.one .ext,.one .ext] c6k
theorem y5:Known Try.prog (clsO c75):=F2 (fun vs r ps h hp=>by
 unfold c6k at h
 split at h
 ·split at h
  ·split at h
   ·rename_i e1
    cases h
    obtain ⟨⟨rfl,E,rfl,rfl⟩,⟨rfl,L,rfl,rfl⟩,⟨rfl,M,rfl,rfl⟩,⟨rfl,K,rfl,rfl⟩,⟨rfl,P,rfl,rfl⟩,h1,h2,h3,h4,h5,-⟩:=hp
    rw [Nat.eq_of_beq_eq_true e1]
    refine ⟨⟨⟨U3 (Q3 E),U3 (W3 (X4 L)),⟨U3 (W3 (Z2 M)),U3 (W3 (Z2 K)),trivial⟩,trivial⟩,U3 (W3 (X4 P)),a7A _,trivial⟩,⟨[[[],[],[undef,undef]],[[]],[[]]],⟨trivial,trivial,rfl,trivial⟩,trivial,trivial,trivial⟩,fun ys hy=>?_⟩
    match ys,hy with
    |[[x0,x1,[q0,q1]],zs1,zs2],_=>exact a3i (c7A _ E _ L q0 _ M q1 _ K _ P _ h1 h2 h3 h4 h5) (one_slu _ (Z2 _))
   ·cases h
  ·cases h
 ·cases h)
theorem c1i(y:Value)(E:List (Value×List (Int×Int)))(yl:Value)(L:List (Int×Int))(u v0:Value)(X0:List Int)(v1:Value)(X1:List Int)(v2:Value)(X2:List Int)(ul:Value)(Y:List Int)(q0 z:Value)(M:List Int)(q1 zk:Value)(K:List Int)(h8:L.length≤8)(h0:X0.length=L.length)(h1:X1.length=L.length)(h2:X2.length=L.length)(h3:Y.length=L.length)(h4:M.length=L.length)(h5:K.length=L.length)
  (m0:∀ b,b<L.length→0≤Z9 (cI X0) (b*1)∧Z9 (cI X0) (b*1)≤100) (m1:∀ b,b<L.length→0≤Z9 (cI X1) (b*1)∧Z9 (cI X1) (b*1)≤100) (m2:∀ b,b<L.length→0≤Z9 (cI X2) (b*1)∧Z9 (cI X2) (b*1)≤100) (m3:∀ b,b<L.length→0≤Z9 (cI Y) (b*1)∧Z9 (cI Y) (b*1)≤100) (m4:Q1 (cI M) (cI K) L.length) :
  GivesA Try.prog 54 [.agg [.xl y E.length 1 (Z1 E),.xl yl L.length 2 (cR L),.fn (.func 82) [] [.xp q0 1 1 [.xl z M.length 1 (cI M)] 0,.xp q1 1 1 [.xl zk K.length 1 (cI K)] 0]],.agg [.xl u 3 1 [.xl v0 X0.length 1 (cI X0),.xl v1 X1.length 1 (cI X1),.xl v2 X2.length 1 (cI X2)],.xl ul Y.length 1 (cI Y)]] (.agg #[.int .i64 (T6 (J5 (cI X0) (cI X1) (cI X2) (cI Y) (Y7 (cI M) (cI K) L.length) 0) L.length),.int .i64 (T6 (J5 (cI X0) (cI X1) (cI X2) (cI Y) (Y7 (cI M) (cI K) L.length) 1) L.length),.int .i64 (T6 (J5 (cI X0) (cI X1) (cI X2) (cI Y) (Y7 (cI M) (cI K) L.length) 2) L.length)]):=by
 have hg:=c79 y E yl L u [(v0,X0),(v1,X1),(v2,X2)] ul Y q0 z M q1 zk K h8 rfl (fun i hi=>by match i,hi with|0,_=>exact h0|1,_=>exact h1|2,_=>exact h2) h3 h4 h5 (fun i hi b hb=>by match i,hi with|0,_=>exact m0 b hb|1,_=>exact m1 b hb|2,_=>exact m2 b hb) m3 m4
 rw [a6Z (by decide),a6Z (by decide),a6Z (by decide)] at hg
 exact hg
def a2r(c0 c1 c2 cY:List AV)(n:Nat):Prop:=(∀ b,b<n→0≤Z9 c0 (b*1)∧Z9 c0 (b*1)≤100)∧(∀ b,b<n→0≤Z9 c1 (b*1)∧Z9 c1 (b*1)≤100)∧(∀ b,b<n→0≤Z9 c2 (b*1)∧Z9 c2 (b*1)≤100)∧(∀ b,b<n→0≤Z9 cY (b*1)∧Z9 cY (b*1)≤100)
def c3Z:List Yw→Option (C9×List Prop):=fun vs =>
 match vs with
 |[.str [.ext a0,.ext a1,.fnc f0 cc],.str [.lls mx k3 rows,.lst nx k4 cY]]=>match a0,a1,f0,cc with
  |.xl y m k1 cE,.xl yl n k2 cL,.func f,[.xl z r k5 cM,.xl zk s k6 cK]=>match Nat.beq f 82,rows with
   |true,[(n0,c0),(n1,c1),(n2,c2)]=>some (.val (.agg [.v (.int .i64 (T6 (J5 c0 c1 c2 cY (Y7 cM cK n) 0) n)),.v (.int .i64 (T6 (J5 c0 c1 c2 cY (Y7 cM cK n) 1) n)),.v (.int .i64 (T6 (J5 c0 c1 c2 cY (Y7 cM cK n) 2) n))]),[V5 k1 cE m,Y5 k2 n cL,V9 k5 r cM,V9 k6 s cK,n≤8,J7 k3 n0 c0,J7 k3 n1 c1,J7 k3 n2 c2,J7 k4 nx cY,n0=n,n1=n,n2=n,nx=n,r=n,s=n,E9 mx,a2r c0 c1 c2 cY n,Q1 cM cK n])
   |_,_=>none
  |_,_,_,_=>none
 |_=>none
def c7n:R6:=u0 54 [.str [.ext,.ext,.fnc],.str [.lls 0,.lst 0]] c3Z
theorem w7:Known Try.prog (clsO c7n):=F2 (fun vs r ps h hp=>by
 unfold c3Z at h
 split at h
 ·split at h
  ·split at h
   ·rename_i e1
    cases h
    obtain ⟨⟨rfl,E,rfl,rfl⟩,⟨rfl,L,rfl,rfl⟩,⟨rfl,M,rfl,rfl⟩,⟨rfl,K,rfl,rfl⟩,h8,⟨rfl,X0,rfl,rfl⟩,⟨-,X1,rfl,rfl⟩,⟨-,X2,rfl,rfl⟩,⟨rfl,Y,rfl,rfl⟩,h0,h1,h2,h3,h4,h5,rfl,⟨m0,m1,m2,m3⟩,m4,-⟩:=hp
    rw [Nat.eq_of_beq_eq_true e1]
    refine ⟨⟨⟨U3 (Q3 E),U3 (W3 (X4 L)),⟨U3 (W3 (Z2 M)),U3 (W3 (Z2 K)),trivial⟩,trivial⟩,⟨⟨⟨_,Z2 X0⟩,⟨_,Z2 X1⟩,⟨_,Z2 X2⟩,trivial⟩,⟨_,Z2 Y⟩,trivial⟩,trivial⟩,⟨[[[],[],[undef,undef]],[[undef,undef,undef,undef],[undef]]],⟨trivial,trivial,rfl,trivial⟩,⟨rfl,trivial,trivial⟩,trivial⟩,fun ys hy=>?_⟩
    match ys,hy with
    |[[x0,x1,[q0,q1]],[[u,v0,v1,v2],us]],_ =>
     refine ⟨_,rfl,?_⟩
     exact c1i _ E _ L u v0 X0 v1 X1 v2 X2 _ Y q0 _ M q1 _ K h8 h0 h1 h2 h3 h4 h5 m0 m1 m2 m3 m4
   ·cases h
  ·cases h
 ·cases h)
def lbS:List AV→List AB→Option ((AV×List AB)×List Prop):=fun args xs =>
 match args,xs with
 |[.agg [.xl y m k1 cE,.xl yl n k2 cL],.xl z r k5 cM,.xl zk s k6 cK],[]=>some ((.agg [.xl y m k1 cE,.xl yl n k2 cL,.fn (.func 82) [] [.ptr 0 0,.ptr 1 0]],[.cells [.xl z r k5 cM] 114,.cells [.xl zk s k6 cK] 114]),[V5 k1 cE m,Y5 k2 n cL,V9 k5 r cM,V9 k6 s cK])
 |_,_=>none
def lbO:R6:=a2W 64 lbS
theorem D7:Known Try.prog (clsO lbO):=A5 (fun args xs r ys ps h hp=>by
 unfold lbS at h
 split at h
 ·cases h
  obtain ⟨⟨rfl,E,rfl,rfl⟩,⟨rfl,L,rfl,rfl⟩,⟨rfl,M,rfl,rfl⟩,⟨rfl,K,rfl,rfl⟩,-⟩:=hp
  refine ⟨fun x hx=>absurd hx List.not_mem_nil,fun x hx=>?_,c7r _ E _ L _ M _ K⟩
  rcases List.mem_cons.1 hx with rfl|hx
  ·exact v8 (V4 (Z4 (Z2 M)))
  ·rw [List.mem_singleton.1 hx]
   exact v8 (V4 (Z4 (Z2 K)))
 ·cases h)
def U0(e1 e2 e3:Int):Int:=if e1=0 then (if e2=0 then e3 else e2) else e1
theorem b5z{e1 e2 e3:Int}(h:¬ e1=0):U0 e1 e2 e3=e1:=if_neg h
theorem b2a{e1 e2 e3:Int}(h:e1=0)(h2:¬ e2=0):U0 e1 e2 e3=e2:=by
 unfold U0;rw [if_pos h,if_neg h2]
theorem c7{e1 e2 e3:Int}(h:e1=0)(h2:e2=0):U0 e1 e2 e3=e3:=by
 unfold U0;rw [if_pos h,if_pos h2]
theorem b5w{e1 e2 e3:Int}(h:U0 e1 e2 e3=0):e1=0∧e2=0∧e3=0:=by
 by_cases h1:e1=0
 ·by_cases h2:e2=0
  ·rw [c7 h1 h2] at h;exact ⟨h1,h2,h⟩
  ·rw [b2a h1 h2] at h;exact absurd h h2
 ·rw [b5z h1] at h;exact absurd h h1
theorem S9{M K:List Int}{n:Nat}(h1:W6 n (cI M) M.length=0)(h2:W6 n (cI K) K.length=0):Q1 (cI M) (cI K) n:=fun b hb=>by
 have a1:=afB_true.1 (U2 h1).2 b (by have:=(U2 h1).1;omega)
 have a2:=afB_true.1 (U2 h2).2 b (by have:=(U2 h2).1;omega)
 omega
theorem E4{c0 c1 c2 cL d:List AV}{g:Bool}{n:Nat}(h0:∀ b,b<n→Y2 100 c0 b)(h1:∀ b,b<n→Y2 100 c1 b)(h2:∀ b,b<n→Y2 100 c2 b)(h3:∀ b,b<n→Y2 100 cL b):a2r (cI (tI (W8 c0 d g) n)) (cI (tI (W8 c1 d g) n)) (cI (tI (W8 c2 d g) n)) (cI (tI (W8 cL d g) n)) n:=by
 refine ⟨fun b hb=>?_,fun b hb=>?_,fun b hb=>?_,fun b hb=>?_⟩
 ·rw [Nat.mul_one,u6 hb];exact a8S (h0 b hb)
 ·rw [Nat.mul_one,u6 hb];exact a8S (h1 b hb)
 ·rw [Nat.mul_one,u6 hb];exact a8S (h2 b hb)
 ·rw [Nat.mul_one,u6 hb];exact a8S (h3 b hb)
def c5E:List AV→List AB→Option ((AV×List AB)×List Prop):=fun _ xs=>some ((.v (.slice none 0 0),xs),[False])
def c77:R6:=a2W 57 c5E
theorem a3p:Known Try.prog (clsO c77):=A5 (fun args xs r ys ps h hp=>by
 unfold c5E at h
 cases h
 exact hp.1.elim)
def c5N:List AV→List AB→Option ((AV×List AB)×List Prop):=fun _ xs=>some ((.tup [.agg [.v (.slice none 0 0),.v (.slice none 0 0)],.v (.bool true)],xs),[False])
def c7Y:R6:=a2W 66 c5N
theorem a3Q:Known Try.prog (clsO c7Y):=A5 (fun args xs r ys ps h hp=>by
 unfold c5N at h
 cases h
 exact hp.1.elim)
noncomputable def c7s:Code:=R8 Try.f51
theorem c6G(y:Value)(E:List (Value×List (Int×Int)))(yl:Value)(L:List (Int×Int))(u z:Value)(M:List Int)(zk:Value)(K:List Int)(hE3:E.length≤1000)(hM3:M.length≤1000)(hK3:K.length≤1000)(w:World)(hs:List Nat):Y4 Try.prog 29 c7s (⟨[(0,(b1X E L y yl)),(1,(.xl u 2 1 [.xl z M.length 1 (cI M),.xl zk K.length 1 (cI K)]))],[],0,[]⟩) (BaseW.H w hs) (V3 Try.prog Try.f51 29 (.int .i64 (U0 (U9 (Z1 E) E.length (cR L) L.length) (W6 L.length (cI M) M.length) (W6 L.length (cI K) K.length))) w):=by
 have hcl_L:=Y6 L
 have hcl_M:=Z3 M
 have hcl_K:=Z3 K
 rcases Bool.eq_false_or_eq_true (T9 (U9 (Z1 E) E.length (cR L) L.length) 0) with hqcx3_1|hqcx3_1
 ·have ghqcx3_1:=Y8 hqcx3_1
  rcases Bool.eq_false_or_eq_true (T9 M.length L.length) with hqcx3_2|hqcx3_2
  ·have ghqcx3_2:=Y8 hqcx3_2
   rcases Bool.eq_false_or_eq_true (afB 0 1000 (cI M) M.length) with hqcx3_3|hqcx3_3
   ·rcases Bool.eq_false_or_eq_true (T9 K.length L.length) with hqcx3_4|hqcx3_4
    ·have ghqcx3_4:=Y8 hqcx3_4
     rcases Bool.eq_false_or_eq_true (afB 0 1000 (cI K) K.length) with hqcx3_5|hqcx3_5
     ·exact Z8 W1 (Z7 Try.checked.mixed (Y3 g5 d9) 200 (T':=⟨[(4,(.v (.int .i64 (.ofNat 0))))],[],1,[]⟩) (e:=.ret) (ps:=[V5 1 (Z1 E) E.length,Y5 2 L.length (cR L),E.length≤1000,(!T9 (U9 (Z1 E) E.length (cR L) L.length) 0)=false,X8 0 2=true,(!T9 M.length L.length)=false,V9 1 M.length (cI M),M.length≤1000,(!afB 0 1000 (cI M) M.length)=false,O8 IntKind.i64 (0+1),X8 (0+1) 2=true,(!T9 K.length L.length)=false,V9 1 K.length (cI K),K.length≤1000,(!afB 0 1000 (cI K) K.length)=false,O8 IntKind.i64 (0+1+1),X8 (0+1+1) 2=false]) [.go,.go,.go,.go,.go,.go,.b false,.go,.go,.go,.go,.b true,.go,.go,.go,.go,.go,.go,.go,.go,.go,.b false,.go,.go,.b false,.go,.go,.go,.b true,.go,.go,.go,.go,.go,.go,.go,.go,.go,.b false,.go,.go,.b false,.go,.go,.go,.b false,.go] (by kernel_rfl) (by kernel_rfl) ⟨⟨rfl,E,rfl,rfl⟩,⟨rfl,L,rfl,rfl⟩,hE3,(by rw [hqcx3_1];rfl),rfl,(by rw [hqcx3_2];rfl),⟨rfl,M,rfl,rfl⟩,(by omega),(by rw [hqcx3_3];rfl),(by show -9223372036854775808≤(_:Int)∧(_:Int)≤9223372036854775807;constructor<;>decide),rfl,(by rw [hqcx3_4];rfl),⟨rfl,K,rfl,rfl⟩,(by omega),(by rw [hqcx3_5];rfl),(by show -9223372036854775808≤(_:Int)∧(_:Int)≤9223372036854775807;constructor<;>decide),rfl,trivial⟩ rfl) (Hd.en_eq (r:=(.int .i64 0)) (by (rw [c7 (Y8 hqcx3_1) (a5J (by have h9:=Y8 hqcx3_2;omega) hqcx3_3),(a5J (by have h9:=Y8 hqcx3_4;omega) hqcx3_5)])) (Hd.en_ret (v:=(.v (.int .i64 (.ofNat 0)))) (by kernel_rfl) rfl))
     ·exact Z8 W1 (Z7 Try.checked.mixed (Y3 g5 d9) 200 (T':=⟨[(4,(.v (.int .i64 (.ofNat 2))))],[],1,[]⟩) (e:=.ret) (ps:=[V5 1 (Z1 E) E.length,Y5 2 L.length (cR L),E.length≤1000,(!T9 (U9 (Z1 E) E.length (cR L) L.length) 0)=false,X8 0 2=true,(!T9 M.length L.length)=false,V9 1 M.length (cI M),M.length≤1000,(!afB 0 1000 (cI M) M.length)=false,O8 IntKind.i64 (0+1),X8 (0+1) 2=true,(!T9 K.length L.length)=false,V9 1 K.length (cI K),K.length≤1000,(!afB 0 1000 (cI K) K.length)=true]) [.go,.go,.go,.go,.go,.go,.b false,.go,.go,.go,.go,.b true,.go,.go,.go,.go,.go,.go,.go,.go,.go,.b false,.go,.go,.b false,.go,.go,.go,.b true,.go,.go,.go,.go,.go,.go,.go,.go,.go,.b false,.go,.go,.b true,.go] (by kernel_rfl) (by kernel_rfl) ⟨⟨rfl,E,rfl,rfl⟩,⟨rfl,L,rfl,rfl⟩,hE3,(by rw [hqcx3_1];rfl),rfl,(by rw [hqcx3_2];rfl),⟨rfl,M,rfl,rfl⟩,(by omega),(by rw [hqcx3_3];rfl),(by show -9223372036854775808≤(_:Int)∧(_:Int)≤9223372036854775807;constructor<;>decide),rfl,(by rw [hqcx3_4];rfl),⟨rfl,K,rfl,rfl⟩,(by omega),(by rw [hqcx3_5];rfl),trivial⟩ rfl) (Hd.en_eq (r:=(.int .i64 2)) (by (rw [c7 (Y8 hqcx3_1) (a5J (by have h9:=Y8 hqcx3_2;omega) hqcx3_3),a2g (n:=L.length) (d:=cI K) (k:=K.length) (by have h9:=Y8 hqcx3_4;omega) (by rw [hqcx3_5];decide)])) (Hd.en_ret (v:=(.v (.int .i64 (.ofNat 2)))) (by kernel_rfl) rfl))
    ·have ghqcx3_4:=X5 hqcx3_4
     exact Z8 W1 (Z7 Try.checked.mixed (Y3 g5 d9) 200 (T':=⟨[(4,(.v (.int .i64 (.ofNat 15))))],[],1,[]⟩) (e:=.ret) (ps:=[V5 1 (Z1 E) E.length,Y5 2 L.length (cR L),E.length≤1000,(!T9 (U9 (Z1 E) E.length (cR L) L.length) 0)=false,X8 0 2=true,(!T9 M.length L.length)=false,V9 1 M.length (cI M),M.length≤1000,(!afB 0 1000 (cI M) M.length)=false,O8 IntKind.i64 (0+1),X8 (0+1) 2=true,(!T9 K.length L.length)=true]) [.go,.go,.go,.go,.go,.go,.b false,.go,.go,.go,.go,.b true,.go,.go,.go,.go,.go,.go,.go,.go,.go,.b false,.go,.go,.b false,.go,.go,.go,.b true,.go,.go,.go,.go,.go,.go,.go,.go,.go,.b true,.go] (by kernel_rfl) (by kernel_rfl) ⟨⟨rfl,E,rfl,rfl⟩,⟨rfl,L,rfl,rfl⟩,hE3,(by rw [hqcx3_1];rfl),rfl,(by rw [hqcx3_2];rfl),⟨rfl,M,rfl,rfl⟩,(by omega),(by rw [hqcx3_3];rfl),(by show -9223372036854775808≤(_:Int)∧(_:Int)≤9223372036854775807;constructor<;>decide),rfl,(by rw [hqcx3_4];rfl),trivial⟩ rfl) (Hd.en_eq (r:=(.int .i64 15)) (by (rw [c7 (Y8 hqcx3_1) (a5J (by have h9:=Y8 hqcx3_2;omega) hqcx3_3),a4F (n:=L.length) (d:=cI K) (k:=K.length) (by have h9:=X5 hqcx3_4;omega)])) (Hd.en_ret (v:=(.v (.int .i64 (.ofNat 15)))) (by kernel_rfl) rfl))
   ·exact Z8 W1 (Z7 Try.checked.mixed (Y3 g5 d9) 200 (T':=⟨[(4,(.v (.int .i64 (.ofNat 2))))],[],1,[]⟩) (e:=.ret) (ps:=[V5 1 (Z1 E) E.length,Y5 2 L.length (cR L),E.length≤1000,(!T9 (U9 (Z1 E) E.length (cR L) L.length) 0)=false,X8 0 2=true,(!T9 M.length L.length)=false,V9 1 M.length (cI M),M.length≤1000,(!afB 0 1000 (cI M) M.length)=true]) [.go,.go,.go,.go,.go,.go,.b false,.go,.go,.go,.go,.b true,.go,.go,.go,.go,.go,.go,.go,.go,.go,.b false,.go,.go,.b true,.go] (by kernel_rfl) (by kernel_rfl) ⟨⟨rfl,E,rfl,rfl⟩,⟨rfl,L,rfl,rfl⟩,hE3,(by rw [hqcx3_1];rfl),rfl,(by rw [hqcx3_2];rfl),⟨rfl,M,rfl,rfl⟩,(by omega),(by rw [hqcx3_3];rfl),trivial⟩ rfl) (Hd.en_eq (r:=(.int .i64 2)) (by (rw [b2a (Y8 hqcx3_1) (by rw [a2g (n:=L.length) (d:=cI M) (k:=M.length) (by have h9:=Y8 hqcx3_2;omega) (by rw [hqcx3_3];decide)];decide),a2g (n:=L.length) (d:=cI M) (k:=M.length) (by have h9:=Y8 hqcx3_2;omega) (by rw [hqcx3_3];decide)])) (Hd.en_ret (v:=(.v (.int .i64 (.ofNat 2)))) (by kernel_rfl) rfl))
  ·have ghqcx3_2:=X5 hqcx3_2
   exact Z8 W1 (Z7 Try.checked.mixed (Y3 g5 d9) 200 (T':=⟨[(4,(.v (.int .i64 (.ofNat 15))))],[],1,[]⟩) (e:=.ret) (ps:=[V5 1 (Z1 E) E.length,Y5 2 L.length (cR L),E.length≤1000,(!T9 (U9 (Z1 E) E.length (cR L) L.length) 0)=false,X8 0 2=true,(!T9 M.length L.length)=true]) [.go,.go,.go,.go,.go,.go,.b false,.go,.go,.go,.go,.b true,.go,.go,.go,.go,.go,.go,.go,.go,.go,.b true,.go] (by kernel_rfl) (by kernel_rfl) ⟨⟨rfl,E,rfl,rfl⟩,⟨rfl,L,rfl,rfl⟩,hE3,(by rw [hqcx3_1];rfl),rfl,(by rw [hqcx3_2];rfl),trivial⟩ rfl) (Hd.en_eq (r:=(.int .i64 15)) (by (rw [b2a (Y8 hqcx3_1) (by rw [a4F (n:=L.length) (d:=cI M) (k:=M.length) (by have h9:=X5 hqcx3_2;omega)];decide),a4F (n:=L.length) (d:=cI M) (k:=M.length) (by have h9:=X5 hqcx3_2;omega)])) (Hd.en_ret (v:=(.v (.int .i64 (.ofNat 15)))) (by kernel_rfl) rfl))
 ·have ghqcx3_1:=X5 hqcx3_1
  exact Z8 W1 (Z7 Try.checked.mixed (Y3 g5 d9) 200 (T':=⟨[(4,(.v (.int .i64 (U9 (Z1 E) E.length (cR L) L.length))))],[],1,[]⟩) (e:=.ret) (ps:=[V5 1 (Z1 E) E.length,Y5 2 L.length (cR L),E.length≤1000,(!T9 (U9 (Z1 E) E.length (cR L) L.length) 0)=true]) [.go,.go,.go,.go,.go,.go,.b true,.go,.go] (by kernel_rfl) (by kernel_rfl) ⟨⟨rfl,E,rfl,rfl⟩,⟨rfl,L,rfl,rfl⟩,hE3,(by rw [hqcx3_1];rfl),trivial⟩ rfl) (Hd.en_eq (r:=(.int .i64 (U9 (Z1 E) E.length (cR L) L.length))) (by (rw [b5z (X5 hqcx3_1)])) (Hd.en_ret (v:=(.v (.int .i64 (U9 (Z1 E) E.length (cR L) L.length)))) (by kernel_rfl) rfl))
theorem c3p(y:Value)(E:List (Value×List (Int×Int)))(yl:Value)(L:List (Int×Int))(u z:Value)(M:List Int)(zk:Value)(K:List Int)(hE3:E.length≤1000)(hM3:M.length≤1000)(hK3:K.length≤1000):GivesA Try.prog 51 [(b1X E L y yl),(.xl u 2 1 [.xl z M.length 1 (cI M),.xl zk K.length 1 (cI K)])] (.int .i64 (U0 (U9 (Z1 E) E.length (cR L) L.length) (W6 L.length (cI M) M.length) (W6 L.length (cI K) K.length))) :=
 W0 29 Try.func51 (by kernel_rfl) (by kernel_rfl) (by kernel_rfl) (fun w=>W2 (by kernel_rfl) (by kernel_rfl) (by kernel_rfl) (by kernel_rfl) (c6G y E yl L u z M zk K hE3 hM3 hK3 w []))
def a4y(q:Nat):Prop:=q=2
def c4F:List Yw→Option (C9×List Prop):=fun vs =>
 match vs with
 |[.one (.ext a),.one (.lls q k rows)]=>match a,rows with
  |.agg [.xl y m k1 cE,.xl yl n k2 cL],[(r,cM),(s,cK)]=>some (.val (.v (.int .i64 (U0 (U9 cE m cL n) (W6 n cM r) (W6 n cK s)))),[V5 k1 cE m,Y5 k2 n cL,V9 k r cM,V9 k s cK,a4y q,m≤1000,r≤1000,s≤1000,¬ U0 (U9 cE m cL n) (W6 n cM r) (W6 n cK s)=0])
  |_,_=>none
 |_=>none
def c6O:R6:=u0 51 [.one .ext,.one (.lls 0)] c4F
theorem a3X:Known Try.prog (clsO c6O):=F2 (fun vs r ps h hp=>by
 unfold c4F at h
 split at h
 ·split at h
  ·cases h
   obtain ⟨⟨rfl,E,rfl,rfl⟩,⟨rfl,L,rfl,rfl⟩,⟨rfl,M,rfl,rfl⟩,⟨-,K,rfl,rfl⟩,rfl,h1,h2,h3,h4,-⟩:=hp
   rename_i y yl
   refine ⟨⟨(D3 (X3 (U3 (Q3 E)) (X3 (U3 (W3 (X4 L))) S8))),⟨⟨_,Z2 M⟩,⟨_,Z2 K⟩,trivial⟩,trivial⟩,⟨[[[]],[[undef,undef,undef]]],⟨trivial,rfl,trivial⟩⟩,fun ys hy=>?_⟩
   match ys,hy with
   |[zs,[u,w0,w1]::us],_ =>
    refine ⟨_,rfl,?_⟩
    have hg:=c3p y E yl L u w0 M w1 K h1 h2 h3
    exact hg
  ·cases h
 ·cases h)
def c2I:List Yw→Option (C9×List Prop):=fun vs =>
 match vs with
 |[.one (.ext a),.one (.lls q k rows)]=>match a,rows with
  |.agg [.xl y m k1 cE,.xl yl n k2 cL],[(r,cM),(s,cK)]=>some (.val (.v (.int .i64 (0))),[V5 k1 cE m,Y5 k2 n cL,V9 k r cM,V9 k s cK,a4y q,m≤1000,r≤1000,s≤1000,U0 (U9 cE m cL n) (W6 n cM r) (W6 n cK s)=0])
  |_,_=>none
 |_=>none
def c6E:R6:=u0 51 [.one .ext,.one (.lls 0)] c2I
theorem x5:Known Try.prog (clsO c6E):=F2 (fun vs r ps h hp=>by
 unfold c2I at h
 split at h
 ·split at h
  ·cases h
   obtain ⟨⟨rfl,E,rfl,rfl⟩,⟨rfl,L,rfl,rfl⟩,⟨rfl,M,rfl,rfl⟩,⟨-,K,rfl,rfl⟩,rfl,h1,h2,h3,h4,-⟩:=hp
   rename_i y yl
   refine ⟨⟨(D3 (X3 (U3 (Q3 E)) (X3 (U3 (W3 (X4 L))) S8))),⟨⟨_,Z2 M⟩,⟨_,Z2 K⟩,trivial⟩,trivial⟩,⟨[[[]],[[undef,undef,undef]]],⟨trivial,rfl,trivial⟩⟩,fun ys hy=>?_⟩
   match ys,hy with
   |[zs,[u,w0,w1]::us],_ =>
    refine ⟨_,rfl,?_⟩
    have hg:=c3p y E yl L u w0 M w1 K h1 h2 h3
    rw [h4] at hg;exact hg
  ·cases h
 ·cases h)
noncomputable def c3H:Code:=R8 Try.f24
theorem c47(y:Value)(E:List (Value×List (Int×Int)))(yl:Value)(L:List (Int×Int))(z:Value)(M:List Int)(zk:Value)(K:List Int)(hE3:E.length≤1000)(hM3:M.length≤1000)(hK3:K.length≤1000)(hH:¬ U0 (U9 (Z1 E) E.length (cR L) L.length) (W6 L.length (cI M) M.length) (W6 L.length (cI K) K.length)=0)(v:BaseW)(eb:Nat→Option Nat)(ec:Nat→Nat)(hs:List Nat):Y4 Try.prog 22 c3H (⟨[(0,(b1X E L y yl)),(1,(.xl z M.length 1 (cI M))),(2,(.xl zk K.length 1 (cI K)))],[],0,[]⟩) (BaseW.H (bw v 0 eb ec) hs) (R7 Try.prog Try.f24 22 ((.tup [.v (.slice none 0 0),.v (.int .i64 (U0 (U9 (Z1 E) E.length (cR L) L.length) (W6 L.length (cI M) M.length) (W6 L.length (cI K) K.length)))])) [] (bw v 0 eb ec)):=by
 have hcl_L:=Y6 L
 have hcl_M:=Z3 M
 have hcl_K:=Z3 K
 rcases Bool.eq_false_or_eq_true (T9 (U0 (U9 (Z1 E) E.length (cR L) L.length) (W6 L.length (cI M) M.length) (W6 L.length (cI K) K.length)) 0) with hqape3_1|hqape3_1
 ·have ghqape3_1:=Y8 hqape3_1
  exact absurd (Y8 hqape3_1) hH
 ·have ghqape3_1:=X5 hqape3_1
  exact Z8 W1 (B1 Try.checked.mixed (Y3 a3X (Y3 D7 (Y3 a3p a3Q))) 200 (T':=⟨[(6,(.v (Value.slice none 0 0))),(7,(.v (.int .i64 (U0 (U9 (Z1 E) E.length (cR L) L.length) (W6 L.length (cI M) M.length) (W6 L.length (cI K) K.length)))))],[],0,[]⟩) (e:=.ret) (m:=2) (ps:=[0+2*(0+1)≤([(.xl (z) (M.length) 1 (cI M)),(.xl (zk) (K.length) 1 (cI K))]:List AV).length,((2:Nat)≤2),V5 1 (Z1 E) E.length,Y5 2 L.length (cR L),V9 (0+1) M.length (cI M),V9 (0+1) K.length (cI K),a4y 2,E.length≤1000,M.length≤1000,K.length≤1000,¬U0 (U9 (Z1 E) E.length (cR L) L.length) (W6 L.length (cI M) M.length) (W6 L.length (cI K) K.length)=0,(!T9 (U0 (U9 (Z1 E) E.length (cR L) L.length) (W6 L.length (cI M) M.length) (W6 L.length (cI K) K.length)) 0)=true]) [.go,.go,.go,.go,.go,.go,.go,.go,.go,.go,.b true,.go,.go,.go] (by kernel_rfl) (by kernel_rfl) ⟨(by show 0+2*(0+1)≤2;decide),(by decide),⟨rfl,E,rfl,rfl⟩,⟨rfl,L,rfl,rfl⟩,⟨rfl,M,rfl,rfl⟩,⟨rfl,K,rfl,rfl⟩,rfl,hE3,(by omega),(by omega),hH,(by rw [hqape3_1];rfl),trivial⟩ rfl (by show 0≤2;decide) ⟨⟨m6 _,m6 _,trivial⟩,trivial,rfl⟩ (by show 0≤0;decide)) (E3 (r:=(.tup [(.v (Value.slice none 0 0)),(.v (.int .i64 (U0 (U9 (Z1 E) E.length (cR L) L.length) (W6 L.length (cI M) M.length) (W6 L.length (cI K) K.length))))])) (ys:=[]) (by rfl) (by rfl) (J4 (by kernel_rfl) (by kernel_rfl) rfl (.inr rfl)))
theorem c3Q(y:Value)(E:List (Value×List (Int×Int)))(yl:Value)(L:List (Int×Int))(z:Value)(M:List Int)(zk:Value)(K:List Int)(hE3:E.length≤1000)(hM3:M.length≤1000)(hK3:K.length≤1000)(hH:¬ U0 (U9 (Z1 E) E.length (cR L) L.length) (W6 L.length (cI M) M.length) (W6 L.length (cI K) K.length)=0):G7 Try.prog 24 [(b1X E L y yl),(.xl z M.length 1 (cI M)),(.xl zk K.length 1 (cI K))] [] ((.tup [.v (.slice none 0 0),.v (.int .i64 (U0 (U9 (Z1 E) E.length (cR L) L.length) (W6 L.length (cI M) M.length) (W6 L.length (cI K) K.length)))])) [] :=
 R0 22 (by kernel_rfl) Try.func24 (by kernel_rfl) (by kernel_rfl) (by kernel_rfl) (fun v eb ec=>W2 (by kernel_rfl) (by kernel_rfl) (by kernel_rfl) (by kernel_rfl) (c47 y E yl L z M zk K hE3 hM3 hK3 hH v eb ec []))
noncomputable def c4U:Code:=R8 Try.f24
theorem c4Z(y v0:Value)(P0:List (Int×Int))(v1:Value)(P1:List (Int×Int))(v2:Value)(P2:List (Int×Int))(yl:Value)(L:List (Int×Int))(z:Value)(M:List Int)(zk:Value)(K:List Int)(hC:U9 [.xl v0 P0.length 2 (cR P0),.xl v1 P1.length 2 (cR P1),.xl v2 P2.length 2 (cR P2)] 3 (cR L) L.length=0)(hH1:W6 L.length (cI M) M.length=0)(hH2:W6 L.length (cI K) K.length=0)(v:BaseW)(eb:Nat→Option Nat)(ec:Nat→Nat)(hs:List Nat):Y4 Try.prog 22 c4U (⟨[(0,(.agg [.xl y 3 1 [.xl v0 P0.length 2 (cR P0),.xl v1 P1.length 2 (cR P1),.xl v2 P2.length 2 (cR P2)],.xl yl L.length 2 (cR L)])),(1,(.xl z M.length 1 (cI M))),(2,(.xl zk K.length 1 (cI K)))],[],0,[]⟩) (BaseW.H (bw v 0 eb ec) hs) (R7 Try.prog Try.f24 22 ((.tup [.slu 0 0 3 0,.v (.int .i64 0)])) [(.row [.v (.int .i64 (R4 (cR P0) (cR P1) (cR P2) (cR L) (Y7 (cI M) (cI K) L.length) L.length false 0)),.v (.int .i64 (R4 (cR P0) (cR P1) (cR P2) (cR L) (Y7 (cI M) (cI K) L.length) L.length true 0)),.v (.int .i64 (R4 (cR P0) (cR P1) (cR P2) (cR L) (Y7 (cI M) (cI K) L.length) L.length false 1)),.v (.int .i64 (R4 (cR P0) (cR P1) (cR P2) (cR L) (Y7 (cI M) (cI K) L.length) L.length true 1)),.v (.int .i64 (R4 (cR P0) (cR P1) (cR P2) (cR L) (Y7 (cI M) (cI K) L.length) L.length false 2)),.v (.int .i64 (R4 (cR P0) (cR P1) (cR P2) (cR L) (Y7 (cI M) (cI K) L.length) L.length true 2))] 65 2)] (bw v 0 eb ec)):=by
 have hcl_P0:=Y6 P0
 have hcl_P1:=Y6 P1
 have hcl_P2:=Y6 P2
 have hcl_L:=Y6 L
 have hcl_M:=Z3 M
 have hcl_K:=Z3 K
 obtain ⟨hn,-,hrow,hlam,hcur⟩:=T5 hC
 have hM:=(U2 hH1).1
 have hK:=(U2 hH2).1
 exact Z8 W1 (L6 Try.checked.mixed (Y3 x5 (Y3 D7 (Y3 y5 w7))) 200 (T':=⟨[(6,(.slu 0 0 3 0)),(7,(.v (.int .i64 (.ofNat 0))))],[],1,[(0,(.row [(.v (.int .i64 (T6 (J5 (List.take (L.length*(0+1)) (List.drop 0 (cI (tI (W8 (cR P0) (Y7 (cI M) (cI K) L.length) false) L.length)))) (List.take (L.length*(0+1)) (List.drop 0 (cI (tI (W8 (cR P1) (Y7 (cI M) (cI K) L.length) false) L.length)))) (List.take (L.length*(0+1)) (List.drop 0 (cI (tI (W8 (cR P2) (Y7 (cI M) (cI K) L.length) false) L.length)))) (List.take (L.length*(0+1)) (List.drop 0 (cI (tI (W8 (cR L) (Y7 (cI M) (cI K) L.length) false) L.length)))) (Y7 (cI M) (cI K) L.length) 0) L.length))),(.v (.int .i64 (T6 (J5 (List.take (L.length*(0+1)) (List.drop 0 (cI (tI (W8 (cR P0) (Y7 (cI M) (cI K) L.length) true) L.length)))) (List.take (L.length*(0+1)) (List.drop 0 (cI (tI (W8 (cR P1) (Y7 (cI M) (cI K) L.length) true) L.length)))) (List.take (L.length*(0+1)) (List.drop 0 (cI (tI (W8 (cR P2) (Y7 (cI M) (cI K) L.length) true) L.length)))) (List.take (L.length*(0+1)) (List.drop 0 (cI (tI (W8 (cR L) (Y7 (cI M) (cI K) L.length) true) L.length)))) (Y7 (cI M) (cI K) L.length) 0) L.length))),(.v (.int .i64 (T6 (J5 (List.take (L.length*(0+1)) (List.drop 0 (cI (tI (W8 (cR P0) (Y7 (cI M) (cI K) L.length) false) L.length)))) (List.take (L.length*(0+1)) (List.drop 0 (cI (tI (W8 (cR P1) (Y7 (cI M) (cI K) L.length) false) L.length)))) (List.take (L.length*(0+1)) (List.drop 0 (cI (tI (W8 (cR P2) (Y7 (cI M) (cI K) L.length) false) L.length)))) (List.take (L.length*(0+1)) (List.drop 0 (cI (tI (W8 (cR L) (Y7 (cI M) (cI K) L.length) false) L.length)))) (Y7 (cI M) (cI K) L.length) 1) L.length))),(.v (.int .i64 (T6 (J5 (List.take (L.length*(0+1)) (List.drop 0 (cI (tI (W8 (cR P0) (Y7 (cI M) (cI K) L.length) true) L.length)))) (List.take (L.length*(0+1)) (List.drop 0 (cI (tI (W8 (cR P1) (Y7 (cI M) (cI K) L.length) true) L.length)))) (List.take (L.length*(0+1)) (List.drop 0 (cI (tI (W8 (cR P2) (Y7 (cI M) (cI K) L.length) true) L.length)))) (List.take (L.length*(0+1)) (List.drop 0 (cI (tI (W8 (cR L) (Y7 (cI M) (cI K) L.length) true) L.length)))) (Y7 (cI M) (cI K) L.length) 1) L.length))),(.v (.int .i64 (T6 (J5 (List.take (L.length*(0+1)) (List.drop 0 (cI (tI (W8 (cR P0) (Y7 (cI M) (cI K) L.length) false) L.length)))) (List.take (L.length*(0+1)) (List.drop 0 (cI (tI (W8 (cR P1) (Y7 (cI M) (cI K) L.length) false) L.length)))) (List.take (L.length*(0+1)) (List.drop 0 (cI (tI (W8 (cR P2) (Y7 (cI M) (cI K) L.length) false) L.length)))) (List.take (L.length*(0+1)) (List.drop 0 (cI (tI (W8 (cR L) (Y7 (cI M) (cI K) L.length) false) L.length)))) (Y7 (cI M) (cI K) L.length) 2) L.length))),(.v (.int .i64 (T6 (J5 (List.take (L.length*(0+1)) (List.drop 0 (cI (tI (W8 (cR P0) (Y7 (cI M) (cI K) L.length) true) L.length)))) (List.take (L.length*(0+1)) (List.drop 0 (cI (tI (W8 (cR P1) (Y7 (cI M) (cI K) L.length) true) L.length)))) (List.take (L.length*(0+1)) (List.drop 0 (cI (tI (W8 (cR P2) (Y7 (cI M) (cI K) L.length) true) L.length)))) (List.take (L.length*(0+1)) (List.drop 0 (cI (tI (W8 (cR L) (Y7 (cI M) (cI K) L.length) true) L.length)))) (Y7 (cI M) (cI K) L.length) 2) L.length)))] 65 2))]⟩) (e:=.ret) (m:=39) (ps:=[0+2*(0+1)≤([(.xl (z) (M.length) 1 (cI M)),(.xl (zk) (K.length) 1 (cI K))]:List AV).length,((2:Nat)≤2),V5 1 [AV.xl v0 P0.length 2 (cR P0),AV.xl v1 P1.length 2 (cR P1),AV.xl v2 P2.length 2 (cR P2)] 3,Y5 2 L.length (cR L),V9 (0+1) M.length (cI M),V9 (0+1) K.length (cI K),a4y 2,((3:Nat)≤1000),M.length≤1000,K.length≤1000,U0 (U9 [AV.xl v0 P0.length 2 (cR P0),AV.xl v1 P1.length 2 (cR P1),AV.xl v2 P2.length 2 (cR P2)] 3 (cR L) L.length) (W6 L.length (cI M) M.length) (W6 L.length (cI K) K.length)=0,(!T9 0 0)=false,W9 [AV.xl v0 P0.length 2 (cR P0),AV.xl v1 P1.length 2 (cR P1),AV.xl v2 P2.length 2 (cR P2)],W9 (cR L),W9 (cI M),W9 (cI K),V5 1 [AV.xl v0 P0.length 2 (cR P0),AV.xl v1 P1.length 2 (cR P1),AV.xl v2 P2.length 2 (cR P2)] 3,Y5 2 L.length (cR L),V9 1 M.length (cI M),V9 1 K.length (cI K),W9 [AV.xl v0 P0.length 2 (cR P0),AV.xl v1 P1.length 2 (cR P1),AV.xl v2 P2.length 2 (cR P2)],W9 (cR L),V5 1 [AV.xl v0 P0.length 2 (cR P0),AV.xl v1 P1.length 2 (cR P1),AV.xl v2 P2.length 2 (cR P2)] 3,Y5 2 L.length (cR L),V9 1 M.length (cI M),V9 1 K.length (cI K),Y5 2 L.length (cR L),1≤L.length∧L.length≤8,L.length=L.length,M.length=L.length,K.length=L.length,Q1 (cI M) (cI K) L.length,X8 0 3=true,V5 1 [AV.xl v0 P0.length 2 (cR P0),AV.xl v1 P1.length 2 (cR P1),AV.xl v2 P2.length 2 (cR P2)] 3,Y5 2 L.length (cR L),V9 1 M.length (cI M),V9 1 K.length (cI K),Y5 2 P0.length (cR P0),1≤L.length∧L.length≤8,P0.length=L.length,M.length=L.length,K.length=L.length,Q1 (cI M) (cI K) L.length,O8 IntKind.i64 (0+1),X8 (0+1) 3=true,V5 1 [AV.xl v0 P0.length 2 (cR P0),AV.xl v1 P1.length 2 (cR P1),AV.xl v2 P2.length 2 (cR P2)] 3,Y5 2 L.length (cR L),V9 1 M.length (cI M),V9 1 K.length (cI K),Y5 2 P1.length (cR P1),1≤L.length∧L.length≤8,P1.length=L.length,M.length=L.length,K.length=L.length,Q1 (cI M) (cI K) L.length,O8 IntKind.i64 (0+1+1),X8 (0+1+1) 3=true,V5 1 [AV.xl v0 P0.length 2 (cR P0),AV.xl v1 P1.length 2 (cR P1),AV.xl v2 P2.length 2 (cR P2)] 3,Y5 2 L.length (cR L),V9 1 M.length (cI M),V9 1 K.length (cI K),Y5 2 P2.length (cR P2),1≤L.length∧L.length≤8,P2.length=L.length,M.length=L.length,K.length=L.length,Q1 (cI M) (cI K) L.length,O8 IntKind.i64 (0+1+1+1),X8 (0+1+1+1) 3=false,0+(0+1+1+1)*(0+1)≤([(.slu 9 0 (L.length) 0),(.slu 12 0 (L.length) 0),(.slu 15 0 (L.length) 0)]:List AV).length,0+L.length*(0+1)≤((cI (tI (W8 (cR P0) (Y7 (cI M) (cI K) L.length) false) L.length)):List AV).length,0+L.length*(0+1)≤((cI (tI (W8 (cR P1) (Y7 (cI M) (cI K) L.length) false) L.length)):List AV).length,0+L.length*(0+1)≤((cI (tI (W8 (cR P2) (Y7 (cI M) (cI K) L.length) false) L.length)):List AV).length,0+L.length*(0+1)≤((cI (tI (W8 (cR L) (Y7 (cI M) (cI K) L.length) false) L.length)):List AV).length,V5 1 [AV.xl v0 P0.length 2 (cR P0),AV.xl v1 P1.length 2 (cR P1),AV.xl v2 P2.length 2 (cR P2)] 3,Y5 2 L.length (cR L),V9 1 M.length (cI M),V9 1 K.length (cI K),L.length≤8,J7 (0+1) L.length (List.take (L.length*(0+1)) (List.drop 0 (cI (tI (W8 (cR P0) (Y7 (cI M) (cI K) L.length) false) L.length)))),J7 (0+1) L.length (List.take (L.length*(0+1)) (List.drop 0 (cI (tI (W8 (cR P1) (Y7 (cI M) (cI K) L.length) false) L.length)))),J7 (0+1) L.length (List.take (L.length*(0+1)) (List.drop 0 (cI (tI (W8 (cR P2) (Y7 (cI M) (cI K) L.length) false) L.length)))),J7 (0+1) L.length (List.take (L.length*(0+1)) (List.drop 0 (cI (tI (W8 (cR L) (Y7 (cI M) (cI K) L.length) false) L.length)))),L.length=L.length,L.length=L.length,L.length=L.length,L.length=L.length,M.length=L.length,K.length=L.length,E9 (0+1+1+1),a2r (List.take (L.length*(0+1)) (List.drop 0 (cI (tI (W8 (cR P0) (Y7 (cI M) (cI K) L.length) false) L.length)))) (List.take (L.length*(0+1)) (List.drop 0 (cI (tI (W8 (cR P1) (Y7 (cI M) (cI K) L.length) false) L.length)))) (List.take (L.length*(0+1)) (List.drop 0 (cI (tI (W8 (cR P2) (Y7 (cI M) (cI K) L.length) false) L.length)))) (List.take (L.length*(0+1)) (List.drop 0 (cI (tI (W8 (cR L) (Y7 (cI M) (cI K) L.length) false) L.length)))) L.length,Q1 (cI M) (cI K) L.length,V5 1 [AV.xl v0 P0.length 2 (cR P0),AV.xl v1 P1.length 2 (cR P1),AV.xl v2 P2.length 2 (cR P2)] 3,Y5 2 L.length (cR L),V9 1 M.length (cI M),V9 1 K.length (cI K),Y5 2 L.length (cR L),1≤L.length∧L.length≤8,L.length=L.length,M.length=L.length,K.length=L.length,Q1 (cI M) (cI K) L.length,X8 0 3=true,V5 1 [AV.xl v0 P0.length 2 (cR P0),AV.xl v1 P1.length 2 (cR P1),AV.xl v2 P2.length 2 (cR P2)] 3,Y5 2 L.length (cR L),V9 1 M.length (cI M),V9 1 K.length (cI K),Y5 2 P0.length (cR P0),1≤L.length∧L.length≤8,P0.length=L.length,M.length=L.length,K.length=L.length,Q1 (cI M) (cI K) L.length,O8 IntKind.i64 (0+1),X8 (0+1) 3=true,V5 1 [AV.xl v0 P0.length 2 (cR P0),AV.xl v1 P1.length 2 (cR P1),AV.xl v2 P2.length 2 (cR P2)] 3,Y5 2 L.length (cR L),V9 1 M.length (cI M),V9 1 K.length (cI K),Y5 2 P1.length (cR P1),1≤L.length∧L.length≤8,P1.length=L.length,M.length=L.length,K.length=L.length,Q1 (cI M) (cI K) L.length,O8 IntKind.i64 (0+1+1),X8 (0+1+1) 3=true,V5 1 [AV.xl v0 P0.length 2 (cR P0),AV.xl v1 P1.length 2 (cR P1),AV.xl v2 P2.length 2 (cR P2)] 3,Y5 2 L.length (cR L),V9 1 M.length (cI M),V9 1 K.length (cI K),Y5 2 P2.length (cR P2),1≤L.length∧L.length≤8,P2.length=L.length,M.length=L.length,K.length=L.length,Q1 (cI M) (cI K) L.length,O8 IntKind.i64 (0+1+1+1),X8 (0+1+1+1) 3=false,0+(0+1+1+1)*(0+1)≤([(.slu 22 0 (L.length) 0),(.slu 25 0 (L.length) 0),(.slu 28 0 (L.length) 0)]:List AV).length,0+L.length*(0+1)≤((cI (tI (W8 (cR P0) (Y7 (cI M) (cI K) L.length) true) L.length)):List AV).length,0+L.length*(0+1)≤((cI (tI (W8 (cR P1) (Y7 (cI M) (cI K) L.length) true) L.length)):List AV).length,0+L.length*(0+1)≤((cI (tI (W8 (cR P2) (Y7 (cI M) (cI K) L.length) true) L.length)):List AV).length,0+L.length*(0+1)≤((cI (tI (W8 (cR L) (Y7 (cI M) (cI K) L.length) true) L.length)):List AV).length,V5 1 [AV.xl v0 P0.length 2 (cR P0),AV.xl v1 P1.length 2 (cR P1),AV.xl v2 P2.length 2 (cR P2)] 3,Y5 2 L.length (cR L),V9 1 M.length (cI M),V9 1 K.length (cI K),L.length≤8,J7 (0+1) L.length (List.take (L.length*(0+1)) (List.drop 0 (cI (tI (W8 (cR P0) (Y7 (cI M) (cI K) L.length) true) L.length)))),J7 (0+1) L.length (List.take (L.length*(0+1)) (List.drop 0 (cI (tI (W8 (cR P1) (Y7 (cI M) (cI K) L.length) true) L.length)))),J7 (0+1) L.length (List.take (L.length*(0+1)) (List.drop 0 (cI (tI (W8 (cR P2) (Y7 (cI M) (cI K) L.length) true) L.length)))),J7 (0+1) L.length (List.take (L.length*(0+1)) (List.drop 0 (cI (tI (W8 (cR L) (Y7 (cI M) (cI K) L.length) true) L.length)))),L.length=L.length,L.length=L.length,L.length=L.length,L.length=L.length,M.length=L.length,K.length=L.length,E9 (0+1+1+1),a2r (List.take (L.length*(0+1)) (List.drop 0 (cI (tI (W8 (cR P0) (Y7 (cI M) (cI K) L.length) true) L.length)))) (List.take (L.length*(0+1)) (List.drop 0 (cI (tI (W8 (cR P1) (Y7 (cI M) (cI K) L.length) true) L.length)))) (List.take (L.length*(0+1)) (List.drop 0 (cI (tI (W8 (cR P2) (Y7 (cI M) (cI K) L.length) true) L.length)))) (List.take (L.length*(0+1)) (List.drop 0 (cI (tI (W8 (cR L) (Y7 (cI M) (cI K) L.length) true) L.length)))) L.length,Q1 (cI M) (cI K) L.length,X8 0 3=true,O8 IntKind.i64 (0+1),X8 (0+1) 3=true,O8 IntKind.i64 (0+1+1),X8 (0+1+1) 3=true,O8 IntKind.i64 (0+1+1+1),X8 (0+1+1+1) 3=false]) [.go,.go,.go,.go,.go,.go,.go,.go,.go,.go,.b false,.go,.go,.go,.go,.go,.go,.go,.go,.go,.go,.go,.go,.go,.go,.go,.go,.go,.go,.go,.go,.go,.go,.go,.b true,.go,.go,.go,.go,.go,.go,.go,.go,.go,.go,.go,.go,.go,.go,.go,.b true,.go,.go,.go,.go,.go,.go,.go,.go,.go,.go,.go,.go,.go,.go,.go,.b true,.go,.go,.go,.go,.go,.go,.go,.go,.go,.go,.go,.go,.go,.go,.go,.b false,.go,.go,.go,.go,.go,.go,.go,.go,.go,.go,.go,.go,.go,.go,.go,.go,.go,.go,.go,.go,.b true,.go,.go,.go,.go,.go,.go,.go,.go,.go,.go,.go,.go,.go,.go,.go,.b true,.go,.go,.go,.go,.go,.go,.go,.go,.go,.go,.go,.go,.go,.go,.go,.b true,.go,.go,.go,.go,.go,.go,.go,.go,.go,.go,.go,.go,.go,.go,.go,.b false,.go,.go,.go,.go,.go,.go,.go,.go,.go,.b true,.go,.go,.go,.go,.go,.go,.go,.go,.go,.go,.go,.go,.go,.go,.go,.go,.b true,.go,.go,.go,.go,.go,.go,.go,.go,.go,.go,.go,.go,.go,.go,.go,.go,.b true,.go,.go,.go,.go,.go,.go,.go,.go,.go,.go,.go,.go,.go,.go,.go,.go,.b false,.go,.go,.go,.go] [38] [(.slu 38 0 3 0),(.v (.int .i64 (.ofNat 0)))] [(.row [(.v (.int .i64 (T6 (J5 (List.take (L.length*(0+1)) (List.drop 0 (cI (tI (W8 (cR P0) (Y7 (cI M) (cI K) L.length) false) L.length)))) (List.take (L.length*(0+1)) (List.drop 0 (cI (tI (W8 (cR P1) (Y7 (cI M) (cI K) L.length) false) L.length)))) (List.take (L.length*(0+1)) (List.drop 0 (cI (tI (W8 (cR P2) (Y7 (cI M) (cI K) L.length) false) L.length)))) (List.take (L.length*(0+1)) (List.drop 0 (cI (tI (W8 (cR L) (Y7 (cI M) (cI K) L.length) false) L.length)))) (Y7 (cI M) (cI K) L.length) 0) L.length))),(.v (.int .i64 (T6 (J5 (List.take (L.length*(0+1)) (List.drop 0 (cI (tI (W8 (cR P0) (Y7 (cI M) (cI K) L.length) true) L.length)))) (List.take (L.length*(0+1)) (List.drop 0 (cI (tI (W8 (cR P1) (Y7 (cI M) (cI K) L.length) true) L.length)))) (List.take (L.length*(0+1)) (List.drop 0 (cI (tI (W8 (cR P2) (Y7 (cI M) (cI K) L.length) true) L.length)))) (List.take (L.length*(0+1)) (List.drop 0 (cI (tI (W8 (cR L) (Y7 (cI M) (cI K) L.length) true) L.length)))) (Y7 (cI M) (cI K) L.length) 0) L.length))),(.v (.int .i64 (T6 (J5 (List.take (L.length*(0+1)) (List.drop 0 (cI (tI (W8 (cR P0) (Y7 (cI M) (cI K) L.length) false) L.length)))) (List.take (L.length*(0+1)) (List.drop 0 (cI (tI (W8 (cR P1) (Y7 (cI M) (cI K) L.length) false) L.length)))) (List.take (L.length*(0+1)) (List.drop 0 (cI (tI (W8 (cR P2) (Y7 (cI M) (cI K) L.length) false) L.length)))) (List.take (L.length*(0+1)) (List.drop 0 (cI (tI (W8 (cR L) (Y7 (cI M) (cI K) L.length) false) L.length)))) (Y7 (cI M) (cI K) L.length) 1) L.length))),(.v (.int .i64 (T6 (J5 (List.take (L.length*(0+1)) (List.drop 0 (cI (tI (W8 (cR P0) (Y7 (cI M) (cI K) L.length) true) L.length)))) (List.take (L.length*(0+1)) (List.drop 0 (cI (tI (W8 (cR P1) (Y7 (cI M) (cI K) L.length) true) L.length)))) (List.take (L.length*(0+1)) (List.drop 0 (cI (tI (W8 (cR P2) (Y7 (cI M) (cI K) L.length) true) L.length)))) (List.take (L.length*(0+1)) (List.drop 0 (cI (tI (W8 (cR L) (Y7 (cI M) (cI K) L.length) true) L.length)))) (Y7 (cI M) (cI K) L.length) 1) L.length))),(.v (.int .i64 (T6 (J5 (List.take (L.length*(0+1)) (List.drop 0 (cI (tI (W8 (cR P0) (Y7 (cI M) (cI K) L.length) false) L.length)))) (List.take (L.length*(0+1)) (List.drop 0 (cI (tI (W8 (cR P1) (Y7 (cI M) (cI K) L.length) false) L.length)))) (List.take (L.length*(0+1)) (List.drop 0 (cI (tI (W8 (cR P2) (Y7 (cI M) (cI K) L.length) false) L.length)))) (List.take (L.length*(0+1)) (List.drop 0 (cI (tI (W8 (cR L) (Y7 (cI M) (cI K) L.length) false) L.length)))) (Y7 (cI M) (cI K) L.length) 2) L.length))),(.v (.int .i64 (T6 (J5 (List.take (L.length*(0+1)) (List.drop 0 (cI (tI (W8 (cR P0) (Y7 (cI M) (cI K) L.length) true) L.length)))) (List.take (L.length*(0+1)) (List.drop 0 (cI (tI (W8 (cR P1) (Y7 (cI M) (cI K) L.length) true) L.length)))) (List.take (L.length*(0+1)) (List.drop 0 (cI (tI (W8 (cR P2) (Y7 (cI M) (cI K) L.length) true) L.length)))) (List.take (L.length*(0+1)) (List.drop 0 (cI (tI (W8 (cR L) (Y7 (cI M) (cI K) L.length) true) L.length)))) (Y7 (cI M) (cI K) L.length) 2) L.length)))] 65 2)] (by kernel_rfl) (by kernel_rfl) ⟨(by show 0+2*(0+1)≤2;decide),(by decide),⟨rfl,[(v0,P0),(v1,P1),(v2,P2)],rfl,rfl⟩,⟨rfl,L,rfl,rfl⟩,⟨rfl,M,rfl,rfl⟩,⟨rfl,K,rfl,rfl⟩,rfl,(by decide),(by omega),(by omega),((c7 hC hH1).trans hH2),rfl,(X6 [(v0,P0),(v1,P1),(v2,P2)]),(Z4 (X4 _)),(Z4 (Z2 _)),(Z4 (Z2 _)),⟨rfl,[(v0,P0),(v1,P1),(v2,P2)],rfl,rfl⟩,⟨rfl,L,rfl,rfl⟩,⟨rfl,M,rfl,rfl⟩,⟨rfl,K,rfl,rfl⟩,(X6 [(v0,P0),(v1,P1),(v2,P2)]),(Z4 (X4 _)),⟨rfl,[(v0,P0),(v1,P1),(v2,P2)],rfl,rfl⟩,⟨rfl,L,rfl,rfl⟩,⟨rfl,M,rfl,rfl⟩,⟨rfl,K,rfl,rfl⟩,⟨rfl,L,rfl,rfl⟩,hn,rfl,hM,hK,(S9 hH1 hH2),rfl,⟨rfl,[(v0,P0),(v1,P1),(v2,P2)],rfl,rfl⟩,⟨rfl,L,rfl,rfl⟩,⟨rfl,M,rfl,rfl⟩,⟨rfl,K,rfl,rfl⟩,⟨rfl,P0,rfl,rfl⟩,hn,(hrow 0 (by decide)),hM,hK,(S9 hH1 hH2),(by show -9223372036854775808≤(_:Int)∧(_:Int)≤9223372036854775807;constructor<;>decide),rfl,⟨rfl,[(v0,P0),(v1,P1),(v2,P2)],rfl,rfl⟩,⟨rfl,L,rfl,rfl⟩,⟨rfl,M,rfl,rfl⟩,⟨rfl,K,rfl,rfl⟩,⟨rfl,P1,rfl,rfl⟩,hn,(hrow 1 (by decide)),hM,hK,(S9 hH1 hH2),(by show -9223372036854775808≤(_:Int)∧(_:Int)≤9223372036854775807;constructor<;>decide),rfl,⟨rfl,[(v0,P0),(v1,P1),(v2,P2)],rfl,rfl⟩,⟨rfl,L,rfl,rfl⟩,⟨rfl,M,rfl,rfl⟩,⟨rfl,K,rfl,rfl⟩,⟨rfl,P2,rfl,rfl⟩,hn,(hrow 2 (by decide)),hM,hK,(S9 hH1 hH2),(by show -9223372036854775808≤(_:Int)∧(_:Int)≤9223372036854775807;constructor<;>decide),rfl,(by show 0+3*(0+1)≤3;decide),(by rw [Z3,Y9];omega),(by rw [Z3,Y9];omega),(by rw [Z3,Y9];omega),(by rw [Z3,Y9];omega),⟨rfl,[(v0,P0),(v1,P1),(v2,P2)],rfl,rfl⟩,⟨rfl,L,rfl,rfl⟩,⟨rfl,M,rfl,rfl⟩,⟨rfl,K,rfl,rfl⟩,hn.2,⟨rfl,_,Z0,(Y9 _ _).symm⟩,⟨rfl,_,Z0,(Y9 _ _).symm⟩,⟨rfl,_,Z0,(Y9 _ _).symm⟩,⟨rfl,_,Z0,(Y9 _ _).symm⟩,rfl,rfl,rfl,rfl,hM,hK,rfl,(by rw [Z0,Z0,Z0,Z0];exact E4 (hcur 0 (by decide)) (hcur 1 (by decide)) (hcur 2 (by decide)) hlam),(S9 hH1 hH2),⟨rfl,[(v0,P0),(v1,P1),(v2,P2)],rfl,rfl⟩,⟨rfl,L,rfl,rfl⟩,⟨rfl,M,rfl,rfl⟩,⟨rfl,K,rfl,rfl⟩,⟨rfl,L,rfl,rfl⟩,hn,rfl,hM,hK,(S9 hH1 hH2),rfl,⟨rfl,[(v0,P0),(v1,P1),(v2,P2)],rfl,rfl⟩,⟨rfl,L,rfl,rfl⟩,⟨rfl,M,rfl,rfl⟩,⟨rfl,K,rfl,rfl⟩,⟨rfl,P0,rfl,rfl⟩,hn,(hrow 0 (by decide)),hM,hK,(S9 hH1 hH2),(by show -9223372036854775808≤(_:Int)∧(_:Int)≤9223372036854775807;constructor<;>decide),rfl,⟨rfl,[(v0,P0),(v1,P1),(v2,P2)],rfl,rfl⟩,⟨rfl,L,rfl,rfl⟩,⟨rfl,M,rfl,rfl⟩,⟨rfl,K,rfl,rfl⟩,⟨rfl,P1,rfl,rfl⟩,hn,(hrow 1 (by decide)),hM,hK,(S9 hH1 hH2),(by show -9223372036854775808≤(_:Int)∧(_:Int)≤9223372036854775807;constructor<;>decide),rfl,⟨rfl,[(v0,P0),(v1,P1),(v2,P2)],rfl,rfl⟩,⟨rfl,L,rfl,rfl⟩,⟨rfl,M,rfl,rfl⟩,⟨rfl,K,rfl,rfl⟩,⟨rfl,P2,rfl,rfl⟩,hn,(hrow 2 (by decide)),hM,hK,(S9 hH1 hH2),(by show -9223372036854775808≤(_:Int)∧(_:Int)≤9223372036854775807;constructor<;>decide),rfl,(by show 0+3*(0+1)≤3;decide),(by rw [Z3,Y9];omega),(by rw [Z3,Y9];omega),(by rw [Z3,Y9];omega),(by rw [Z3,Y9];omega),⟨rfl,[(v0,P0),(v1,P1),(v2,P2)],rfl,rfl⟩,⟨rfl,L,rfl,rfl⟩,⟨rfl,M,rfl,rfl⟩,⟨rfl,K,rfl,rfl⟩,hn.2,⟨rfl,_,Z0,(Y9 _ _).symm⟩,⟨rfl,_,Z0,(Y9 _ _).symm⟩,⟨rfl,_,Z0,(Y9 _ _).symm⟩,⟨rfl,_,Z0,(Y9 _ _).symm⟩,rfl,rfl,rfl,rfl,hM,hK,rfl,(by rw [Z0,Z0,Z0,Z0];exact E4 (hcur 0 (by decide)) (hcur 1 (by decide)) (hcur 2 (by decide)) hlam),(S9 hH1 hH2),rfl,(by show -9223372036854775808≤(_:Int)∧(_:Int)≤9223372036854775807;constructor<;>decide),rfl,(by show -9223372036854775808≤(_:Int)∧(_:Int)≤9223372036854775807;constructor<;>decide),rfl,(by show -9223372036854775808≤(_:Int)∧(_:Int)≤9223372036854775807;constructor<;>decide),rfl,trivial⟩ rfl rfl (by decide) rfl ⟨I1 rfl,E2 _,trivial⟩ ⟨⟨by show 0<1;decide,M4 (X9 (E2 _) (X9 (E2 _) (X9 (E2 _) (X9 (E2 _) (X9 (E2 _) (X9 (E2 _) (V1)))))))⟩,trivial⟩) (E3 (r:=(.tup [(.slu 0 0 3 0),(.v (.int .i64 (.ofNat 0)))])) (ys:=[(.row [(.v (.int .i64 (T6 (J5 (List.take (L.length*(0+1)) (List.drop 0 (cI (tI (W8 (cR P0) (Y7 (cI M) (cI K) L.length) false) L.length)))) (List.take (L.length*(0+1)) (List.drop 0 (cI (tI (W8 (cR P1) (Y7 (cI M) (cI K) L.length) false) L.length)))) (List.take (L.length*(0+1)) (List.drop 0 (cI (tI (W8 (cR P2) (Y7 (cI M) (cI K) L.length) false) L.length)))) (List.take (L.length*(0+1)) (List.drop 0 (cI (tI (W8 (cR L) (Y7 (cI M) (cI K) L.length) false) L.length)))) (Y7 (cI M) (cI K) L.length) 0) L.length))),(.v (.int .i64 (T6 (J5 (List.take (L.length*(0+1)) (List.drop 0 (cI (tI (W8 (cR P0) (Y7 (cI M) (cI K) L.length) true) L.length)))) (List.take (L.length*(0+1)) (List.drop 0 (cI (tI (W8 (cR P1) (Y7 (cI M) (cI K) L.length) true) L.length)))) (List.take (L.length*(0+1)) (List.drop 0 (cI (tI (W8 (cR P2) (Y7 (cI M) (cI K) L.length) true) L.length)))) (List.take (L.length*(0+1)) (List.drop 0 (cI (tI (W8 (cR L) (Y7 (cI M) (cI K) L.length) true) L.length)))) (Y7 (cI M) (cI K) L.length) 0) L.length))),(.v (.int .i64 (T6 (J5 (List.take (L.length*(0+1)) (List.drop 0 (cI (tI (W8 (cR P0) (Y7 (cI M) (cI K) L.length) false) L.length)))) (List.take (L.length*(0+1)) (List.drop 0 (cI (tI (W8 (cR P1) (Y7 (cI M) (cI K) L.length) false) L.length)))) (List.take (L.length*(0+1)) (List.drop 0 (cI (tI (W8 (cR P2) (Y7 (cI M) (cI K) L.length) false) L.length)))) (List.take (L.length*(0+1)) (List.drop 0 (cI (tI (W8 (cR L) (Y7 (cI M) (cI K) L.length) false) L.length)))) (Y7 (cI M) (cI K) L.length) 1) L.length))),(.v (.int .i64 (T6 (J5 (List.take (L.length*(0+1)) (List.drop 0 (cI (tI (W8 (cR P0) (Y7 (cI M) (cI K) L.length) true) L.length)))) (List.take (L.length*(0+1)) (List.drop 0 (cI (tI (W8 (cR P1) (Y7 (cI M) (cI K) L.length) true) L.length)))) (List.take (L.length*(0+1)) (List.drop 0 (cI (tI (W8 (cR P2) (Y7 (cI M) (cI K) L.length) true) L.length)))) (List.take (L.length*(0+1)) (List.drop 0 (cI (tI (W8 (cR L) (Y7 (cI M) (cI K) L.length) true) L.length)))) (Y7 (cI M) (cI K) L.length) 1) L.length))),(.v (.int .i64 (T6 (J5 (List.take (L.length*(0+1)) (List.drop 0 (cI (tI (W8 (cR P0) (Y7 (cI M) (cI K) L.length) false) L.length)))) (List.take (L.length*(0+1)) (List.drop 0 (cI (tI (W8 (cR P1) (Y7 (cI M) (cI K) L.length) false) L.length)))) (List.take (L.length*(0+1)) (List.drop 0 (cI (tI (W8 (cR P2) (Y7 (cI M) (cI K) L.length) false) L.length)))) (List.take (L.length*(0+1)) (List.drop 0 (cI (tI (W8 (cR L) (Y7 (cI M) (cI K) L.length) false) L.length)))) (Y7 (cI M) (cI K) L.length) 2) L.length))),(.v (.int .i64 (T6 (J5 (List.take (L.length*(0+1)) (List.drop 0 (cI (tI (W8 (cR P0) (Y7 (cI M) (cI K) L.length) true) L.length)))) (List.take (L.length*(0+1)) (List.drop 0 (cI (tI (W8 (cR P1) (Y7 (cI M) (cI K) L.length) true) L.length)))) (List.take (L.length*(0+1)) (List.drop 0 (cI (tI (W8 (cR P2) (Y7 (cI M) (cI K) L.length) true) L.length)))) (List.take (L.length*(0+1)) (List.drop 0 (cI (tI (W8 (cR L) (Y7 (cI M) (cI K) L.length) true) L.length)))) (Y7 (cI M) (cI K) L.length) 2) L.length)))] 65 2)]) (by rfl) (by (unfold R4;simp only [Z0])) (J4 (by kernel_rfl) (by kernel_rfl) rfl (.inr rfl)))
theorem c3i(y v0:Value)(P0:List (Int×Int))(v1:Value)(P1:List (Int×Int))(v2:Value)(P2:List (Int×Int))(yl:Value)(L:List (Int×Int))(z:Value)(M:List Int)(zk:Value)(K:List Int)(hC:U9 [.xl v0 P0.length 2 (cR P0),.xl v1 P1.length 2 (cR P1),.xl v2 P2.length 2 (cR P2)] 3 (cR L) L.length=0)(hH1:W6 L.length (cI M) M.length=0)(hH2:W6 L.length (cI K) K.length=0):G7 Try.prog 24 [(.agg [.xl y 3 1 [.xl v0 P0.length 2 (cR P0),.xl v1 P1.length 2 (cR P1),.xl v2 P2.length 2 (cR P2)],.xl yl L.length 2 (cR L)]),(.xl z M.length 1 (cI M)),(.xl zk K.length 1 (cI K))] [] ((.tup [.slu 0 0 3 0,.v (.int .i64 0)])) [(.row [.v (.int .i64 (R4 (cR P0) (cR P1) (cR P2) (cR L) (Y7 (cI M) (cI K) L.length) L.length false 0)),.v (.int .i64 (R4 (cR P0) (cR P1) (cR P2) (cR L) (Y7 (cI M) (cI K) L.length) L.length true 0)),.v (.int .i64 (R4 (cR P0) (cR P1) (cR P2) (cR L) (Y7 (cI M) (cI K) L.length) L.length false 1)),.v (.int .i64 (R4 (cR P0) (cR P1) (cR P2) (cR L) (Y7 (cI M) (cI K) L.length) L.length true 1)),.v (.int .i64 (R4 (cR P0) (cR P1) (cR P2) (cR L) (Y7 (cI M) (cI K) L.length) L.length false 2)),.v (.int .i64 (R4 (cR P0) (cR P1) (cR P2) (cR L) (Y7 (cI M) (cI K) L.length) L.length true 2))] 65 2)] :=
 R0 22 (by kernel_rfl) Try.func24 (by kernel_rfl) (by kernel_rfl) (by kernel_rfl) (fun v eb ec=>W2 (by kernel_rfl) (by kernel_rfl) (by kernel_rfl) (by kernel_rfl) (c4Z y v0 P0 v1 P1 v2 P2 yl L z M zk K hC hH1 hH2 v eb ec []))
end
end Go.Proofs.Ytegmogadbnfbgaa
set_option linter.all false
/- Whether all numbers of an end are 0. -/
namespace Go.Proofs.Ytegmogadbnfbgaa
open Go Ev
noncomputable section
section
variable (K : List Int) (L : List (Int × Int)) (M : List Int) (P0 P1 P2 : List (Int × Int)) (v0 v1 v2 z zk : Value)
@[reducible] def a36:=(cI (tI (W8 (cR P0) (Y7 (cI M) (cI K) L.length) false) L.length))
@[reducible] def a2D:=(cI (tI (W8 (cR P1) (Y7 (cI M) (cI K) L.length) false) L.length))
@[reducible] def a2l:=(cI (tI (W8 (cR P2) (Y7 (cI M) (cI K) L.length) false) L.length))
@[reducible] def a0a:=(cI (tI (W8 (cR L) (Y7 (cI M) (cI K) L.length) false) L.length))
@[reducible] def b6h:=(T9 (T6 (J5 (List.take (L.length*(0+1)) (List.drop 0 (a36 K L M P0))) (List.take (L.length*(0+1)) (List.drop 0 (a2D K L M P1))) (List.take (L.length*(0+1)) (List.drop 0 (a2l K L M P2))) (List.take (L.length*(0+1)) (List.drop 0 (a0a K L M))) (Y7 (cI M) (cI K) L.length) 0) L.length) 0&&(T9 (T6 (J5 (List.take (L.length*(0+1)) (List.drop 0 (a36 K L M P0))) (List.take (L.length*(0+1)) (List.drop 0 (a2D K L M P1))) (List.take (L.length*(0+1)) (List.drop 0 (a2l K L M P2))) (List.take (L.length*(0+1)) (List.drop 0 (a0a K L M))) (Y7 (cI M) (cI K) L.length) 1) L.length) 0&&(T9 (T6 (J5 (List.take (L.length*(0+1)) (List.drop 0 (a36 K L M P0))) (List.take (L.length*(0+1)) (List.drop 0 (a2D K L M P1))) (List.take (L.length*(0+1)) (List.drop 0 (a2l K L M P2))) (List.take (L.length*(0+1)) (List.drop 0 (a0a K L M))) (Y7 (cI M) (cI K) L.length) 2) L.length) 0&&true)))
@[reducible] def u7:=(cI (tI (W8 (cR P0) (Y7 (cI M) (cI K) L.length) true) L.length))
@[reducible] def a0k:=(cI (tI (W8 (cR P1) (Y7 (cI M) (cI K) L.length) true) L.length))
@[reducible] def a0j:=(cI (tI (W8 (cR P2) (Y7 (cI M) (cI K) L.length) true) L.length))
@[reducible] def t7:=(cI (tI (W8 (cR L) (Y7 (cI M) (cI K) L.length) true) L.length))
@[reducible] def b2m:=(T9 (T6 (J5 (List.take (L.length*(0+1)) (List.drop 0 (u7 K L M P0))) (List.take (L.length*(0+1)) (List.drop 0 (a0k K L M P1))) (List.take (L.length*(0+1)) (List.drop 0 (a0j K L M P2))) (List.take (L.length*(0+1)) (List.drop 0 (t7 K L M))) (Y7 (cI M) (cI K) L.length) 0) L.length) 0&&(T9 (T6 (J5 (List.take (L.length*(0+1)) (List.drop 0 (u7 K L M P0))) (List.take (L.length*(0+1)) (List.drop 0 (a0k K L M P1))) (List.take (L.length*(0+1)) (List.drop 0 (a0j K L M P2))) (List.take (L.length*(0+1)) (List.drop 0 (t7 K L M))) (Y7 (cI M) (cI K) L.length) 1) L.length) 0&&(T9 (T6 (J5 (List.take (L.length*(0+1)) (List.drop 0 (u7 K L M P0))) (List.take (L.length*(0+1)) (List.drop 0 (a0k K L M P1))) (List.take (L.length*(0+1)) (List.drop 0 (a0j K L M P2))) (List.take (L.length*(0+1)) (List.drop 0 (t7 K L M))) (Y7 (cI M) (cI K) L.length) 2) L.length) 0&&true)))
@[reducible] def P3:List Ev.AV:=[AV.xl v0 P0.length 2 (cR P0),AV.xl v1 P1.length 2 (cR P1),AV.xl v2 P2.length 2 (cR P2)]
@[reducible] def b2A:List Ev.AV:=[.xl v0 P0.length 2 (cR P0),.xl v1 P1.length 2 (cR P1),.xl v2 P2.length 2 (cR P2)]
@[reducible] def a7N:List Ev.AV:=[(.xl (z) (M.length) 1 (cI M)),(.xl (zk) (K.length) 1 (cI K))]
end
def m8(c0 c1 c2 cL d:List AV)(n:Nat)(g:Bool):Prop:=R4 c0 c1 c2 cL d n g 0=0∧R4 c0 c1 c2 cL d n g 1=0∧R4 c0 c1 c2 cL d n g 2=0
instance (c0 c1 c2 cL d:List AV) (n:Nat) (g:Bool):Decidable (m8 c0 c1 c2 cL d n g):=by unfold m8;infer_instance
def suN(c0 c1 c2 cL d:List AV)(n:Nat):Int:=if m8 c0 c1 c2 cL d n true∧m8 c0 c1 c2 cL d n false then 0 else 19
theorem b0J{c0 c1 c2 cL d:List AV}{n:Nat}(h:m8 c0 c1 c2 cL d n true)(h2:m8 c0 c1 c2 cL d n false):suN c0 c1 c2 cL d n=0:=if_pos ⟨h,h2⟩
theorem a9G{c0 c1 c2 cL d:List AV}{n:Nat}(h:¬ m8 c0 c1 c2 cL d n true):suN c0 c1 c2 cL d n=19:=if_neg (fun k=>h k.1)
theorem a90{c0 c1 c2 cL d:List AV}{n:Nat}(h:¬ m8 c0 c1 c2 cL d n false):suN c0 c1 c2 cL d n=19:=if_neg (fun k=>h k.2)
theorem zr_iff{c0 c1 c2 cL d:List AV}{n:Nat}{g:Bool}:(T9 (T6 (J5 (List.take (n*(0+1)) (List.drop 0 (cI (tI (W8 c0 d g) n)))) (List.take (n*(0+1)) (List.drop 0 (cI (tI (W8 c1 d g) n)))) (List.take (n*(0+1)) (List.drop 0 (cI (tI (W8 c2 d g) n)))) (List.take (n*(0+1)) (List.drop 0 (cI (tI (W8 cL d g) n)))) d 0) n) 0&&(T9 (T6 (J5 (List.take (n*(0+1)) (List.drop 0 (cI (tI (W8 c0 d g) n)))) (List.take (n*(0+1)) (List.drop 0 (cI (tI (W8 c1 d g) n)))) (List.take (n*(0+1)) (List.drop 0 (cI (tI (W8 c2 d g) n)))) (List.take (n*(0+1)) (List.drop 0 (cI (tI (W8 cL d g) n)))) d 1) n) 0&&(T9 (T6 (J5 (List.take (n*(0+1)) (List.drop 0 (cI (tI (W8 c0 d g) n)))) (List.take (n*(0+1)) (List.drop 0 (cI (tI (W8 c1 d g) n)))) (List.take (n*(0+1)) (List.drop 0 (cI (tI (W8 c2 d g) n)))) (List.take (n*(0+1)) (List.drop 0 (cI (tI (W8 cL d g) n)))) d 2) n) 0&&true)))=true↔m8 c0 c1 c2 cL d n g:=by
 rw [Z0,Z0,Z0,Z0]
 unfold m8 R4
 simp [k9]
theorem a9e{c0 c1 c2 cL d:List AV}{n:Nat}{g:Bool}(h:(T9 (T6 (J5 (List.take (n*(0+1)) (List.drop 0 (cI (tI (W8 c0 d g) n)))) (List.take (n*(0+1)) (List.drop 0 (cI (tI (W8 c1 d g) n)))) (List.take (n*(0+1)) (List.drop 0 (cI (tI (W8 c2 d g) n)))) (List.take (n*(0+1)) (List.drop 0 (cI (tI (W8 cL d g) n)))) d 0) n) 0&&(T9 (T6 (J5 (List.take (n*(0+1)) (List.drop 0 (cI (tI (W8 c0 d g) n)))) (List.take (n*(0+1)) (List.drop 0 (cI (tI (W8 c1 d g) n)))) (List.take (n*(0+1)) (List.drop 0 (cI (tI (W8 c2 d g) n)))) (List.take (n*(0+1)) (List.drop 0 (cI (tI (W8 cL d g) n)))) d 1) n) 0&&(T9 (T6 (J5 (List.take (n*(0+1)) (List.drop 0 (cI (tI (W8 c0 d g) n)))) (List.take (n*(0+1)) (List.drop 0 (cI (tI (W8 c1 d g) n)))) (List.take (n*(0+1)) (List.drop 0 (cI (tI (W8 c2 d g) n)))) (List.take (n*(0+1)) (List.drop 0 (cI (tI (W8 cL d g) n)))) d 2) n) 0&&true)))=false):¬ m8 c0 c1 c2 cL d n g:=fun k=>by
 rw [zr_iff.2 k] at h
 cases h
noncomputable def c3d:Code:=R8 Try.f27
set_option maxHeartbeats 2000000 in
theorem c2o(y:Value)(E:List (Value×List (Int×Int)))(yl:Value)(L:List (Int×Int))(z:Value)(M:List Int)(zk:Value)(K:List Int)(hE3:E.length≤1000)(hM3:M.length≤1000)(hK3:K.length≤1000)(hH:¬ U0 (U9 (Z1 E) E.length (cR L) L.length) (W6 L.length (cI M) M.length) (W6 L.length (cI K) K.length)=0)(w:World)(hs:List Nat):Y4 Try.prog 27 c3d (⟨[(0,(.agg [.xl y E.length 1 (Z1 E),.xl yl L.length 2 (cR L)])),(1,(.xl z M.length 1 (cI M))),(2,(.xl zk K.length 1 (cI K)))],[],0,[]⟩) (BaseW.H w hs) (V3 Try.prog Try.f27 27 (.int .i64 (U0 (U9 (Z1 E) E.length (cR L) L.length) (W6 L.length (cI M) M.length) (W6 L.length (cI K) K.length))) w):=by
 have hcl_L:=Y6 L
 have hcl_M:=Z3 M
 have hcl_K:=Z3 K
 rcases Bool.eq_false_or_eq_true (T9 (U0 (U9 (Z1 E) E.length (cR L) L.length) (W6 L.length (cI M) M.length) (W6 L.length (cI K) K.length)) 0) with hqsue3_1|hqsue3_1
 ·have ghqsue3_1:=Y8 hqsue3_1
  exact absurd (Y8 hqsue3_1) hH
 ·have ghqsue3_1:=X5 hqsue3_1
  exact Z8 W1 (Z7 Try.checked.mixed (Y3 a3X (Y3 D7 (Y3 a3p a3Q))) 200 (T':=⟨[(6,(.v (.int .i64 (U0 (U9 (Z1 E) E.length (cR L) L.length) (W6 L.length (cI M) M.length) (W6 L.length (cI K) K.length)))))],[],2,[]⟩) (e:=.ret) (ps:=[0+2*(0+1)≤((a7N K M z zk):List AV).length,((2:Nat)≤2),V5 1 (Z1 E) E.length,Y5 2 L.length (cR L),V9 (0+1) M.length (cI M),V9 (0+1) K.length (cI K),a4y 2,E.length≤1000,M.length≤1000,K.length≤1000,¬U0 (U9 (Z1 E) E.length (cR L) L.length) (W6 L.length (cI M) M.length) (W6 L.length (cI K) K.length)=0,(!T9 (U0 (U9 (Z1 E) E.length (cR L) L.length) (W6 L.length (cI M) M.length) (W6 L.length (cI K) K.length)) 0)=true]) [.go,.go,.go,.go,.go,.go,.go,.go,.go,.b true,.go,.go] (by kernel_rfl) (by kernel_rfl) ⟨(by show 0+2*(0+1)≤2;decide),(by decide),⟨rfl,E,rfl,rfl⟩,⟨rfl,L,rfl,rfl⟩,⟨rfl,M,rfl,rfl⟩,⟨rfl,K,rfl,rfl⟩,rfl,hE3,(by omega),(by omega),hH,(by rw [hqsue3_1];rfl),trivial⟩ rfl) (Hd.en_eq (r:=(.int .i64 (U0 (U9 (Z1 E) E.length (cR L) L.length) (W6 L.length (cI M) M.length) (W6 L.length (cI K) K.length)))) (by rfl) (Hd.en_ret (v:=(.v (.int .i64 (U0 (U9 (Z1 E) E.length (cR L) L.length) (W6 L.length (cI M) M.length) (W6 L.length (cI K) K.length))))) (by kernel_rfl) rfl))
theorem c4f(y:Value)(E:List (Value×List (Int×Int)))(yl:Value)(L:List (Int×Int))(z:Value)(M:List Int)(zk:Value)(K:List Int)(hE3:E.length≤1000)(hM3:M.length≤1000)(hK3:K.length≤1000)(hH:¬ U0 (U9 (Z1 E) E.length (cR L) L.length) (W6 L.length (cI M) M.length) (W6 L.length (cI K) K.length)=0):GivesA Try.prog 27 [(.agg [.xl y E.length 1 (Z1 E),.xl yl L.length 2 (cR L)]),(.xl z M.length 1 (cI M)),(.xl zk K.length 1 (cI K))] (.int .i64 (U0 (U9 (Z1 E) E.length (cR L) L.length) (W6 L.length (cI M) M.length) (W6 L.length (cI K) K.length))) :=
 W0 27 Try.func27 (by kernel_rfl) (by kernel_rfl) (by kernel_rfl) (fun w=>W2 (by kernel_rfl) (by kernel_rfl) (by kernel_rfl) (by kernel_rfl) (c2o y E yl L z M zk K hE3 hM3 hK3 hH w []))
noncomputable def c5m:Code:=R8 Try.f27
set_option maxHeartbeats 2000000 in
theorem c4Y(y v0:Value)(P0:List (Int×Int))(v1:Value)(P1:List (Int×Int))(v2:Value)(P2:List (Int×Int))(yl:Value)(L:List (Int×Int))(z:Value)(M:List Int)(zk:Value)(K:List Int)(hC:U9 (b2A P0 P1 P2 v0 v1 v2) 3 (cR L) L.length=0)(hH1:W6 L.length (cI M) M.length=0)(hH2:W6 L.length (cI K) K.length=0)(w:World)(hs:List Nat):Y4 Try.prog 27 c5m (⟨[(0,(.agg [.xl y 3 1 (b2A P0 P1 P2 v0 v1 v2),.xl yl L.length 2 (cR L)])),(1,(.xl z M.length 1 (cI M))),(2,(.xl zk K.length 1 (cI K)))],[],0,[]⟩) (BaseW.H w hs) (V3 Try.prog Try.f27 27 (.int .i64 (suN (cR P0) (cR P1) (cR P2) (cR L) (Y7 (cI M) (cI K) L.length) L.length)) w):=by
 have hcl_P0:=Y6 P0
 have hcl_P1:=Y6 P1
 have hcl_P2:=Y6 P2
 have hcl_L:=Y6 L
 have hcl_M:=Z3 M
 have hcl_K:=Z3 K
 obtain ⟨hn,-,hrow,hlam,hcur⟩:=T5 hC
 have hM:=(U2 hH1).1
 have hK:=(U2 hH2).1
 rcases Bool.eq_false_or_eq_true (b2m K L M P0 P1 P2) with hqsuo3_1|hqsuo3_1
 ·rcases Bool.eq_false_or_eq_true (b6h K L M P0 P1 P2) with hqsuo3_2|hqsuo3_2
  ·exact Z8 W1 (Z7 Try.checked.mixed (Y3 x5 (Y3 D7 (Y3 y5 w7))) 200 (T':=⟨[(6,(.v (.int .i64 (.ofNat 0))))],[],35,[]⟩) (e:=.ret) (ps:=[0+2*(0+1)≤((a7N K M z zk):List AV).length,((2:Nat)≤2),V5 1 (P3 P0 P1 P2 v0 v1 v2) 3,Y5 2 L.length (cR L),V9 (0+1) M.length (cI M),V9 (0+1) K.length (cI K),a4y 2,((3:Nat)≤1000),M.length≤1000,K.length≤1000,U0 (U9 (P3 P0 P1 P2 v0 v1 v2) 3 (cR L) L.length) (W6 L.length (cI M) M.length) (W6 L.length (cI K) K.length)=0,(!T9 0 0)=false,W9 (P3 P0 P1 P2 v0 v1 v2),W9 (cR L),W9 (cI M),W9 (cI K),V5 1 (P3 P0 P1 P2 v0 v1 v2) 3,Y5 2 L.length (cR L),V9 1 M.length (cI M),V9 1 K.length (cI K),W9 (P3 P0 P1 P2 v0 v1 v2),W9 (cR L),X8 0 2=true,V5 1 (P3 P0 P1 P2 v0 v1 v2) 3,Y5 2 L.length (cR L),V9 1 M.length (cI M),V9 1 K.length (cI K),Y5 2 L.length (cR L),1≤L.length∧L.length≤8,L.length=L.length,M.length=L.length,K.length=L.length,Q1 (cI M) (cI K) L.length,X8 0 3=true,V5 1 (P3 P0 P1 P2 v0 v1 v2) 3,Y5 2 L.length (cR L),V9 1 M.length (cI M),V9 1 K.length (cI K),Y5 2 P0.length (cR P0),1≤L.length∧L.length≤8,P0.length=L.length,M.length=L.length,K.length=L.length,Q1 (cI M) (cI K) L.length,O8 IntKind.i64 (0+1),X8 (0+1) 3=true,V5 1 (P3 P0 P1 P2 v0 v1 v2) 3,Y5 2 L.length (cR L),V9 1 M.length (cI M),V9 1 K.length (cI K),Y5 2 P1.length (cR P1),1≤L.length∧L.length≤8,P1.length=L.length,M.length=L.length,K.length=L.length,Q1 (cI M) (cI K) L.length,O8 IntKind.i64 (0+1+1),X8 (0+1+1) 3=true,V5 1 (P3 P0 P1 P2 v0 v1 v2) 3,Y5 2 L.length (cR L),V9 1 M.length (cI M),V9 1 K.length (cI K),Y5 2 P2.length (cR P2),1≤L.length∧L.length≤8,P2.length=L.length,M.length=L.length,K.length=L.length,Q1 (cI M) (cI K) L.length,O8 IntKind.i64 (0+1+1+1),X8 (0+1+1+1) 3=false,0+(0+1+1+1)*(0+1)≤([(.slu 10 0 (L.length) 0),(.slu 13 0 (L.length) 0),(.slu 16 0 (L.length) 0)]:List AV).length,0+L.length*(0+1)≤((u7 K L M P0):List AV).length,0+L.length*(0+1)≤((a0k K L M P1):List AV).length,0+L.length*(0+1)≤((a0j K L M P2):List AV).length,0+L.length*(0+1)≤((t7 K L M):List AV).length,V5 1 (P3 P0 P1 P2 v0 v1 v2) 3,Y5 2 L.length (cR L),V9 1 M.length (cI M),V9 1 K.length (cI K),L.length≤8,J7 (0+1) L.length (List.take (L.length*(0+1)) (List.drop 0 (u7 K L M P0))),J7 (0+1) L.length (List.take (L.length*(0+1)) (List.drop 0 (a0k K L M P1))),J7 (0+1) L.length (List.take (L.length*(0+1)) (List.drop 0 (a0j K L M P2))),J7 (0+1) L.length (List.take (L.length*(0+1)) (List.drop 0 (t7 K L M))),L.length=L.length,L.length=L.length,L.length=L.length,L.length=L.length,M.length=L.length,K.length=L.length,E9 (0+1+1+1),a2r (List.take (L.length*(0+1)) (List.drop 0 (u7 K L M P0))) (List.take (L.length*(0+1)) (List.drop 0 (a0k K L M P1))) (List.take (L.length*(0+1)) (List.drop 0 (a0j K L M P2))) (List.take (L.length*(0+1)) (List.drop 0 (t7 K L M))) L.length,Q1 (cI M) (cI K) L.length,(!(b2m K L M P0 P1 P2))=false,O8 IntKind.i64 (0+1),X8 (0+1) 2=true,V5 1 (P3 P0 P1 P2 v0 v1 v2) 3,Y5 2 L.length (cR L),V9 1 M.length (cI M),V9 1 K.length (cI K),Y5 2 L.length (cR L),1≤L.length∧L.length≤8,L.length=L.length,M.length=L.length,K.length=L.length,Q1 (cI M) (cI K) L.length,X8 0 3=true,V5 1 (P3 P0 P1 P2 v0 v1 v2) 3,Y5 2 L.length (cR L),V9 1 M.length (cI M),V9 1 K.length (cI K),Y5 2 P0.length (cR P0),1≤L.length∧L.length≤8,P0.length=L.length,M.length=L.length,K.length=L.length,Q1 (cI M) (cI K) L.length,O8 IntKind.i64 (0+1),X8 (0+1) 3=true,V5 1 (P3 P0 P1 P2 v0 v1 v2) 3,Y5 2 L.length (cR L),V9 1 M.length (cI M),V9 1 K.length (cI K),Y5 2 P1.length (cR P1),1≤L.length∧L.length≤8,P1.length=L.length,M.length=L.length,K.length=L.length,Q1 (cI M) (cI K) L.length,O8 IntKind.i64 (0+1+1),X8 (0+1+1) 3=true,V5 1 (P3 P0 P1 P2 v0 v1 v2) 3,Y5 2 L.length (cR L),V9 1 M.length (cI M),V9 1 K.length (cI K),Y5 2 P2.length (cR P2),1≤L.length∧L.length≤8,P2.length=L.length,M.length=L.length,K.length=L.length,Q1 (cI M) (cI K) L.length,O8 IntKind.i64 (0+1+1+1),X8 (0+1+1+1) 3=false,0+(0+1+1+1)*(0+1)≤([(.slu 24 0 (L.length) 0),(.slu 27 0 (L.length) 0),(.slu 30 0 (L.length) 0)]:List AV).length,0+L.length*(0+1)≤((a36 K L M P0):List AV).length,0+L.length*(0+1)≤((a2D K L M P1):List AV).length,0+L.length*(0+1)≤((a2l K L M P2):List AV).length,0+L.length*(0+1)≤((a0a K L M):List AV).length,V5 1 (P3 P0 P1 P2 v0 v1 v2) 3,Y5 2 L.length (cR L),V9 1 M.length (cI M),V9 1 K.length (cI K),L.length≤8,J7 (0+1) L.length (List.take (L.length*(0+1)) (List.drop 0 (a36 K L M P0))),J7 (0+1) L.length (List.take (L.length*(0+1)) (List.drop 0 (a2D K L M P1))),J7 (0+1) L.length (List.take (L.length*(0+1)) (List.drop 0 (a2l K L M P2))),J7 (0+1) L.length (List.take (L.length*(0+1)) (List.drop 0 (a0a K L M))),L.length=L.length,L.length=L.length,L.length=L.length,L.length=L.length,M.length=L.length,K.length=L.length,E9 (0+1+1+1),a2r (List.take (L.length*(0+1)) (List.drop 0 (a36 K L M P0))) (List.take (L.length*(0+1)) (List.drop 0 (a2D K L M P1))) (List.take (L.length*(0+1)) (List.drop 0 (a2l K L M P2))) (List.take (L.length*(0+1)) (List.drop 0 (a0a K L M))) L.length,Q1 (cI M) (cI K) L.length,(!(b6h K L M P0 P1 P2))=false,O8 IntKind.i64 (0+1+1),X8 (0+1+1) 2=false,false=false]) [.go,.go,.go,.go,.go,.go,.go,.go,.go,.b false,.go,.go,.go,.go,.go,.go,.go,.go,.go,.b true,.go,.go,.go,.go,.go,.go,.go,.go,.go,.go,.go,.go,.go,.go,.go,.go,.go,.go,.go,.go,.b true,.go,.go,.go,.go,.go,.go,.go,.go,.go,.go,.go,.go,.go,.go,.go,.b true,.go,.go,.go,.go,.go,.go,.go,.go,.go,.go,.go,.go,.go,.go,.go,.b true,.go,.go,.go,.go,.go,.go,.go,.go,.go,.go,.go,.go,.go,.go,.go,.b false,.go,.go,.go,.go,.go,.go,.go,.go,.b false,.go,.go,.go,.b true,.go,.go,.go,.go,.go,.go,.go,.go,.go,.go,.go,.go,.go,.go,.go,.go,.go,.go,.go,.go,.b true,.go,.go,.go,.go,.go,.go,.go,.go,.go,.go,.go,.go,.go,.go,.go,.b true,.go,.go,.go,.go,.go,.go,.go,.go,.go,.go,.go,.go,.go,.go,.go,.b true,.go,.go,.go,.go,.go,.go,.go,.go,.go,.go,.go,.go,.go,.go,.go,.b false,.go,.go,.go,.go,.go,.go,.go,.go,.b false,.go,.go,.go,.b false,.go,.go,.go,.go,.go,.go,.go,.go,.go,.go,.b false,.go] (by kernel_rfl) (by kernel_rfl) ⟨(by show 0+2*(0+1)≤2;decide),(by decide),⟨rfl,[(v0,P0),(v1,P1),(v2,P2)],rfl,rfl⟩,⟨rfl,L,rfl,rfl⟩,⟨rfl,M,rfl,rfl⟩,⟨rfl,K,rfl,rfl⟩,rfl,(by decide),(by omega),(by omega),((c7 hC hH1).trans hH2),rfl,(X6 [(v0,P0),(v1,P1),(v2,P2)]),(Z4 (X4 _)),(Z4 (Z2 _)),(Z4 (Z2 _)),⟨rfl,[(v0,P0),(v1,P1),(v2,P2)],rfl,rfl⟩,⟨rfl,L,rfl,rfl⟩,⟨rfl,M,rfl,rfl⟩,⟨rfl,K,rfl,rfl⟩,(X6 [(v0,P0),(v1,P1),(v2,P2)]),(Z4 (X4 _)),rfl,⟨rfl,[(v0,P0),(v1,P1),(v2,P2)],rfl,rfl⟩,⟨rfl,L,rfl,rfl⟩,⟨rfl,M,rfl,rfl⟩,⟨rfl,K,rfl,rfl⟩,⟨rfl,L,rfl,rfl⟩,hn,rfl,hM,hK,(S9 hH1 hH2),rfl,⟨rfl,[(v0,P0),(v1,P1),(v2,P2)],rfl,rfl⟩,⟨rfl,L,rfl,rfl⟩,⟨rfl,M,rfl,rfl⟩,⟨rfl,K,rfl,rfl⟩,⟨rfl,P0,rfl,rfl⟩,hn,(hrow 0 (by decide)),hM,hK,(S9 hH1 hH2),(by show -9223372036854775808≤(_:Int)∧(_:Int)≤9223372036854775807;constructor<;>decide),rfl,⟨rfl,[(v0,P0),(v1,P1),(v2,P2)],rfl,rfl⟩,⟨rfl,L,rfl,rfl⟩,⟨rfl,M,rfl,rfl⟩,⟨rfl,K,rfl,rfl⟩,⟨rfl,P1,rfl,rfl⟩,hn,(hrow 1 (by decide)),hM,hK,(S9 hH1 hH2),(by show -9223372036854775808≤(_:Int)∧(_:Int)≤9223372036854775807;constructor<;>decide),rfl,⟨rfl,[(v0,P0),(v1,P1),(v2,P2)],rfl,rfl⟩,⟨rfl,L,rfl,rfl⟩,⟨rfl,M,rfl,rfl⟩,⟨rfl,K,rfl,rfl⟩,⟨rfl,P2,rfl,rfl⟩,hn,(hrow 2 (by decide)),hM,hK,(S9 hH1 hH2),(by show -9223372036854775808≤(_:Int)∧(_:Int)≤9223372036854775807;constructor<;>decide),rfl,(by show 0+3*(0+1)≤3;decide),(by rw [Z3,Y9];omega),(by rw [Z3,Y9];omega),(by rw [Z3,Y9];omega),(by rw [Z3,Y9];omega),⟨rfl,[(v0,P0),(v1,P1),(v2,P2)],rfl,rfl⟩,⟨rfl,L,rfl,rfl⟩,⟨rfl,M,rfl,rfl⟩,⟨rfl,K,rfl,rfl⟩,hn.2,⟨rfl,_,Z0,(Y9 _ _).symm⟩,⟨rfl,_,Z0,(Y9 _ _).symm⟩,⟨rfl,_,Z0,(Y9 _ _).symm⟩,⟨rfl,_,Z0,(Y9 _ _).symm⟩,rfl,rfl,rfl,rfl,hM,hK,rfl,(by rw [Z0,Z0,Z0,Z0];exact E4 (hcur 0 (by decide)) (hcur 1 (by decide)) (hcur 2 (by decide)) hlam),(S9 hH1 hH2),(by rw [hqsuo3_1];rfl),(by show -9223372036854775808≤(_:Int)∧(_:Int)≤9223372036854775807;constructor<;>decide),rfl,⟨rfl,[(v0,P0),(v1,P1),(v2,P2)],rfl,rfl⟩,⟨rfl,L,rfl,rfl⟩,⟨rfl,M,rfl,rfl⟩,⟨rfl,K,rfl,rfl⟩,⟨rfl,L,rfl,rfl⟩,hn,rfl,hM,hK,(S9 hH1 hH2),rfl,⟨rfl,[(v0,P0),(v1,P1),(v2,P2)],rfl,rfl⟩,⟨rfl,L,rfl,rfl⟩,⟨rfl,M,rfl,rfl⟩,⟨rfl,K,rfl,rfl⟩,⟨rfl,P0,rfl,rfl⟩,hn,(hrow 0 (by decide)),hM,hK,(S9 hH1 hH2),(by show -9223372036854775808≤(_:Int)∧(_:Int)≤9223372036854775807;constructor<;>decide),rfl,⟨rfl,[(v0,P0),(v1,P1),(v2,P2)],rfl,rfl⟩,⟨rfl,L,rfl,rfl⟩,⟨rfl,M,rfl,rfl⟩,⟨rfl,K,rfl,rfl⟩,⟨rfl,P1,rfl,rfl⟩,hn,(hrow 1 (by decide)),hM,hK,(S9 hH1 hH2),(by show -9223372036854775808≤(_:Int)∧(_:Int)≤9223372036854775807;constructor<;>decide),rfl,⟨rfl,[(v0,P0),(v1,P1),(v2,P2)],rfl,rfl⟩,⟨rfl,L,rfl,rfl⟩,⟨rfl,M,rfl,rfl⟩,⟨rfl,K,rfl,rfl⟩,⟨rfl,P2,rfl,rfl⟩,hn,(hrow 2 (by decide)),hM,hK,(S9 hH1 hH2),(by show -9223372036854775808≤(_:Int)∧(_:Int)≤9223372036854775807;constructor<;>decide),rfl,(by show 0+3*(0+1)≤3;decide),(by rw [Z3,Y9];omega),(by rw [Z3,Y9];omega),(by rw [Z3,Y9];omega),(by rw [Z3,Y9];omega),⟨rfl,[(v0,P0),(v1,P1),(v2,P2)],rfl,rfl⟩,⟨rfl,L,rfl,rfl⟩,⟨rfl,M,rfl,rfl⟩,⟨rfl,K,rfl,rfl⟩,hn.2,⟨rfl,_,Z0,(Y9 _ _).symm⟩,⟨rfl,_,Z0,(Y9 _ _).symm⟩,⟨rfl,_,Z0,(Y9 _ _).symm⟩,⟨rfl,_,Z0,(Y9 _ _).symm⟩,rfl,rfl,rfl,rfl,hM,hK,rfl,(by rw [Z0,Z0,Z0,Z0];exact E4 (hcur 0 (by decide)) (hcur 1 (by decide)) (hcur 2 (by decide)) hlam),(S9 hH1 hH2),(by rw [hqsuo3_2];rfl),(by show -9223372036854775808≤(_:Int)∧(_:Int)≤9223372036854775807;constructor<;>decide),rfl,rfl,trivial⟩ rfl) (Hd.en_eq (r:=(.int .i64 0)) (by (rw [b0J (zr_iff.1 hqsuo3_1) (zr_iff.1 hqsuo3_2)])) (Hd.en_ret (v:=(.v (.int .i64 (.ofNat 0)))) (by kernel_rfl) rfl))
  ·exact Z8 W1 (Z7 Try.checked.mixed (Y3 x5 (Y3 D7 (Y3 y5 w7))) 200 (T':=⟨[(6,(.v (.int .i64 (.ofNat 19))))],[],35,[]⟩) (e:=.ret) (ps:=[0+2*(0+1)≤((a7N K M z zk):List AV).length,((2:Nat)≤2),V5 1 (P3 P0 P1 P2 v0 v1 v2) 3,Y5 2 L.length (cR L),V9 (0+1) M.length (cI M),V9 (0+1) K.length (cI K),a4y 2,((3:Nat)≤1000),M.length≤1000,K.length≤1000,U0 (U9 (P3 P0 P1 P2 v0 v1 v2) 3 (cR L) L.length) (W6 L.length (cI M) M.length) (W6 L.length (cI K) K.length)=0,(!T9 0 0)=false,W9 (P3 P0 P1 P2 v0 v1 v2),W9 (cR L),W9 (cI M),W9 (cI K),V5 1 (P3 P0 P1 P2 v0 v1 v2) 3,Y5 2 L.length (cR L),V9 1 M.length (cI M),V9 1 K.length (cI K),W9 (P3 P0 P1 P2 v0 v1 v2),W9 (cR L),X8 0 2=true,V5 1 (P3 P0 P1 P2 v0 v1 v2) 3,Y5 2 L.length (cR L),V9 1 M.length (cI M),V9 1 K.length (cI K),Y5 2 L.length (cR L),1≤L.length∧L.length≤8,L.length=L.length,M.length=L.length,K.length=L.length,Q1 (cI M) (cI K) L.length,X8 0 3=true,V5 1 (P3 P0 P1 P2 v0 v1 v2) 3,Y5 2 L.length (cR L),V9 1 M.length (cI M),V9 1 K.length (cI K),Y5 2 P0.length (cR P0),1≤L.length∧L.length≤8,P0.length=L.length,M.length=L.length,K.length=L.length,Q1 (cI M) (cI K) L.length,O8 IntKind.i64 (0+1),X8 (0+1) 3=true,V5 1 (P3 P0 P1 P2 v0 v1 v2) 3,Y5 2 L.length (cR L),V9 1 M.length (cI M),V9 1 K.length (cI K),Y5 2 P1.length (cR P1),1≤L.length∧L.length≤8,P1.length=L.length,M.length=L.length,K.length=L.length,Q1 (cI M) (cI K) L.length,O8 IntKind.i64 (0+1+1),X8 (0+1+1) 3=true,V5 1 (P3 P0 P1 P2 v0 v1 v2) 3,Y5 2 L.length (cR L),V9 1 M.length (cI M),V9 1 K.length (cI K),Y5 2 P2.length (cR P2),1≤L.length∧L.length≤8,P2.length=L.length,M.length=L.length,K.length=L.length,Q1 (cI M) (cI K) L.length,O8 IntKind.i64 (0+1+1+1),X8 (0+1+1+1) 3=false,0+(0+1+1+1)*(0+1)≤([(.slu 10 0 (L.length) 0),(.slu 13 0 (L.length) 0),(.slu 16 0 (L.length) 0)]:List AV).length,0+L.length*(0+1)≤((u7 K L M P0):List AV).length,0+L.length*(0+1)≤((a0k K L M P1):List AV).length,0+L.length*(0+1)≤((a0j K L M P2):List AV).length,0+L.length*(0+1)≤((t7 K L M):List AV).length,V5 1 (P3 P0 P1 P2 v0 v1 v2) 3,Y5 2 L.length (cR L),V9 1 M.length (cI M),V9 1 K.length (cI K),L.length≤8,J7 (0+1) L.length (List.take (L.length*(0+1)) (List.drop 0 (u7 K L M P0))),J7 (0+1) L.length (List.take (L.length*(0+1)) (List.drop 0 (a0k K L M P1))),J7 (0+1) L.length (List.take (L.length*(0+1)) (List.drop 0 (a0j K L M P2))),J7 (0+1) L.length (List.take (L.length*(0+1)) (List.drop 0 (t7 K L M))),L.length=L.length,L.length=L.length,L.length=L.length,L.length=L.length,M.length=L.length,K.length=L.length,E9 (0+1+1+1),a2r (List.take (L.length*(0+1)) (List.drop 0 (u7 K L M P0))) (List.take (L.length*(0+1)) (List.drop 0 (a0k K L M P1))) (List.take (L.length*(0+1)) (List.drop 0 (a0j K L M P2))) (List.take (L.length*(0+1)) (List.drop 0 (t7 K L M))) L.length,Q1 (cI M) (cI K) L.length,(!(b2m K L M P0 P1 P2))=false,O8 IntKind.i64 (0+1),X8 (0+1) 2=true,V5 1 (P3 P0 P1 P2 v0 v1 v2) 3,Y5 2 L.length (cR L),V9 1 M.length (cI M),V9 1 K.length (cI K),Y5 2 L.length (cR L),1≤L.length∧L.length≤8,L.length=L.length,M.length=L.length,K.length=L.length,Q1 (cI M) (cI K) L.length,X8 0 3=true,V5 1 (P3 P0 P1 P2 v0 v1 v2) 3,Y5 2 L.length (cR L),V9 1 M.length (cI M),V9 1 K.length (cI K),Y5 2 P0.length (cR P0),1≤L.length∧L.length≤8,P0.length=L.length,M.length=L.length,K.length=L.length,Q1 (cI M) (cI K) L.length,O8 IntKind.i64 (0+1),X8 (0+1) 3=true,V5 1 (P3 P0 P1 P2 v0 v1 v2) 3,Y5 2 L.length (cR L),V9 1 M.length (cI M),V9 1 K.length (cI K),Y5 2 P1.length (cR P1),1≤L.length∧L.length≤8,P1.length=L.length,M.length=L.length,K.length=L.length,Q1 (cI M) (cI K) L.length,O8 IntKind.i64 (0+1+1),X8 (0+1+1) 3=true,V5 1 (P3 P0 P1 P2 v0 v1 v2) 3,Y5 2 L.length (cR L),V9 1 M.length (cI M),V9 1 K.length (cI K),Y5 2 P2.length (cR P2),1≤L.length∧L.length≤8,P2.length=L.length,M.length=L.length,K.length=L.length,Q1 (cI M) (cI K) L.length,O8 IntKind.i64 (0+1+1+1),X8 (0+1+1+1) 3=false,0+(0+1+1+1)*(0+1)≤([(.slu 24 0 (L.length) 0),(.slu 27 0 (L.length) 0),(.slu 30 0 (L.length) 0)]:List AV).length,0+L.length*(0+1)≤((a36 K L M P0):List AV).length,0+L.length*(0+1)≤((a2D K L M P1):List AV).length,0+L.length*(0+1)≤((a2l K L M P2):List AV).length,0+L.length*(0+1)≤((a0a K L M):List AV).length,V5 1 (P3 P0 P1 P2 v0 v1 v2) 3,Y5 2 L.length (cR L),V9 1 M.length (cI M),V9 1 K.length (cI K),L.length≤8,J7 (0+1) L.length (List.take (L.length*(0+1)) (List.drop 0 (a36 K L M P0))),J7 (0+1) L.length (List.take (L.length*(0+1)) (List.drop 0 (a2D K L M P1))),J7 (0+1) L.length (List.take (L.length*(0+1)) (List.drop 0 (a2l K L M P2))),J7 (0+1) L.length (List.take (L.length*(0+1)) (List.drop 0 (a0a K L M))),L.length=L.length,L.length=L.length,L.length=L.length,L.length=L.length,M.length=L.length,K.length=L.length,E9 (0+1+1+1),a2r (List.take (L.length*(0+1)) (List.drop 0 (a36 K L M P0))) (List.take (L.length*(0+1)) (List.drop 0 (a2D K L M P1))) (List.take (L.length*(0+1)) (List.drop 0 (a2l K L M P2))) (List.take (L.length*(0+1)) (List.drop 0 (a0a K L M))) L.length,Q1 (cI M) (cI K) L.length,(!(b6h K L M P0 P1 P2))=true,true=true]) [.go,.go,.go,.go,.go,.go,.go,.go,.go,.b false,.go,.go,.go,.go,.go,.go,.go,.go,.go,.b true,.go,.go,.go,.go,.go,.go,.go,.go,.go,.go,.go,.go,.go,.go,.go,.go,.go,.go,.go,.go,.b true,.go,.go,.go,.go,.go,.go,.go,.go,.go,.go,.go,.go,.go,.go,.go,.b true,.go,.go,.go,.go,.go,.go,.go,.go,.go,.go,.go,.go,.go,.go,.go,.b true,.go,.go,.go,.go,.go,.go,.go,.go,.go,.go,.go,.go,.go,.go,.go,.b false,.go,.go,.go,.go,.go,.go,.go,.go,.b false,.go,.go,.go,.b true,.go,.go,.go,.go,.go,.go,.go,.go,.go,.go,.go,.go,.go,.go,.go,.go,.go,.go,.go,.go,.b true,.go,.go,.go,.go,.go,.go,.go,.go,.go,.go,.go,.go,.go,.go,.go,.b true,.go,.go,.go,.go,.go,.go,.go,.go,.go,.go,.go,.go,.go,.go,.go,.b true,.go,.go,.go,.go,.go,.go,.go,.go,.go,.go,.go,.go,.go,.go,.go,.b false,.go,.go,.go,.go,.go,.go,.go,.go,.b true,.go,.go,.go,.go,.go,.go,.go,.go,.go,.go,.b true,.go] (by kernel_rfl) (by kernel_rfl) ⟨(by show 0+2*(0+1)≤2;decide),(by decide),⟨rfl,[(v0,P0),(v1,P1),(v2,P2)],rfl,rfl⟩,⟨rfl,L,rfl,rfl⟩,⟨rfl,M,rfl,rfl⟩,⟨rfl,K,rfl,rfl⟩,rfl,(by decide),(by omega),(by omega),((c7 hC hH1).trans hH2),rfl,(X6 [(v0,P0),(v1,P1),(v2,P2)]),(Z4 (X4 _)),(Z4 (Z2 _)),(Z4 (Z2 _)),⟨rfl,[(v0,P0),(v1,P1),(v2,P2)],rfl,rfl⟩,⟨rfl,L,rfl,rfl⟩,⟨rfl,M,rfl,rfl⟩,⟨rfl,K,rfl,rfl⟩,(X6 [(v0,P0),(v1,P1),(v2,P2)]),(Z4 (X4 _)),rfl,⟨rfl,[(v0,P0),(v1,P1),(v2,P2)],rfl,rfl⟩,⟨rfl,L,rfl,rfl⟩,⟨rfl,M,rfl,rfl⟩,⟨rfl,K,rfl,rfl⟩,⟨rfl,L,rfl,rfl⟩,hn,rfl,hM,hK,(S9 hH1 hH2),rfl,⟨rfl,[(v0,P0),(v1,P1),(v2,P2)],rfl,rfl⟩,⟨rfl,L,rfl,rfl⟩,⟨rfl,M,rfl,rfl⟩,⟨rfl,K,rfl,rfl⟩,⟨rfl,P0,rfl,rfl⟩,hn,(hrow 0 (by decide)),hM,hK,(S9 hH1 hH2),(by show -9223372036854775808≤(_:Int)∧(_:Int)≤9223372036854775807;constructor<;>decide),rfl,⟨rfl,[(v0,P0),(v1,P1),(v2,P2)],rfl,rfl⟩,⟨rfl,L,rfl,rfl⟩,⟨rfl,M,rfl,rfl⟩,⟨rfl,K,rfl,rfl⟩,⟨rfl,P1,rfl,rfl⟩,hn,(hrow 1 (by decide)),hM,hK,(S9 hH1 hH2),(by show -9223372036854775808≤(_:Int)∧(_:Int)≤9223372036854775807;constructor<;>decide),rfl,⟨rfl,[(v0,P0),(v1,P1),(v2,P2)],rfl,rfl⟩,⟨rfl,L,rfl,rfl⟩,⟨rfl,M,rfl,rfl⟩,⟨rfl,K,rfl,rfl⟩,⟨rfl,P2,rfl,rfl⟩,hn,(hrow 2 (by decide)),hM,hK,(S9 hH1 hH2),(by show -9223372036854775808≤(_:Int)∧(_:Int)≤9223372036854775807;constructor<;>decide),rfl,(by show 0+3*(0+1)≤3;decide),(by rw [Z3,Y9];omega),(by rw [Z3,Y9];omega),(by rw [Z3,Y9];omega),(by rw [Z3,Y9];omega),⟨rfl,[(v0,P0),(v1,P1),(v2,P2)],rfl,rfl⟩,⟨rfl,L,rfl,rfl⟩,⟨rfl,M,rfl,rfl⟩,⟨rfl,K,rfl,rfl⟩,hn.2,⟨rfl,_,Z0,(Y9 _ _).symm⟩,⟨rfl,_,Z0,(Y9 _ _).symm⟩,⟨rfl,_,Z0,(Y9 _ _).symm⟩,⟨rfl,_,Z0,(Y9 _ _).symm⟩,rfl,rfl,rfl,rfl,hM,hK,rfl,(by rw [Z0,Z0,Z0,Z0];exact E4 (hcur 0 (by decide)) (hcur 1 (by decide)) (hcur 2 (by decide)) hlam),(S9 hH1 hH2),(by rw [hqsuo3_1];rfl),(by show -9223372036854775808≤(_:Int)∧(_:Int)≤9223372036854775807;constructor<;>decide),rfl,⟨rfl,[(v0,P0),(v1,P1),(v2,P2)],rfl,rfl⟩,⟨rfl,L,rfl,rfl⟩,⟨rfl,M,rfl,rfl⟩,⟨rfl,K,rfl,rfl⟩,⟨rfl,L,rfl,rfl⟩,hn,rfl,hM,hK,(S9 hH1 hH2),rfl,⟨rfl,[(v0,P0),(v1,P1),(v2,P2)],rfl,rfl⟩,⟨rfl,L,rfl,rfl⟩,⟨rfl,M,rfl,rfl⟩,⟨rfl,K,rfl,rfl⟩,⟨rfl,P0,rfl,rfl⟩,hn,(hrow 0 (by decide)),hM,hK,(S9 hH1 hH2),(by show -9223372036854775808≤(_:Int)∧(_:Int)≤9223372036854775807;constructor<;>decide),rfl,⟨rfl,[(v0,P0),(v1,P1),(v2,P2)],rfl,rfl⟩,⟨rfl,L,rfl,rfl⟩,⟨rfl,M,rfl,rfl⟩,⟨rfl,K,rfl,rfl⟩,⟨rfl,P1,rfl,rfl⟩,hn,(hrow 1 (by decide)),hM,hK,(S9 hH1 hH2),(by show -9223372036854775808≤(_:Int)∧(_:Int)≤9223372036854775807;constructor<;>decide),rfl,⟨rfl,[(v0,P0),(v1,P1),(v2,P2)],rfl,rfl⟩,⟨rfl,L,rfl,rfl⟩,⟨rfl,M,rfl,rfl⟩,⟨rfl,K,rfl,rfl⟩,⟨rfl,P2,rfl,rfl⟩,hn,(hrow 2 (by decide)),hM,hK,(S9 hH1 hH2),(by show -9223372036854775808≤(_:Int)∧(_:Int)≤9223372036854775807;constructor<;>decide),rfl,(by show 0+3*(0+1)≤3;decide),(by rw [Z3,Y9];omega),(by rw [Z3,Y9];omega),(by rw [Z3,Y9];omega),(by rw [Z3,Y9];omega),⟨rfl,[(v0,P0),(v1,P1),(v2,P2)],rfl,rfl⟩,⟨rfl,L,rfl,rfl⟩,⟨rfl,M,rfl,rfl⟩,⟨rfl,K,rfl,rfl⟩,hn.2,⟨rfl,_,Z0,(Y9 _ _).symm⟩,⟨rfl,_,Z0,(Y9 _ _).symm⟩,⟨rfl,_,Z0,(Y9 _ _).symm⟩,⟨rfl,_,Z0,(Y9 _ _).symm⟩,rfl,rfl,rfl,rfl,hM,hK,rfl,(by rw [Z0,Z0,Z0,Z0];exact E4 (hcur 0 (by decide)) (hcur 1 (by decide)) (hcur 2 (by decide)) hlam),(S9 hH1 hH2),(by rw [hqsuo3_2];rfl),rfl,trivial⟩ rfl) (Hd.en_eq (r:=(.int .i64 19)) (by (rw [a90 (a9e hqsuo3_2)])) (Hd.en_ret (v:=(.v (.int .i64 (.ofNat 19)))) (by kernel_rfl) rfl))
 ·exact Z8 W1 (Z7 Try.checked.mixed (Y3 x5 (Y3 D7 (Y3 y5 w7))) 200 (T':=⟨[(6,(.v (.int .i64 (.ofNat 19))))],[],21,[]⟩) (e:=.ret) (ps:=[0+2*(0+1)≤((a7N K M z zk):List AV).length,((2:Nat)≤2),V5 1 (P3 P0 P1 P2 v0 v1 v2) 3,Y5 2 L.length (cR L),V9 (0+1) M.length (cI M),V9 (0+1) K.length (cI K),a4y 2,((3:Nat)≤1000),M.length≤1000,K.length≤1000,U0 (U9 (P3 P0 P1 P2 v0 v1 v2) 3 (cR L) L.length) (W6 L.length (cI M) M.length) (W6 L.length (cI K) K.length)=0,(!T9 0 0)=false,W9 (P3 P0 P1 P2 v0 v1 v2),W9 (cR L),W9 (cI M),W9 (cI K),V5 1 (P3 P0 P1 P2 v0 v1 v2) 3,Y5 2 L.length (cR L),V9 1 M.length (cI M),V9 1 K.length (cI K),W9 (P3 P0 P1 P2 v0 v1 v2),W9 (cR L),X8 0 2=true,V5 1 (P3 P0 P1 P2 v0 v1 v2) 3,Y5 2 L.length (cR L),V9 1 M.length (cI M),V9 1 K.length (cI K),Y5 2 L.length (cR L),1≤L.length∧L.length≤8,L.length=L.length,M.length=L.length,K.length=L.length,Q1 (cI M) (cI K) L.length,X8 0 3=true,V5 1 (P3 P0 P1 P2 v0 v1 v2) 3,Y5 2 L.length (cR L),V9 1 M.length (cI M),V9 1 K.length (cI K),Y5 2 P0.length (cR P0),1≤L.length∧L.length≤8,P0.length=L.length,M.length=L.length,K.length=L.length,Q1 (cI M) (cI K) L.length,O8 IntKind.i64 (0+1),X8 (0+1) 3=true,V5 1 (P3 P0 P1 P2 v0 v1 v2) 3,Y5 2 L.length (cR L),V9 1 M.length (cI M),V9 1 K.length (cI K),Y5 2 P1.length (cR P1),1≤L.length∧L.length≤8,P1.length=L.length,M.length=L.length,K.length=L.length,Q1 (cI M) (cI K) L.length,O8 IntKind.i64 (0+1+1),X8 (0+1+1) 3=true,V5 1 (P3 P0 P1 P2 v0 v1 v2) 3,Y5 2 L.length (cR L),V9 1 M.length (cI M),V9 1 K.length (cI K),Y5 2 P2.length (cR P2),1≤L.length∧L.length≤8,P2.length=L.length,M.length=L.length,K.length=L.length,Q1 (cI M) (cI K) L.length,O8 IntKind.i64 (0+1+1+1),X8 (0+1+1+1) 3=false,0+(0+1+1+1)*(0+1)≤([(.slu 10 0 (L.length) 0),(.slu 13 0 (L.length) 0),(.slu 16 0 (L.length) 0)]:List AV).length,0+L.length*(0+1)≤((u7 K L M P0):List AV).length,0+L.length*(0+1)≤((a0k K L M P1):List AV).length,0+L.length*(0+1)≤((a0j K L M P2):List AV).length,0+L.length*(0+1)≤((t7 K L M):List AV).length,V5 1 (P3 P0 P1 P2 v0 v1 v2) 3,Y5 2 L.length (cR L),V9 1 M.length (cI M),V9 1 K.length (cI K),L.length≤8,J7 (0+1) L.length (List.take (L.length*(0+1)) (List.drop 0 (u7 K L M P0))),J7 (0+1) L.length (List.take (L.length*(0+1)) (List.drop 0 (a0k K L M P1))),J7 (0+1) L.length (List.take (L.length*(0+1)) (List.drop 0 (a0j K L M P2))),J7 (0+1) L.length (List.take (L.length*(0+1)) (List.drop 0 (t7 K L M))),L.length=L.length,L.length=L.length,L.length=L.length,L.length=L.length,M.length=L.length,K.length=L.length,E9 (0+1+1+1),a2r (List.take (L.length*(0+1)) (List.drop 0 (u7 K L M P0))) (List.take (L.length*(0+1)) (List.drop 0 (a0k K L M P1))) (List.take (L.length*(0+1)) (List.drop 0 (a0j K L M P2))) (List.take (L.length*(0+1)) (List.drop 0 (t7 K L M))) L.length,Q1 (cI M) (cI K) L.length,(!(b2m K L M P0 P1 P2))=true,true=true]) [.go,.go,.go,.go,.go,.go,.go,.go,.go,.b false,.go,.go,.go,.go,.go,.go,.go,.go,.go,.b true,.go,.go,.go,.go,.go,.go,.go,.go,.go,.go,.go,.go,.go,.go,.go,.go,.go,.go,.go,.go,.b true,.go,.go,.go,.go,.go,.go,.go,.go,.go,.go,.go,.go,.go,.go,.go,.b true,.go,.go,.go,.go,.go,.go,.go,.go,.go,.go,.go,.go,.go,.go,.go,.b true,.go,.go,.go,.go,.go,.go,.go,.go,.go,.go,.go,.go,.go,.go,.go,.b false,.go,.go,.go,.go,.go,.go,.go,.go,.b true,.go,.go,.go,.go,.go,.go,.go,.go,.go,.go,.b true,.go] (by kernel_rfl) (by kernel_rfl) ⟨(by show 0+2*(0+1)≤2;decide),(by decide),⟨rfl,[(v0,P0),(v1,P1),(v2,P2)],rfl,rfl⟩,⟨rfl,L,rfl,rfl⟩,⟨rfl,M,rfl,rfl⟩,⟨rfl,K,rfl,rfl⟩,rfl,(by decide),(by omega),(by omega),((c7 hC hH1).trans hH2),rfl,(X6 [(v0,P0),(v1,P1),(v2,P2)]),(Z4 (X4 _)),(Z4 (Z2 _)),(Z4 (Z2 _)),⟨rfl,[(v0,P0),(v1,P1),(v2,P2)],rfl,rfl⟩,⟨rfl,L,rfl,rfl⟩,⟨rfl,M,rfl,rfl⟩,⟨rfl,K,rfl,rfl⟩,(X6 [(v0,P0),(v1,P1),(v2,P2)]),(Z4 (X4 _)),rfl,⟨rfl,[(v0,P0),(v1,P1),(v2,P2)],rfl,rfl⟩,⟨rfl,L,rfl,rfl⟩,⟨rfl,M,rfl,rfl⟩,⟨rfl,K,rfl,rfl⟩,⟨rfl,L,rfl,rfl⟩,hn,rfl,hM,hK,(S9 hH1 hH2),rfl,⟨rfl,[(v0,P0),(v1,P1),(v2,P2)],rfl,rfl⟩,⟨rfl,L,rfl,rfl⟩,⟨rfl,M,rfl,rfl⟩,⟨rfl,K,rfl,rfl⟩,⟨rfl,P0,rfl,rfl⟩,hn,(hrow 0 (by decide)),hM,hK,(S9 hH1 hH2),(by show -9223372036854775808≤(_:Int)∧(_:Int)≤9223372036854775807;constructor<;>decide),rfl,⟨rfl,[(v0,P0),(v1,P1),(v2,P2)],rfl,rfl⟩,⟨rfl,L,rfl,rfl⟩,⟨rfl,M,rfl,rfl⟩,⟨rfl,K,rfl,rfl⟩,⟨rfl,P1,rfl,rfl⟩,hn,(hrow 1 (by decide)),hM,hK,(S9 hH1 hH2),(by show -9223372036854775808≤(_:Int)∧(_:Int)≤9223372036854775807;constructor<;>decide),rfl,⟨rfl,[(v0,P0),(v1,P1),(v2,P2)],rfl,rfl⟩,⟨rfl,L,rfl,rfl⟩,⟨rfl,M,rfl,rfl⟩,⟨rfl,K,rfl,rfl⟩,⟨rfl,P2,rfl,rfl⟩,hn,(hrow 2 (by decide)),hM,hK,(S9 hH1 hH2),(by show -9223372036854775808≤(_:Int)∧(_:Int)≤9223372036854775807;constructor<;>decide),rfl,(by show 0+3*(0+1)≤3;decide),(by rw [Z3,Y9];omega),(by rw [Z3,Y9];omega),(by rw [Z3,Y9];omega),(by rw [Z3,Y9];omega),⟨rfl,[(v0,P0),(v1,P1),(v2,P2)],rfl,rfl⟩,⟨rfl,L,rfl,rfl⟩,⟨rfl,M,rfl,rfl⟩,⟨rfl,K,rfl,rfl⟩,hn.2,⟨rfl,_,Z0,(Y9 _ _).symm⟩,⟨rfl,_,Z0,(Y9 _ _).symm⟩,⟨rfl,_,Z0,(Y9 _ _).symm⟩,⟨rfl,_,Z0,(Y9 _ _).symm⟩,rfl,rfl,rfl,rfl,hM,hK,rfl,(by rw [Z0,Z0,Z0,Z0];exact E4 (hcur 0 (by decide)) (hcur 1 (by decide)) (hcur 2 (by decide)) hlam),(S9 hH1 hH2),(by rw [hqsuo3_1];rfl),rfl,trivial⟩ rfl) (Hd.en_eq (r:=(.int .i64 19)) (by (rw [a9G (a9e hqsuo3_1)])) (Hd.en_ret (v:=(.v (.int .i64 (.ofNat 19)))) (by kernel_rfl) rfl))
theorem c2t(y v0:Value)(P0:List (Int×Int))(v1:Value)(P1:List (Int×Int))(v2:Value)(P2:List (Int×Int))(yl:Value)(L:List (Int×Int))(z:Value)(M:List Int)(zk:Value)(K:List Int)(hC:U9 (b2A P0 P1 P2 v0 v1 v2) 3 (cR L) L.length=0)(hH1:W6 L.length (cI M) M.length=0)(hH2:W6 L.length (cI K) K.length=0):GivesA Try.prog 27 [(.agg [.xl y 3 1 (b2A P0 P1 P2 v0 v1 v2),.xl yl L.length 2 (cR L)]),(.xl z M.length 1 (cI M)),(.xl zk K.length 1 (cI K))] (.int .i64 (suN (cR P0) (cR P1) (cR P2) (cR L) (Y7 (cI M) (cI K) L.length) L.length)) :=
 W0 27 Try.func27 (by kernel_rfl) (by kernel_rfl) (by kernel_rfl) (fun w=>W2 (by kernel_rfl) (by kernel_rfl) (by kernel_rfl) (by kernel_rfl) (c4Y y v0 P0 v1 P1 v2 P2 yl L z M zk K hC hH1 hH2 w []))
end
end Go.Proofs.Ytegmogadbnfbgaa
set_option maxHeartbeats 4000000
set_option linter.all false
/- Mathematics of two chips: spans are the numbers of ends, ends are true. -/
namespace Go.Proofs.Ytegmogadbnfbgaa
open Go Ev
noncomputable section
section
variable (K M : List Int) (i k : Nat) (z zk : Value)
@[reducible] def G8:Nat×Ev.AV:=(0,(.xl (z) (M.length) 1 (cI M)))
@[reducible] def G9:Nat×Ev.AV:=(1,(.xl (zk) (K.length) 1 (cI K)))
@[reducible] def a0y:Nat×Ev.AV:=(5,(.v (Value.slice none 0 0)))
@[reducible] def a8T:Nat×Ev.AV:=(6,(.v (.int .i64 (((i+1):Nat):Int))))
@[reducible] def b8J:Ev.Lit:=⟨[(G8 M z),(G9 K zk),a0y,(a8T i)],[],0,[]⟩
@[reducible] def b19:=(cI (tI (dfF (cI M) (cI K)) (i+1)))
@[reducible] def b5p:Nat×Ev.AB:=(0,(.row (b19 K M i) 2 1))
@[reducible] def b8Z:Ev.Lit:=⟨[(G8 M z),(G9 K zk),(5,(.slu 0 0 (k+1) 0)),(a8T i)],[],1,[(b5p K M i)]⟩
@[reducible] def b85:=(Ev.fam0 ((b8J K M i z zk):Ev.Lit) (fun k=>((b8Z K M i k z zk):Ev.Lit)) (i+1))
@[reducible] def b8I:=(Ev.fam0 ((b8J K M i z zk):Ev.Lit) (fun k=>((b8Z K M i k z zk):Ev.Lit)))
@[reducible] def b8y:Ev.Lit:=⟨[(G8 M z),(G9 K zk),(5,(.slu 0 0 (k+1+1) 0)),(a8T i)],[],1,[(b5p K M i)]⟩
@[reducible] def b8O:Ev.Lit:=⟨[(G8 M z),(G9 K zk),(5,(.slu 0 0 (0+1) 0)),(a8T i)],[],1,[(b5p K M i)]⟩
@[reducible] def b4I:Ev.Lit:=⟨[(G8 M z),(G9 K zk),a0y,(6,(.v (.int .i64 (.ofNat 0))))],[],0,[]⟩
@[reducible] def b4p:Ev.Lit:=⟨[(G8 M z),(G9 K zk),a0y],[],0,[]⟩
@[reducible] def o4:Ev.AB:=(.row (cI (tI (dfF (cI M) (cI K)) M.length)) 2 1)
end
theorem b4Q{M K:List Int}{b:Nat}{v:Int}(h:Z9 (cI M) (b*1) - Z9 (cI K) (b*1)=v):cI (tI (dfF (cI M) (cI K)) b)++[.v (.int .i64 v)]=cI (tI (dfF (cI M) (cI K)) (b+1)):=by rw [← h];exact b4E _ _
theorem b9s{M K:List Int}{b:Nat}{v:Int}(hb:b=0)(h:Z9 (cI M) (b*1) - Z9 (cI K) (b*1)=v):[AV.v (.int .i64 v)]=cI (tI (dfF (cI M) (cI K)) (b+1)):=by
 subst hb
 rw [← h,a1u];rfl
theorem c58{l0 h0 l1 h1 s:Int}(a:0≤l0∧l0≤h0)(b:0≤l1∧l1≤h1)(hs:s≤0):h0*h1*s≤l0*l1*s:=by
 have h2:l0*l1≤h0*h1:=Int.mul_le_mul a.2 b.2 b.1 (by omega)
 exact Int.mul_le_mul_of_nonpos_right h2 hs
theorem b7L{cP cL cM:List AV}{b:Nat}(h0:Y2 100 cP b)(h1:Y2 100 cL b) :
  W8 cP cM false b*W8 cL cM false b*Z9 cM (b*1)=(if Z9 cP (b*2+1)*Z9 cL (b*2+1)*Z9 cM (b*1)<Z9 cP (b*2+0)*Z9 cL (b*2+0)*Z9 cM (b*1) then Z9 cP (b*2+1)*Z9 cL (b*2+1)*Z9 cM (b*1) else Z9 cP (b*2+0)*Z9 cL (b*2+0)*Z9 cM (b*1)) ∧
  W8 cP cM true b*W8 cL cM true b*Z9 cM (b*1)=(if Z9 cP (b*2+1)*Z9 cL (b*2+1)*Z9 cM (b*1) > Z9 cP (b*2+0)*Z9 cL (b*2+0)*Z9 cM (b*1) then Z9 cP (b*2+1)*Z9 cL (b*2+1)*Z9 cM (b*1) else Z9 cP (b*2+0)*Z9 cL (b*2+0)*Z9 cM (b*1)):=by
 unfold Y2 at h0 h1
 cases e:X8 0 (Z9 cM (b*1)) with
 |true =>
  have hle:=b8A (s:=Z9 cM (b*1)) (l0:=Z9 cP (b*2+0)) (h0:=Z9 cP (b*2+1)) (l1:=Z9 cL (b*2+0)) (h1:=Z9 cL (b*2+1)) (by omega) (by omega) (by have:=Y1 e;omega)
  have e1:W8 cP cM false b=Z9 cP (b*2+0):=a6j (by rw [e];decide)
  have e2:W8 cL cM false b=Z9 cL (b*2+0):=a6j (by rw [e];decide)
  have e3:W8 cP cM true b=Z9 cP (b*2+1):=a34 (by rw [e];decide)
  have e4:W8 cL cM true b=Z9 cL (b*2+1):=a34 (by rw [e];decide)
  rw [e1,e2,e3,e4]
  constructor
  ·rw [if_neg (by omega)]
  ·split<;>omega
 |false =>
  have hle:=c58 (s:=Z9 cM (b*1)) (l0:=Z9 cP (b*2+0)) (h0:=Z9 cP (b*2+1)) (l1:=Z9 cL (b*2+0)) (h1:=Z9 cL (b*2+1)) (by omega) (by omega) (by have:=Z6 e;omega)
  have e1:W8 cP cM false b=Z9 cP (b*2+1):=a34 (by rw [e];decide)
  have e2:W8 cL cM false b=Z9 cL (b*2+1):=a34 (by rw [e];decide)
  have e3:W8 cP cM true b=Z9 cP (b*2+0):=a6j (by rw [e];decide)
  have e4:W8 cL cM true b=Z9 cL (b*2+0):=a6j (by rw [e];decide)
  rw [e1,e2,e3,e4]
  constructor
  ·split<;>omega
  ·rw [if_neg (by omega)]
theorem a12{cP cL cM:List AV}{n:Nat}(hP:∀ b,b<n→Y2 100 cP b)(hL:∀ b,b<n→Y2 100 cL b)(g:Bool):T6 (fun b=>Z9 (cI (tI (W8 cP cM g) n)) (b*1)*Z9 (cI (tI (W8 cL cM g) n)) (b*1)*Z9 cM (b*1)) n=T6 (fun b=>cond g (if Z9 cP (b*2+1)*Z9 cL (b*2+1)*Z9 cM (b*1) > Z9 cP (b*2+0)*Z9 cL (b*2+0)*Z9 cM (b*1) then Z9 cP (b*2+1)*Z9 cL (b*2+1)*Z9 cM (b*1) else Z9 cP (b*2+0)*Z9 cL (b*2+0)*Z9 cM (b*1)) (if Z9 cP (b*2+1)*Z9 cL (b*2+1)*Z9 cM (b*1)<Z9 cP (b*2+0)*Z9 cL (b*2+0)*Z9 cM (b*1) then Z9 cP (b*2+1)*Z9 cL (b*2+1)*Z9 cM (b*1) else Z9 cP (b*2+0)*Z9 cL (b*2+0)*Z9 cM (b*1))) n:=a80 (fun b hb=>by
 have h:=b7L (cM:=cM) (hP b hb) (hL b hb)
 simp only [Nat.mul_one] at h ⊢
 rw [u6 hb,u6 hb]
 cases g with
 |true=>exact h.2
 |false=>exact h.1)
theorem c0A{v0 v1 v2:Value}{P0 P1 P2:List (Int×Int)}{cL cM:List AV}{n:Nat}(hL:∀ b,b<n→Y2 100 cL b)(hc:∀ i,i<3→∀ b,b<n→Y2 100 (X7 (Z1 [(v0,P0),(v1,P1),(v2,P2)]) (i*1)) b):∀ k,k<3→T6 (a9 (Z1 [(v0,P0),(v1,P1),(v2,P2)]) cL cM k) n=R4 (cR P0) (cR P1) (cR P2) cL cM n false k∧T6 (hiP (Z1 [(v0,P0),(v1,P1),(v2,P2)]) cL cM k) n=R4 (cR P0) (cR P1) (cR P2) cL cM n true k:=fun k hk=>by
 match k,hk with
 |0,_=>exact ⟨(a12 (hc 0 (by decide)) hL false).symm,(a12 (hc 0 (by decide)) hL true).symm⟩
 |1,_=>exact ⟨(a12 (hc 1 (by decide)) hL false).symm,(a12 (hc 1 (by decide)) hL true).symm⟩
 |2,_=>exact ⟨(a12 (hc 2 (by decide)) hL false).symm,(a12 (hc 2 (by decide)) hL true).symm⟩
theorem a4k{c d:List AV}{g:Bool}{n b:Nat}(hb:b<n)(h:Y2 100 c b):V7 c (cI (tI (W8 c d g) n)) b:=by
 unfold Y2 at h
 unfold V7
 rw [Nat.mul_one,u6 hb]
 unfold W8
 split<;>omega
theorem c1t{M K:List Int}{n:Nat}(h1:W6 n (cI M) M.length=0)(h2:W6 n (cI K) K.length=0):∀ b,b<n → -1000≤Z9 (Y7 (cI M) (cI K) n) (b*1)∧Z9 (Y7 (cI M) (cI K) n) (b*1)≤1000:=fun b hb=>by
 rw [a58 hb];exact S9 h1 h2 b hb
theorem b32{p q:Nat→Int}:∀ {n:Nat},T6 p n - T6 q n=T6 (fun b=>p b - q b) n
 |0=>rfl
 |n+1=>by simp only [T6];rw [← b32 (n:=n)];omega
theorem b1U{c0 c1 c2 cY c d:List AV}{n k:Nat}:T6 (J5 c0 c1 c2 cY c k) n - T6 (J5 c0 c1 c2 cY d k) n=T6 (J5 c0 c1 c2 cY (Y7 c d n) k) n:=by
 rw [b32]
 refine a80 (fun b hb=>?_)
 unfold J5
 rw [a58 hb,Int.mul_sub]
noncomputable def c5h:Code:=R8 Try.f65
noncomputable def c3q:Code:=N4 c5h
noncomputable def c0B:Code:=N4 c3q
noncomputable def b0w:Code:=N4 c0B
noncomputable def b8W:Code:=(m9 c0B)
noncomputable def b6O:Code:=N4 b8W
noncomputable def b5h:Code:=L2 b6O
theorem c5x(z:Value)(M:List Int)(zk:Value)(K:List Int)(hn:1≤M.length∧M.length≤8)(hk:K.length=M.length)(hm1:∀ b,b<M.length → -1000≤Z9 (cI M) (b*1) - Z9 (cI K) (b*1)∧Z9 (cI M) (b*1) - Z9 (cI K) (b*1)≤1000)(i:Nat)(hi1:i≤M.length)(hi2:True)(hc0:i=0)(v:BaseW)(eb:Nat→Option Nat)(ec:Nat→Nat)(hs:List Nat):Y4 Try.prog 26 b5h (⟨[(G8 M z),(G9 K zk),a0y,(6,(.v (.int .i64 i)))],[],0,[]⟩) (BaseW.H (bw v 0 eb ec) hs) (Hd.StepC Try.prog 26 0 (fun i:{i:Nat // i≤M.length∧True}=>(Ev.fam0 (⟨[(G8 M z),(G9 K zk),a0y,(6,(.v (.int .i64 i.1)))],[],0,[]⟩:Ev.Lit) (fun k=>(⟨[(G8 M z),(G9 K zk),(5,(.slu 0 0 (k+1) 0)),(6,(.v (.int .i64 i.1)))],[],1,[(0,(.row (cI (tI (dfF (cI M) (cI K)) i.1)) 2 1))]⟩:Ev.Lit)) i.1)) (fun i:{i:Nat // i≤M.length∧True}=>M.length - i.1) b0w (bw v 0 eb ec) (R7 Try.prog Try.f65 26 ((.slu 0 0 M.length 0)) [(o4 K M)] (bw v 0 eb ec)) (⟨i,hi1,hi2⟩:{i:Nat // i≤M.length∧True})):=by
 have hcl_M:=Z3 M
 have hcl_K:=Z3 K
 rcases Bool.eq_false_or_eq_true (X8 i M.length) with hqls19_1|hqls19_1
 ·have ghqls19_1:=Y1 hqls19_1
  exact Z8 V0 (L6 Try.checked.mixed (Z5) 200 (T':=(b8O K M i z zk)) (e:=.normal) (m:=2) (ps:=[X8 i M.length=true,i<M.length,W7 Try.prog (cI M) (i*1) 2=some (AV.v (Value.int IntKind.i64 (Z9 (cI M) (i*1)))),i<K.length,W7 Try.prog (cI K) (i*1) 2=some (AV.v (Value.int IntKind.i64 (Z9 (cI K) (i*1)))),O8 IntKind.i64 (Z9 (cI M) (i*1) - Z9 (cI K) (i*1)),O8 IntKind.i64 (((i:Nat):Int)+1)]) [.go,.go,.go,.go,.b true,.go,.go,.go,.sym,.sym,.go,.go,.sym,.sym,.go,.go,.go,.go,.go,.go,.go] [1] [(.xl (z) (M.length) 1 (cI M)),(.xl (zk) (K.length) 1 (cI K)),(.slu 1 0 1 0),(.v (.int .i64 (((i:Nat):Int)+1)))] [(.row [(.v (.int .i64 (Z9 (cI M) (i*1) - Z9 (cI K) (i*1))))] 2 1)] (by kernel_rfl) (by kernel_rfl) ⟨hqls19_1,(by omega),(by rw [Nat.mul_one];exact U4 (show _<M.length by omega) 2 (Try.underlying2) rfl),(by omega),(by rw [Nat.mul_one];exact U4 (show _<K.length by omega) 2 (Try.underlying2) rfl),(by have h9:=hm1 i (by omega);show -9223372036854775808≤_∧_≤9223372036854775807;constructor<;>omega),(by show -9223372036854775808≤_∧_≤9223372036854775807;constructor<;>omega),trivial⟩ rfl rfl (by decide) rfl ⟨C4 (U6 (Z2 M)),C4 (U6 (Z2 K)),I1 rfl,a38 (show ((((i:Nat):Int)+1):Int)=(((i+1):Nat):Int) from by omega),trivial⟩ ⟨⟨by show 0<1;decide,M4 (a3R (show ((b19 K M i):List AV)=[(.v (.int .i64 (Z9 (cI M) (i*1) - Z9 (cI K) (i*1))))] from by (exact (b9s (by have h9:=Y9 (dfF (cI M) (cI K)) i;omega) rfl).symm)) (Z2 _))⟩,trivial⟩) (Hd.en_on ⟨i+1,by omega,trivial⟩ (by show M.length - (i+1)<M.length - i;omega) (show ((b8O K M i z zk):Ev.Lit)=(b85 K M i z zk) from congrArg (b8I K M i z zk) (show (0+1:Nat)=(i+1) from (show (i+1)=0+1 from by omega).symm)))
 ·have ghqls19_1:=Z6 hqls19_1
  exfalso
  have h9:=Y9 (dfF (cI M) (cI K)) i
  omega
theorem c4x(z:Value)(M:List Int)(zk:Value)(K:List Int)(hn:1≤M.length∧M.length≤8)(hk:K.length=M.length)(hm1:∀ b,b<M.length → -1000≤Z9 (cI M) (b*1) - Z9 (cI K) (b*1)∧Z9 (cI M) (b*1) - Z9 (cI K) (b*1)≤1000)(i0:Nat)(h0a:i0≤M.length)(h0b:True)(k:Nat)(hc0:i0=k+1)(hqls21_1:(X8 i0 M.length)=false)(v:BaseW)(eb:Nat→Option Nat)(ec:Nat→Nat)(hs:List Nat):Y4 Try.prog 26 b0w (⟨[(5,(.slu 0 0 (k+1) 0))],[],1,[(0,(.row (cI (tI (dfF (cI M) (cI K)) i0)) 2 1))]⟩) (BaseW.H (bw v 0 eb ec) hs) (R7 Try.prog Try.f65 26 ((.slu 0 0 M.length 0)) [(o4 K M)] (bw v 0 eb ec)):=by
 have hcl_M:=Z3 M
 have hcl_K:=Z3 K
 have ghqls21_1:=Z6 hqls21_1
 exact Z8 W1 (Z7 Try.checked.mixed (Z5) 200 (T':=⟨[(4,(.slu 0 0 (k+1) 0))],[],1,[(0,(.row (cI (tI (dfF (cI M) (cI K)) i0)) 2 1))]⟩) (e:=.ret) (ps:=[]) [.go,.go] (by kernel_rfl) (by kernel_rfl) trivial rfl) (E3 (r:=(.slu 0 0 (k+1) 0)) (ys:=[(.row (cI (tI (dfF (cI M) (cI K)) i0)) 2 1)]) (by (rw [show k+1=M.length from by omega])) (by (rw [show i0=M.length from by omega])) (J4 (by kernel_rfl) (by kernel_rfl) rfl (.inr rfl)))
theorem c4J(z:Value)(M:List Int)(zk:Value)(K:List Int)(hn:1≤M.length∧M.length≤8)(hk:K.length=M.length)(hm1:∀ b,b<M.length → -1000≤Z9 (cI M) (b*1) - Z9 (cI K) (b*1)∧Z9 (cI M) (b*1) - Z9 (cI K) (b*1)≤1000)(i k:Nat)(hi1:i≤M.length)(hi2:True)(hc0:i=k+1)(v:BaseW)(eb:Nat→Option Nat)(ec:Nat→Nat)(hs:List Nat):Y4 Try.prog 26 b5h (⟨[(G8 M z),(G9 K zk),(5,(.slu 0 0 (k+1) 0)),(6,(.v (.int .i64 i)))],[],1,[(0,(.row (cI (tI (dfF (cI M) (cI K)) i)) 2 1))]⟩) (BaseW.H (bw v 0 eb ec) hs) (Hd.StepC Try.prog 26 0 (fun i:{i:Nat // i≤M.length∧True}=>(Ev.fam0 (⟨[(G8 M z),(G9 K zk),a0y,(6,(.v (.int .i64 i.1)))],[],0,[]⟩:Ev.Lit) (fun k=>(⟨[(G8 M z),(G9 K zk),(5,(.slu 0 0 (k+1) 0)),(6,(.v (.int .i64 i.1)))],[],1,[(0,(.row (cI (tI (dfF (cI M) (cI K)) i.1)) 2 1))]⟩:Ev.Lit)) i.1)) (fun i:{i:Nat // i≤M.length∧True}=>M.length - i.1) b0w (bw v 0 eb ec) (R7 Try.prog Try.f65 26 ((.slu 0 0 M.length 0)) [(o4 K M)] (bw v 0 eb ec)) (⟨i,hi1,hi2⟩:{i:Nat // i≤M.length∧True})):=by
 have hcl_M:=Z3 M
 have hcl_K:=Z3 K
 rcases Bool.eq_false_or_eq_true (X8 i M.length) with hqls21_1|hqls21_1
 ·have ghqls21_1:=Y1 hqls21_1
  exact Z8 V0 (L6 Try.checked.mixed (Z5) 200 (T':=(b8y K M i k z zk)) (e:=.normal) (m:=3) (ps:=[X8 i M.length=true,i<M.length,W7 Try.prog (cI M) (i*1) 2=some (AV.v (Value.int IntKind.i64 (Z9 (cI M) (i*1)))),i<K.length,W7 Try.prog (cI K) (i*1) 2=some (AV.v (Value.int IntKind.i64 (Z9 (cI K) (i*1)))),O8 IntKind.i64 (Z9 (cI M) (i*1) - Z9 (cI K) (i*1)),((cI (tI (dfF (cI M) (cI K)) i)):List AV).length=(k+1)*1,k+1+1≤1000000,O8 IntKind.i64 (((i:Nat):Int)+1)]) [.go,.go,.go,.go,.b true,.go,.go,.go,.sym,.sym,.go,.go,.sym,.sym,.go,.go,.sym,.go,.go,.go,.go] [2] [(.xl (z) (M.length) 1 (cI M)),(.xl (zk) (K.length) 1 (cI K)),(.slu 2 0 (k+1+1) 0),(.v (.int .i64 (((i:Nat):Int)+1)))] [(.row ((cI (tI (dfF (cI M) (cI K)) i))++[(.v (.int .i64 (Z9 (cI M) (i*1) - Z9 (cI K) (i*1))))]) 2 1)] (by kernel_rfl) (by kernel_rfl) ⟨hqls21_1,(by omega),(by rw [Nat.mul_one];exact U4 (show _<M.length by omega) 2 (Try.underlying2) rfl),(by omega),(by rw [Nat.mul_one];exact U4 (show _<K.length by omega) 2 (Try.underlying2) rfl),(by have h9:=hm1 i (by omega);show -9223372036854775808≤_∧_≤9223372036854775807;constructor<;>omega),(by have h9:=Y9 (dfF (cI M) (cI K)) i;show (cI _).length=_;rw [Z3,Y9];omega),(by have h9:=Y9 (dfF (cI M) (cI K)) i;have h8:=Y9 (dfF (cI M) (cI K)) (i+1);omega),(by show -9223372036854775808≤_∧_≤9223372036854775807;constructor<;>omega),trivial⟩ rfl rfl (by decide) rfl ⟨C4 (U6 (Z2 M)),C4 (U6 (Z2 K)),I1 rfl,a38 (show ((((i:Nat):Int)+1):Int)=(((i+1):Nat):Int) from by omega),trivial⟩ ⟨⟨by show 0<1;decide,M4 (a3R (show ((b19 K M i):List AV)=((cI (tI (dfF (cI M) (cI K)) i))++[(.v (.int .i64 (Z9 (cI M) (i*1) - Z9 (cI K) (i*1))))]) from by first|exact (b4Q rfl).symm|(rw [List.take_of_length_le (by have h9:=Y9 (dfF (cI M) (cI K)) i;rw [List.length_drop,Z3,Y9];omega),List.drop_zero];exact (b4Q rfl).symm)) (Z2 _))⟩,trivial⟩) (Hd.en_on ⟨i+1,by omega,trivial⟩ (by show M.length - (i+1)<M.length - i;omega) (show ((b8y K M i k z zk):Ev.Lit)=(b85 K M i z zk) from congrArg (b8I K M i z zk) (show (k+1+1:Nat)=(i+1) from (show (i+1)=k+1+1 from by omega).symm)))
 ·have ghqls21_1:=Z6 hqls21_1
  exact Z8 E7 (Z7 Try.checked.mixed (Z5) 200 (T':=⟨[(5,(.slu 0 0 (k+1) 0))],[],1,[(0,(.row (cI (tI (dfF (cI M) (cI K)) i)) 2 1))]⟩) (e:=.exit 0) (ps:=[X8 i M.length=false]) [.go,.go,.go,.go,.b false] (by kernel_rfl) (by kernel_rfl) ⟨hqls21_1,trivial⟩ rfl) (Hd.en_sx (c4x z M zk K hn hk hm1 i hi1 hi2 k hc0 hqls21_1 v eb ec hs))
theorem c4z(z:Value)(M:List Int)(zk:Value)(K:List Int)(hn:1≤M.length∧M.length≤8)(hk:K.length=M.length)(hm1:∀ b,b<M.length → -1000≤Z9 (cI M) (b*1) - Z9 (cI K) (b*1)∧Z9 (cI M) (b*1) - Z9 (cI K) (b*1)≤1000)(v:BaseW)(eb:Nat→Option Nat)(ec:Nat→Nat)(hs:List Nat):Y4 Try.prog 26 b6O ((b4I K M z zk)) (BaseW.H (bw v 0 eb ec) hs) (Hd.AfterN Try.prog 26 b0w (bw v 0 eb ec) (R7 Try.prog Try.f65 26 ((.slu 0 0 M.length 0)) [(o4 K M)] (bw v 0 eb ec))):=by
 have hcl_M:=Z3 M
 have hcl_K:=Z3 K
 exact Hd.goes_loopA (id:=0) (by kernel_rfl) (by kernel_rfl) (fun i:{i:Nat // i≤M.length∧True}=>(Ev.fam0 (⟨[(G8 M z),(G9 K zk),a0y,(6,(.v (.int .i64 i.1)))],[],0,[]⟩:Ev.Lit) (fun k=>(⟨[(G8 M z),(G9 K zk),(5,(.slu 0 0 (k+1) 0)),(6,(.v (.int .i64 i.1)))],[],1,[(0,(.row (cI (tI (dfF (cI M) (cI K)) i.1)) 2 1))]⟩:Ev.Lit)) i.1)) (fun i:{i:Nat // i≤M.length∧True}=>M.length - i.1) (fun ix_ hs=>match ix_ with|⟨i,hi1,hi2⟩=>b0E (P:=(fun t_=>Y4 Try.prog 26 b5h t_ (BaseW.H (bw v 0 eb ec) hs) (Hd.StepC Try.prog 26 0 (fun i:{i:Nat // i≤M.length∧True}=>(Ev.fam0 (⟨[(G8 M z),(G9 K zk),a0y,(6,(.v (.int .i64 i.1)))],[],0,[]⟩:Ev.Lit) (fun k=>(⟨[(G8 M z),(G9 K zk),(5,(.slu 0 0 (k+1) 0)),(6,(.v (.int .i64 i.1)))],[],1,[(0,(.row (cI (tI (dfF (cI M) (cI K)) i.1)) 2 1))]⟩:Ev.Lit)) i.1)) (fun i:{i:Nat // i≤M.length∧True}=>M.length - i.1) b0w (bw v 0 eb ec) (R7 Try.prog Try.f65 26 ((.slu 0 0 M.length 0)) [(o4 K M)] (bw v 0 eb ec)) (⟨i,hi1,hi2⟩:{i:Nat // i≤M.length∧True})))) (fun hc0=>c5x z M zk K hn hk hm1 i hi1 hi2 hc0 v eb ec hs) (fun k hc0=>c4J z M zk K hn hk hm1 i k hi1 hi2 hc0 v eb ec hs)) ⟨0,Nat.zero_le _,trivial⟩ hs
theorem c4M(z:Value)(M:List Int)(zk:Value)(K:List Int)(hn:1≤M.length∧M.length≤8)(hk:K.length=M.length)(hm1:∀ b,b<M.length → -1000≤Z9 (cI M) (b*1) - Z9 (cI K) (b*1)∧Z9 (cI M) (b*1) - Z9 (cI K) (b*1)≤1000)(v:BaseW)(eb:Nat→Option Nat)(ec:Nat→Nat)(hs:List Nat):Y4 Try.prog 26 b6O ((b4I K M z zk)) (BaseW.H (bw v 0 eb ec) hs) (Hd.AfterN Try.prog 26 b0w (bw v 0 eb ec) (R7 Try.prog Try.f65 26 ((.slu 0 0 M.length 0)) [(o4 K M)] (bw v 0 eb ec))):=by
 exact c4z z M zk K hn hk hm1 v eb ec hs
theorem c2X(z:Value)(M:List Int)(zk:Value)(K:List Int)(hn:1≤M.length∧M.length≤8)(hk:K.length=M.length)(hm1:∀ b,b<M.length → -1000≤Z9 (cI M) (b*1) - Z9 (cI K) (b*1)∧Z9 (cI M) (b*1) - Z9 (cI K) (b*1)≤1000)(v:BaseW)(eb:Nat→Option Nat)(ec:Nat→Nat)(hs:List Nat):Y4 Try.prog 26 b8W ((b4p K M z zk)) (BaseW.H (bw v 0 eb ec) hs) (Hd.AfterN Try.prog 26 b0w (bw v 0 eb ec) (R7 Try.prog Try.f65 26 ((.slu 0 0 M.length 0)) [(o4 K M)] (bw v 0 eb ec))):=by
 have hcl_M:=Z3 M
 have hcl_K:=Z3 K
 refine Hd.goes_seqA (by kernel_rfl) ?_
 exact Z8 V0 (Z7 Try.checked.mixed (Z5) 200 (T':=(b4I K M z zk)) (e:=.normal) (ps:=[]) [.go] (by kernel_rfl) (by kernel_rfl) trivial rfl) (Hd.en_n (c4M z M zk K hn hk hm1 v eb ec hs))
theorem c7u(z:Value)(M:List Int)(zk:Value)(K:List Int)(hn:1≤M.length∧M.length≤8)(hk:K.length=M.length)(hm1:∀ b,b<M.length → -1000≤Z9 (cI M) (b*1) - Z9 (cI K) (b*1)∧Z9 (cI M) (b*1) - Z9 (cI K) (b*1)≤1000)(v:BaseW)(eb:Nat→Option Nat)(ec:Nat→Nat)(hs:List Nat):Y4 Try.prog 26 c0B ((b4p K M z zk)) (BaseW.H (bw v 0 eb ec) hs) (R7 Try.prog Try.f65 26 ((.slu 0 0 M.length 0)) [(o4 K M)] (bw v 0 eb ec)):=by
 exact Hd.goes_seqA (by kernel_rfl) (c2X z M zk K hn hk hm1 v eb ec hs)
theorem c7L(z:Value)(M:List Int)(zk:Value)(K:List Int)(hn:1≤M.length∧M.length≤8)(hk:K.length=M.length)(hm1:∀ b,b<M.length → -1000≤Z9 (cI M) (b*1) - Z9 (cI K) (b*1)∧Z9 (cI M) (b*1) - Z9 (cI K) (b*1)≤1000)(v:BaseW)(eb:Nat→Option Nat)(ec:Nat→Nat)(hs:List Nat):Y4 Try.prog 26 c3q (⟨[(G8 M z),(G9 K zk)],[],0,[]⟩) (BaseW.H (bw v 0 eb ec) hs) (R7 Try.prog Try.f65 26 ((.slu 0 0 M.length 0)) [(o4 K M)] (bw v 0 eb ec)):=by
 have hcl_M:=Z3 M
 have hcl_K:=Z3 K
 refine Hd.goes_seqA (by kernel_rfl) ?_
 exact Z8 V0 (Z7 Try.checked.mixed (Z5) 200 (T':=(b4p K M z zk)) (e:=.normal) (ps:=[]) [.go] (by kernel_rfl) (by kernel_rfl) trivial rfl) (Hd.en_n (c7u z M zk K hn hk hm1 v eb ec hs))
theorem c7f(z:Value)(M:List Int)(zk:Value)(K:List Int)(hn:1≤M.length∧M.length≤8)(hk:K.length=M.length)(hm1:∀ b,b<M.length → -1000≤Z9 (cI M) (b*1) - Z9 (cI K) (b*1)∧Z9 (cI M) (b*1) - Z9 (cI K) (b*1)≤1000)(v:BaseW)(eb:Nat→Option Nat)(ec:Nat→Nat)(hs:List Nat):Y4 Try.prog 26 c5h (⟨[(0,(.xl z M.length 1 (cI M))),(1,(.xl zk K.length 1 (cI K)))],[],0,[]⟩) (BaseW.H (bw v 0 eb ec) hs) (R7 Try.prog Try.f65 26 ((.slu 0 0 M.length 0)) [(o4 K M)] (bw v 0 eb ec)):=by
 have hcl_M:=Z3 M
 have hcl_K:=Z3 K
 refine Hd.goes_seqA (by kernel_rfl) ?_
 exact Z8 V0 (Z7 Try.checked.mixed (Z5) 200 (T':=⟨[(G8 M z),(G9 K zk)],[],0,[]⟩) (e:=.normal) (ps:=[]) [.go] (by kernel_rfl) (by kernel_rfl) trivial rfl) (Hd.en_n (c7L z M zk K hn hk hm1 v eb ec hs))
theorem c6R(z:Value)(M:List Int)(zk:Value)(K:List Int)(hn:1≤M.length∧M.length≤8)(hk:K.length=M.length)(hm1:∀ b,b<M.length → -1000≤Z9 (cI M) (b*1) - Z9 (cI K) (b*1)∧Z9 (cI M) (b*1) - Z9 (cI K) (b*1)≤1000):G7 Try.prog 65 [(.xl z M.length 1 (cI M)),(.xl zk K.length 1 (cI K))] [] ((.slu 0 0 M.length 0)) [(o4 K M)] :=
 R0 26 (by kernel_rfl) Try.func65 (by kernel_rfl) (by kernel_rfl) (by kernel_rfl) (fun v eb ec=>W2 (by kernel_rfl) (by kernel_rfl) (by kernel_rfl) (by kernel_rfl) (c7f z M zk K hn hk hm1 v eb ec []))
end
end Go.Proofs.Ytegmogadbnfbgaa
set_option linter.all false
/- What is known of the reference: Less, spans, true lists, seen numbers. -/
namespace Go.Proofs.Ytegmogadbnfbgaa
open Go Ev
noncomputable section
section
variable (K : List Int) (L : List (Int × Int)) (M : List Int) (P0 P1 P2 : List (Int × Int)) (v0 v1 v2 : Value)
@[reducible] def b9f:Ev.AB:=(.cells [.v (.int .i64 (R4 (cR P0) (cR P1) (cR P2) (cR L) (Y7 (cI M) (cI K) L.length) L.length false 0)),.v (.int .i64 (R4 (cR P0) (cR P1) (cR P2) (cR L) (Y7 (cI M) (cI K) L.length) L.length true 0)),.v (.int .i64 (R4 (cR P0) (cR P1) (cR P2) (cR L) (Y7 (cI M) (cI K) L.length) L.length false 1)),.v (.int .i64 (R4 (cR P0) (cR P1) (cR P2) (cR L) (Y7 (cI M) (cI K) L.length) L.length true 1)),.v (.int .i64 (R4 (cR P0) (cR P1) (cR P2) (cR L) (Y7 (cI M) (cI K) L.length) L.length false 2)),.v (.int .i64 (R4 (cR P0) (cR P1) (cR P2) (cR L) (Y7 (cI M) (cI K) L.length) L.length true 2))] 65)
@[reducible] def a2h:List Ev.AV:=[AV.xl v0 P0.length 2 (cR P0),AV.xl v1 P1.length 2 (cR P1),AV.xl v2 P2.length 2 (cR P2)]
@[reducible] def b5K:Ev.AB:=(.cells (cI (tI (s6A (a9 (a2h P0 P1 P2 v0 v1 v2) (cR L) (List.take (M.length*(0+1)) (List.drop 0 (Y7 (cI M) (cI K) M.length)))) (hiP (a2h P0 P1 P2 v0 v1 v2) (cR L) (List.take (M.length*(0+1)) (List.drop 0 (Y7 (cI M) (cI K) M.length)))) L.length 3) 6)) 65)
@[reducible] def b2h:List Ev.AV:=[.xl v0 P0.length 2 (cR P0),.xl v1 P1.length 2 (cR P1),.xl v2 P2.length 2 (cR P2)]
end
def lsS:List AV→List AB→Option ((AV×List AB)×List Prop):=fun args xs =>
 match args,xs with
 |[.xl z r k5 cM,.xl zk s k6 cK],[]=>some ((.slu 0 0 r 0,[.row (Y7 cM cK r) 2 1]),[V9 k5 r cM,V9 k6 s cK,1≤r∧r≤8,s=r,Q1 cM cK r])
 |_,_=>none
def lsO:R6:=a2W 65 lsS
theorem a2P:Known Try.prog (clsO lsO):=A5 (fun args xs r ys ps h hp=>by
 unfold lsS at h
 split at h
 ·cases h
  obtain ⟨⟨rfl,M,rfl,rfl⟩,⟨rfl,K,rfl,rfl⟩,h1,h2,h3,-⟩:=hp
  exact ⟨fun x hx=>absurd hx List.not_mem_nil,fun x hx=>by rw [List.mem_singleton.1 hx];exact H4 (Z4 (Z2 _)),c6R _ M _ K h1 h2 h3⟩
 ·cases h)
def c5Z:List Yw→Option (C9×List Prop):=fun vs =>
 match vs with
 |[.one (.ext a),.one (.lst r k5 cM)]=>match a with
  |.agg [.xl y m k1 cE,.xl yl n k2 cL]=>some (.blk (fun b=>.sl b 0 3 3) (.cells (cI (tI (s6A (a9 cE cL cM) (hiP cE cL cM) n 3) 6)) 65),[V5 k1 cE m,Y5 k2 n cL,J7 k5 r cM,E9 m,r=n,n≤8,c22 cE cL cM n])
  |_=>none
 |_=>none
def c7q:R6:=u0 59 [.one .ext,.one (.lst 0)] c5Z
theorem a1j:Known Try.prog (clsO c7q):=F2 (fun vs r ps h hp=>by
 unfold c5Z at h
 split at h
 ·split at h
  ·cases h
   obtain ⟨⟨rfl,E,rfl,rfl⟩,⟨rfl,L,rfl,rfl⟩,⟨rfl,M,rfl,rfl⟩,h3,h1,h8,⟨q1,q2,q3,q4⟩,-⟩:=hp
   refine ⟨⟨(D3 (X3 (U3 (Q3 E)) (X3 (U3 (W3 (X4 L))) S8))),⟨_,Z2 M⟩,trivial⟩,⟨[[[]],[[undef]]],⟨trivial,trivial,trivial⟩⟩,fun ys hy=>?_⟩
   match ys,hy with
   |[zs,us],_=>exact a3i (c6u _ E _ L _ M h8 h3 q1 h1 q2 q3 q4) (one_sl _ (Z2 _))
  ·cases h
 ·cases h)
def c1d(c0 c1 c2 cL x0 x1 x2 cY:List AV)(n:Nat):Prop:=(∀ b,b<n→V7 cL cY b)∧(∀ b,b<n→V7 c0 x0 b)∧(∀ b,b<n→V7 c1 x1 b)∧∀ b,b<n→V7 c2 x2 b
def c2O:List Yw→Option (C9×List Prop):=fun vs =>
 match vs with
 |[.one (.ext a),.str [.lls mx k3 rows,.lst nx k4 cY]]=>match a,rows with
  |.agg [.xl y m k1 [.xl v0 p0 j0 c0,.xl v1 p1 j1 c1,.xl v2 p2 j2 c2],.xl yl n k2 cL],[(n0,x0),(n1,x1),(n2,x2)]=>some (.val (.v (.int .i64 0)),[m7 k1,E9 m,Y5 j0 p0 c0,Y5 j1 p1 c1,Y5 j2 p2 c2,Y5 k2 n cL,J7 k3 n0 x0,J7 k3 n1 x1,J7 k3 n2 x2,J7 k4 nx cY,n0=n,n1=n,n2=n,nx=n,E9 mx,U9 [.xl v0 p0 j0 c0,.xl v1 p1 j1 c1,.xl v2 p2 j2 c2] m cL n=0,c1d c0 c1 c2 cL x0 x1 x2 cY n])
  |_,_=>none
 |_=>none
def b9v:R6:=u0 30 [.one .ext,.str [.lls 0,.lst 0]] c2O
theorem a72:Known Try.prog (clsO b9v):=F2 (fun vs r ps h hp=>by
 unfold c2O at h
 split at h
 ·split at h
  ·cases h
   obtain ⟨rfl,rfl,⟨rfl,P0,rfl,rfl⟩,⟨rfl,P1,rfl,rfl⟩,⟨rfl,P2,rfl,rfl⟩,⟨rfl,L,rfl,rfl⟩,⟨rfl,X0,rfl,rfl⟩,⟨-,X1,rfl,rfl⟩,⟨-,X2,rfl,rfl⟩,⟨rfl,Y,rfl,rfl⟩,h0,h1,h2,h3,rfl,hC,⟨m3,m0,m1,m2⟩,-⟩:=hp
   rename_i y v0 v1 v2 yl
   refine ⟨⟨(D3 (X3 (U3 (Q3 [(v0,P0),(v1,P1),(v2,P2)])) (X3 (U3 (W3 (X4 L))) S8))),⟨⟨⟨_,Z2 X0⟩,⟨_,Z2 X1⟩,⟨_,Z2 X2⟩,trivial⟩,⟨_,Z2 Y⟩,trivial⟩,trivial⟩,⟨[[[]],[[undef,undef,undef,undef],[undef]]],⟨trivial,⟨rfl,trivial,trivial⟩,trivial⟩⟩,fun ys hy=>?_⟩
   match ys,hy with
   |[zs,[[u,w0,w1,w2],us]],_ =>
    refine ⟨_,rfl,?_⟩
    have hg:=c3w y [(v0,P0),(v1,P1),(v2,P2)] yl L u [(w0,X0),(w1,X1),(w2,X2)] (us.headD undef) Y hC (show 3≤1000 by decide)
    rw [b1o (cE:=Z1 [(v0,P0),(v1,P1),(v2,P2)]) (cX:=Y0 [(w0,X0),(w1,X1),(w2,X2)]) (m:=[(w0,X0),(w1,X1),(w2,X2)].length) h3 (eyB_true.2 ⟨rfl,fun i hi=>by match i,hi with|0,_=>exact h0|1,_=>exact h1|2,_=>exact h2⟩) (allB_true.2 m3) (fun i hi=>allB_true.2 (fun b hb=>by match i,hi with|0,_=>exact m0 b hb|1,_=>exact m1 b hb|2,_=>exact m2 b hb))] at hg
    exact hg
  ·cases h
 ·cases h)
def c2k:List Yw→Option (C9×List Prop):=fun vs =>
 match vs with
 |[.str [.lls mx k3 rows,.lst nx k4 cY],.one (.ext a)]=>match a,rows with
  |.xl z n k5 cM,[(n0,c0),(n1,c1),(n2,c2)]=>some (.blk (fun b=>.sl b 0 3 3) (.cells [.v (.int .i64 (T6 (J5 c0 c1 c2 cY cM 0) n)),.v (.int .i64 (T6 (J5 c0 c1 c2 cY cM 1) n)),.v (.int .i64 (T6 (J5 c0 c1 c2 cY cM 2) n))] 2),[V9 k5 n cM,n≤8,J7 k3 n0 c0,J7 k3 n1 c1,J7 k3 n2 c2,J7 k4 nx cY,n0=n,n1=n,n2=n,nx=n,E9 mx,b3Y c0 c1 c2 cY cM n])
  |_,_=>none
 |_=>none
def c23:R6:=u0 31 [.str [.lls 0,.lst 0],.one .ext] c2k
theorem a73:Known Try.prog (clsO c23):=F2 (fun vs r ps h hp=>by
 unfold c2k at h
 split at h
 ·split at h
  ·cases h
   obtain ⟨⟨rfl,M,rfl,rfl⟩,h8,⟨rfl,X0,rfl,rfl⟩,⟨-,X1,rfl,rfl⟩,⟨-,X2,rfl,rfl⟩,⟨rfl,Y,rfl,rfl⟩,h0,h1,h2,h3,rfl,⟨m0,m1,m2,m3,m4⟩,-⟩:=hp
   rename_i z
   refine ⟨⟨⟨⟨⟨_,Z2 X0⟩,⟨_,Z2 X1⟩,⟨_,Z2 X2⟩,trivial⟩,⟨_,Z2 Y⟩,trivial⟩,U3 (W3 (Z2 M)),trivial⟩,⟨[[[undef,undef,undef,undef],[undef]],[[]]],⟨⟨rfl,trivial,trivial⟩,trivial,trivial⟩⟩,fun ys hy=>?_⟩
   match ys,hy with
   |[[[u,w0,w1,w2],us],zs],_ =>
    have hg:=c72 u [(w0,X0),(w1,X1),(w2,X2)] (us.headD undef) Y z M h8 rfl (fun i hi=>by match i,hi with|0,_=>exact h0|1,_=>exact h1|2,_=>exact h2) h3 (fun i hi b hb=>by match i,hi with|0,_=>exact m0 b hb|1,_=>exact m1 b hb|2,_=>exact m2 b hb) m3 m4
    rw [a8U,a6Z (by decide),a6Z (by decide),a6Z (by decide)] at hg
    exact a3i hg (one_sl _ (show Q7 [.v (.int .i64 (T6 (J5 (cI X0) (cI X1) (cI X2) (cI Y) (cI M) 0) M.length)),.v (.int .i64 (T6 (J5 (cI X0) (cI X1) (cI X2) (cI Y) (cI M) 1) M.length)),.v (.int .i64 (T6 (J5 (cI X0) (cI X1) (cI X2) (cI Y) (cI M) 2) M.length))]=some _ from rfl))
  ·cases h
 ·cases h)
noncomputable def c5i:Code:=R8 Try.f25
set_option maxHeartbeats 2000000 in
theorem c2U(y:Value)(E:List (Value×List (Int×Int)))(yl:Value)(L:List (Int×Int))(z:Value)(M:List Int)(zk:Value)(K:List Int)(hE3:E.length≤1000)(hM3:M.length≤1000)(hK3:K.length≤1000)(hH:¬ U0 (U9 (Z1 E) E.length (cR L) L.length) (W6 L.length (cI M) M.length) (W6 L.length (cI K) K.length)=0)(v:BaseW)(eb:Nat→Option Nat)(ec:Nat→Nat)(hs:List Nat):Y4 Try.prog 22 c5i (⟨[(0,(.agg [.xl y E.length 1 (Z1 E),.xl yl L.length 2 (cR L)])),(1,(.xl z M.length 1 (cI M))),(2,(.xl zk K.length 1 (cI K)))],[],0,[]⟩) (BaseW.H (bw v 0 eb ec) hs) (R7 Try.prog Try.f25 22 ((.tup [.v (.slice none 0 0),.v (.int .i64 (U0 (U9 (Z1 E) E.length (cR L) L.length) (W6 L.length (cI M) M.length) (W6 L.length (cI K) K.length)))])) [] (bw v 0 eb ec)):=by
 have hcl_L:=Y6 L
 have hcl_M:=Z3 M
 have hcl_K:=Z3 K
 rcases Bool.eq_false_or_eq_true (T9 (U9 (Z1 E) E.length (cR L) L.length) 0) with hqrae3_1|hqrae3_1
 ·have ghqrae3_1:=Y8 hqrae3_1
  have hnE:=(T5 (Y8 hqrae3_1)).1
  rcases Bool.eq_false_or_eq_true (T9 (W6 L.length (cI M) M.length) 0) with hqrae3_2|hqrae3_2
  ·have ghqrae3_2:=Y8 hqrae3_2
   rcases Bool.eq_false_or_eq_true (T9 (W6 L.length (cI K) K.length) 0) with hqrae3_3|hqrae3_3
   ·have ghqrae3_3:=Y8 hqrae3_3
    exact absurd ((c7 (Y8 hqrae3_1) (Y8 hqrae3_2)).trans (Y8 hqrae3_3)) hH
   ·have ghqrae3_3:=X5 hqrae3_3
    exact Z8 W1 (B1 Try.checked.mixed (Y3 (Y3 a2p a2o) (Y3 a2P a1j)) 200 (T':=⟨[(6,(.v (Value.slice none 0 0))),(7,(.v (.int .i64 (W6 L.length (cI K) K.length))))],[],0,[]⟩) (e:=.ret) (m:=3) (ps:=[V5 1 (Z1 E) E.length,Y5 2 L.length (cR L),E.length≤1000,(!T9 (U9 (Z1 E) E.length (cR L) L.length) 0)=false,V5 1 (Z1 E) E.length,Y5 2 L.length (cR L),V9 1 M.length (cI M),L.length≤1000,(!T9 (W6 L.length (cI M) M.length) 0)=false,V5 1 (Z1 E) E.length,Y5 2 L.length (cR L),V9 1 K.length (cI K),L.length≤1000,(!T9 (W6 L.length (cI K) K.length) 0)=true,V5 1 (Z1 E) E.length,Y5 2 L.length (cR L),E.length≤1000,(!T9 (U9 (Z1 E) E.length (cR L) L.length) 0)=false,V5 1 (Z1 E) E.length,Y5 2 L.length (cR L),V9 1 M.length (cI M),L.length≤1000,(!T9 (W6 L.length (cI M) M.length) 0)=false,V5 1 (Z1 E) E.length,Y5 2 L.length (cR L),V9 1 K.length (cI K),L.length≤1000]) [.go,.go,.go,.go,.go,.go,.go,.go,.go,.go,.b false,.go,.go,.go,.b false,.go,.go,.go,.go,.b true,.go,.go,.go,.go,.go,.go,.go,.b false,.go,.go,.go,.b false,.go,.go,.go,.go,.go] (by kernel_rfl) (by kernel_rfl) ⟨⟨rfl,E,rfl,rfl⟩,⟨rfl,L,rfl,rfl⟩,hE3,(by rw [hqrae3_1];rfl),⟨rfl,E,rfl,rfl⟩,⟨rfl,L,rfl,rfl⟩,⟨rfl,M,rfl,rfl⟩,(by omega),(by rw [hqrae3_2];rfl),⟨rfl,E,rfl,rfl⟩,⟨rfl,L,rfl,rfl⟩,⟨rfl,K,rfl,rfl⟩,(by omega),(by rw [hqrae3_3];rfl),⟨rfl,E,rfl,rfl⟩,⟨rfl,L,rfl,rfl⟩,hE3,(by rw [hqrae3_1];rfl),⟨rfl,E,rfl,rfl⟩,⟨rfl,L,rfl,rfl⟩,⟨rfl,M,rfl,rfl⟩,(by omega),(by rw [hqrae3_2];rfl),⟨rfl,E,rfl,rfl⟩,⟨rfl,L,rfl,rfl⟩,⟨rfl,K,rfl,rfl⟩,(by omega),trivial⟩ rfl (by show 0≤3;decide) ⟨⟨m6 _,m6 _,trivial⟩,trivial,rfl⟩ (by show 0≤0;decide)) (E3 (r:=(.tup [(.v (Value.slice none 0 0)),(.v (.int .i64 (W6 L.length (cI K) K.length)))])) (ys:=[]) (by (rw [c7 (Y8 hqrae3_1) (Y8 hqrae3_2)];try rfl)) (by rfl) (J4 (by kernel_rfl) (by kernel_rfl) rfl (.inr rfl)))
  ·have ghqrae3_2:=X5 hqrae3_2
   exact Z8 W1 (B1 Try.checked.mixed (Y3 (Y3 a2p a2o) (Y3 a2P a1j)) 200 (T':=⟨[(6,(.v (Value.slice none 0 0))),(7,(.v (.int .i64 (W6 L.length (cI M) M.length))))],[],0,[]⟩) (e:=.ret) (m:=3) (ps:=[V5 1 (Z1 E) E.length,Y5 2 L.length (cR L),E.length≤1000,(!T9 (U9 (Z1 E) E.length (cR L) L.length) 0)=false,V5 1 (Z1 E) E.length,Y5 2 L.length (cR L),V9 1 M.length (cI M),L.length≤1000,(!T9 (W6 L.length (cI M) M.length) 0)=true,V5 1 (Z1 E) E.length,Y5 2 L.length (cR L),V9 1 M.length (cI M),L.length≤1000,(!T9 (W6 L.length (cI M) M.length) 0)=true,V5 1 (Z1 E) E.length,Y5 2 L.length (cR L),E.length≤1000,(!T9 (U9 (Z1 E) E.length (cR L) L.length) 0)=false,V5 1 (Z1 E) E.length,Y5 2 L.length (cR L),V9 1 M.length (cI M),L.length≤1000,(!T9 (W6 L.length (cI M) M.length) 0)=true,V5 1 (Z1 E) E.length,Y5 2 L.length (cR L),V9 1 M.length (cI M),L.length≤1000]) [.go,.go,.go,.go,.go,.go,.go,.go,.go,.go,.b false,.go,.go,.go,.b true,.go,.go,.go,.go,.b true,.go,.go,.go,.go,.go,.go,.go,.b false,.go,.go,.go,.b true,.go,.go,.go,.go,.go] (by kernel_rfl) (by kernel_rfl) ⟨⟨rfl,E,rfl,rfl⟩,⟨rfl,L,rfl,rfl⟩,hE3,(by rw [hqrae3_1];rfl),⟨rfl,E,rfl,rfl⟩,⟨rfl,L,rfl,rfl⟩,⟨rfl,M,rfl,rfl⟩,(by omega),(by rw [hqrae3_2];rfl),⟨rfl,E,rfl,rfl⟩,⟨rfl,L,rfl,rfl⟩,⟨rfl,M,rfl,rfl⟩,(by omega),(by rw [hqrae3_2];rfl),⟨rfl,E,rfl,rfl⟩,⟨rfl,L,rfl,rfl⟩,hE3,(by rw [hqrae3_1];rfl),⟨rfl,E,rfl,rfl⟩,⟨rfl,L,rfl,rfl⟩,⟨rfl,M,rfl,rfl⟩,(by omega),(by rw [hqrae3_2];rfl),⟨rfl,E,rfl,rfl⟩,⟨rfl,L,rfl,rfl⟩,⟨rfl,M,rfl,rfl⟩,(by omega),trivial⟩ rfl (by show 0≤3;decide) ⟨⟨m6 _,m6 _,trivial⟩,trivial,rfl⟩ (by show 0≤0;decide)) (E3 (r:=(.tup [(.v (Value.slice none 0 0)),(.v (.int .i64 (W6 L.length (cI M) M.length)))])) (ys:=[]) (by (rw [b2a (Y8 hqrae3_1) (X5 hqrae3_2)];try rfl)) (by rfl) (J4 (by kernel_rfl) (by kernel_rfl) rfl (.inr rfl)))
 ·have ghqrae3_1:=X5 hqrae3_1
  exact Z8 W1 (B1 Try.checked.mixed (Y3 (Y3 a2p a2o) (Y3 a2P a1j)) 200 (T':=⟨[(6,(.v (Value.slice none 0 0))),(7,(.v (.int .i64 (U9 (Z1 E) E.length (cR L) L.length))))],[],0,[]⟩) (e:=.ret) (m:=3) (ps:=[V5 1 (Z1 E) E.length,Y5 2 L.length (cR L),E.length≤1000,(!T9 (U9 (Z1 E) E.length (cR L) L.length) 0)=true,V5 1 (Z1 E) E.length,Y5 2 L.length (cR L),E.length≤1000,(!T9 (U9 (Z1 E) E.length (cR L) L.length) 0)=true,V5 1 (Z1 E) E.length,Y5 2 L.length (cR L),E.length≤1000,(!T9 (U9 (Z1 E) E.length (cR L) L.length) 0)=true,V5 1 (Z1 E) E.length,Y5 2 L.length (cR L),E.length≤1000]) [.go,.go,.go,.go,.go,.go,.go,.go,.go,.go,.b true,.go,.go,.go,.b true,.go,.go,.go,.go,.go,.go,.go,.b true,.go,.go,.go,.go] (by kernel_rfl) (by kernel_rfl) ⟨⟨rfl,E,rfl,rfl⟩,⟨rfl,L,rfl,rfl⟩,hE3,(by rw [hqrae3_1];rfl),⟨rfl,E,rfl,rfl⟩,⟨rfl,L,rfl,rfl⟩,hE3,(by rw [hqrae3_1];rfl),⟨rfl,E,rfl,rfl⟩,⟨rfl,L,rfl,rfl⟩,hE3,(by rw [hqrae3_1];rfl),⟨rfl,E,rfl,rfl⟩,⟨rfl,L,rfl,rfl⟩,hE3,trivial⟩ rfl (by show 0≤3;decide) ⟨⟨m6 _,m6 _,trivial⟩,trivial,rfl⟩ (by show 0≤0;decide)) (E3 (r:=(.tup [(.v (Value.slice none 0 0)),(.v (.int .i64 (U9 (Z1 E) E.length (cR L) L.length)))])) (ys:=[]) (by (rw [b5z (X5 hqrae3_1)];try rfl)) (by rfl) (J4 (by kernel_rfl) (by kernel_rfl) rfl (.inr rfl)))
theorem c5g(y:Value)(E:List (Value×List (Int×Int)))(yl:Value)(L:List (Int×Int))(z:Value)(M:List Int)(zk:Value)(K:List Int)(hE3:E.length≤1000)(hM3:M.length≤1000)(hK3:K.length≤1000)(hH:¬ U0 (U9 (Z1 E) E.length (cR L) L.length) (W6 L.length (cI M) M.length) (W6 L.length (cI K) K.length)=0):G7 Try.prog 25 [(.agg [.xl y E.length 1 (Z1 E),.xl yl L.length 2 (cR L)]),(.xl z M.length 1 (cI M)),(.xl zk K.length 1 (cI K))] [] ((.tup [.v (.slice none 0 0),.v (.int .i64 (U0 (U9 (Z1 E) E.length (cR L) L.length) (W6 L.length (cI M) M.length) (W6 L.length (cI K) K.length)))])) [] :=
 R0 22 (by kernel_rfl) Try.func25 (by kernel_rfl) (by kernel_rfl) (by kernel_rfl) (fun v eb ec=>W2 (by kernel_rfl) (by kernel_rfl) (by kernel_rfl) (by kernel_rfl) (c2U y E yl L z M zk K hE3 hM3 hK3 hH v eb ec []))
noncomputable def c2Q:Code:=R8 Try.f25
set_option maxHeartbeats 2000000 in
theorem c4c(y v0:Value)(P0:List (Int×Int))(v1:Value)(P1:List (Int×Int))(v2:Value)(P2:List (Int×Int))(yl:Value)(L:List (Int×Int))(z:Value)(M:List Int)(zk:Value)(K:List Int)(hC:U9 (b2h P0 P1 P2 v0 v1 v2) 3 (cR L) L.length=0)(hH1:W6 L.length (cI M) M.length=0)(hH2:W6 L.length (cI K) K.length=0)(v:BaseW)(eb:Nat→Option Nat)(ec:Nat→Nat)(hs:List Nat):Y4 Try.prog 22 c2Q (⟨[(0,(.agg [.xl y 3 1 (b2h P0 P1 P2 v0 v1 v2),.xl yl L.length 2 (cR L)])),(1,(.xl z M.length 1 (cI M))),(2,(.xl zk K.length 1 (cI K)))],[],0,[]⟩) (BaseW.H (bw v 0 eb ec) hs) (R7 Try.prog Try.f25 22 ((.tup [.sl 0 0 3 3,.v (.int .i64 0)])) [(b9f K L M P0 P1 P2)] (bw v 0 eb ec)):=by
 have hcl_P0:=Y6 P0
 have hcl_P1:=Y6 P1
 have hcl_P2:=Y6 P2
 have hcl_L:=Y6 L
 have hcl_M:=Z3 M
 have hcl_K:=Z3 K
 obtain ⟨hn,-,hrow,hlam,hcur⟩:=T5 hC
 have hM:=(U2 hH1).1
 have hK:=(U2 hH2).1
 rcases Bool.eq_false_or_eq_true (T9 (U9 (a2h P0 P1 P2 v0 v1 v2) 3 (cR L) L.length) 0) with hqrao3_1|hqrao3_1
 ·have ghqrao3_1:=Y8 hqrao3_1
  rcases Bool.eq_false_or_eq_true (T9 (W6 L.length (cI M) M.length) 0) with hqrao3_2|hqrao3_2
  ·have ghqrao3_2:=Y8 hqrao3_2
   rcases Bool.eq_false_or_eq_true (T9 (W6 L.length (cI K) K.length) 0) with hqrao3_3|hqrao3_3
   ·have ghqrao3_3:=Y8 hqrao3_3
    exact Z8 W1 (L6 Try.checked.mixed (Y3 (Y3 a2p a2o) (Y3 a2P a1j)) 200 (T':=⟨[(6,(.sl 0 0 3 3)),(7,(.v (.int .i64 (.ofNat 0))))],[],1,[(0,(b5K K L M P0 P1 P2 v0 v1 v2))]⟩) (e:=.ret) (m:=4) (ps:=[V5 1 (a2h P0 P1 P2 v0 v1 v2) 3,Y5 2 L.length (cR L),((3:Nat)≤1000),(!T9 (U9 (a2h P0 P1 P2 v0 v1 v2) 3 (cR L) L.length) 0)=false,V5 1 (a2h P0 P1 P2 v0 v1 v2) 3,Y5 2 L.length (cR L),V9 1 M.length (cI M),L.length≤1000,(!T9 (W6 L.length (cI M) M.length) 0)=false,V5 1 (a2h P0 P1 P2 v0 v1 v2) 3,Y5 2 L.length (cR L),V9 1 K.length (cI K),L.length≤1000,(!T9 (W6 L.length (cI K) K.length) 0)=false,W9 (cI M),W9 (cI K),V9 1 M.length (cI M),V9 1 K.length (cI K),1≤M.length∧M.length≤8,K.length=M.length,Q1 (cI M) (cI K) M.length,0+M.length*(0+1)≤((Y7 (cI M) (cI K) M.length):List AV).length,V5 1 (a2h P0 P1 P2 v0 v1 v2) 3,Y5 2 L.length (cR L),J7 (0+1) M.length (List.take (M.length*(0+1)) (List.drop 0 (Y7 (cI M) (cI K) M.length))),E9 3,M.length=L.length,L.length≤8,c22 (a2h P0 P1 P2 v0 v1 v2) (cR L) (List.take (M.length*(0+1)) (List.drop 0 (Y7 (cI M) (cI K) M.length))) L.length]) [.go,.go,.go,.go,.go,.go,.go,.go,.go,.go,.b false,.go,.go,.go,.b false,.go,.go,.go,.go,.b false,.go,.go,.go,.go,.go] [3] [(.sl 3 0 3 3),(.v (.int .i64 (.ofNat 0)))] [(b5K K L M P0 P1 P2 v0 v1 v2)] (by kernel_rfl) (by kernel_rfl) ⟨⟨rfl,[(v0,P0),(v1,P1),(v2,P2)],rfl,rfl⟩,⟨rfl,L,rfl,rfl⟩,(by omega),(by rw [hqrao3_1];rfl),⟨rfl,[(v0,P0),(v1,P1),(v2,P2)],rfl,rfl⟩,⟨rfl,L,rfl,rfl⟩,⟨rfl,M,rfl,rfl⟩,(by omega),(by rw [hqrao3_2];rfl),⟨rfl,[(v0,P0),(v1,P1),(v2,P2)],rfl,rfl⟩,⟨rfl,L,rfl,rfl⟩,⟨rfl,K,rfl,rfl⟩,(by omega),(by rw [hqrao3_3];rfl),(Z4 (Z2 _)),(Z4 (Z2 _)),⟨rfl,M,rfl,rfl⟩,⟨rfl,K,rfl,rfl⟩,(by omega),(by omega),(by rw [hM];exact S9 hH1 hH2),(by show _≤(cI (tI _ _)).length;rw [Z3,Y9];omega),⟨rfl,[(v0,P0),(v1,P1),(v2,P2)],rfl,rfl⟩,⟨rfl,L,rfl,rfl⟩,⟨rfl,_,Z0,(Y9 _ _).symm⟩,rfl,hM,hn.2,(by show c22 _ _ (List.take (M.length*(0+1)) (List.drop 0 (cI (tI (dfF (cI M) (cI K)) M.length)))) _;rw [Z0,hM];exact ⟨hrow,hlam,hcur,c1t hH1 hH2⟩),trivial⟩ rfl rfl (by decide) rfl ⟨b5y rfl,E2 _,trivial⟩ ⟨⟨by show 0<1;decide,U8 (U6 (Z2 _))⟩,trivial⟩) (E3 (r:=(.tup [(.sl 0 0 3 3),(.v (.int .i64 (.ofNat 0)))])) (ys:=[(b5K K L M P0 P1 P2 v0 v1 v2)]) (by rfl) (by (show [AB.cells (cI (tI (s6A (a9 (Z1 [(v0,P0),(v1,P1),(v2,P2)]) (cR L) (List.take (M.length*(0+1)) (List.drop 0 (cI (tI (dfF (cI M) (cI K)) M.length))))) (hiP (Z1 [(v0,P0),(v1,P1),(v2,P2)]) (cR L) (List.take (M.length*(0+1)) (List.drop 0 (cI (tI (dfF (cI M) (cI K)) M.length))))) L.length 3) 6)) 65]=_;rw [Z0,hM];have h9:=c0A (v0:=v0) (v1:=v1) (v2:=v2) (P0:=P0) (P1:=P1) (P2:=P2) (cM:=(Y7 (cI M) (cI K) L.length)) hlam hcur;unfold Y7 at h9;rw [b7f,(h9 0 (by decide)).1,(h9 0 (by decide)).2,(h9 1 (by decide)).1,(h9 1 (by decide)).2,(h9 2 (by decide)).1,(h9 2 (by decide)).2];rfl)) (J4 (by kernel_rfl) (by kernel_rfl) rfl (.inr rfl)))
   ·have ghqrao3_3:=X5 hqrao3_3
    exact absurd hH2 (X5 hqrao3_3)
  ·have ghqrao3_2:=X5 hqrao3_2
   exact absurd hH1 (X5 hqrao3_2)
 ·have ghqrao3_1:=X5 hqrao3_1
  exact absurd hC (X5 hqrao3_1)
theorem c3G(y v0:Value)(P0:List (Int×Int))(v1:Value)(P1:List (Int×Int))(v2:Value)(P2:List (Int×Int))(yl:Value)(L:List (Int×Int))(z:Value)(M:List Int)(zk:Value)(K:List Int)(hC:U9 (b2h P0 P1 P2 v0 v1 v2) 3 (cR L) L.length=0)(hH1:W6 L.length (cI M) M.length=0)(hH2:W6 L.length (cI K) K.length=0):G7 Try.prog 25 [(.agg [.xl y 3 1 (b2h P0 P1 P2 v0 v1 v2),.xl yl L.length 2 (cR L)]),(.xl z M.length 1 (cI M)),(.xl zk K.length 1 (cI K))] [] ((.tup [.sl 0 0 3 3,.v (.int .i64 0)])) [(b9f K L M P0 P1 P2)] :=
 R0 22 (by kernel_rfl) Try.func25 (by kernel_rfl) (by kernel_rfl) (by kernel_rfl) (fun v eb ec=>W2 (by kernel_rfl) (by kernel_rfl) (by kernel_rfl) (by kernel_rfl) (c4c y v0 P0 v1 P1 v2 P2 yl L z M zk K hC hH1 hH2 v eb ec []))
end
end Go.Proofs.Ytegmogadbnfbgaa
set_option linter.all false
/- What is known of the reference's Apart. -/
namespace Go.Proofs.Ytegmogadbnfbgaa
open Go Ev
noncomputable section
section
variable (P0 P1 P2 : List (Int × Int)) (v0 v1 v2 : Value)
@[reducible] def l7:List Ev.AV:=[AV.xl v0 P0.length 2 (cR P0),AV.xl v1 P1.length 2 (cR P1),AV.xl v2 P2.length 2 (cR P2)]
@[reducible] def b2n:List Ev.AV:=[.xl v0 P0.length 2 (cR P0),.xl v1 P1.length 2 (cR P1),.xl v2 P2.length 2 (cR P2)]
@[reducible] def a7l:Ev.Lit:=⟨[(6,(.v (.int .i64 (.ofNat 19))))],[],2,[]⟩
end
def c4m:List AV→List AB→Option ((AV×List AB)×List Prop):=fun args xs =>
 match args,xs with
 |[.agg [.xl y m k1 cE,.xl yl n k2 cL],.xl z r k5 cM,.xl zk s k6 cK],[]=>some ((.tup [.v (.slice none 0 0),.v (.int .i64 (U0 (U9 cE m cL n) (W6 n cM r) (W6 n cK s)))],[]),[V5 k1 cE m,Y5 k2 n cL,V9 k5 r cM,V9 k6 s cK,m≤1000,r≤1000,s≤1000,¬ U0 (U9 cE m cL n) (W6 n cM r) (W6 n cK s)=0])
 |_,_=>none
def c4r:R6:=a2W 25 c4m
theorem a7C:Known Try.prog (clsO c4r):=A5 (fun args xs r ys ps h hp=>by
 unfold c4m at h
 split at h
 ·cases h
  obtain ⟨⟨rfl,E,rfl,rfl⟩,⟨rfl,L,rfl,rfl⟩,⟨rfl,M,rfl,rfl⟩,⟨rfl,K,rfl,rfl⟩,h1,h2,h3,h4,-⟩:=hp
  exact ⟨fun x hx=>absurd hx List.not_mem_nil,fun x hx=>absurd hx List.not_mem_nil,c5g _ E _ L _ M _ K h1 h2 h3 h4⟩
 ·cases h)
def c4O:List AV→List AB→Option ((AV×List AB)×List Prop):=fun args xs =>
 match args,xs with
 |[.agg [.xl y m k1 [.xl v0 n0 j0 c0,.xl v1 n1 j1 c1,.xl v2 n2 j2 c2],.xl yl n k2 cL],.xl z r k5 cM,.xl zk s k6 cK],[]=>some ((.tup [.sl 0 0 3 3,.v (.int .i64 0)],[.cells [.v (.int .i64 (R4 c0 c1 c2 cL (Y7 cM cK n) n false 0)),.v (.int .i64 (R4 c0 c1 c2 cL (Y7 cM cK n) n true 0)),.v (.int .i64 (R4 c0 c1 c2 cL (Y7 cM cK n) n false 1)),.v (.int .i64 (R4 c0 c1 c2 cL (Y7 cM cK n) n true 1)),.v (.int .i64 (R4 c0 c1 c2 cL (Y7 cM cK n) n false 2)),.v (.int .i64 (R4 c0 c1 c2 cL (Y7 cM cK n) n true 2))] 65]),[m7 k1,E9 m,Y5 j0 n0 c0,Y5 j1 n1 c1,Y5 j2 n2 c2,Y5 k2 n cL,V9 k5 r cM,V9 k6 s cK,U9 [.xl v0 n0 j0 c0,.xl v1 n1 j1 c1,.xl v2 n2 j2 c2] m cL n=0,W6 n cM r=0,W6 n cK s=0])
 |_,_=>none
def b80:R6:=a2W 25 c4O
theorem H3:Known Try.prog (clsO b80):=A5 (fun args xs r ys ps h hp=>by
 unfold c4O at h
 split at h
 ·cases h
  obtain ⟨rfl,rfl,⟨rfl,P0,rfl,rfl⟩,⟨rfl,P1,rfl,rfl⟩,⟨rfl,P2,rfl,rfl⟩,⟨rfl,L,rfl,rfl⟩,⟨rfl,M,rfl,rfl⟩,⟨rfl,K,rfl,rfl⟩,h1,h2,h3,-⟩:=hp
  exact ⟨fun x hx=>absurd hx List.not_mem_nil,fun x hx=>by rw [List.mem_singleton.1 hx];exact v8 (Z4 (show Q7 [.v (.int .i64 (R4 (cR P0) (cR P1) (cR P2) (cR L) (Y7 (cI M) (cI K) L.length) L.length false 0)),.v (.int .i64 (R4 (cR P0) (cR P1) (cR P2) (cR L) (Y7 (cI M) (cI K) L.length) L.length true 0)),.v (.int .i64 (R4 (cR P0) (cR P1) (cR P2) (cR L) (Y7 (cI M) (cI K) L.length) L.length false 1)),.v (.int .i64 (R4 (cR P0) (cR P1) (cR P2) (cR L) (Y7 (cI M) (cI K) L.length) L.length true 1)),.v (.int .i64 (R4 (cR P0) (cR P1) (cR P2) (cR L) (Y7 (cI M) (cI K) L.length) L.length false 2)),.v (.int .i64 (R4 (cR P0) (cR P1) (cR P2) (cR L) (Y7 (cI M) (cI K) L.length) L.length true 2))]=some _ from rfl)),c3G _ _ P0 _ P1 _ P2 _ L _ M _ K h1 h2 h3⟩
 ·cases h)
noncomputable def c2m:Code:=R8 Try.f28
set_option maxHeartbeats 2000000 in
theorem c3K(y:Value)(E:List (Value×List (Int×Int)))(yl:Value)(L:List (Int×Int))(z:Value)(M:List Int)(zk:Value)(K:List Int)(hE3:E.length≤1000)(hM3:M.length≤1000)(hK3:K.length≤1000)(hH:¬ U0 (U9 (Z1 E) E.length (cR L) L.length) (W6 L.length (cI M) M.length) (W6 L.length (cI K) K.length)=0)(w:World)(hs:List Nat):Y4 Try.prog 38 c2m (⟨[(0,(.agg [.xl y E.length 1 (Z1 E),.xl yl L.length 2 (cR L)])),(1,(.xl z M.length 1 (cI M))),(2,(.xl zk K.length 1 (cI K)))],[],0,[]⟩) (BaseW.H w hs) (V3 Try.prog Try.f28 38 (.int .i64 (U0 (U9 (Z1 E) E.length (cR L) L.length) (W6 L.length (cI M) M.length) (W6 L.length (cI K) K.length))) w):=by
 have hcl_L:=Y6 L
 have hcl_M:=Z3 M
 have hcl_K:=Z3 K
 rcases Bool.eq_false_or_eq_true (T9 (U0 (U9 (Z1 E) E.length (cR L) L.length) (W6 L.length (cI M) M.length) (W6 L.length (cI K) K.length)) 0) with hqrse3_1|hqrse3_1
 ·have ghqrse3_1:=Y8 hqrse3_1
  exact absurd (Y8 hqrse3_1) hH
 ·have ghqrse3_1:=X5 hqrse3_1
  exact Z8 W1 (Z7 Try.checked.mixed (a7C) 200 (T':=⟨[(6,(.v (.int .i64 (U0 (U9 (Z1 E) E.length (cR L) L.length) (W6 L.length (cI M) M.length) (W6 L.length (cI K) K.length)))))],[],1,[]⟩) (e:=.ret) (ps:=[W9 (Z1 E),W9 (cR L),W9 (cI M),W9 (cI K),V5 1 (Z1 E) E.length,Y5 2 L.length (cR L),V9 1 M.length (cI M),V9 1 K.length (cI K),E.length≤1000,M.length≤1000,K.length≤1000,¬U0 (U9 (Z1 E) E.length (cR L) L.length) (W6 L.length (cI M) M.length) (W6 L.length (cI K) K.length)=0,(!T9 (U0 (U9 (Z1 E) E.length (cR L) L.length) (W6 L.length (cI M) M.length) (W6 L.length (cI K) K.length)) 0)=true]) [.go,.go,.go,.go,.go,.go,.go,.go,.go,.go,.go,.go,.b true,.go,.go] (by kernel_rfl) (by kernel_rfl) ⟨(X6 E),(Z4 (X4 _)),(Z4 (Z2 _)),(Z4 (Z2 _)),⟨rfl,E,rfl,rfl⟩,⟨rfl,L,rfl,rfl⟩,⟨rfl,M,rfl,rfl⟩,⟨rfl,K,rfl,rfl⟩,(by omega),(by omega),(by omega),hH,(by rw [hqrse3_1];rfl),trivial⟩ rfl) (Hd.en_eq (r:=(.int .i64 (U0 (U9 (Z1 E) E.length (cR L) L.length) (W6 L.length (cI M) M.length) (W6 L.length (cI K) K.length)))) (by rfl) (Hd.en_ret (v:=(.v (.int .i64 (U0 (U9 (Z1 E) E.length (cR L) L.length) (W6 L.length (cI M) M.length) (W6 L.length (cI K) K.length))))) (by kernel_rfl) rfl))
theorem c32(y:Value)(E:List (Value×List (Int×Int)))(yl:Value)(L:List (Int×Int))(z:Value)(M:List Int)(zk:Value)(K:List Int)(hE3:E.length≤1000)(hM3:M.length≤1000)(hK3:K.length≤1000)(hH:¬ U0 (U9 (Z1 E) E.length (cR L) L.length) (W6 L.length (cI M) M.length) (W6 L.length (cI K) K.length)=0):GivesA Try.prog 28 [(.agg [.xl y E.length 1 (Z1 E),.xl yl L.length 2 (cR L)]),(.xl z M.length 1 (cI M)),(.xl zk K.length 1 (cI K))] (.int .i64 (U0 (U9 (Z1 E) E.length (cR L) L.length) (W6 L.length (cI M) M.length) (W6 L.length (cI K) K.length))) :=
 W0 38 Try.func28 (by kernel_rfl) (by kernel_rfl) (by kernel_rfl) (fun w=>W2 (by kernel_rfl) (by kernel_rfl) (by kernel_rfl) (by kernel_rfl) (c3K y E yl L z M zk K hE3 hM3 hK3 hH w []))
noncomputable def c4s:Code:=R8 Try.f28
set_option maxHeartbeats 2000000 in
theorem c50(y v0:Value)(P0:List (Int×Int))(v1:Value)(P1:List (Int×Int))(v2:Value)(P2:List (Int×Int))(yl:Value)(L:List (Int×Int))(z:Value)(M:List Int)(zk:Value)(K:List Int)(hC:U9 (b2n P0 P1 P2 v0 v1 v2) 3 (cR L) L.length=0)(hH1:W6 L.length (cI M) M.length=0)(hH2:W6 L.length (cI K) K.length=0)(w:World)(hs:List Nat):Y4 Try.prog 38 c4s (⟨[(0,(.agg [.xl y 3 1 (b2n P0 P1 P2 v0 v1 v2),.xl yl L.length 2 (cR L)])),(1,(.xl z M.length 1 (cI M))),(2,(.xl zk K.length 1 (cI K)))],[],0,[]⟩) (BaseW.H w hs) (V3 Try.prog Try.f28 38 (.int .i64 (suN (cR P0) (cR P1) (cR P2) (cR L) (Y7 (cI M) (cI K) L.length) L.length)) w):=by
 have hcl_P0:=Y6 P0
 have hcl_P1:=Y6 P1
 have hcl_P2:=Y6 P2
 have hcl_L:=Y6 L
 have hcl_M:=Z3 M
 have hcl_K:=Z3 K
 obtain ⟨hn,-,hrow,hlam,hcur⟩:=T5 hC
 have hM:=(U2 hH1).1
 have hK:=(U2 hH2).1
 rcases Bool.eq_false_or_eq_true (T9 (R4 (cR P0) (cR P1) (cR P2) (cR L) (Y7 (cI M) (cI K) L.length) L.length false 0) 0) with hqrso3_1|hqrso3_1
 ·have ghqrso3_1:=Y8 hqrso3_1
  rcases Bool.eq_false_or_eq_true (T9 (R4 (cR P0) (cR P1) (cR P2) (cR L) (Y7 (cI M) (cI K) L.length) L.length true 0) 0) with hqrso3_2|hqrso3_2
  ·have ghqrso3_2:=Y8 hqrso3_2
   rcases Bool.eq_false_or_eq_true (T9 (R4 (cR P0) (cR P1) (cR P2) (cR L) (Y7 (cI M) (cI K) L.length) L.length false 1) 0) with hqrso3_3|hqrso3_3
   ·have ghqrso3_3:=Y8 hqrso3_3
    rcases Bool.eq_false_or_eq_true (T9 (R4 (cR P0) (cR P1) (cR P2) (cR L) (Y7 (cI M) (cI K) L.length) L.length true 1) 0) with hqrso3_4|hqrso3_4
    ·have ghqrso3_4:=Y8 hqrso3_4
     rcases Bool.eq_false_or_eq_true (T9 (R4 (cR P0) (cR P1) (cR P2) (cR L) (Y7 (cI M) (cI K) L.length) L.length false 2) 0) with hqrso3_5|hqrso3_5
     ·have ghqrso3_5:=Y8 hqrso3_5
      rcases Bool.eq_false_or_eq_true (T9 (R4 (cR P0) (cR P1) (cR P2) (cR L) (Y7 (cI M) (cI K) L.length) L.length true 2) 0) with hqrso3_6|hqrso3_6
      ·have ghqrso3_6:=Y8 hqrso3_6
       exact Z8 W1 (Z7 Try.checked.mixed (H3) 200 (T':=⟨[(6,(.v (.int .i64 (.ofNat 0))))],[],2,[]⟩) (e:=.ret) (ps:=[W9 (l7 P0 P1 P2 v0 v1 v2),W9 (cR L),W9 (cI M),W9 (cI K),m7 1,E9 3,Y5 2 P0.length (cR P0),Y5 2 P1.length (cR P1),Y5 2 P2.length (cR P2),Y5 2 L.length (cR L),V9 1 M.length (cI M),V9 1 K.length (cI K),U9 (l7 P0 P1 P2 v0 v1 v2) 3 (cR L) L.length=0,W6 L.length (cI M) M.length=0,W6 L.length (cI K) K.length=0,(!T9 0 0)=false,X8 0 3=true,(!T9 (R4 (cR P0) (cR P1) (cR P2) (cR L) (Y7 (cI M) (cI K) L.length) L.length false 0) 0)=false,false=false,false=false,false=false,false=false,false=false,(!T9 (R4 (cR P0) (cR P1) (cR P2) (cR L) (Y7 (cI M) (cI K) L.length) L.length true 0) 0)=false,O8 IntKind.i64 (0+1),X8 (0+1) 3=true,(!T9 (R4 (cR P0) (cR P1) (cR P2) (cR L) (Y7 (cI M) (cI K) L.length) L.length false 1) 0)=false,false=false,false=false,false=false,false=false,false=false,(!T9 (R4 (cR P0) (cR P1) (cR P2) (cR L) (Y7 (cI M) (cI K) L.length) L.length true 1) 0)=false,O8 IntKind.i64 (0+1+1),X8 (0+1+1) 3=true,(!T9 (R4 (cR P0) (cR P1) (cR P2) (cR L) (Y7 (cI M) (cI K) L.length) L.length false 2) 0)=false,false=false,false=false,false=false,false=false,false=false,(!T9 (R4 (cR P0) (cR P1) (cR P2) (cR L) (Y7 (cI M) (cI K) L.length) L.length true 2) 0)=false,O8 IntKind.i64 (0+1+1+1),X8 (0+1+1+1) 3=false]) [.go,.go,.go,.go,.go,.go,.go,.go,.go,.go,.go,.go,.b false,.go,.go,.go,.b true,.go,.go,.go,.go,.go,.go,.go,.b false,.go,.b false,.go,.b false,.go,.b false,.go,.b false,.go,.b false,.go,.go,.b false,.go,.go,.go,.go,.go,.b true,.go,.go,.go,.go,.go,.go,.go,.b false,.go,.b false,.go,.b false,.go,.b false,.go,.b false,.go,.b false,.go,.go,.b false,.go,.go,.go,.go,.go,.b true,.go,.go,.go,.go,.go,.go,.go,.b false,.go,.b false,.go,.b false,.go,.b false,.go,.b false,.go,.b false,.go,.go,.b false,.go,.go,.go,.go,.go,.b false,.go] (by kernel_rfl) (by kernel_rfl) ⟨(X6 [(v0,P0),(v1,P1),(v2,P2)]),(Z4 (X4 _)),(Z4 (Z2 _)),(Z4 (Z2 _)),rfl,rfl,⟨rfl,P0,rfl,rfl⟩,⟨rfl,P1,rfl,rfl⟩,⟨rfl,P2,rfl,rfl⟩,⟨rfl,L,rfl,rfl⟩,⟨rfl,M,rfl,rfl⟩,⟨rfl,K,rfl,rfl⟩,hC,hH1,hH2,rfl,rfl,(by rw [hqrso3_1];rfl),rfl,rfl,rfl,rfl,rfl,(by rw [hqrso3_2];rfl),(by show -9223372036854775808≤(_:Int)∧(_:Int)≤9223372036854775807;constructor<;>decide),rfl,(by rw [hqrso3_3];rfl),rfl,rfl,rfl,rfl,rfl,(by rw [hqrso3_4];rfl),(by show -9223372036854775808≤(_:Int)∧(_:Int)≤9223372036854775807;constructor<;>decide),rfl,(by rw [hqrso3_5];rfl),rfl,rfl,rfl,rfl,rfl,(by rw [hqrso3_6];rfl),(by show -9223372036854775808≤(_:Int)∧(_:Int)≤9223372036854775807;constructor<;>decide),rfl,trivial⟩ rfl) (Hd.en_eq (r:=(.int .i64 0)) (by (rw [b0J ⟨Y8 hqrso3_2,Y8 hqrso3_4,Y8 hqrso3_6⟩ ⟨Y8 hqrso3_1,Y8 hqrso3_3,Y8 hqrso3_5⟩])) (Hd.en_ret (v:=(.v (.int .i64 (.ofNat 0)))) (by kernel_rfl) rfl))
      ·have ghqrso3_6:=X5 hqrso3_6
       exact Z8 W1 (Z7 Try.checked.mixed (H3) 200 (T':=a7l) (e:=.ret) (ps:=[W9 (l7 P0 P1 P2 v0 v1 v2),W9 (cR L),W9 (cI M),W9 (cI K),m7 1,E9 3,Y5 2 P0.length (cR P0),Y5 2 P1.length (cR P1),Y5 2 P2.length (cR P2),Y5 2 L.length (cR L),V9 1 M.length (cI M),V9 1 K.length (cI K),U9 (l7 P0 P1 P2 v0 v1 v2) 3 (cR L) L.length=0,W6 L.length (cI M) M.length=0,W6 L.length (cI K) K.length=0,(!T9 0 0)=false,X8 0 3=true,(!T9 (R4 (cR P0) (cR P1) (cR P2) (cR L) (Y7 (cI M) (cI K) L.length) L.length false 0) 0)=false,false=false,false=false,false=false,false=false,false=false,(!T9 (R4 (cR P0) (cR P1) (cR P2) (cR L) (Y7 (cI M) (cI K) L.length) L.length true 0) 0)=false,O8 IntKind.i64 (0+1),X8 (0+1) 3=true,(!T9 (R4 (cR P0) (cR P1) (cR P2) (cR L) (Y7 (cI M) (cI K) L.length) L.length false 1) 0)=false,false=false,false=false,false=false,false=false,false=false,(!T9 (R4 (cR P0) (cR P1) (cR P2) (cR L) (Y7 (cI M) (cI K) L.length) L.length true 1) 0)=false,O8 IntKind.i64 (0+1+1),X8 (0+1+1) 3=true,(!T9 (R4 (cR P0) (cR P1) (cR P2) (cR L) (Y7 (cI M) (cI K) L.length) L.length false 2) 0)=false,false=false,false=false,false=false,false=false,false=false,(!T9 (R4 (cR P0) (cR P1) (cR P2) (cR L) (Y7 (cI M) (cI K) L.length) L.length true 2) 0)=true]) [.go,.go,.go,.go,.go,.go,.go,.go,.go,.go,.go,.go,.b false,.go,.go,.go,.b true,.go,.go,.go,.go,.go,.go,.go,.b false,.go,.b false,.go,.b false,.go,.b false,.go,.b false,.go,.b false,.go,.go,.b false,.go,.go,.go,.go,.go,.b true,.go,.go,.go,.go,.go,.go,.go,.b false,.go,.b false,.go,.b false,.go,.b false,.go,.b false,.go,.b false,.go,.go,.b false,.go,.go,.go,.go,.go,.b true,.go,.go,.go,.go,.go,.go,.go,.b false,.go,.b false,.go,.b false,.go,.b false,.go,.b false,.go,.b false,.go,.go,.b true,.go] (by kernel_rfl) (by kernel_rfl) ⟨(X6 [(v0,P0),(v1,P1),(v2,P2)]),(Z4 (X4 _)),(Z4 (Z2 _)),(Z4 (Z2 _)),rfl,rfl,⟨rfl,P0,rfl,rfl⟩,⟨rfl,P1,rfl,rfl⟩,⟨rfl,P2,rfl,rfl⟩,⟨rfl,L,rfl,rfl⟩,⟨rfl,M,rfl,rfl⟩,⟨rfl,K,rfl,rfl⟩,hC,hH1,hH2,rfl,rfl,(by rw [hqrso3_1];rfl),rfl,rfl,rfl,rfl,rfl,(by rw [hqrso3_2];rfl),(by show -9223372036854775808≤(_:Int)∧(_:Int)≤9223372036854775807;constructor<;>decide),rfl,(by rw [hqrso3_3];rfl),rfl,rfl,rfl,rfl,rfl,(by rw [hqrso3_4];rfl),(by show -9223372036854775808≤(_:Int)∧(_:Int)≤9223372036854775807;constructor<;>decide),rfl,(by rw [hqrso3_5];rfl),rfl,rfl,rfl,rfl,rfl,(by rw [hqrso3_6];rfl),trivial⟩ rfl) (Hd.en_eq (r:=(.int .i64 19)) (by (rw [a9G (fun q=>X5 hqrso3_6 q.2.2)])) (Hd.en_ret (v:=(.v (.int .i64 (.ofNat 19)))) (by kernel_rfl) rfl))
     ·have ghqrso3_5:=X5 hqrso3_5
      exact Z8 W1 (Z7 Try.checked.mixed (H3) 200 (T':=a7l) (e:=.ret) (ps:=[W9 (l7 P0 P1 P2 v0 v1 v2),W9 (cR L),W9 (cI M),W9 (cI K),m7 1,E9 3,Y5 2 P0.length (cR P0),Y5 2 P1.length (cR P1),Y5 2 P2.length (cR P2),Y5 2 L.length (cR L),V9 1 M.length (cI M),V9 1 K.length (cI K),U9 (l7 P0 P1 P2 v0 v1 v2) 3 (cR L) L.length=0,W6 L.length (cI M) M.length=0,W6 L.length (cI K) K.length=0,(!T9 0 0)=false,X8 0 3=true,(!T9 (R4 (cR P0) (cR P1) (cR P2) (cR L) (Y7 (cI M) (cI K) L.length) L.length false 0) 0)=false,false=false,false=false,false=false,false=false,false=false,(!T9 (R4 (cR P0) (cR P1) (cR P2) (cR L) (Y7 (cI M) (cI K) L.length) L.length true 0) 0)=false,O8 IntKind.i64 (0+1),X8 (0+1) 3=true,(!T9 (R4 (cR P0) (cR P1) (cR P2) (cR L) (Y7 (cI M) (cI K) L.length) L.length false 1) 0)=false,false=false,false=false,false=false,false=false,false=false,(!T9 (R4 (cR P0) (cR P1) (cR P2) (cR L) (Y7 (cI M) (cI K) L.length) L.length true 1) 0)=false,O8 IntKind.i64 (0+1+1),X8 (0+1+1) 3=true,(!T9 (R4 (cR P0) (cR P1) (cR P2) (cR L) (Y7 (cI M) (cI K) L.length) L.length false 2) 0)=true,true=true,true=true,true=true,true=true,true=true,true=true]) [.go,.go,.go,.go,.go,.go,.go,.go,.go,.go,.go,.go,.b false,.go,.go,.go,.b true,.go,.go,.go,.go,.go,.go,.go,.b false,.go,.b false,.go,.b false,.go,.b false,.go,.b false,.go,.b false,.go,.go,.b false,.go,.go,.go,.go,.go,.b true,.go,.go,.go,.go,.go,.go,.go,.b false,.go,.b false,.go,.b false,.go,.b false,.go,.b false,.go,.b false,.go,.go,.b false,.go,.go,.go,.go,.go,.b true,.go,.go,.go,.go,.go,.go,.go,.b true,.b true,.b true,.b true,.b true,.b true,.go,.b true,.go] (by kernel_rfl) (by kernel_rfl) ⟨(X6 [(v0,P0),(v1,P1),(v2,P2)]),(Z4 (X4 _)),(Z4 (Z2 _)),(Z4 (Z2 _)),rfl,rfl,⟨rfl,P0,rfl,rfl⟩,⟨rfl,P1,rfl,rfl⟩,⟨rfl,P2,rfl,rfl⟩,⟨rfl,L,rfl,rfl⟩,⟨rfl,M,rfl,rfl⟩,⟨rfl,K,rfl,rfl⟩,hC,hH1,hH2,rfl,rfl,(by rw [hqrso3_1];rfl),rfl,rfl,rfl,rfl,rfl,(by rw [hqrso3_2];rfl),(by show -9223372036854775808≤(_:Int)∧(_:Int)≤9223372036854775807;constructor<;>decide),rfl,(by rw [hqrso3_3];rfl),rfl,rfl,rfl,rfl,rfl,(by rw [hqrso3_4];rfl),(by show -9223372036854775808≤(_:Int)∧(_:Int)≤9223372036854775807;constructor<;>decide),rfl,(by rw [hqrso3_5];rfl),rfl,rfl,rfl,rfl,rfl,rfl,trivial⟩ rfl) (Hd.en_eq (r:=(.int .i64 19)) (by (rw [a90 (fun q=>X5 hqrso3_5 q.2.2)])) (Hd.en_ret (v:=(.v (.int .i64 (.ofNat 19)))) (by kernel_rfl) rfl))
    ·have ghqrso3_4:=X5 hqrso3_4
     exact Z8 W1 (Z7 Try.checked.mixed (H3) 200 (T':=a7l) (e:=.ret) (ps:=[W9 (l7 P0 P1 P2 v0 v1 v2),W9 (cR L),W9 (cI M),W9 (cI K),m7 1,E9 3,Y5 2 P0.length (cR P0),Y5 2 P1.length (cR P1),Y5 2 P2.length (cR P2),Y5 2 L.length (cR L),V9 1 M.length (cI M),V9 1 K.length (cI K),U9 (l7 P0 P1 P2 v0 v1 v2) 3 (cR L) L.length=0,W6 L.length (cI M) M.length=0,W6 L.length (cI K) K.length=0,(!T9 0 0)=false,X8 0 3=true,(!T9 (R4 (cR P0) (cR P1) (cR P2) (cR L) (Y7 (cI M) (cI K) L.length) L.length false 0) 0)=false,false=false,false=false,false=false,false=false,false=false,(!T9 (R4 (cR P0) (cR P1) (cR P2) (cR L) (Y7 (cI M) (cI K) L.length) L.length true 0) 0)=false,O8 IntKind.i64 (0+1),X8 (0+1) 3=true,(!T9 (R4 (cR P0) (cR P1) (cR P2) (cR L) (Y7 (cI M) (cI K) L.length) L.length false 1) 0)=false,false=false,false=false,false=false,false=false,false=false,(!T9 (R4 (cR P0) (cR P1) (cR P2) (cR L) (Y7 (cI M) (cI K) L.length) L.length true 1) 0)=true]) [.go,.go,.go,.go,.go,.go,.go,.go,.go,.go,.go,.go,.b false,.go,.go,.go,.b true,.go,.go,.go,.go,.go,.go,.go,.b false,.go,.b false,.go,.b false,.go,.b false,.go,.b false,.go,.b false,.go,.go,.b false,.go,.go,.go,.go,.go,.b true,.go,.go,.go,.go,.go,.go,.go,.b false,.go,.b false,.go,.b false,.go,.b false,.go,.b false,.go,.b false,.go,.go,.b true,.go] (by kernel_rfl) (by kernel_rfl) ⟨(X6 [(v0,P0),(v1,P1),(v2,P2)]),(Z4 (X4 _)),(Z4 (Z2 _)),(Z4 (Z2 _)),rfl,rfl,⟨rfl,P0,rfl,rfl⟩,⟨rfl,P1,rfl,rfl⟩,⟨rfl,P2,rfl,rfl⟩,⟨rfl,L,rfl,rfl⟩,⟨rfl,M,rfl,rfl⟩,⟨rfl,K,rfl,rfl⟩,hC,hH1,hH2,rfl,rfl,(by rw [hqrso3_1];rfl),rfl,rfl,rfl,rfl,rfl,(by rw [hqrso3_2];rfl),(by show -9223372036854775808≤(_:Int)∧(_:Int)≤9223372036854775807;constructor<;>decide),rfl,(by rw [hqrso3_3];rfl),rfl,rfl,rfl,rfl,rfl,(by rw [hqrso3_4];rfl),trivial⟩ rfl) (Hd.en_eq (r:=(.int .i64 19)) (by (rw [a9G (fun q=>X5 hqrso3_4 q.2.1)])) (Hd.en_ret (v:=(.v (.int .i64 (.ofNat 19)))) (by kernel_rfl) rfl))
   ·have ghqrso3_3:=X5 hqrso3_3
    exact Z8 W1 (Z7 Try.checked.mixed (H3) 200 (T':=a7l) (e:=.ret) (ps:=[W9 (l7 P0 P1 P2 v0 v1 v2),W9 (cR L),W9 (cI M),W9 (cI K),m7 1,E9 3,Y5 2 P0.length (cR P0),Y5 2 P1.length (cR P1),Y5 2 P2.length (cR P2),Y5 2 L.length (cR L),V9 1 M.length (cI M),V9 1 K.length (cI K),U9 (l7 P0 P1 P2 v0 v1 v2) 3 (cR L) L.length=0,W6 L.length (cI M) M.length=0,W6 L.length (cI K) K.length=0,(!T9 0 0)=false,X8 0 3=true,(!T9 (R4 (cR P0) (cR P1) (cR P2) (cR L) (Y7 (cI M) (cI K) L.length) L.length false 0) 0)=false,false=false,false=false,false=false,false=false,false=false,(!T9 (R4 (cR P0) (cR P1) (cR P2) (cR L) (Y7 (cI M) (cI K) L.length) L.length true 0) 0)=false,O8 IntKind.i64 (0+1),X8 (0+1) 3=true,(!T9 (R4 (cR P0) (cR P1) (cR P2) (cR L) (Y7 (cI M) (cI K) L.length) L.length false 1) 0)=true,true=true,true=true,true=true,true=true,true=true,true=true]) [.go,.go,.go,.go,.go,.go,.go,.go,.go,.go,.go,.go,.b false,.go,.go,.go,.b true,.go,.go,.go,.go,.go,.go,.go,.b false,.go,.b false,.go,.b false,.go,.b false,.go,.b false,.go,.b false,.go,.go,.b false,.go,.go,.go,.go,.go,.b true,.go,.go,.go,.go,.go,.go,.go,.b true,.b true,.b true,.b true,.b true,.b true,.go,.b true,.go] (by kernel_rfl) (by kernel_rfl) ⟨(X6 [(v0,P0),(v1,P1),(v2,P2)]),(Z4 (X4 _)),(Z4 (Z2 _)),(Z4 (Z2 _)),rfl,rfl,⟨rfl,P0,rfl,rfl⟩,⟨rfl,P1,rfl,rfl⟩,⟨rfl,P2,rfl,rfl⟩,⟨rfl,L,rfl,rfl⟩,⟨rfl,M,rfl,rfl⟩,⟨rfl,K,rfl,rfl⟩,hC,hH1,hH2,rfl,rfl,(by rw [hqrso3_1];rfl),rfl,rfl,rfl,rfl,rfl,(by rw [hqrso3_2];rfl),(by show -9223372036854775808≤(_:Int)∧(_:Int)≤9223372036854775807;constructor<;>decide),rfl,(by rw [hqrso3_3];rfl),rfl,rfl,rfl,rfl,rfl,rfl,trivial⟩ rfl) (Hd.en_eq (r:=(.int .i64 19)) (by (rw [a90 (fun q=>X5 hqrso3_3 q.2.1)])) (Hd.en_ret (v:=(.v (.int .i64 (.ofNat 19)))) (by kernel_rfl) rfl))
  ·have ghqrso3_2:=X5 hqrso3_2
   exact Z8 W1 (Z7 Try.checked.mixed (H3) 200 (T':=a7l) (e:=.ret) (ps:=[W9 (l7 P0 P1 P2 v0 v1 v2),W9 (cR L),W9 (cI M),W9 (cI K),m7 1,E9 3,Y5 2 P0.length (cR P0),Y5 2 P1.length (cR P1),Y5 2 P2.length (cR P2),Y5 2 L.length (cR L),V9 1 M.length (cI M),V9 1 K.length (cI K),U9 (l7 P0 P1 P2 v0 v1 v2) 3 (cR L) L.length=0,W6 L.length (cI M) M.length=0,W6 L.length (cI K) K.length=0,(!T9 0 0)=false,X8 0 3=true,(!T9 (R4 (cR P0) (cR P1) (cR P2) (cR L) (Y7 (cI M) (cI K) L.length) L.length false 0) 0)=false,false=false,false=false,false=false,false=false,false=false,(!T9 (R4 (cR P0) (cR P1) (cR P2) (cR L) (Y7 (cI M) (cI K) L.length) L.length true 0) 0)=true]) [.go,.go,.go,.go,.go,.go,.go,.go,.go,.go,.go,.go,.b false,.go,.go,.go,.b true,.go,.go,.go,.go,.go,.go,.go,.b false,.go,.b false,.go,.b false,.go,.b false,.go,.b false,.go,.b false,.go,.go,.b true,.go] (by kernel_rfl) (by kernel_rfl) ⟨(X6 [(v0,P0),(v1,P1),(v2,P2)]),(Z4 (X4 _)),(Z4 (Z2 _)),(Z4 (Z2 _)),rfl,rfl,⟨rfl,P0,rfl,rfl⟩,⟨rfl,P1,rfl,rfl⟩,⟨rfl,P2,rfl,rfl⟩,⟨rfl,L,rfl,rfl⟩,⟨rfl,M,rfl,rfl⟩,⟨rfl,K,rfl,rfl⟩,hC,hH1,hH2,rfl,rfl,(by rw [hqrso3_1];rfl),rfl,rfl,rfl,rfl,rfl,(by rw [hqrso3_2];rfl),trivial⟩ rfl) (Hd.en_eq (r:=(.int .i64 19)) (by (rw [a9G (fun q=>X5 hqrso3_2 q.1)])) (Hd.en_ret (v:=(.v (.int .i64 (.ofNat 19)))) (by kernel_rfl) rfl))
 ·have ghqrso3_1:=X5 hqrso3_1
  exact Z8 W1 (Z7 Try.checked.mixed (H3) 200 (T':=a7l) (e:=.ret) (ps:=[W9 (l7 P0 P1 P2 v0 v1 v2),W9 (cR L),W9 (cI M),W9 (cI K),m7 1,E9 3,Y5 2 P0.length (cR P0),Y5 2 P1.length (cR P1),Y5 2 P2.length (cR P2),Y5 2 L.length (cR L),V9 1 M.length (cI M),V9 1 K.length (cI K),U9 (l7 P0 P1 P2 v0 v1 v2) 3 (cR L) L.length=0,W6 L.length (cI M) M.length=0,W6 L.length (cI K) K.length=0,(!T9 0 0)=false,X8 0 3=true,(!T9 (R4 (cR P0) (cR P1) (cR P2) (cR L) (Y7 (cI M) (cI K) L.length) L.length false 0) 0)=true,true=true,true=true,true=true,true=true,true=true,true=true]) [.go,.go,.go,.go,.go,.go,.go,.go,.go,.go,.go,.go,.b false,.go,.go,.go,.b true,.go,.go,.go,.go,.go,.go,.go,.b true,.b true,.b true,.b true,.b true,.b true,.go,.b true,.go] (by kernel_rfl) (by kernel_rfl) ⟨(X6 [(v0,P0),(v1,P1),(v2,P2)]),(Z4 (X4 _)),(Z4 (Z2 _)),(Z4 (Z2 _)),rfl,rfl,⟨rfl,P0,rfl,rfl⟩,⟨rfl,P1,rfl,rfl⟩,⟨rfl,P2,rfl,rfl⟩,⟨rfl,L,rfl,rfl⟩,⟨rfl,M,rfl,rfl⟩,⟨rfl,K,rfl,rfl⟩,hC,hH1,hH2,rfl,rfl,(by rw [hqrso3_1];rfl),rfl,rfl,rfl,rfl,rfl,rfl,trivial⟩ rfl) (Hd.en_eq (r:=(.int .i64 19)) (by (rw [a90 (fun q=>X5 hqrso3_1 q.1)])) (Hd.en_ret (v:=(.v (.int .i64 (.ofNat 19)))) (by kernel_rfl) rfl))
theorem c3R(y v0:Value)(P0:List (Int×Int))(v1:Value)(P1:List (Int×Int))(v2:Value)(P2:List (Int×Int))(yl:Value)(L:List (Int×Int))(z:Value)(M:List Int)(zk:Value)(K:List Int)(hC:U9 (b2n P0 P1 P2 v0 v1 v2) 3 (cR L) L.length=0)(hH1:W6 L.length (cI M) M.length=0)(hH2:W6 L.length (cI K) K.length=0):GivesA Try.prog 28 [(.agg [.xl y 3 1 (b2n P0 P1 P2 v0 v1 v2),.xl yl L.length 2 (cR L)]),(.xl z M.length 1 (cI M)),(.xl zk K.length 1 (cI K))] (.int .i64 (suN (cR P0) (cR P1) (cR P2) (cR L) (Y7 (cI M) (cI K) L.length) L.length)) :=
 W0 38 Try.func28 (by kernel_rfl) (by kernel_rfl) (by kernel_rfl) (fun w=>W2 (by kernel_rfl) (by kernel_rfl) (by kernel_rfl) (by kernel_rfl) (c50 y v0 P0 v1 P1 v2 P2 yl L z M zk K hC hH1 hH2 w []))
theorem c1B{cE cL cM cK:List AV}{m n r s:Nat}:¬ U0 (U9 cE m cL n) (W6 n cM r) (W6 n cK s)=19:=by
 have h1:¬ U9 cE m cL n=19:=by unfold U9;(repeat' split)<;>decide
 have h2:∀ {d k},¬ W6 n d k=19:=fun {d k}=>by unfold W6;(repeat' split)<;>decide
 unfold U0
 split
 ·split
  ·exact h2
  ·exact h2
 ·exact h1
end
end Go.Proofs.Ytegmogadbnfbgaa
set_option maxHeartbeats 2000000
set_option linter.all false
/- What is known of the reference's Surely. -/
namespace Go.Proofs.Ytegmogadbnfbgaa
open Go Ev
noncomputable section
section
variable (K : List Int) (L : List (Int × Int)) (M : List Int) (P0 P1 P2 : List (Int × Int)) (v0 v1 v2 y yl z zk : Value)
@[reducible] def a9w:List Ev.AV:=[.xl v0 P0.length 2 (cR P0),.xl v1 P1.length 2 (cR P1),.xl v2 P2.length 2 (cR P2)]
@[reducible] def b5l:Ev.AV:=(.agg [.xl y 3 1 (a9w P0 P1 P2 v0 v1 v2),.xl yl L.length 2 (cR L)])
@[reducible] def b8a:Ev.Lit:=⟨[(0,(b5l L P0 P1 P2 v0 v1 v2 y yl)),(1,(.xl z M.length 1 (cI M))),(2,(.xl zk K.length 1 (cI K)))],[],0,[]⟩
end
def c2A:List AV→Option (C9×List Prop):=fun vs =>
 match vs with
 |[.agg [.xl y m k1 cE,.xl yl n k2 cL],.xl z r k5 cM,.xl zk s k6 cK]=>some (.val (.v (.int .i64 (U0 (U9 cE m cL n) (W6 n cM r) (W6 n cK s)))),[V5 k1 cE m,Y5 k2 n cL,V9 k5 r cM,V9 k6 s cK,m≤1000,r≤1000,s≤1000,¬ U0 (U9 cE m cL n) (W6 n cM r) (W6 n cK s)=0])
 |_=>none
def c2Y:R6:=H8 28 c2A
theorem a7h:Known Try.prog (clsO c2Y):=O2 (fun vs r ps h hp=>by
 unfold c2A at h
 split at h
 ·cases h
  obtain ⟨⟨rfl,E,rfl,rfl⟩,⟨rfl,L,rfl,rfl⟩,⟨rfl,M,rfl,rfl⟩,⟨rfl,K,rfl,rfl⟩,h1,h2,h3,h4,-⟩:=hp
  exact ⟨X3 (D3 (X3 (U3 (Q3 E)) (X3 (U3 (W3 (X4 L))) S8))) (X3 (U3 (W3 (Z2 M))) (X3 (U3 (W3 (Z2 K))) S8)),_,rfl,c32 _ E _ L _ M _ K h1 h2 h3 h4⟩
 ·cases h)
def c55:List AV→Option (C9×List Prop):=fun vs =>
 match vs with
 |[.agg [.xl y m k1 [.xl v0 n0 j0 c0,.xl v1 n1 j1 c1,.xl v2 n2 j2 c2],.xl yl n k2 cL],.xl z r k5 cM,.xl zk s k6 cK]=>some (.val (.v (.int .i64 (suN c0 c1 c2 cL (Y7 cM cK n) n))),[m7 k1,E9 m,Y5 j0 n0 c0,Y5 j1 n1 c1,Y5 j2 n2 c2,Y5 k2 n cL,V9 k5 r cM,V9 k6 s cK,U9 [.xl v0 n0 j0 c0,.xl v1 n1 j1 c1,.xl v2 n2 j2 c2] m cL n=0,W6 n cM r=0,W6 n cK s=0])
 |_=>none
def b7K:R6:=H8 28 c55
theorem e8:Known Try.prog (clsO b7K):=O2 (fun vs r ps h hp=>by
 unfold c55 at h
 split at h
 ·cases h
  obtain ⟨rfl,rfl,⟨rfl,P0,rfl,rfl⟩,⟨rfl,P1,rfl,rfl⟩,⟨rfl,P2,rfl,rfl⟩,⟨rfl,L,rfl,rfl⟩,⟨rfl,M,rfl,rfl⟩,⟨rfl,K,rfl,rfl⟩,h1,h2,h3,-⟩:=hp
  exact ⟨X3 (D3 (X3 (U3 (Q3 [(_,P0),(_,P1),(_,P2)])) (X3 (U3 (W3 (X4 L))) S8))) (X3 (U3 (W3 (Z2 M))) (X3 (U3 (W3 (Z2 K))) S8)),_,rfl,c3R _ _ P0 _ P1 _ P2 _ L _ M _ K h1 h2 h3⟩
 ·cases h)
noncomputable def c3g:Code:=R8 Try.f29
theorem c2S(y:Value)(E:List (Value×List (Int×Int)))(yl:Value)(L:List (Int×Int))(z:Value)(M:List Int)(zk:Value)(K:List Int)(hE3:E.length≤1000)(hM3:M.length≤1000)(hK3:K.length≤1000)(hH:¬ U0 (U9 (Z1 E) E.length (cR L) L.length) (W6 L.length (cI M) M.length) (W6 L.length (cI K) K.length)=0)(w:World)(hs:List Nat):Y4 Try.prog 17 c3g (⟨[(0,(.agg [.xl y E.length 1 (Z1 E),.xl yl L.length 2 (cR L)])),(1,(.xl z M.length 1 (cI M))),(2,(.xl zk K.length 1 (cI K)))],[],0,[]⟩) (BaseW.H w hs) (V3 Try.prog Try.f29 17 (.int .i64 (U0 (U9 (Z1 E) E.length (cR L) L.length) (W6 L.length (cI M) M.length) (W6 L.length (cI K) K.length))) w):=by
 have hcl_L:=Y6 L
 have hcl_M:=Z3 M
 have hcl_K:=Z3 K
 rcases Bool.eq_false_or_eq_true (T9 (U0 (U9 (Z1 E) E.length (cR L) L.length) (W6 L.length (cI M) M.length) (W6 L.length (cI K) K.length)) 0) with hqrpe3_1|hqrpe3_1
 ·have ghqrpe3_1:=Y8 hqrpe3_1
  exact absurd (Y8 hqrpe3_1) hH
 ·have ghqrpe3_1:=X5 hqrpe3_1
  rcases Bool.eq_false_or_eq_true (T9 (U0 (U9 (Z1 E) E.length (cR L) L.length) (W6 L.length (cI M) M.length) (W6 L.length (cI K) K.length)) 19) with hqrpe3_2|hqrpe3_2
  ·have ghqrpe3_2:=Y8 hqrpe3_2
   exact absurd (Y8 hqrpe3_2) c1B
  ·have ghqrpe3_2:=X5 hqrpe3_2
   exact Z8 W1 (Z7 Try.checked.mixed (a7h) 200 (T':=⟨[(6,(.v (.int .i64 (U0 (U9 (Z1 E) E.length (cR L) L.length) (W6 L.length (cI M) M.length) (W6 L.length (cI K) K.length)))))],[],1,[]⟩) (e:=.ret) (ps:=[V5 1 (Z1 E) E.length,Y5 2 L.length (cR L),V9 1 M.length (cI M),V9 1 K.length (cI K),E.length≤1000,M.length≤1000,K.length≤1000,¬U0 (U9 (Z1 E) E.length (cR L) L.length) (W6 L.length (cI M) M.length) (W6 L.length (cI K) K.length)=0,T9 (U0 (U9 (Z1 E) E.length (cR L) L.length) (W6 L.length (cI M) M.length) (W6 L.length (cI K) K.length)) 0=false,T9 (U0 (U9 (Z1 E) E.length (cR L) L.length) (W6 L.length (cI M) M.length) (W6 L.length (cI K) K.length)) 19=false]) [.go,.go,.go,.go,.go,.go,.go,.go,.b false,.go,.go,.b false,.go,.go] (by kernel_rfl) (by kernel_rfl) ⟨⟨rfl,E,rfl,rfl⟩,⟨rfl,L,rfl,rfl⟩,⟨rfl,M,rfl,rfl⟩,⟨rfl,K,rfl,rfl⟩,(by omega),(by omega),(by omega),hH,hqrpe3_1,hqrpe3_2,trivial⟩ rfl) (Hd.en_eq (r:=(.int .i64 (U0 (U9 (Z1 E) E.length (cR L) L.length) (W6 L.length (cI M) M.length) (W6 L.length (cI K) K.length)))) (by rfl) (Hd.en_ret (v:=(.v (.int .i64 (U0 (U9 (Z1 E) E.length (cR L) L.length) (W6 L.length (cI M) M.length) (W6 L.length (cI K) K.length))))) (by kernel_rfl) rfl))
theorem c2q(y:Value)(E:List (Value×List (Int×Int)))(yl:Value)(L:List (Int×Int))(z:Value)(M:List Int)(zk:Value)(K:List Int)(hE3:E.length≤1000)(hM3:M.length≤1000)(hK3:K.length≤1000)(hH:¬ U0 (U9 (Z1 E) E.length (cR L) L.length) (W6 L.length (cI M) M.length) (W6 L.length (cI K) K.length)=0):GivesA Try.prog 29 [(.agg [.xl y E.length 1 (Z1 E),.xl yl L.length 2 (cR L)]),(.xl z M.length 1 (cI M)),(.xl zk K.length 1 (cI K))] (.int .i64 (U0 (U9 (Z1 E) E.length (cR L) L.length) (W6 L.length (cI M) M.length) (W6 L.length (cI K) K.length))) :=
 W0 17 Try.func29 (by kernel_rfl) (by kernel_rfl) (by kernel_rfl) (fun w=>W2 (by kernel_rfl) (by kernel_rfl) (by kernel_rfl) (by kernel_rfl) (c2S y E yl L z M zk K hE3 hM3 hK3 hH w []))
noncomputable def c2n:Code:=R8 Try.f29
theorem c4g(y v0:Value)(P0:List (Int×Int))(v1:Value)(P1:List (Int×Int))(v2:Value)(P2:List (Int×Int))(yl:Value)(L:List (Int×Int))(z:Value)(M:List Int)(zk:Value)(K:List Int)(hC:U9 (a9w P0 P1 P2 v0 v1 v2) 3 (cR L) L.length=0)(hH1:W6 L.length (cI M) M.length=0)(hH2:W6 L.length (cI K) K.length=0)(hZ:suN (cR P0) (cR P1) (cR P2) (cR L) (Y7 (cI M) (cI K) L.length) L.length=0)(w:World)(hs:List Nat):Y4 Try.prog 17 c2n ((b8a K L M P0 P1 P2 v0 v1 v2 y yl z zk)) (BaseW.H w hs) (V3 Try.prog Try.f29 17 (.int .i64 (5)) w):=by
 have hcl_P0:=Y6 P0
 have hcl_P1:=Y6 P1
 have hcl_P2:=Y6 P2
 have hcl_L:=Y6 L
 have hcl_M:=Z3 M
 have hcl_K:=Z3 K
 obtain ⟨hn,-,hrow,hlam,hcur⟩:=T5 hC
 have hM:=(U2 hH1).1
 have hK:=(U2 hH2).1
 rcases Bool.eq_false_or_eq_true (T9 (suN (cR P0) (cR P1) (cR P2) (cR L) (Y7 (cI M) (cI K) L.length) L.length) 0) with hqrpz3_1|hqrpz3_1
 ·have ghqrpz3_1:=Y8 hqrpz3_1
  exact Z8 W1 (Z7 Try.checked.mixed (e8) 200 (T':=⟨[(6,(.v (.int .i64 (.ofNat 5))))],[],1,[]⟩) (e:=.ret) (ps:=[m7 1,E9 3,Y5 2 P0.length (cR P0),Y5 2 P1.length (cR P1),Y5 2 P2.length (cR P2),Y5 2 L.length (cR L),V9 1 M.length (cI M),V9 1 K.length (cI K),U9 [AV.xl v0 P0.length 2 (cR P0),AV.xl v1 P1.length 2 (cR P1),AV.xl v2 P2.length 2 (cR P2)] 3 (cR L) L.length=0,W6 L.length (cI M) M.length=0,W6 L.length (cI K) K.length=0,T9 (suN (cR P0) (cR P1) (cR P2) (cR L) (Y7 (cI M) (cI K) L.length) L.length) 0=true]) [.go,.go,.go,.go,.go,.go,.go,.go,.b true,.go] (by kernel_rfl) (by kernel_rfl) ⟨rfl,rfl,⟨rfl,P0,rfl,rfl⟩,⟨rfl,P1,rfl,rfl⟩,⟨rfl,P2,rfl,rfl⟩,⟨rfl,L,rfl,rfl⟩,⟨rfl,M,rfl,rfl⟩,⟨rfl,K,rfl,rfl⟩,hC,hH1,hH2,hqrpz3_1,trivial⟩ rfl) (Hd.en_eq (r:=(.int .i64 5)) (by rfl) (Hd.en_ret (v:=(.v (.int .i64 (.ofNat 5)))) (by kernel_rfl) rfl))
 ·have ghqrpz3_1:=X5 hqrpz3_1
  rcases Bool.eq_false_or_eq_true (T9 (suN (cR P0) (cR P1) (cR P2) (cR L) (Y7 (cI M) (cI K) L.length) L.length) 19) with hqrpz3_2|hqrpz3_2
  ·have ghqrpz3_2:=Y8 hqrpz3_2
   exact absurd hZ (X5 hqrpz3_1)
  ·have ghqrpz3_2:=X5 hqrpz3_2
   exact absurd hZ (X5 hqrpz3_1)
theorem c5C(y v0:Value)(P0:List (Int×Int))(v1:Value)(P1:List (Int×Int))(v2:Value)(P2:List (Int×Int))(yl:Value)(L:List (Int×Int))(z:Value)(M:List Int)(zk:Value)(K:List Int)(hC:U9 (a9w P0 P1 P2 v0 v1 v2) 3 (cR L) L.length=0)(hH1:W6 L.length (cI M) M.length=0)(hH2:W6 L.length (cI K) K.length=0)(hZ:suN (cR P0) (cR P1) (cR P2) (cR L) (Y7 (cI M) (cI K) L.length) L.length=0):GivesA Try.prog 29 [(b5l L P0 P1 P2 v0 v1 v2 y yl),(.xl z M.length 1 (cI M)),(.xl zk K.length 1 (cI K))] (.int .i64 (5)) :=
 W0 17 Try.func29 (by kernel_rfl) (by kernel_rfl) (by kernel_rfl) (fun w=>W2 (by kernel_rfl) (by kernel_rfl) (by kernel_rfl) (by kernel_rfl) (c4g y v0 P0 v1 P1 v2 P2 yl L z M zk K hC hH1 hH2 hZ w []))
noncomputable def c2P:Code:=R8 Try.f29
theorem c2K(y v0:Value)(P0:List (Int×Int))(v1:Value)(P1:List (Int×Int))(v2:Value)(P2:List (Int×Int))(yl:Value)(L:List (Int×Int))(z:Value)(M:List Int)(zk:Value)(K:List Int)(hC:U9 (a9w P0 P1 P2 v0 v1 v2) 3 (cR L) L.length=0)(hH1:W6 L.length (cI M) M.length=0)(hH2:W6 L.length (cI K) K.length=0)(hZ:suN (cR P0) (cR P1) (cR P2) (cR L) (Y7 (cI M) (cI K) L.length) L.length=19)(w:World)(hs:List Nat):Y4 Try.prog 17 c2P ((b8a K L M P0 P1 P2 v0 v1 v2 y yl z zk)) (BaseW.H w hs) (V3 Try.prog Try.f29 17 (.int .i64 (0)) w):=by
 have hcl_P0:=Y6 P0
 have hcl_P1:=Y6 P1
 have hcl_P2:=Y6 P2
 have hcl_L:=Y6 L
 have hcl_M:=Z3 M
 have hcl_K:=Z3 K
 obtain ⟨hn,-,hrow,hlam,hcur⟩:=T5 hC
 have hM:=(U2 hH1).1
 have hK:=(U2 hH2).1
 rcases Bool.eq_false_or_eq_true (T9 (suN (cR P0) (cR P1) (cR P2) (cR L) (Y7 (cI M) (cI K) L.length) L.length) 0) with hqrpp3_1|hqrpp3_1
 ·have ghqrpp3_1:=Y8 hqrpp3_1
  have h9:=Y8 hqrpp3_1
  exfalso
  omega
 ·have ghqrpp3_1:=X5 hqrpp3_1
  rcases Bool.eq_false_or_eq_true (T9 (suN (cR P0) (cR P1) (cR P2) (cR L) (Y7 (cI M) (cI K) L.length) L.length) 19) with hqrpp3_2|hqrpp3_2
  ·have ghqrpp3_2:=Y8 hqrpp3_2
   exact Z8 W1 (Z7 Try.checked.mixed (e8) 200 (T':=⟨[(6,(.v (.int .i64 (.ofNat 0))))],[],1,[]⟩) (e:=.ret) (ps:=[m7 1,E9 3,Y5 2 P0.length (cR P0),Y5 2 P1.length (cR P1),Y5 2 P2.length (cR P2),Y5 2 L.length (cR L),V9 1 M.length (cI M),V9 1 K.length (cI K),U9 [AV.xl v0 P0.length 2 (cR P0),AV.xl v1 P1.length 2 (cR P1),AV.xl v2 P2.length 2 (cR P2)] 3 (cR L) L.length=0,W6 L.length (cI M) M.length=0,W6 L.length (cI K) K.length=0,T9 (suN (cR P0) (cR P1) (cR P2) (cR L) (Y7 (cI M) (cI K) L.length) L.length) 0=false,T9 (suN (cR P0) (cR P1) (cR P2) (cR L) (Y7 (cI M) (cI K) L.length) L.length) 19=true]) [.go,.go,.go,.go,.go,.go,.go,.go,.b false,.go,.go,.b true,.go] (by kernel_rfl) (by kernel_rfl) ⟨rfl,rfl,⟨rfl,P0,rfl,rfl⟩,⟨rfl,P1,rfl,rfl⟩,⟨rfl,P2,rfl,rfl⟩,⟨rfl,L,rfl,rfl⟩,⟨rfl,M,rfl,rfl⟩,⟨rfl,K,rfl,rfl⟩,hC,hH1,hH2,hqrpp3_1,hqrpp3_2,trivial⟩ rfl) (Hd.en_eq (r:=(.int .i64 0)) (by rfl) (Hd.en_ret (v:=(.v (.int .i64 (.ofNat 0)))) (by kernel_rfl) rfl))
  ·have ghqrpp3_2:=X5 hqrpp3_2
   exact absurd hZ (X5 hqrpp3_2)
theorem c42(y v0:Value)(P0:List (Int×Int))(v1:Value)(P1:List (Int×Int))(v2:Value)(P2:List (Int×Int))(yl:Value)(L:List (Int×Int))(z:Value)(M:List Int)(zk:Value)(K:List Int)(hC:U9 (a9w P0 P1 P2 v0 v1 v2) 3 (cR L) L.length=0)(hH1:W6 L.length (cI M) M.length=0)(hH2:W6 L.length (cI K) K.length=0)(hZ:suN (cR P0) (cR P1) (cR P2) (cR L) (Y7 (cI M) (cI K) L.length) L.length=19):GivesA Try.prog 29 [(b5l L P0 P1 P2 v0 v1 v2 y yl),(.xl z M.length 1 (cI M)),(.xl zk K.length 1 (cI K))] (.int .i64 (0)) :=
 W0 17 Try.func29 (by kernel_rfl) (by kernel_rfl) (by kernel_rfl) (fun w=>W2 (by kernel_rfl) (by kernel_rfl) (by kernel_rfl) (by kernel_rfl) (c2K y v0 P0 v1 P1 v2 P2 yl L z M zk K hC hH1 hH2 hZ w []))
end
end Go.Proofs.Ytegmogadbnfbgaa
set_option maxHeartbeats 2000000
set_option linter.all false
/- Parting. -/
namespace Go.Proofs.Ytegmogadbnfbgaa
open Go Ev
noncomputable section
section
variable (K : List Int) (L : List (Int × Int)) (M : List Int) (P0 P1 P2 : List (Int × Int)) (v0 v1 v2 y yl z zk : Value)
@[reducible] def j7:=(cI (tI (W8 (cR P0) (Y7 (cI M) (cI K) L.length) false) L.length))
@[reducible] def i8:=(cI (tI (W8 (cR P1) (Y7 (cI M) (cI K) L.length) false) L.length))
@[reducible] def k7:=(cI (tI (W8 (cR P2) (Y7 (cI M) (cI K) L.length) false) L.length))
@[reducible] def g9:=(cI (tI (W8 (cR L) (Y7 (cI M) (cI K) L.length) false) L.length))
@[reducible] def a9V:=(T9 (T6 (J5 (List.take (L.length*(0+1)) (List.drop 0 (j7 K L M P0))) (List.take (L.length*(0+1)) (List.drop 0 (i8 K L M P1))) (List.take (L.length*(0+1)) (List.drop 0 (k7 K L M P2))) (List.take (L.length*(0+1)) (List.drop 0 (g9 K L M))) (Y7 (cI M) (cI K) L.length) 0) L.length) 0&&(T9 (T6 (J5 (List.take (L.length*(0+1)) (List.drop 0 (j7 K L M P0))) (List.take (L.length*(0+1)) (List.drop 0 (i8 K L M P1))) (List.take (L.length*(0+1)) (List.drop 0 (k7 K L M P2))) (List.take (L.length*(0+1)) (List.drop 0 (g9 K L M))) (Y7 (cI M) (cI K) L.length) 1) L.length) 0&&(T9 (T6 (J5 (List.take (L.length*(0+1)) (List.drop 0 (j7 K L M P0))) (List.take (L.length*(0+1)) (List.drop 0 (i8 K L M P1))) (List.take (L.length*(0+1)) (List.drop 0 (k7 K L M P2))) (List.take (L.length*(0+1)) (List.drop 0 (g9 K L M))) (Y7 (cI M) (cI K) L.length) 2) L.length) 0&&true)))
@[reducible] def y6:=(cI (tI (W8 (cR P0) (Y7 (cI M) (cI K) L.length) true) L.length))
@[reducible] def z5:=(cI (tI (W8 (cR P1) (Y7 (cI M) (cI K) L.length) true) L.length))
@[reducible] def y9:=(cI (tI (W8 (cR P2) (Y7 (cI M) (cI K) L.length) true) L.length))
@[reducible] def x6:=(cI (tI (W8 (cR L) (Y7 (cI M) (cI K) L.length) true) L.length))
@[reducible] def a71:=(T9 (T6 (J5 (List.take (L.length*(0+1)) (List.drop 0 (y6 K L M P0))) (List.take (L.length*(0+1)) (List.drop 0 (z5 K L M P1))) (List.take (L.length*(0+1)) (List.drop 0 (y9 K L M P2))) (List.take (L.length*(0+1)) (List.drop 0 (x6 K L M))) (Y7 (cI M) (cI K) L.length) 0) L.length) 0&&(T9 (T6 (J5 (List.take (L.length*(0+1)) (List.drop 0 (y6 K L M P0))) (List.take (L.length*(0+1)) (List.drop 0 (z5 K L M P1))) (List.take (L.length*(0+1)) (List.drop 0 (y9 K L M P2))) (List.take (L.length*(0+1)) (List.drop 0 (x6 K L M))) (Y7 (cI M) (cI K) L.length) 1) L.length) 0&&(T9 (T6 (J5 (List.take (L.length*(0+1)) (List.drop 0 (y6 K L M P0))) (List.take (L.length*(0+1)) (List.drop 0 (z5 K L M P1))) (List.take (L.length*(0+1)) (List.drop 0 (y9 K L M P2))) (List.take (L.length*(0+1)) (List.drop 0 (x6 K L M))) (Y7 (cI M) (cI K) L.length) 2) L.length) 0&&true)))
@[reducible] def a5H:List Ev.AV:=[.xl v0 P0.length 2 (cR P0),.xl v1 P1.length 2 (cR P1),.xl v2 P2.length 2 (cR P2)]
@[reducible] def b2p:Ev.AV:=(.agg [.xl y 3 1 (a5H P0 P1 P2 v0 v1 v2),.xl yl L.length 2 (cR L)])
@[reducible] def b3W:Ev.Lit:=⟨[(0,(b2p L P0 P1 P2 v0 v1 v2 y yl)),(1,(.xl z M.length 1 (cI M))),(2,(.xl zk K.length 1 (cI K)))],[],0,[]⟩
@[reducible] def O9:List Ev.AV:=[AV.xl v0 P0.length 2 (cR P0),AV.xl v1 P1.length 2 (cR P1),AV.xl v2 P2.length 2 (cR P2)]
@[reducible] def b2F:Ev.AB:=(.row [(.slu 2 0 (L.length) 0),(.slu 3 0 (L.length) 0),(.slu 4 0 (L.length) 0)] 27 1)
@[reducible] def b03:Ev.AB:=(.row (k7 K L M P2) 2 1)
@[reducible] def b0a:Ev.AB:=(.row (i8 K L M P1) 2 1)
@[reducible] def a66:Ev.AB:=(.row (j7 K L M P0) 2 1)
@[reducible] def a6e:Ev.AB:=(.row (g9 K L M) 2 1)
@[reducible] def a4V:Ev.AB:=(.row (y9 K L M P2) 2 1)
@[reducible] def a6b:Ev.AB:=(.row (z5 K L M P1) 2 1)
@[reducible] def a69:Ev.AB:=(.row (y6 K L M P0) 2 1)
@[reducible] def a5C:Ev.AB:=(.row (x6 K L M) 2 1)
@[reducible] def a8H:Ev.AB:=(.row [.slu 2 0 L.length 0,.slu 3 0 L.length 0,.slu 4 0 L.length 0] 27 1)
@[reducible] def a8V:Ev.AB:=(.cells [(.v (Value.slice none 0 0)),(.v (Value.slice none 0 0))] 29)
@[reducible] def a8A:List Ev.AV:=[(.xl (z) (M.length) 1 (cI M)),(.xl (zk) (K.length) 1 (cI K))]
end
noncomputable def c4Q:Code:=R8 Try.f26
theorem c2x(y:Value)(E:List (Value×List (Int×Int)))(yl:Value)(L:List (Int×Int))(z:Value)(M:List Int)(zk:Value)(K:List Int)(hE3:E.length≤1000)(hM3:M.length≤1000)(hK3:K.length≤1000)(hH:¬ U0 (U9 (Z1 E) E.length (cR L) L.length) (W6 L.length (cI M) M.length) (W6 L.length (cI K) K.length)=0)(v:BaseW)(eb:Nat→Option Nat)(ec:Nat→Nat)(hs:List Nat):Y4 Try.prog 32 c4Q (⟨[(0,(.agg [.xl y E.length 1 (Z1 E),.xl yl L.length 2 (cR L)])),(1,(.xl z M.length 1 (cI M))),(2,(.xl zk K.length 1 (cI K)))],[],0,[]⟩) (BaseW.H (bw v 0 eb ec) hs) (R7 Try.prog Try.f26 32 ((.tup [.agg [.v (.slice none 0 0),.v (.slice none 0 0)],.v (.int .i64 (U0 (U9 (Z1 E) E.length (cR L) L.length) (W6 L.length (cI M) M.length) (W6 L.length (cI K) K.length)))])) [] (bw v 0 eb ec)):=by
 have hcl_L:=Y6 L
 have hcl_M:=Z3 M
 have hcl_K:=Z3 K
 rcases Bool.eq_false_or_eq_true (T9 (U0 (U9 (Z1 E) E.length (cR L) L.length) (W6 L.length (cI M) M.length) (W6 L.length (cI K) K.length)) 0) with hqpte3_1|hqpte3_1
 ·have ghqpte3_1:=Y8 hqpte3_1
  exact absurd (Y8 hqpte3_1) hH
 ·have ghqpte3_1:=X5 hqpte3_1
  exact Z8 W1 (L6 Try.checked.mixed (Y3 a3X (Y3 D7 (Y3 a3p a3Q))) 200 (T':=⟨[(6,(.ptr 0 0)),(7,(.v (.int .i64 (U0 (U9 (Z1 E) E.length (cR L) L.length) (W6 L.length (cI M) M.length) (W6 L.length (cI K) K.length)))))],[],1,[(0,a8V)]⟩) (e:=.ret) (m:=3) (ps:=[0+2*(0+1)≤((a8A K M z zk):List AV).length,((2:Nat)≤2),V5 1 (Z1 E) E.length,Y5 2 L.length (cR L),V9 (0+1) M.length (cI M),V9 (0+1) K.length (cI K),a4y 2,E.length≤1000,M.length≤1000,K.length≤1000,¬U0 (U9 (Z1 E) E.length (cR L) L.length) (W6 L.length (cI M) M.length) (W6 L.length (cI K) K.length)=0,(!T9 (U0 (U9 (Z1 E) E.length (cR L) L.length) (W6 L.length (cI M) M.length) (W6 L.length (cI K) K.length)) 0)=true]) [.go,.go,.go,.go,.go,.go,.go,.go,.go,.go,.b true,.go,.go,.go,.go] [1] [(.ptr 1 0),(.v (.int .i64 (U0 (U9 (Z1 E) E.length (cR L) L.length) (W6 L.length (cI M) M.length) (W6 L.length (cI K) K.length))))] [a8V] (by kernel_rfl) (by kernel_rfl) ⟨(by show 0+2*(0+1)≤2;decide),(by decide),⟨rfl,E,rfl,rfl⟩,⟨rfl,L,rfl,rfl⟩,⟨rfl,M,rfl,rfl⟩,⟨rfl,K,rfl,rfl⟩,rfl,hE3,(by omega),(by omega),hH,(by rw [hqpte3_1];rfl),trivial⟩ rfl rfl (by decide) rfl ⟨P7 rfl,E2 _,trivial⟩ ⟨⟨by show 0<1;decide,U8 (X9 (E2 _) (X9 (E2 _) (V1)))⟩,trivial⟩) (E3 (r:=(.tup [(.agg [(.v (Value.slice none 0 0)),(.v (Value.slice none 0 0))]),(.v (.int .i64 (U0 (U9 (Z1 E) E.length (cR L) L.length) (W6 L.length (cI M) M.length) (W6 L.length (cI K) K.length))))])) (ys:=[]) (by rfl) (by rfl) (J4 (by kernel_rfl) (by kernel_rfl) rfl (.inr rfl)))
theorem c5u(y:Value)(E:List (Value×List (Int×Int)))(yl:Value)(L:List (Int×Int))(z:Value)(M:List Int)(zk:Value)(K:List Int)(hE3:E.length≤1000)(hM3:M.length≤1000)(hK3:K.length≤1000)(hH:¬ U0 (U9 (Z1 E) E.length (cR L) L.length) (W6 L.length (cI M) M.length) (W6 L.length (cI K) K.length)=0):G7 Try.prog 26 [(.agg [.xl y E.length 1 (Z1 E),.xl yl L.length 2 (cR L)]),(.xl z M.length 1 (cI M)),(.xl zk K.length 1 (cI K))] [] ((.tup [.agg [.v (.slice none 0 0),.v (.slice none 0 0)],.v (.int .i64 (U0 (U9 (Z1 E) E.length (cR L) L.length) (W6 L.length (cI M) M.length) (W6 L.length (cI K) K.length)))])) [] :=
 R0 32 (by kernel_rfl) Try.func26 (by kernel_rfl) (by kernel_rfl) (by kernel_rfl) (fun v eb ec=>W2 (by kernel_rfl) (by kernel_rfl) (by kernel_rfl) (by kernel_rfl) (c2x y E yl L z M zk K hE3 hM3 hK3 hH v eb ec []))
noncomputable def c2z:Code:=R8 Try.f26
theorem c5V(y v0:Value)(P0:List (Int×Int))(v1:Value)(P1:List (Int×Int))(v2:Value)(P2:List (Int×Int))(yl:Value)(L:List (Int×Int))(z:Value)(M:List Int)(zk:Value)(K:List Int)(hC:U9 (a5H P0 P1 P2 v0 v1 v2) 3 (cR L) L.length=0)(hH1:W6 L.length (cI M) M.length=0)(hH2:W6 L.length (cI K) K.length=0)(hZt:(m8 (cR P0) (cR P1) (cR P2) (cR L) (Y7 (cI M) (cI K) L.length) L.length true))(hZf:(m8 (cR P0) (cR P1) (cR P2) (cR L) (Y7 (cI M) (cI K) L.length) L.length false))(v:BaseW)(eb:Nat→Option Nat)(ec:Nat→Nat)(hs:List Nat):Y4 Try.prog 32 c2z ((b3W K L M P0 P1 P2 v0 v1 v2 y yl z zk)) (BaseW.H (bw v 0 eb ec) hs) (R7 Try.prog Try.f26 32 ((.tup [.agg [.v (.slice none 0 0),.v (.slice none 0 0)],.v (.int .i64 5)])) [] (bw v 0 eb ec)):=by
 have hcl_P0:=Y6 P0
 have hcl_P1:=Y6 P1
 have hcl_P2:=Y6 P2
 have hcl_L:=Y6 L
 have hcl_M:=Z3 M
 have hcl_K:=Z3 K
 obtain ⟨hn,-,hrow,hlam,hcur⟩:=T5 hC
 have hM:=(U2 hH1).1
 have hK:=(U2 hH2).1
 rcases Bool.eq_false_or_eq_true (a71 K L M P0 P1 P2) with hqptz3_1|hqptz3_1
 ·rcases Bool.eq_false_or_eq_true (a9V K L M P0 P1 P2) with hqptz3_2|hqptz3_2
  ·exact Z8 W1 (L6 Try.checked.mixed (Y3 x5 (Y3 D7 (Y3 y5 w7))) 200 (T':=⟨[(6,(.ptr 0 0)),(7,(.v (.int .i64 (.ofNat 5))))],[],1,[(0,a8V)]⟩) (e:=.ret) (m:=36) (ps:=[0+2*(0+1)≤((a8A K M z zk):List AV).length,((2:Nat)≤2),V5 1 (O9 P0 P1 P2 v0 v1 v2) 3,Y5 2 L.length (cR L),V9 (0+1) M.length (cI M),V9 (0+1) K.length (cI K),a4y 2,((3:Nat)≤1000),M.length≤1000,K.length≤1000,U0 (U9 (O9 P0 P1 P2 v0 v1 v2) 3 (cR L) L.length) (W6 L.length (cI M) M.length) (W6 L.length (cI K) K.length)=0,(!T9 0 0)=false,W9 (O9 P0 P1 P2 v0 v1 v2),W9 (cR L),W9 (cI M),W9 (cI K),V5 1 (O9 P0 P1 P2 v0 v1 v2) 3,Y5 2 L.length (cR L),V9 1 M.length (cI M),V9 1 K.length (cI K),W9 (O9 P0 P1 P2 v0 v1 v2),W9 (cR L),X8 0 2=true,V5 1 (O9 P0 P1 P2 v0 v1 v2) 3,Y5 2 L.length (cR L),V9 1 M.length (cI M),V9 1 K.length (cI K),Y5 2 L.length (cR L),1≤L.length∧L.length≤8,L.length=L.length,M.length=L.length,K.length=L.length,Q1 (cI M) (cI K) L.length,X8 0 3=true,V5 1 (O9 P0 P1 P2 v0 v1 v2) 3,Y5 2 L.length (cR L),V9 1 M.length (cI M),V9 1 K.length (cI K),Y5 2 P0.length (cR P0),1≤L.length∧L.length≤8,P0.length=L.length,M.length=L.length,K.length=L.length,Q1 (cI M) (cI K) L.length,O8 IntKind.i64 (0+1),X8 (0+1) 3=true,V5 1 (O9 P0 P1 P2 v0 v1 v2) 3,Y5 2 L.length (cR L),V9 1 M.length (cI M),V9 1 K.length (cI K),Y5 2 P1.length (cR P1),1≤L.length∧L.length≤8,P1.length=L.length,M.length=L.length,K.length=L.length,Q1 (cI M) (cI K) L.length,O8 IntKind.i64 (0+1+1),X8 (0+1+1) 3=true,V5 1 (O9 P0 P1 P2 v0 v1 v2) 3,Y5 2 L.length (cR L),V9 1 M.length (cI M),V9 1 K.length (cI K),Y5 2 P2.length (cR P2),1≤L.length∧L.length≤8,P2.length=L.length,M.length=L.length,K.length=L.length,Q1 (cI M) (cI K) L.length,O8 IntKind.i64 (0+1+1+1),X8 (0+1+1+1) 3=false,0+(0+1+1+1)*(0+1)≤([(.slu 11 0 (L.length) 0),(.slu 14 0 (L.length) 0),(.slu 17 0 (L.length) 0)]:List AV).length,0+L.length*(0+1)≤((y6 K L M P0):List AV).length,0+L.length*(0+1)≤((z5 K L M P1):List AV).length,0+L.length*(0+1)≤((y9 K L M P2):List AV).length,0+L.length*(0+1)≤((x6 K L M):List AV).length,V5 1 (O9 P0 P1 P2 v0 v1 v2) 3,Y5 2 L.length (cR L),V9 1 M.length (cI M),V9 1 K.length (cI K),L.length≤8,J7 (0+1) L.length (List.take (L.length*(0+1)) (List.drop 0 (y6 K L M P0))),J7 (0+1) L.length (List.take (L.length*(0+1)) (List.drop 0 (z5 K L M P1))),J7 (0+1) L.length (List.take (L.length*(0+1)) (List.drop 0 (y9 K L M P2))),J7 (0+1) L.length (List.take (L.length*(0+1)) (List.drop 0 (x6 K L M))),L.length=L.length,L.length=L.length,L.length=L.length,L.length=L.length,M.length=L.length,K.length=L.length,E9 (0+1+1+1),a2r (List.take (L.length*(0+1)) (List.drop 0 (y6 K L M P0))) (List.take (L.length*(0+1)) (List.drop 0 (z5 K L M P1))) (List.take (L.length*(0+1)) (List.drop 0 (y9 K L M P2))) (List.take (L.length*(0+1)) (List.drop 0 (x6 K L M))) L.length,Q1 (cI M) (cI K) L.length,(!(a71 K L M P0 P1 P2))=false,O8 IntKind.i64 (0+1),X8 (0+1) 2=true,V5 1 (O9 P0 P1 P2 v0 v1 v2) 3,Y5 2 L.length (cR L),V9 1 M.length (cI M),V9 1 K.length (cI K),Y5 2 L.length (cR L),1≤L.length∧L.length≤8,L.length=L.length,M.length=L.length,K.length=L.length,Q1 (cI M) (cI K) L.length,X8 0 3=true,V5 1 (O9 P0 P1 P2 v0 v1 v2) 3,Y5 2 L.length (cR L),V9 1 M.length (cI M),V9 1 K.length (cI K),Y5 2 P0.length (cR P0),1≤L.length∧L.length≤8,P0.length=L.length,M.length=L.length,K.length=L.length,Q1 (cI M) (cI K) L.length,O8 IntKind.i64 (0+1),X8 (0+1) 3=true,V5 1 (O9 P0 P1 P2 v0 v1 v2) 3,Y5 2 L.length (cR L),V9 1 M.length (cI M),V9 1 K.length (cI K),Y5 2 P1.length (cR P1),1≤L.length∧L.length≤8,P1.length=L.length,M.length=L.length,K.length=L.length,Q1 (cI M) (cI K) L.length,O8 IntKind.i64 (0+1+1),X8 (0+1+1) 3=true,V5 1 (O9 P0 P1 P2 v0 v1 v2) 3,Y5 2 L.length (cR L),V9 1 M.length (cI M),V9 1 K.length (cI K),Y5 2 P2.length (cR P2),1≤L.length∧L.length≤8,P2.length=L.length,M.length=L.length,K.length=L.length,Q1 (cI M) (cI K) L.length,O8 IntKind.i64 (0+1+1+1),X8 (0+1+1+1) 3=false,0+(0+1+1+1)*(0+1)≤([(.slu 25 0 (L.length) 0),(.slu 28 0 (L.length) 0),(.slu 31 0 (L.length) 0)]:List AV).length,0+L.length*(0+1)≤((j7 K L M P0):List AV).length,0+L.length*(0+1)≤((i8 K L M P1):List AV).length,0+L.length*(0+1)≤((k7 K L M P2):List AV).length,0+L.length*(0+1)≤((g9 K L M):List AV).length,V5 1 (O9 P0 P1 P2 v0 v1 v2) 3,Y5 2 L.length (cR L),V9 1 M.length (cI M),V9 1 K.length (cI K),L.length≤8,J7 (0+1) L.length (List.take (L.length*(0+1)) (List.drop 0 (j7 K L M P0))),J7 (0+1) L.length (List.take (L.length*(0+1)) (List.drop 0 (i8 K L M P1))),J7 (0+1) L.length (List.take (L.length*(0+1)) (List.drop 0 (k7 K L M P2))),J7 (0+1) L.length (List.take (L.length*(0+1)) (List.drop 0 (g9 K L M))),L.length=L.length,L.length=L.length,L.length=L.length,L.length=L.length,M.length=L.length,K.length=L.length,E9 (0+1+1+1),a2r (List.take (L.length*(0+1)) (List.drop 0 (j7 K L M P0))) (List.take (L.length*(0+1)) (List.drop 0 (i8 K L M P1))) (List.take (L.length*(0+1)) (List.drop 0 (k7 K L M P2))) (List.take (L.length*(0+1)) (List.drop 0 (g9 K L M))) L.length,Q1 (cI M) (cI K) L.length,(!(a9V K L M P0 P1 P2))=false,O8 IntKind.i64 (0+1+1),X8 (0+1+1) 2=false,(!false)=true]) [.go,.go,.go,.go,.go,.go,.go,.go,.go,.go,.b false,.go,.go,.go,.go,.go,.go,.go,.go,.go,.b true,.go,.go,.go,.go,.go,.go,.go,.go,.go,.go,.go,.go,.go,.go,.go,.go,.go,.go,.go,.go,.b true,.go,.go,.go,.go,.go,.go,.go,.go,.go,.go,.go,.go,.go,.go,.go,.b true,.go,.go,.go,.go,.go,.go,.go,.go,.go,.go,.go,.go,.go,.go,.go,.b true,.go,.go,.go,.go,.go,.go,.go,.go,.go,.go,.go,.go,.go,.go,.go,.b false,.go,.go,.go,.go,.go,.go,.go,.go,.b false,.go,.go,.go,.b true,.go,.go,.go,.go,.go,.go,.go,.go,.go,.go,.go,.go,.go,.go,.go,.go,.go,.go,.go,.go,.b true,.go,.go,.go,.go,.go,.go,.go,.go,.go,.go,.go,.go,.go,.go,.go,.b true,.go,.go,.go,.go,.go,.go,.go,.go,.go,.go,.go,.go,.go,.go,.go,.b true,.go,.go,.go,.go,.go,.go,.go,.go,.go,.go,.go,.go,.go,.go,.go,.b false,.go,.go,.go,.go,.go,.go,.go,.go,.b false,.go,.go,.go,.b false,.go,.go,.go,.go,.go,.go,.go,.go,.go,.go,.go,.b true,.go,.go,.go] [1] [(.ptr 1 0),(.v (.int .i64 (.ofNat 5)))] [a8V] (by kernel_rfl) (by kernel_rfl) ⟨(by show 0+2*(0+1)≤2;decide),(by decide),⟨rfl,[(v0,P0),(v1,P1),(v2,P2)],rfl,rfl⟩,⟨rfl,L,rfl,rfl⟩,⟨rfl,M,rfl,rfl⟩,⟨rfl,K,rfl,rfl⟩,rfl,(by decide),(by omega),(by omega),((c7 hC hH1).trans hH2),rfl,(X6 [(v0,P0),(v1,P1),(v2,P2)]),(Z4 (X4 _)),(Z4 (Z2 _)),(Z4 (Z2 _)),⟨rfl,[(v0,P0),(v1,P1),(v2,P2)],rfl,rfl⟩,⟨rfl,L,rfl,rfl⟩,⟨rfl,M,rfl,rfl⟩,⟨rfl,K,rfl,rfl⟩,(X6 [(v0,P0),(v1,P1),(v2,P2)]),(Z4 (X4 _)),rfl,⟨rfl,[(v0,P0),(v1,P1),(v2,P2)],rfl,rfl⟩,⟨rfl,L,rfl,rfl⟩,⟨rfl,M,rfl,rfl⟩,⟨rfl,K,rfl,rfl⟩,⟨rfl,L,rfl,rfl⟩,hn,rfl,hM,hK,(S9 hH1 hH2),rfl,⟨rfl,[(v0,P0),(v1,P1),(v2,P2)],rfl,rfl⟩,⟨rfl,L,rfl,rfl⟩,⟨rfl,M,rfl,rfl⟩,⟨rfl,K,rfl,rfl⟩,⟨rfl,P0,rfl,rfl⟩,hn,(hrow 0 (by decide)),hM,hK,(S9 hH1 hH2),(by show -9223372036854775808≤(_:Int)∧(_:Int)≤9223372036854775807;constructor<;>decide),rfl,⟨rfl,[(v0,P0),(v1,P1),(v2,P2)],rfl,rfl⟩,⟨rfl,L,rfl,rfl⟩,⟨rfl,M,rfl,rfl⟩,⟨rfl,K,rfl,rfl⟩,⟨rfl,P1,rfl,rfl⟩,hn,(hrow 1 (by decide)),hM,hK,(S9 hH1 hH2),(by show -9223372036854775808≤(_:Int)∧(_:Int)≤9223372036854775807;constructor<;>decide),rfl,⟨rfl,[(v0,P0),(v1,P1),(v2,P2)],rfl,rfl⟩,⟨rfl,L,rfl,rfl⟩,⟨rfl,M,rfl,rfl⟩,⟨rfl,K,rfl,rfl⟩,⟨rfl,P2,rfl,rfl⟩,hn,(hrow 2 (by decide)),hM,hK,(S9 hH1 hH2),(by show -9223372036854775808≤(_:Int)∧(_:Int)≤9223372036854775807;constructor<;>decide),rfl,(by show 0+3*(0+1)≤3;decide),(by rw [Z3,Y9];omega),(by rw [Z3,Y9];omega),(by rw [Z3,Y9];omega),(by rw [Z3,Y9];omega),⟨rfl,[(v0,P0),(v1,P1),(v2,P2)],rfl,rfl⟩,⟨rfl,L,rfl,rfl⟩,⟨rfl,M,rfl,rfl⟩,⟨rfl,K,rfl,rfl⟩,hn.2,⟨rfl,_,Z0,(Y9 _ _).symm⟩,⟨rfl,_,Z0,(Y9 _ _).symm⟩,⟨rfl,_,Z0,(Y9 _ _).symm⟩,⟨rfl,_,Z0,(Y9 _ _).symm⟩,rfl,rfl,rfl,rfl,hM,hK,rfl,(by rw [Z0,Z0,Z0,Z0];exact E4 (hcur 0 (by decide)) (hcur 1 (by decide)) (hcur 2 (by decide)) hlam),(S9 hH1 hH2),(by rw [hqptz3_1];rfl),(by show -9223372036854775808≤(_:Int)∧(_:Int)≤9223372036854775807;constructor<;>decide),rfl,⟨rfl,[(v0,P0),(v1,P1),(v2,P2)],rfl,rfl⟩,⟨rfl,L,rfl,rfl⟩,⟨rfl,M,rfl,rfl⟩,⟨rfl,K,rfl,rfl⟩,⟨rfl,L,rfl,rfl⟩,hn,rfl,hM,hK,(S9 hH1 hH2),rfl,⟨rfl,[(v0,P0),(v1,P1),(v2,P2)],rfl,rfl⟩,⟨rfl,L,rfl,rfl⟩,⟨rfl,M,rfl,rfl⟩,⟨rfl,K,rfl,rfl⟩,⟨rfl,P0,rfl,rfl⟩,hn,(hrow 0 (by decide)),hM,hK,(S9 hH1 hH2),(by show -9223372036854775808≤(_:Int)∧(_:Int)≤9223372036854775807;constructor<;>decide),rfl,⟨rfl,[(v0,P0),(v1,P1),(v2,P2)],rfl,rfl⟩,⟨rfl,L,rfl,rfl⟩,⟨rfl,M,rfl,rfl⟩,⟨rfl,K,rfl,rfl⟩,⟨rfl,P1,rfl,rfl⟩,hn,(hrow 1 (by decide)),hM,hK,(S9 hH1 hH2),(by show -9223372036854775808≤(_:Int)∧(_:Int)≤9223372036854775807;constructor<;>decide),rfl,⟨rfl,[(v0,P0),(v1,P1),(v2,P2)],rfl,rfl⟩,⟨rfl,L,rfl,rfl⟩,⟨rfl,M,rfl,rfl⟩,⟨rfl,K,rfl,rfl⟩,⟨rfl,P2,rfl,rfl⟩,hn,(hrow 2 (by decide)),hM,hK,(S9 hH1 hH2),(by show -9223372036854775808≤(_:Int)∧(_:Int)≤9223372036854775807;constructor<;>decide),rfl,(by show 0+3*(0+1)≤3;decide),(by rw [Z3,Y9];omega),(by rw [Z3,Y9];omega),(by rw [Z3,Y9];omega),(by rw [Z3,Y9];omega),⟨rfl,[(v0,P0),(v1,P1),(v2,P2)],rfl,rfl⟩,⟨rfl,L,rfl,rfl⟩,⟨rfl,M,rfl,rfl⟩,⟨rfl,K,rfl,rfl⟩,hn.2,⟨rfl,_,Z0,(Y9 _ _).symm⟩,⟨rfl,_,Z0,(Y9 _ _).symm⟩,⟨rfl,_,Z0,(Y9 _ _).symm⟩,⟨rfl,_,Z0,(Y9 _ _).symm⟩,rfl,rfl,rfl,rfl,hM,hK,rfl,(by rw [Z0,Z0,Z0,Z0];exact E4 (hcur 0 (by decide)) (hcur 1 (by decide)) (hcur 2 (by decide)) hlam),(S9 hH1 hH2),(by rw [hqptz3_2];rfl),(by show -9223372036854775808≤(_:Int)∧(_:Int)≤9223372036854775807;constructor<;>decide),rfl,rfl,trivial⟩ rfl rfl (by decide) rfl ⟨P7 rfl,E2 _,trivial⟩ ⟨⟨by show 0<1;decide,U8 (X9 (E2 _) (X9 (E2 _) (V1)))⟩,trivial⟩) (E3 (r:=(.tup [(.agg [(.v (Value.slice none 0 0)),(.v (Value.slice none 0 0))]),(.v (.int .i64 (.ofNat 5)))])) (ys:=[]) (by rfl) (by rfl) (J4 (by kernel_rfl) (by kernel_rfl) rfl (.inr rfl)))
  ·exact absurd hZf (a9e hqptz3_2)
 ·exact absurd hZt (a9e hqptz3_1)
theorem c2f(y v0:Value)(P0:List (Int×Int))(v1:Value)(P1:List (Int×Int))(v2:Value)(P2:List (Int×Int))(yl:Value)(L:List (Int×Int))(z:Value)(M:List Int)(zk:Value)(K:List Int)(hC:U9 (a5H P0 P1 P2 v0 v1 v2) 3 (cR L) L.length=0)(hH1:W6 L.length (cI M) M.length=0)(hH2:W6 L.length (cI K) K.length=0)(hZt:(m8 (cR P0) (cR P1) (cR P2) (cR L) (Y7 (cI M) (cI K) L.length) L.length true))(hZf:(m8 (cR P0) (cR P1) (cR P2) (cR L) (Y7 (cI M) (cI K) L.length) L.length false)):G7 Try.prog 26 [(b2p L P0 P1 P2 v0 v1 v2 y yl),(.xl z M.length 1 (cI M)),(.xl zk K.length 1 (cI K))] [] ((.tup [.agg [.v (.slice none 0 0),.v (.slice none 0 0)],.v (.int .i64 5)])) [] :=
 R0 32 (by kernel_rfl) Try.func26 (by kernel_rfl) (by kernel_rfl) (by kernel_rfl) (fun v eb ec=>W2 (by kernel_rfl) (by kernel_rfl) (by kernel_rfl) (by kernel_rfl) (c5V y v0 P0 v1 P1 v2 P2 yl L z M zk K hC hH1 hH2 hZt hZf v eb ec []))
noncomputable def c5v:Code:=R8 Try.f26
theorem c5M(y v0:Value)(P0:List (Int×Int))(v1:Value)(P1:List (Int×Int))(v2:Value)(P2:List (Int×Int))(yl:Value)(L:List (Int×Int))(z:Value)(M:List Int)(zk:Value)(K:List Int)(hC:U9 (a5H P0 P1 P2 v0 v1 v2) 3 (cR L) L.length=0)(hH1:W6 L.length (cI M) M.length=0)(hH2:W6 L.length (cI K) K.length=0)(hZt:¬ (m8 (cR P0) (cR P1) (cR P2) (cR L) (Y7 (cI M) (cI K) L.length) L.length true))(v:BaseW)(eb:Nat→Option Nat)(ec:Nat→Nat)(hs:List Nat):Y4 Try.prog 32 c5v ((b3W K L M P0 P1 P2 v0 v1 v2 y yl z zk)) (BaseW.H (bw v 0 eb ec) hs) (R7 Try.prog Try.f26 32 ((.tup [.agg [.slu 0 0 3 0,.slu 1 0 L.length 0],.v (.int .i64 0)])) [(a8H L),(a5C K L M),(a69 K L M P0),(a6b K L M P1),(a4V K L M P2)] (bw v 0 eb ec)):=by
 have hcl_P0:=Y6 P0
 have hcl_P1:=Y6 P1
 have hcl_P2:=Y6 P2
 have hcl_L:=Y6 L
 have hcl_M:=Z3 M
 have hcl_K:=Z3 K
 obtain ⟨hn,-,hrow,hlam,hcur⟩:=T5 hC
 have hM:=(U2 hH1).1
 have hK:=(U2 hH2).1
 rcases Bool.eq_false_or_eq_true (a71 K L M P0 P1 P2) with hqptt3_1|hqptt3_1
 ·rcases Bool.eq_false_or_eq_true (a9V K L M P0 P1 P2) with hqptt3_2|hqptt3_2
  ·exact absurd (zr_iff.1 hqptt3_1) hZt
  ·exact absurd (zr_iff.1 hqptt3_1) hZt
 ·exact Z8 W1 (L6 Try.checked.mixed (Y3 x5 (Y3 D7 (Y3 y5 w7))) 200 (T':=⟨[(6,(.ptr 5 0)),(7,(.v (.int .i64 (.ofNat 0))))],[],6,[(0,(b2F L)),(1,(a5C K L M)),(2,(a69 K L M P0)),(3,(a6b K L M P1)),(4,(a4V K L M P2)),(5,(.cells [(.slu 0 0 3 0),(.slu 1 0 (L.length) 0)] 29))]⟩) (e:=.ret) (m:=22) (ps:=[0+2*(0+1)≤((a8A K M z zk):List AV).length,((2:Nat)≤2),V5 1 (O9 P0 P1 P2 v0 v1 v2) 3,Y5 2 L.length (cR L),V9 (0+1) M.length (cI M),V9 (0+1) K.length (cI K),a4y 2,((3:Nat)≤1000),M.length≤1000,K.length≤1000,U0 (U9 (O9 P0 P1 P2 v0 v1 v2) 3 (cR L) L.length) (W6 L.length (cI M) M.length) (W6 L.length (cI K) K.length)=0,(!T9 0 0)=false,W9 (O9 P0 P1 P2 v0 v1 v2),W9 (cR L),W9 (cI M),W9 (cI K),V5 1 (O9 P0 P1 P2 v0 v1 v2) 3,Y5 2 L.length (cR L),V9 1 M.length (cI M),V9 1 K.length (cI K),W9 (O9 P0 P1 P2 v0 v1 v2),W9 (cR L),X8 0 2=true,V5 1 (O9 P0 P1 P2 v0 v1 v2) 3,Y5 2 L.length (cR L),V9 1 M.length (cI M),V9 1 K.length (cI K),Y5 2 L.length (cR L),1≤L.length∧L.length≤8,L.length=L.length,M.length=L.length,K.length=L.length,Q1 (cI M) (cI K) L.length,X8 0 3=true,V5 1 (O9 P0 P1 P2 v0 v1 v2) 3,Y5 2 L.length (cR L),V9 1 M.length (cI M),V9 1 K.length (cI K),Y5 2 P0.length (cR P0),1≤L.length∧L.length≤8,P0.length=L.length,M.length=L.length,K.length=L.length,Q1 (cI M) (cI K) L.length,O8 IntKind.i64 (0+1),X8 (0+1) 3=true,V5 1 (O9 P0 P1 P2 v0 v1 v2) 3,Y5 2 L.length (cR L),V9 1 M.length (cI M),V9 1 K.length (cI K),Y5 2 P1.length (cR P1),1≤L.length∧L.length≤8,P1.length=L.length,M.length=L.length,K.length=L.length,Q1 (cI M) (cI K) L.length,O8 IntKind.i64 (0+1+1),X8 (0+1+1) 3=true,V5 1 (O9 P0 P1 P2 v0 v1 v2) 3,Y5 2 L.length (cR L),V9 1 M.length (cI M),V9 1 K.length (cI K),Y5 2 P2.length (cR P2),1≤L.length∧L.length≤8,P2.length=L.length,M.length=L.length,K.length=L.length,Q1 (cI M) (cI K) L.length,O8 IntKind.i64 (0+1+1+1),X8 (0+1+1+1) 3=false,0+(0+1+1+1)*(0+1)≤([(.slu 11 0 (L.length) 0),(.slu 14 0 (L.length) 0),(.slu 17 0 (L.length) 0)]:List AV).length,0+L.length*(0+1)≤((y6 K L M P0):List AV).length,0+L.length*(0+1)≤((z5 K L M P1):List AV).length,0+L.length*(0+1)≤((y9 K L M P2):List AV).length,0+L.length*(0+1)≤((x6 K L M):List AV).length,V5 1 (O9 P0 P1 P2 v0 v1 v2) 3,Y5 2 L.length (cR L),V9 1 M.length (cI M),V9 1 K.length (cI K),L.length≤8,J7 (0+1) L.length (List.take (L.length*(0+1)) (List.drop 0 (y6 K L M P0))),J7 (0+1) L.length (List.take (L.length*(0+1)) (List.drop 0 (z5 K L M P1))),J7 (0+1) L.length (List.take (L.length*(0+1)) (List.drop 0 (y9 K L M P2))),J7 (0+1) L.length (List.take (L.length*(0+1)) (List.drop 0 (x6 K L M))),L.length=L.length,L.length=L.length,L.length=L.length,L.length=L.length,M.length=L.length,K.length=L.length,E9 (0+1+1+1),a2r (List.take (L.length*(0+1)) (List.drop 0 (y6 K L M P0))) (List.take (L.length*(0+1)) (List.drop 0 (z5 K L M P1))) (List.take (L.length*(0+1)) (List.drop 0 (y9 K L M P2))) (List.take (L.length*(0+1)) (List.drop 0 (x6 K L M))) L.length,Q1 (cI M) (cI K) L.length,(!(a71 K L M P0 P1 P2))=true,(!true)=false]) [.go,.go,.go,.go,.go,.go,.go,.go,.go,.go,.b false,.go,.go,.go,.go,.go,.go,.go,.go,.go,.b true,.go,.go,.go,.go,.go,.go,.go,.go,.go,.go,.go,.go,.go,.go,.go,.go,.go,.go,.go,.go,.b true,.go,.go,.go,.go,.go,.go,.go,.go,.go,.go,.go,.go,.go,.go,.go,.b true,.go,.go,.go,.go,.go,.go,.go,.go,.go,.go,.go,.go,.go,.go,.go,.b true,.go,.go,.go,.go,.go,.go,.go,.go,.go,.go,.go,.go,.go,.go,.go,.b false,.go,.go,.go,.go,.go,.go,.go,.go,.b true,.go,.go,.go,.go,.go,.go,.go,.go,.go,.go,.go,.b false,.go,.go,.go] [19,9,11,14,17,1] [(.ptr 1 0),(.v (.int .i64 (.ofNat 0)))] [(.row [(.slu 11 0 (L.length) 0),(.slu 14 0 (L.length) 0),(.slu 17 0 (L.length) 0)] 27 1),(a5C K L M),(a69 K L M P0),(a6b K L M P1),(a4V K L M P2),(.cells [(.slu 19 0 3 0),(.slu 9 0 (L.length) 0)] 29)] (by kernel_rfl) (by kernel_rfl) ⟨(by show 0+2*(0+1)≤2;decide),(by decide),⟨rfl,[(v0,P0),(v1,P1),(v2,P2)],rfl,rfl⟩,⟨rfl,L,rfl,rfl⟩,⟨rfl,M,rfl,rfl⟩,⟨rfl,K,rfl,rfl⟩,rfl,(by decide),(by omega),(by omega),((c7 hC hH1).trans hH2),rfl,(X6 [(v0,P0),(v1,P1),(v2,P2)]),(Z4 (X4 _)),(Z4 (Z2 _)),(Z4 (Z2 _)),⟨rfl,[(v0,P0),(v1,P1),(v2,P2)],rfl,rfl⟩,⟨rfl,L,rfl,rfl⟩,⟨rfl,M,rfl,rfl⟩,⟨rfl,K,rfl,rfl⟩,(X6 [(v0,P0),(v1,P1),(v2,P2)]),(Z4 (X4 _)),rfl,⟨rfl,[(v0,P0),(v1,P1),(v2,P2)],rfl,rfl⟩,⟨rfl,L,rfl,rfl⟩,⟨rfl,M,rfl,rfl⟩,⟨rfl,K,rfl,rfl⟩,⟨rfl,L,rfl,rfl⟩,hn,rfl,hM,hK,(S9 hH1 hH2),rfl,⟨rfl,[(v0,P0),(v1,P1),(v2,P2)],rfl,rfl⟩,⟨rfl,L,rfl,rfl⟩,⟨rfl,M,rfl,rfl⟩,⟨rfl,K,rfl,rfl⟩,⟨rfl,P0,rfl,rfl⟩,hn,(hrow 0 (by decide)),hM,hK,(S9 hH1 hH2),(by show -9223372036854775808≤(_:Int)∧(_:Int)≤9223372036854775807;constructor<;>decide),rfl,⟨rfl,[(v0,P0),(v1,P1),(v2,P2)],rfl,rfl⟩,⟨rfl,L,rfl,rfl⟩,⟨rfl,M,rfl,rfl⟩,⟨rfl,K,rfl,rfl⟩,⟨rfl,P1,rfl,rfl⟩,hn,(hrow 1 (by decide)),hM,hK,(S9 hH1 hH2),(by show -9223372036854775808≤(_:Int)∧(_:Int)≤9223372036854775807;constructor<;>decide),rfl,⟨rfl,[(v0,P0),(v1,P1),(v2,P2)],rfl,rfl⟩,⟨rfl,L,rfl,rfl⟩,⟨rfl,M,rfl,rfl⟩,⟨rfl,K,rfl,rfl⟩,⟨rfl,P2,rfl,rfl⟩,hn,(hrow 2 (by decide)),hM,hK,(S9 hH1 hH2),(by show -9223372036854775808≤(_:Int)∧(_:Int)≤9223372036854775807;constructor<;>decide),rfl,(by show 0+3*(0+1)≤3;decide),(by rw [Z3,Y9];omega),(by rw [Z3,Y9];omega),(by rw [Z3,Y9];omega),(by rw [Z3,Y9];omega),⟨rfl,[(v0,P0),(v1,P1),(v2,P2)],rfl,rfl⟩,⟨rfl,L,rfl,rfl⟩,⟨rfl,M,rfl,rfl⟩,⟨rfl,K,rfl,rfl⟩,hn.2,⟨rfl,_,Z0,(Y9 _ _).symm⟩,⟨rfl,_,Z0,(Y9 _ _).symm⟩,⟨rfl,_,Z0,(Y9 _ _).symm⟩,⟨rfl,_,Z0,(Y9 _ _).symm⟩,rfl,rfl,rfl,rfl,hM,hK,rfl,(by rw [Z0,Z0,Z0,Z0];exact E4 (hcur 0 (by decide)) (hcur 1 (by decide)) (hcur 2 (by decide)) hlam),(S9 hH1 hH2),(by rw [hqptt3_1];rfl),rfl,trivial⟩ rfl rfl (by decide) rfl ⟨P7 rfl,E2 _,trivial⟩ ⟨⟨by show 0<6;decide,M4 (X9 (I1 rfl) (X9 (I1 rfl) (X9 (I1 rfl) (V1))))⟩,⟨by show 1<6;decide,M4 (U6 (Z2 _))⟩,⟨by show 2<6;decide,M4 (U6 (Z2 _))⟩,⟨by show 3<6;decide,M4 (U6 (Z2 _))⟩,⟨by show 4<6;decide,M4 (U6 (Z2 _))⟩,⟨by show 5<6;decide,U8 (X9 (I1 rfl) (X9 (I1 rfl) (V1)))⟩,trivial⟩) (E3 (r:=(.tup [(.agg [(.slu 0 0 3 0),(.slu 1 0 (L.length) 0)]),(.v (.int .i64 (.ofNat 0)))])) (ys:=[(b2F L),(a5C K L M),(a69 K L M P0),(a6b K L M P1),(a4V K L M P2)]) (by rfl) (by (simp only [Z0])) (J4 (by kernel_rfl) (by kernel_rfl) rfl (.inr rfl)))
theorem c2r(y v0:Value)(P0:List (Int×Int))(v1:Value)(P1:List (Int×Int))(v2:Value)(P2:List (Int×Int))(yl:Value)(L:List (Int×Int))(z:Value)(M:List Int)(zk:Value)(K:List Int)(hC:U9 (a5H P0 P1 P2 v0 v1 v2) 3 (cR L) L.length=0)(hH1:W6 L.length (cI M) M.length=0)(hH2:W6 L.length (cI K) K.length=0)(hZt:¬ (m8 (cR P0) (cR P1) (cR P2) (cR L) (Y7 (cI M) (cI K) L.length) L.length true)):G7 Try.prog 26 [(b2p L P0 P1 P2 v0 v1 v2 y yl),(.xl z M.length 1 (cI M)),(.xl zk K.length 1 (cI K))] [] ((.tup [.agg [.slu 0 0 3 0,.slu 1 0 L.length 0],.v (.int .i64 0)])) [(a8H L),(a5C K L M),(a69 K L M P0),(a6b K L M P1),(a4V K L M P2)] :=
 R0 32 (by kernel_rfl) Try.func26 (by kernel_rfl) (by kernel_rfl) (by kernel_rfl) (fun v eb ec=>W2 (by kernel_rfl) (by kernel_rfl) (by kernel_rfl) (by kernel_rfl) (c5M y v0 P0 v1 P1 v2 P2 yl L z M zk K hC hH1 hH2 hZt v eb ec []))
noncomputable def c51:Code:=R8 Try.f26
theorem c5f(y v0:Value)(P0:List (Int×Int))(v1:Value)(P1:List (Int×Int))(v2:Value)(P2:List (Int×Int))(yl:Value)(L:List (Int×Int))(z:Value)(M:List Int)(zk:Value)(K:List Int)(hC:U9 (a5H P0 P1 P2 v0 v1 v2) 3 (cR L) L.length=0)(hH1:W6 L.length (cI M) M.length=0)(hH2:W6 L.length (cI K) K.length=0)(hZt:(m8 (cR P0) (cR P1) (cR P2) (cR L) (Y7 (cI M) (cI K) L.length) L.length true))(hZf:¬ (m8 (cR P0) (cR P1) (cR P2) (cR L) (Y7 (cI M) (cI K) L.length) L.length false))(v:BaseW)(eb:Nat→Option Nat)(ec:Nat→Nat)(hs:List Nat):Y4 Try.prog 32 c51 ((b3W K L M P0 P1 P2 v0 v1 v2 y yl z zk)) (BaseW.H (bw v 0 eb ec) hs) (R7 Try.prog Try.f26 32 ((.tup [.agg [.slu 0 0 3 0,.slu 1 0 L.length 0],.v (.int .i64 0)])) [(a8H L),(a6e K L M),(a66 K L M P0),(b0a K L M P1),(b03 K L M P2)] (bw v 0 eb ec)):=by
 have hcl_P0:=Y6 P0
 have hcl_P1:=Y6 P1
 have hcl_P2:=Y6 P2
 have hcl_L:=Y6 L
 have hcl_M:=Z3 M
 have hcl_K:=Z3 K
 obtain ⟨hn,-,hrow,hlam,hcur⟩:=T5 hC
 have hM:=(U2 hH1).1
 have hK:=(U2 hH2).1
 rcases Bool.eq_false_or_eq_true (a71 K L M P0 P1 P2) with hqptf3_1|hqptf3_1
 ·rcases Bool.eq_false_or_eq_true (a9V K L M P0 P1 P2) with hqptf3_2|hqptf3_2
  ·exact absurd (zr_iff.1 hqptf3_2) hZf
  ·exact Z8 W1 (L6 Try.checked.mixed (Y3 x5 (Y3 D7 (Y3 y5 w7))) 200 (T':=⟨[(6,(.ptr 5 0)),(7,(.v (.int .i64 (.ofNat 0))))],[],6,[(0,(b2F L)),(1,(a6e K L M)),(2,(a66 K L M P0)),(3,(b0a K L M P1)),(4,(b03 K L M P2)),(5,(.cells [(.slu 0 0 3 0),(.slu 1 0 (L.length) 0)] 29))]⟩) (e:=.ret) (m:=36) (ps:=[0+2*(0+1)≤((a8A K M z zk):List AV).length,((2:Nat)≤2),V5 1 (O9 P0 P1 P2 v0 v1 v2) 3,Y5 2 L.length (cR L),V9 (0+1) M.length (cI M),V9 (0+1) K.length (cI K),a4y 2,((3:Nat)≤1000),M.length≤1000,K.length≤1000,U0 (U9 (O9 P0 P1 P2 v0 v1 v2) 3 (cR L) L.length) (W6 L.length (cI M) M.length) (W6 L.length (cI K) K.length)=0,(!T9 0 0)=false,W9 (O9 P0 P1 P2 v0 v1 v2),W9 (cR L),W9 (cI M),W9 (cI K),V5 1 (O9 P0 P1 P2 v0 v1 v2) 3,Y5 2 L.length (cR L),V9 1 M.length (cI M),V9 1 K.length (cI K),W9 (O9 P0 P1 P2 v0 v1 v2),W9 (cR L),X8 0 2=true,V5 1 (O9 P0 P1 P2 v0 v1 v2) 3,Y5 2 L.length (cR L),V9 1 M.length (cI M),V9 1 K.length (cI K),Y5 2 L.length (cR L),1≤L.length∧L.length≤8,L.length=L.length,M.length=L.length,K.length=L.length,Q1 (cI M) (cI K) L.length,X8 0 3=true,V5 1 (O9 P0 P1 P2 v0 v1 v2) 3,Y5 2 L.length (cR L),V9 1 M.length (cI M),V9 1 K.length (cI K),Y5 2 P0.length (cR P0),1≤L.length∧L.length≤8,P0.length=L.length,M.length=L.length,K.length=L.length,Q1 (cI M) (cI K) L.length,O8 IntKind.i64 (0+1),X8 (0+1) 3=true,V5 1 (O9 P0 P1 P2 v0 v1 v2) 3,Y5 2 L.length (cR L),V9 1 M.length (cI M),V9 1 K.length (cI K),Y5 2 P1.length (cR P1),1≤L.length∧L.length≤8,P1.length=L.length,M.length=L.length,K.length=L.length,Q1 (cI M) (cI K) L.length,O8 IntKind.i64 (0+1+1),X8 (0+1+1) 3=true,V5 1 (O9 P0 P1 P2 v0 v1 v2) 3,Y5 2 L.length (cR L),V9 1 M.length (cI M),V9 1 K.length (cI K),Y5 2 P2.length (cR P2),1≤L.length∧L.length≤8,P2.length=L.length,M.length=L.length,K.length=L.length,Q1 (cI M) (cI K) L.length,O8 IntKind.i64 (0+1+1+1),X8 (0+1+1+1) 3=false,0+(0+1+1+1)*(0+1)≤([(.slu 11 0 (L.length) 0),(.slu 14 0 (L.length) 0),(.slu 17 0 (L.length) 0)]:List AV).length,0+L.length*(0+1)≤((y6 K L M P0):List AV).length,0+L.length*(0+1)≤((z5 K L M P1):List AV).length,0+L.length*(0+1)≤((y9 K L M P2):List AV).length,0+L.length*(0+1)≤((x6 K L M):List AV).length,V5 1 (O9 P0 P1 P2 v0 v1 v2) 3,Y5 2 L.length (cR L),V9 1 M.length (cI M),V9 1 K.length (cI K),L.length≤8,J7 (0+1) L.length (List.take (L.length*(0+1)) (List.drop 0 (y6 K L M P0))),J7 (0+1) L.length (List.take (L.length*(0+1)) (List.drop 0 (z5 K L M P1))),J7 (0+1) L.length (List.take (L.length*(0+1)) (List.drop 0 (y9 K L M P2))),J7 (0+1) L.length (List.take (L.length*(0+1)) (List.drop 0 (x6 K L M))),L.length=L.length,L.length=L.length,L.length=L.length,L.length=L.length,M.length=L.length,K.length=L.length,E9 (0+1+1+1),a2r (List.take (L.length*(0+1)) (List.drop 0 (y6 K L M P0))) (List.take (L.length*(0+1)) (List.drop 0 (z5 K L M P1))) (List.take (L.length*(0+1)) (List.drop 0 (y9 K L M P2))) (List.take (L.length*(0+1)) (List.drop 0 (x6 K L M))) L.length,Q1 (cI M) (cI K) L.length,(!(a71 K L M P0 P1 P2))=false,O8 IntKind.i64 (0+1),X8 (0+1) 2=true,V5 1 (O9 P0 P1 P2 v0 v1 v2) 3,Y5 2 L.length (cR L),V9 1 M.length (cI M),V9 1 K.length (cI K),Y5 2 L.length (cR L),1≤L.length∧L.length≤8,L.length=L.length,M.length=L.length,K.length=L.length,Q1 (cI M) (cI K) L.length,X8 0 3=true,V5 1 (O9 P0 P1 P2 v0 v1 v2) 3,Y5 2 L.length (cR L),V9 1 M.length (cI M),V9 1 K.length (cI K),Y5 2 P0.length (cR P0),1≤L.length∧L.length≤8,P0.length=L.length,M.length=L.length,K.length=L.length,Q1 (cI M) (cI K) L.length,O8 IntKind.i64 (0+1),X8 (0+1) 3=true,V5 1 (O9 P0 P1 P2 v0 v1 v2) 3,Y5 2 L.length (cR L),V9 1 M.length (cI M),V9 1 K.length (cI K),Y5 2 P1.length (cR P1),1≤L.length∧L.length≤8,P1.length=L.length,M.length=L.length,K.length=L.length,Q1 (cI M) (cI K) L.length,O8 IntKind.i64 (0+1+1),X8 (0+1+1) 3=true,V5 1 (O9 P0 P1 P2 v0 v1 v2) 3,Y5 2 L.length (cR L),V9 1 M.length (cI M),V9 1 K.length (cI K),Y5 2 P2.length (cR P2),1≤L.length∧L.length≤8,P2.length=L.length,M.length=L.length,K.length=L.length,Q1 (cI M) (cI K) L.length,O8 IntKind.i64 (0+1+1+1),X8 (0+1+1+1) 3=false,0+(0+1+1+1)*(0+1)≤([(.slu 25 0 (L.length) 0),(.slu 28 0 (L.length) 0),(.slu 31 0 (L.length) 0)]:List AV).length,0+L.length*(0+1)≤((j7 K L M P0):List AV).length,0+L.length*(0+1)≤((i8 K L M P1):List AV).length,0+L.length*(0+1)≤((k7 K L M P2):List AV).length,0+L.length*(0+1)≤((g9 K L M):List AV).length,V5 1 (O9 P0 P1 P2 v0 v1 v2) 3,Y5 2 L.length (cR L),V9 1 M.length (cI M),V9 1 K.length (cI K),L.length≤8,J7 (0+1) L.length (List.take (L.length*(0+1)) (List.drop 0 (j7 K L M P0))),J7 (0+1) L.length (List.take (L.length*(0+1)) (List.drop 0 (i8 K L M P1))),J7 (0+1) L.length (List.take (L.length*(0+1)) (List.drop 0 (k7 K L M P2))),J7 (0+1) L.length (List.take (L.length*(0+1)) (List.drop 0 (g9 K L M))),L.length=L.length,L.length=L.length,L.length=L.length,L.length=L.length,M.length=L.length,K.length=L.length,E9 (0+1+1+1),a2r (List.take (L.length*(0+1)) (List.drop 0 (j7 K L M P0))) (List.take (L.length*(0+1)) (List.drop 0 (i8 K L M P1))) (List.take (L.length*(0+1)) (List.drop 0 (k7 K L M P2))) (List.take (L.length*(0+1)) (List.drop 0 (g9 K L M))) L.length,Q1 (cI M) (cI K) L.length,(!(a9V K L M P0 P1 P2))=true,(!true)=false]) [.go,.go,.go,.go,.go,.go,.go,.go,.go,.go,.b false,.go,.go,.go,.go,.go,.go,.go,.go,.go,.b true,.go,.go,.go,.go,.go,.go,.go,.go,.go,.go,.go,.go,.go,.go,.go,.go,.go,.go,.go,.go,.b true,.go,.go,.go,.go,.go,.go,.go,.go,.go,.go,.go,.go,.go,.go,.go,.b true,.go,.go,.go,.go,.go,.go,.go,.go,.go,.go,.go,.go,.go,.go,.go,.b true,.go,.go,.go,.go,.go,.go,.go,.go,.go,.go,.go,.go,.go,.go,.go,.b false,.go,.go,.go,.go,.go,.go,.go,.go,.b false,.go,.go,.go,.b true,.go,.go,.go,.go,.go,.go,.go,.go,.go,.go,.go,.go,.go,.go,.go,.go,.go,.go,.go,.go,.b true,.go,.go,.go,.go,.go,.go,.go,.go,.go,.go,.go,.go,.go,.go,.go,.b true,.go,.go,.go,.go,.go,.go,.go,.go,.go,.go,.go,.go,.go,.go,.go,.b true,.go,.go,.go,.go,.go,.go,.go,.go,.go,.go,.go,.go,.go,.go,.go,.b false,.go,.go,.go,.go,.go,.go,.go,.go,.b true,.go,.go,.go,.go,.go,.go,.go,.go,.go,.go,.go,.b false,.go,.go,.go] [33,23,25,28,31,1] [(.ptr 1 0),(.v (.int .i64 (.ofNat 0)))] [(.row [(.slu 25 0 (L.length) 0),(.slu 28 0 (L.length) 0),(.slu 31 0 (L.length) 0)] 27 1),(a6e K L M),(a66 K L M P0),(b0a K L M P1),(b03 K L M P2),(.cells [(.slu 33 0 3 0),(.slu 23 0 (L.length) 0)] 29)] (by kernel_rfl) (by kernel_rfl) ⟨(by show 0+2*(0+1)≤2;decide),(by decide),⟨rfl,[(v0,P0),(v1,P1),(v2,P2)],rfl,rfl⟩,⟨rfl,L,rfl,rfl⟩,⟨rfl,M,rfl,rfl⟩,⟨rfl,K,rfl,rfl⟩,rfl,(by decide),(by omega),(by omega),((c7 hC hH1).trans hH2),rfl,(X6 [(v0,P0),(v1,P1),(v2,P2)]),(Z4 (X4 _)),(Z4 (Z2 _)),(Z4 (Z2 _)),⟨rfl,[(v0,P0),(v1,P1),(v2,P2)],rfl,rfl⟩,⟨rfl,L,rfl,rfl⟩,⟨rfl,M,rfl,rfl⟩,⟨rfl,K,rfl,rfl⟩,(X6 [(v0,P0),(v1,P1),(v2,P2)]),(Z4 (X4 _)),rfl,⟨rfl,[(v0,P0),(v1,P1),(v2,P2)],rfl,rfl⟩,⟨rfl,L,rfl,rfl⟩,⟨rfl,M,rfl,rfl⟩,⟨rfl,K,rfl,rfl⟩,⟨rfl,L,rfl,rfl⟩,hn,rfl,hM,hK,(S9 hH1 hH2),rfl,⟨rfl,[(v0,P0),(v1,P1),(v2,P2)],rfl,rfl⟩,⟨rfl,L,rfl,rfl⟩,⟨rfl,M,rfl,rfl⟩,⟨rfl,K,rfl,rfl⟩,⟨rfl,P0,rfl,rfl⟩,hn,(hrow 0 (by decide)),hM,hK,(S9 hH1 hH2),(by show -9223372036854775808≤(_:Int)∧(_:Int)≤9223372036854775807;constructor<;>decide),rfl,⟨rfl,[(v0,P0),(v1,P1),(v2,P2)],rfl,rfl⟩,⟨rfl,L,rfl,rfl⟩,⟨rfl,M,rfl,rfl⟩,⟨rfl,K,rfl,rfl⟩,⟨rfl,P1,rfl,rfl⟩,hn,(hrow 1 (by decide)),hM,hK,(S9 hH1 hH2),(by show -9223372036854775808≤(_:Int)∧(_:Int)≤9223372036854775807;constructor<;>decide),rfl,⟨rfl,[(v0,P0),(v1,P1),(v2,P2)],rfl,rfl⟩,⟨rfl,L,rfl,rfl⟩,⟨rfl,M,rfl,rfl⟩,⟨rfl,K,rfl,rfl⟩,⟨rfl,P2,rfl,rfl⟩,hn,(hrow 2 (by decide)),hM,hK,(S9 hH1 hH2),(by show -9223372036854775808≤(_:Int)∧(_:Int)≤9223372036854775807;constructor<;>decide),rfl,(by show 0+3*(0+1)≤3;decide),(by rw [Z3,Y9];omega),(by rw [Z3,Y9];omega),(by rw [Z3,Y9];omega),(by rw [Z3,Y9];omega),⟨rfl,[(v0,P0),(v1,P1),(v2,P2)],rfl,rfl⟩,⟨rfl,L,rfl,rfl⟩,⟨rfl,M,rfl,rfl⟩,⟨rfl,K,rfl,rfl⟩,hn.2,⟨rfl,_,Z0,(Y9 _ _).symm⟩,⟨rfl,_,Z0,(Y9 _ _).symm⟩,⟨rfl,_,Z0,(Y9 _ _).symm⟩,⟨rfl,_,Z0,(Y9 _ _).symm⟩,rfl,rfl,rfl,rfl,hM,hK,rfl,(by rw [Z0,Z0,Z0,Z0];exact E4 (hcur 0 (by decide)) (hcur 1 (by decide)) (hcur 2 (by decide)) hlam),(S9 hH1 hH2),(by rw [hqptf3_1];rfl),(by show -9223372036854775808≤(_:Int)∧(_:Int)≤9223372036854775807;constructor<;>decide),rfl,⟨rfl,[(v0,P0),(v1,P1),(v2,P2)],rfl,rfl⟩,⟨rfl,L,rfl,rfl⟩,⟨rfl,M,rfl,rfl⟩,⟨rfl,K,rfl,rfl⟩,⟨rfl,L,rfl,rfl⟩,hn,rfl,hM,hK,(S9 hH1 hH2),rfl,⟨rfl,[(v0,P0),(v1,P1),(v2,P2)],rfl,rfl⟩,⟨rfl,L,rfl,rfl⟩,⟨rfl,M,rfl,rfl⟩,⟨rfl,K,rfl,rfl⟩,⟨rfl,P0,rfl,rfl⟩,hn,(hrow 0 (by decide)),hM,hK,(S9 hH1 hH2),(by show -9223372036854775808≤(_:Int)∧(_:Int)≤9223372036854775807;constructor<;>decide),rfl,⟨rfl,[(v0,P0),(v1,P1),(v2,P2)],rfl,rfl⟩,⟨rfl,L,rfl,rfl⟩,⟨rfl,M,rfl,rfl⟩,⟨rfl,K,rfl,rfl⟩,⟨rfl,P1,rfl,rfl⟩,hn,(hrow 1 (by decide)),hM,hK,(S9 hH1 hH2),(by show -9223372036854775808≤(_:Int)∧(_:Int)≤9223372036854775807;constructor<;>decide),rfl,⟨rfl,[(v0,P0),(v1,P1),(v2,P2)],rfl,rfl⟩,⟨rfl,L,rfl,rfl⟩,⟨rfl,M,rfl,rfl⟩,⟨rfl,K,rfl,rfl⟩,⟨rfl,P2,rfl,rfl⟩,hn,(hrow 2 (by decide)),hM,hK,(S9 hH1 hH2),(by show -9223372036854775808≤(_:Int)∧(_:Int)≤9223372036854775807;constructor<;>decide),rfl,(by show 0+3*(0+1)≤3;decide),(by rw [Z3,Y9];omega),(by rw [Z3,Y9];omega),(by rw [Z3,Y9];omega),(by rw [Z3,Y9];omega),⟨rfl,[(v0,P0),(v1,P1),(v2,P2)],rfl,rfl⟩,⟨rfl,L,rfl,rfl⟩,⟨rfl,M,rfl,rfl⟩,⟨rfl,K,rfl,rfl⟩,hn.2,⟨rfl,_,Z0,(Y9 _ _).symm⟩,⟨rfl,_,Z0,(Y9 _ _).symm⟩,⟨rfl,_,Z0,(Y9 _ _).symm⟩,⟨rfl,_,Z0,(Y9 _ _).symm⟩,rfl,rfl,rfl,rfl,hM,hK,rfl,(by rw [Z0,Z0,Z0,Z0];exact E4 (hcur 0 (by decide)) (hcur 1 (by decide)) (hcur 2 (by decide)) hlam),(S9 hH1 hH2),(by rw [hqptf3_2];rfl),rfl,trivial⟩ rfl rfl (by decide) rfl ⟨P7 rfl,E2 _,trivial⟩ ⟨⟨by show 0<6;decide,M4 (X9 (I1 rfl) (X9 (I1 rfl) (X9 (I1 rfl) (V1))))⟩,⟨by show 1<6;decide,M4 (U6 (Z2 _))⟩,⟨by show 2<6;decide,M4 (U6 (Z2 _))⟩,⟨by show 3<6;decide,M4 (U6 (Z2 _))⟩,⟨by show 4<6;decide,M4 (U6 (Z2 _))⟩,⟨by show 5<6;decide,U8 (X9 (I1 rfl) (X9 (I1 rfl) (V1)))⟩,trivial⟩) (E3 (r:=(.tup [(.agg [(.slu 0 0 3 0),(.slu 1 0 (L.length) 0)]),(.v (.int .i64 (.ofNat 0)))])) (ys:=[(b2F L),(a6e K L M),(a66 K L M P0),(b0a K L M P1),(b03 K L M P2)]) (by rfl) (by (simp only [Z0])) (J4 (by kernel_rfl) (by kernel_rfl) rfl (.inr rfl)))
 ·exact absurd hZt (a9e hqptf3_1)
theorem c4t(y v0:Value)(P0:List (Int×Int))(v1:Value)(P1:List (Int×Int))(v2:Value)(P2:List (Int×Int))(yl:Value)(L:List (Int×Int))(z:Value)(M:List Int)(zk:Value)(K:List Int)(hC:U9 (a5H P0 P1 P2 v0 v1 v2) 3 (cR L) L.length=0)(hH1:W6 L.length (cI M) M.length=0)(hH2:W6 L.length (cI K) K.length=0)(hZt:(m8 (cR P0) (cR P1) (cR P2) (cR L) (Y7 (cI M) (cI K) L.length) L.length true))(hZf:¬ (m8 (cR P0) (cR P1) (cR P2) (cR L) (Y7 (cI M) (cI K) L.length) L.length false)):G7 Try.prog 26 [(b2p L P0 P1 P2 v0 v1 v2 y yl),(.xl z M.length 1 (cI M)),(.xl zk K.length 1 (cI K))] [] ((.tup [.agg [.slu 0 0 3 0,.slu 1 0 L.length 0],.v (.int .i64 0)])) [(a8H L),(a6e K L M),(a66 K L M P0),(b0a K L M P1),(b03 K L M P2)] :=
 R0 32 (by kernel_rfl) Try.func26 (by kernel_rfl) (by kernel_rfl) (by kernel_rfl) (fun v eb ec=>W2 (by kernel_rfl) (by kernel_rfl) (by kernel_rfl) (by kernel_rfl) (c5f y v0 P0 v1 P1 v2 P2 yl L z M zk K hC hH1 hH2 hZt hZf v eb ec []))
end
end Go.Proofs.Ytegmogadbnfbgaa
set_option linter.all false
/- What is known of what MetamerNumbers calls. -/
namespace Go.Proofs.Ytegmogadbnfbgaa
open Go Ev
noncomputable section
def c4h:List AV→Option (C9×List Prop):=fun vs =>
 match vs with
 |[.agg [.xl y m k1 cE,.xl yl n k2 cL]]=>some (.val (.v (.bool (gwB cE m n))),[V5 k1 cE m,Y5 k2 n cL])
 |_=>none
def b5n:R6:=H8 13 c4h
theorem a1i:Known Try.prog (clsO b5n):=O2 (fun vs r ps h hp=>by
 unfold c4h at h
 split at h
 ·cases h
  obtain ⟨⟨rfl,E,rfl,rfl⟩,⟨rfl,L,rfl,rfl⟩,-⟩:=hp
  exact ⟨X3 (a2L E L) S8,_,rfl,c4L _ E _ L⟩
 ·cases h)
def wkO:R6:=a2i 15 (fun xs=>match xs with | []=>some (.v (.bool true))|_=>none)
end
end Go.Proofs.Ytegmogadbnfbgaa
set_option maxHeartbeats 4000000
set_option linter.all false
/- Lists seen from outside, compared. -/
namespace Go.Proofs.Ytegmogadbnfbgaa
open Go Ev
noncomputable section
section
variable (L : List (Int × Int)) (i : Nat) (y z : Value)
@[reducible] def b5R:=(T9 (Z9 (cR L) (i*2+0)) (Z9 (cR L) (i*2+0))&&(T9 (Z9 (cR L) (i*2+1)) (Z9 (cR L) (i*2+1))&&true))
@[reducible] def a3u:Nat×Ev.AV:=(0,(.xl (y) (L.length) 2 (cR L)))
@[reducible] def a3P:Nat×Ev.AV:=(1,(.xl (z) (L.length) 2 (cR L)))
@[reducible] def b1k:Ev.Lit:=⟨[(a3u L y),(a3P L z),(5,(.v (.int .i64 (.ofNat 0))))],[],0,[]⟩
@[reducible] def a6u:Ev.Lit:=⟨[(a3u L y),(a3P L z)],[],0,[]⟩
@[reducible] def a3l:=(T9 L.length L.length)
end
noncomputable def c4C:Code:=R8 Try.f23
noncomputable def c4n:Code:=N4 c4C
noncomputable def c11:Code:=N4 c4n
noncomputable def b4i:Code:=N4 c11
noncomputable def b8o:Code:=(m9 c11)
noncomputable def b4R:Code:=N4 b8o
noncomputable def c3l:Code:=L2 b4R
theorem c46(y z:Value)(L:List (Int×Int))(hL:L.length≤1000)(hqrx7_1:(a3l L)=true)(h0b:True)(hqrx18_1:(X8 L.length L.length)=false)(w:World)(hs:List Nat):Y4 Try.prog 26 b4i (⟨[],[],0,[]⟩) (BaseW.H w hs) (V3 Try.prog Try.f23 26 (.bool true) w):=by
 have hcl_L:=Y6 L
 have ghqrx7_1:=Y8 hqrx7_1
 have ghqrx18_1:=Z6 hqrx18_1
 exact Z8 W1 (Z7 Try.checked.mixed (Z5) 200 (T':=⟨[(4,(.v (.bool .true)))],[],0,[]⟩) (e:=.ret) (ps:=[]) [.go] (by kernel_rfl) (by kernel_rfl) trivial rfl) (Hd.en_eq (r:=(.bool .true)) (by rfl) (Hd.en_ret (v:=(.v (.bool .true))) (by kernel_rfl) rfl))
theorem c41(y z:Value)(L:List (Int×Int))(hL:L.length≤1000)(hqrx7_1:(a3l L)=true)(i:Nat)(hi1:i≤L.length)(hi2:True)(w:World)(hs:List Nat):Y4 Try.prog 26 c3l (⟨[(a3u L y),(a3P L z),(5,(.v (.int .i64 i)))],[],0,[]⟩) (BaseW.H w hs) (Hd.StepC Try.prog 26 0 (fun i:{i:Nat // i≤L.length∧True}=>⟨[(a3u L y),(a3P L z),(5,(.v (.int .i64 i.1)))],[],0,[]⟩) (fun i:{i:Nat // i≤L.length∧True}=>L.length - i.1) b4i w (V3 Try.prog Try.f23 26 (.bool true) w) (⟨i,hi1,hi2⟩:{i:Nat // i≤L.length∧True})):=by
 have hcl_L:=Y6 L
 have ghqrx7_1:=Y8 hqrx7_1
 rcases Bool.eq_false_or_eq_true (X8 i L.length) with hqrx18_1|hqrx18_1
 ·have ghqrx18_1:=Y1 hqrx18_1
  rcases Bool.eq_false_or_eq_true (b5R L i) with hqrx18_2|hqrx18_2
  ·exact Z8 V0 (Z7 Try.checked.mixed (Z5) 200 (T':=⟨[(a3u L y),(a3P L z),(5,(.v (.int .i64 (((i+1):Nat):Int))))],[],0,[]⟩) (e:=.normal) (ps:=[X8 i L.length=true,i<L.length,W7 Try.prog (cR L) (i*2) 65=some (AV.agg [AV.v (Value.int IntKind.i64 (Z9 (cR L) (i*2+0))),AV.v (Value.int IntKind.i64 (Z9 (cR L) (i*2+1)))]),i<L.length,W7 Try.prog (cR L) (i*2) 65=some (AV.agg [AV.v (Value.int IntKind.i64 (Z9 (cR L) (i*2+0))),AV.v (Value.int IntKind.i64 (Z9 (cR L) (i*2+1)))]),(!(b5R L i))=false,O8 IntKind.i64 (((i:Nat):Int)+1)]) [.go,.go,.go,.go,.b true,.go,.go,.sym,.sym,.go,.go,.sym,.sym,.go,.b false,.go,.go,.go] (by kernel_rfl) (by kernel_rfl) ⟨hqrx18_1,(by omega),(K5 (by omega) 65 (Try.underlying65) rfl (inf:=(Try.prog.info? 65).getD default) (by kernel_rfl) (by kernel_rfl)),(by omega),(K5 (by omega) 65 (Try.underlying65) rfl (inf:=(Try.prog.info? 65).getD default) (by kernel_rfl) (by kernel_rfl)),(by rw [hqrx18_2];rfl),(by show -9223372036854775808≤_∧_≤9223372036854775807;constructor<;>omega),trivial⟩ rfl) (Hd.en_on (⟨i+1,by omega,trivial⟩) (by show L.length - (i+1)<L.length - i;omega) rfl)
  ·exact absurd hqrx18_2 (by simp [k9])
 ·have ghqrx18_1:=Z6 hqrx18_1
  obtain rfl:i=L.length:=by omega
  exact Z8 E7 (Z7 Try.checked.mixed (Z5) 200 (T':=⟨[],[],0,[]⟩) (e:=.exit 0) (ps:=[X8 L.length L.length=false]) [.go,.go,.go,.go,.b false] (by kernel_rfl) (by kernel_rfl) ⟨hqrx18_1,trivial⟩ rfl) (Hd.en_sx (c46 y z L hL hqrx7_1 hi2  hqrx18_1 w hs))
theorem c64(y z:Value)(L:List (Int×Int))(hL:L.length≤1000)(hqrx7_1:(a3l L)=true)(w:World)(hs:List Nat):Y4 Try.prog 26 b4R ((b1k L y z)) (BaseW.H w hs) (Hd.AfterN Try.prog 26 b4i w (V3 Try.prog Try.f23 26 (.bool true) w)):=by
 have hcl_L:=Y6 L
 have ghqrx7_1:=Y8 hqrx7_1
 exact Hd.goes_loopA (id:=0) (by kernel_rfl) (by kernel_rfl) (fun i:{i:Nat // i≤L.length∧True}=>⟨[(a3u L y),(a3P L z),(5,(.v (.int .i64 i.1)))],[],0,[]⟩) (fun i:{i:Nat // i≤L.length∧True}=>L.length - i.1) (fun ix_ hs=>c41 y z L hL hqrx7_1 ix_.1 ix_.2.1 ix_.2.2 w hs) ⟨0,Nat.zero_le _,trivial⟩ hs
theorem c63(y z:Value)(L:List (Int×Int))(hL:L.length≤1000)(hqrx7_1:(a3l L)=true)(w:World)(hs:List Nat):Y4 Try.prog 26 b4R ((b1k L y z)) (BaseW.H w hs) (Hd.AfterN Try.prog 26 b4i w (V3 Try.prog Try.f23 26 (.bool true) w)):=by
 exact c64 y z L hL hqrx7_1 w hs
theorem c5L(y z:Value)(L:List (Int×Int))(hL:L.length≤1000)(hqrx7_1:(a3l L)=true)(w:World)(hs:List Nat):Y4 Try.prog 26 b8o ((a6u L y z)) (BaseW.H w hs) (Hd.AfterN Try.prog 26 b4i w (V3 Try.prog Try.f23 26 (.bool true) w)):=by
 have hcl_L:=Y6 L
 have ghqrx7_1:=Y8 hqrx7_1
 refine Hd.goes_seqA (by kernel_rfl) ?_
 exact Z8 V0 (Z7 Try.checked.mixed (Z5) 200 (T':=(b1k L y z)) (e:=.normal) (ps:=[]) [.go] (by kernel_rfl) (by kernel_rfl) trivial rfl) (Hd.en_n (c63 y z L hL hqrx7_1 w hs))
theorem c7w(y z:Value)(L:List (Int×Int))(hL:L.length≤1000)(hqrx7_1:(a3l L)=true)(w:World)(hs:List Nat):Y4 Try.prog 26 c11 ((a6u L y z)) (BaseW.H w hs) (V3 Try.prog Try.f23 26 (.bool true) w):=by
 exact Hd.goes_seqA (by kernel_rfl) (c5L y z L hL hqrx7_1 w hs)
theorem c6V(y z:Value)(L:List (Int×Int))(hL:L.length≤1000)(w:World)(hs:List Nat):Y4 Try.prog 26 c4n ((a6u L y z)) (BaseW.H w hs) (V3 Try.prog Try.f23 26 (.bool true) w):=by
 have hcl_L:=Y6 L
 refine Hd.goes_seqA (by kernel_rfl) ?_
 rcases Bool.eq_false_or_eq_true (T9 L.length L.length) with hqrx7_1|hqrx7_1
 ·have ghqrx7_1:=Y8 hqrx7_1
  exact Z8 V0 (Z7 Try.checked.mixed (Z5) 200 (T':=(a6u L y z)) (e:=.normal) (ps:=[(!T9 L.length L.length)=false]) [.go,.go,.go,.go,.go,.b false] (by kernel_rfl) (by kernel_rfl) ⟨(by rw [hqrx7_1];rfl),trivial⟩ rfl) (Hd.en_n (c7w y z L hL hqrx7_1 w hs))
 ·have ghqrx7_1:=X5 hqrx7_1
  exact absurd rfl (X5 hqrx7_1)
theorem c6I(y z:Value)(L:List (Int×Int))(hL:L.length≤1000)(w:World)(hs:List Nat):Y4 Try.prog 26 c4C (⟨[(0,(.xl y L.length 2 (cR L))),(1,(.xl z L.length 2 (cR L)))],[],0,[]⟩) (BaseW.H w hs) (V3 Try.prog Try.f23 26 (.bool true) w):=by
 have hcl_L:=Y6 L
 refine Hd.goes_seqA (by kernel_rfl) ?_
 exact Z8 V0 (Z7 Try.checked.mixed (Z5) 200 (T':=(a6u L y z)) (e:=.normal) (ps:=[]) [.go] (by kernel_rfl) (by kernel_rfl) trivial rfl) (Hd.en_n (c6V y z L hL w hs))
theorem c3b(y z:Value)(L:List (Int×Int))(hL:L.length≤1000):GivesA Try.prog 23 [(.xl y L.length 2 (cR L)),(.xl z L.length 2 (cR L))] (.bool true) :=
 W0 26 Try.func23 (by kernel_rfl) (by kernel_rfl) (by kernel_rfl) (fun w=>W2 (by kernel_rfl) (by kernel_rfl) (by kernel_rfl) (by kernel_rfl) (c6I y z L hL w []))
noncomputable def c7l:Code:=R8 Try.f22
theorem c6z(y z:Value)(a0 a1 a2 b0 b1 b2:Int)(hN:¬ (a0=b0∧a1=b1∧a2=b2))(w:World)(hs:List Nat):Y4 Try.prog 26 c7l (⟨[(0,(.xl y 3 1 [.v (.int .i64 a0),.v (.int .i64 a1),.v (.int .i64 a2)])),(1,(.xl z 3 1 [.v (.int .i64 b0),.v (.int .i64 b1),.v (.int .i64 b2)]))],[],0,[]⟩) (BaseW.H w hs) (V3 Try.prog Try.f22 26 (.bool false) w):=by
 rcases Bool.eq_false_or_eq_true (T9 a0 b0) with hqlf3_1|hqlf3_1
 ·have ghqlf3_1:=Y8 hqlf3_1
  rcases Bool.eq_false_or_eq_true (T9 a1 b1) with hqlf3_2|hqlf3_2
  ·have ghqlf3_2:=Y8 hqlf3_2
   rcases Bool.eq_false_or_eq_true (T9 a2 b2) with hqlf3_3|hqlf3_3
   ·have ghqlf3_3:=Y8 hqlf3_3
    exact absurd ⟨Y8 hqlf3_1,Y8 hqlf3_2,Y8 hqlf3_3⟩ hN
   ·have ghqlf3_3:=X5 hqlf3_3
    exact Z8 W1 (Z7 Try.checked.mixed (Z5) 200 (T':=⟨[(4,(.v (.bool .false)))],[],0,[]⟩) (e:=.ret) (ps:=[(!T9 3 3)=false,X8 0 3=true,(!T9 a0 b0)=false,O8 IntKind.i64 (0+1),X8 (0+1) 3=true,(!T9 a1 b1)=false,O8 IntKind.i64 (0+1+1),X8 (0+1+1) 3=true,(!T9 a2 b2)=true]) [.go,.go,.go,.go,.go,.go,.b false,.go,.go,.go,.go,.go,.b true,.go,.go,.go,.go,.go,.go,.go,.go,.go,.b false,.go,.go,.go,.go,.go,.go,.go,.b true,.go,.go,.go,.go,.go,.go,.go,.go,.go,.b false,.go,.go,.go,.go,.go,.go,.go,.b true,.go,.go,.go,.go,.go,.go,.go,.go,.go,.b true,.go] (by kernel_rfl) (by kernel_rfl) ⟨(by simp [k9]),rfl,(by rw [hqlf3_1];rfl),(by show -9223372036854775808≤(_:Int)∧(_:Int)≤9223372036854775807;constructor<;>decide),rfl,(by rw [hqlf3_2];rfl),(by show -9223372036854775808≤(_:Int)∧(_:Int)≤9223372036854775807;constructor<;>decide),rfl,(by rw [hqlf3_3];rfl),trivial⟩ rfl) (Hd.en_eq (r:=(.bool .false)) (by rfl) (Hd.en_ret (v:=(.v (.bool .false))) (by kernel_rfl) rfl))
  ·have ghqlf3_2:=X5 hqlf3_2
   exact Z8 W1 (Z7 Try.checked.mixed (Z5) 200 (T':=⟨[(4,(.v (.bool .false)))],[],0,[]⟩) (e:=.ret) (ps:=[(!T9 3 3)=false,X8 0 3=true,(!T9 a0 b0)=false,O8 IntKind.i64 (0+1),X8 (0+1) 3=true,(!T9 a1 b1)=true]) [.go,.go,.go,.go,.go,.go,.b false,.go,.go,.go,.go,.go,.b true,.go,.go,.go,.go,.go,.go,.go,.go,.go,.b false,.go,.go,.go,.go,.go,.go,.go,.b true,.go,.go,.go,.go,.go,.go,.go,.go,.go,.b true,.go] (by kernel_rfl) (by kernel_rfl) ⟨(by simp [k9]),rfl,(by rw [hqlf3_1];rfl),(by show -9223372036854775808≤(_:Int)∧(_:Int)≤9223372036854775807;constructor<;>decide),rfl,(by rw [hqlf3_2];rfl),trivial⟩ rfl) (Hd.en_eq (r:=(.bool .false)) (by rfl) (Hd.en_ret (v:=(.v (.bool .false))) (by kernel_rfl) rfl))
 ·have ghqlf3_1:=X5 hqlf3_1
  exact Z8 W1 (Z7 Try.checked.mixed (Z5) 200 (T':=⟨[(4,(.v (.bool .false)))],[],0,[]⟩) (e:=.ret) (ps:=[(!T9 3 3)=false,X8 0 3=true,(!T9 a0 b0)=true]) [.go,.go,.go,.go,.go,.go,.b false,.go,.go,.go,.go,.go,.b true,.go,.go,.go,.go,.go,.go,.go,.go,.go,.b true,.go] (by kernel_rfl) (by kernel_rfl) ⟨(by simp [k9]),rfl,(by rw [hqlf3_1];rfl),trivial⟩ rfl) (Hd.en_eq (r:=(.bool .false)) (by rfl) (Hd.en_ret (v:=(.v (.bool .false))) (by kernel_rfl) rfl))
theorem c36(y z:Value)(a0 a1 a2 b0 b1 b2:Int)(hN:¬ (a0=b0∧a1=b1∧a2=b2)):GivesA Try.prog 22 [(.xl y 3 1 [.v (.int .i64 a0),.v (.int .i64 a1),.v (.int .i64 a2)]),(.xl z 3 1 [.v (.int .i64 b0),.v (.int .i64 b1),.v (.int .i64 b2)])] (.bool false) :=
 W0 26 Try.func22 (by kernel_rfl) (by kernel_rfl) (by kernel_rfl) (fun w=>W2 (by kernel_rfl) (by kernel_rfl) (by kernel_rfl) (by kernel_rfl) (c6z y z a0 a1 a2 b0 b1 b2 hN w []))
def c30:List AV→List AB→Option ((AV×List AB)×List Prop):=fun args xs =>
 match args,xs with
 |[.agg [.xl y m k1 cE,.xl yl n k2 cL],.xl z r k5 cM,.xl zk s k6 cK],[]=>some ((.tup [.v (.slice none 0 0),.v (.int .i64 (U0 (U9 cE m cL n) (W6 n cM r) (W6 n cK s)))],[]),[V5 k1 cE m,Y5 k2 n cL,V9 k5 r cM,V9 k6 s cK,m≤1000,r≤1000,s≤1000,¬ U0 (U9 cE m cL n) (W6 n cM r) (W6 n cK s)=0])
 |_,_=>none
def c2b:R6:=a2W 24 c30
theorem b3R:Known Try.prog (clsO c2b):=A5 (fun args xs r ys ps h hp=>by
 unfold c30 at h
 split at h
 ·cases h
  obtain ⟨⟨rfl,E,rfl,rfl⟩,⟨rfl,L,rfl,rfl⟩,⟨rfl,M,rfl,rfl⟩,⟨rfl,K,rfl,rfl⟩,h1,h2,h3,h4,-⟩:=hp
  exact ⟨fun x hx=>absurd hx List.not_mem_nil,fun x hx=>absurd hx List.not_mem_nil,c3Q _ E _ L _ M _ K h1 h2 h3 h4⟩
 ·cases h)
def c6e:List AV→List AB→Option ((AV×List AB)×List Prop):=fun args xs =>
 match args,xs with
 |[.agg [.xl y m k1 [.xl v0 n0 j0 c0,.xl v1 n1 j1 c1,.xl v2 n2 j2 c2],.xl yl n k2 cL],.xl z r k5 cM,.xl zk s k6 cK],[]=>some ((.tup [.slu 0 0 3 0,.v (.int .i64 0)],[.row [.v (.int .i64 (R4 c0 c1 c2 cL (Y7 cM cK n) n false 0)),.v (.int .i64 (R4 c0 c1 c2 cL (Y7 cM cK n) n true 0)),.v (.int .i64 (R4 c0 c1 c2 cL (Y7 cM cK n) n false 1)),.v (.int .i64 (R4 c0 c1 c2 cL (Y7 cM cK n) n true 1)),.v (.int .i64 (R4 c0 c1 c2 cL (Y7 cM cK n) n false 2)),.v (.int .i64 (R4 c0 c1 c2 cL (Y7 cM cK n) n true 2))] 65 2]),[m7 k1,E9 m,Y5 j0 n0 c0,Y5 j1 n1 c1,Y5 j2 n2 c2,Y5 k2 n cL,V9 k5 r cM,V9 k6 s cK,U9 [.xl v0 n0 j0 c0,.xl v1 n1 j1 c1,.xl v2 n2 j2 c2] m cL n=0,W6 n cM r=0,W6 n cK s=0])
 |_,_=>none
def b7w:R6:=a2W 24 c6e
theorem a3M:Known Try.prog (clsO b7w):=A5 (fun args xs r ys ps h hp=>by
 unfold c6e at h
 split at h
 ·cases h
  obtain ⟨rfl,rfl,⟨rfl,P0,rfl,rfl⟩,⟨rfl,P1,rfl,rfl⟩,⟨rfl,P2,rfl,rfl⟩,⟨rfl,L,rfl,rfl⟩,⟨rfl,M,rfl,rfl⟩,⟨rfl,K,rfl,rfl⟩,h1,h2,h3,-⟩:=hp
  exact ⟨fun x hx=>absurd hx List.not_mem_nil,fun x hx=>by rw [List.mem_singleton.1 hx];exact H4 (Z4 (show Q7 [.v (.int .i64 (R4 (cR P0) (cR P1) (cR P2) (cR L) (Y7 (cI M) (cI K) L.length) L.length false 0)),.v (.int .i64 (R4 (cR P0) (cR P1) (cR P2) (cR L) (Y7 (cI M) (cI K) L.length) L.length true 0)),.v (.int .i64 (R4 (cR P0) (cR P1) (cR P2) (cR L) (Y7 (cI M) (cI K) L.length) L.length false 1)),.v (.int .i64 (R4 (cR P0) (cR P1) (cR P2) (cR L) (Y7 (cI M) (cI K) L.length) L.length true 1)),.v (.int .i64 (R4 (cR P0) (cR P1) (cR P2) (cR L) (Y7 (cI M) (cI K) L.length) L.length false 2)),.v (.int .i64 (R4 (cR P0) (cR P1) (cR P2) (cR L) (Y7 (cI M) (cI K) L.length) L.length true 2))]=some _ from rfl)),c3i _ _ P0 _ P1 _ P2 _ L _ M _ K h1 h2 h3⟩
 ·cases h)
def c5T:List AV→Option (C9×List Prop):=fun vs =>
 match vs with
 |[.agg [.xl y m k1 cE,.xl yl n k2 cL],.xl z r k5 cM,.xl zk s k6 cK]=>some (.val (.v (.int .i64 (U0 (U9 cE m cL n) (W6 n cM r) (W6 n cK s)))),[V5 k1 cE m,Y5 k2 n cL,V9 k5 r cM,V9 k6 s cK,m≤1000,r≤1000,s≤1000,¬ U0 (U9 cE m cL n) (W6 n cM r) (W6 n cK s)=0])
 |_=>none
def c5s:R6:=H8 27 c5T
theorem b3j:Known Try.prog (clsO c5s):=O2 (fun vs r ps h hp=>by
 unfold c5T at h
 split at h
 ·cases h
  obtain ⟨⟨rfl,E,rfl,rfl⟩,⟨rfl,L,rfl,rfl⟩,⟨rfl,M,rfl,rfl⟩,⟨rfl,K,rfl,rfl⟩,h1,h2,h3,h4,-⟩:=hp
  exact ⟨X3 (D3 (X3 (U3 (Q3 E)) (X3 (U3 (W3 (X4 L))) S8))) (X3 (U3 (W3 (Z2 M))) (X3 (U3 (W3 (Z2 K))) S8)),_,rfl,c4f _ E _ L _ M _ K h1 h2 h3 h4⟩
 ·cases h)
def c5k:List AV→Option (C9×List Prop):=fun vs =>
 match vs with
 |[.agg [.xl y m k1 [.xl v0 n0 j0 c0,.xl v1 n1 j1 c1,.xl v2 n2 j2 c2],.xl yl n k2 cL],.xl z r k5 cM,.xl zk s k6 cK]=>some (.val (.v (.int .i64 (suN c0 c1 c2 cL (Y7 cM cK n) n))),[m7 k1,E9 m,Y5 j0 n0 c0,Y5 j1 n1 c1,Y5 j2 n2 c2,Y5 k2 n cL,V9 k5 r cM,V9 k6 s cK,U9 [.xl v0 n0 j0 c0,.xl v1 n1 j1 c1,.xl v2 n2 j2 c2] m cL n=0,W6 n cM r=0,W6 n cK s=0])
 |_=>none
def b7M:R6:=H8 27 c5k
theorem a3j:Known Try.prog (clsO b7M):=O2 (fun vs r ps h hp=>by
 unfold c5k at h
 split at h
 ·cases h
  obtain ⟨rfl,rfl,⟨rfl,P0,rfl,rfl⟩,⟨rfl,P1,rfl,rfl⟩,⟨rfl,P2,rfl,rfl⟩,⟨rfl,L,rfl,rfl⟩,⟨rfl,M,rfl,rfl⟩,⟨rfl,K,rfl,rfl⟩,h1,h2,h3,-⟩:=hp
  exact ⟨X3 (D3 (X3 (U3 (Q3 [(_,P0),(_,P1),(_,P2)])) (X3 (U3 (W3 (X4 L))) S8))) (X3 (U3 (W3 (Z2 M))) (X3 (U3 (W3 (Z2 K))) S8)),_,rfl,c2t _ _ P0 _ P1 _ P2 _ L _ M _ K h1 h2 h3⟩
 ·cases h)
def c2V:List AV→List AB→Option ((AV×List AB)×List Prop):=fun args xs =>
 match args,xs with
 |[.agg [.xl y m k1 cE,.xl yl n k2 cL],.xl z r k5 cM,.xl zk s k6 cK],[]=>some ((.tup [.agg [.v (.slice none 0 0),.v (.slice none 0 0)],.v (.int .i64 (U0 (U9 cE m cL n) (W6 n cM r) (W6 n cK s)))],[]),[V5 k1 cE m,Y5 k2 n cL,V9 k5 r cM,V9 k6 s cK,m≤1000,r≤1000,s≤1000,¬ U0 (U9 cE m cL n) (W6 n cM r) (W6 n cK s)=0])
 |_,_=>none
def c4R:R6:=a2W 26 c2V
theorem b3E:Known Try.prog (clsO c4R):=A5 (fun args xs r ys ps h hp=>by
 unfold c2V at h
 split at h
 ·cases h
  obtain ⟨⟨rfl,E,rfl,rfl⟩,⟨rfl,L,rfl,rfl⟩,⟨rfl,M,rfl,rfl⟩,⟨rfl,K,rfl,rfl⟩,h1,h2,h3,h4,-⟩:=hp
  exact ⟨fun x hx=>absurd hx List.not_mem_nil,fun x hx=>absurd hx List.not_mem_nil,c5u _ E _ L _ M _ K h1 h2 h3 h4⟩
 ·cases h)
def c5D:List AV→List AB→Option ((AV×List AB)×List Prop):=fun args xs =>
 match args,xs with
 |[.agg [.xl y m k1 [.xl v0 n0 j0 c0,.xl v1 n1 j1 c1,.xl v2 n2 j2 c2],.xl yl n k2 cL],.xl z r k5 cM,.xl zk s k6 cK],[]=>some ((.tup [.agg [.v (.slice none 0 0),.v (.slice none 0 0)],.v (.int .i64 5)],[]),[m7 k1,E9 m,Y5 j0 n0 c0,Y5 j1 n1 c1,Y5 j2 n2 c2,Y5 k2 n cL,V9 k5 r cM,V9 k6 s cK,U9 [.xl v0 n0 j0 c0,.xl v1 n1 j1 c1,.xl v2 n2 j2 c2] m cL n=0,W6 n cM r=0,W6 n cK s=0,m8 c0 c1 c2 cL (Y7 cM cK n) n true,m8 c0 c1 c2 cL (Y7 cM cK n) n false])
 |_,_=>none
def c54:R6:=a2W 26 c5D
theorem b3e:Known Try.prog (clsO c54):=A5 (fun args xs r ys ps h hp=>by
 unfold c5D at h
 split at h
 ·cases h
  obtain ⟨rfl,rfl,⟨rfl,P0,rfl,rfl⟩,⟨rfl,P1,rfl,rfl⟩,⟨rfl,P2,rfl,rfl⟩,⟨rfl,L,rfl,rfl⟩,⟨rfl,M,rfl,rfl⟩,⟨rfl,K,rfl,rfl⟩,h1,h2,h3,h4,h5,-⟩:=hp
  exact ⟨fun x hx=>absurd hx List.not_mem_nil,fun x hx=>absurd hx List.not_mem_nil,c2f _ _ P0 _ P1 _ P2 _ L _ M _ K h1 h2 h3 h4 h5⟩
 ·cases h)
def c2c:List AV→List AB→Option ((AV×List AB)×List Prop):=fun args xs =>
 match args,xs with
 |[.agg [.xl y m k1 [.xl v0 n0 j0 c0,.xl v1 n1 j1 c1,.xl v2 n2 j2 c2],.xl yl n k2 cL],.xl z r k5 cM,.xl zk s k6 cK],[]=>some ((.tup [.agg [.slu 0 0 3 0,.slu 1 0 n 0],.v (.int .i64 0)],[.row [.slu 2 0 n 0,.slu 3 0 n 0,.slu 4 0 n 0] 27 1,.row (cI (tI (W8 cL (Y7 cM cK n) true) n)) 2 1,.row (cI (tI (W8 c0 (Y7 cM cK n) true) n)) 2 1,.row (cI (tI (W8 c1 (Y7 cM cK n) true) n)) 2 1,.row (cI (tI (W8 c2 (Y7 cM cK n) true) n)) 2 1]),[m7 k1,E9 m,Y5 j0 n0 c0,Y5 j1 n1 c1,Y5 j2 n2 c2,Y5 k2 n cL,V9 k5 r cM,V9 k6 s cK,U9 [.xl v0 n0 j0 c0,.xl v1 n1 j1 c1,.xl v2 n2 j2 c2] m cL n=0,W6 n cM r=0,W6 n cK s=0,¬ m8 c0 c1 c2 cL (Y7 cM cK n) n true])
 |_,_=>none
def c6n:R6:=b6d 26 [] [0] c2c
theorem b34:Known Try.prog (clsO c6n):=b2z (fun args xs r ys ps h hp=>by
 unfold c2c at h
 split at h
 ·cases h
  obtain ⟨rfl,rfl,⟨rfl,P0,rfl,rfl⟩,⟨rfl,P1,rfl,rfl⟩,⟨rfl,P2,rfl,rfl⟩,⟨rfl,L,rfl,rfl⟩,⟨rfl,M,rfl,rfl⟩,⟨rfl,K,rfl,rfl⟩,h1,h2,h3,h4,-⟩:=hp
  refine ⟨fun i x hi hx=>by simp at hx,fun i x hi hx=>?_,c2r _ _ P0 _ P1 _ P2 _ L _ M _ K h1 h2 h3 h4⟩
  match i,hi with
  |1,_=>cases hx;exact H4 (Z4 (Z2 _))
  |2,_=>cases hx;exact H4 (Z4 (Z2 _))
  |3,_=>cases hx;exact H4 (Z4 (Z2 _))
  |4,_=>cases hx;exact H4 (Z4 (Z2 _))
  |i+5,_=>simp at hx
 ·cases h)
def c2D:List AV→List AB→Option ((AV×List AB)×List Prop):=fun args xs =>
 match args,xs with
 |[.agg [.xl y m k1 [.xl v0 n0 j0 c0,.xl v1 n1 j1 c1,.xl v2 n2 j2 c2],.xl yl n k2 cL],.xl z r k5 cM,.xl zk s k6 cK],[]=>some ((.tup [.agg [.slu 0 0 3 0,.slu 1 0 n 0],.v (.int .i64 0)],[.row [.slu 2 0 n 0,.slu 3 0 n 0,.slu 4 0 n 0] 27 1,.row (cI (tI (W8 cL (Y7 cM cK n) false) n)) 2 1,.row (cI (tI (W8 c0 (Y7 cM cK n) false) n)) 2 1,.row (cI (tI (W8 c1 (Y7 cM cK n) false) n)) 2 1,.row (cI (tI (W8 c2 (Y7 cM cK n) false) n)) 2 1]),[m7 k1,E9 m,Y5 j0 n0 c0,Y5 j1 n1 c1,Y5 j2 n2 c2,Y5 k2 n cL,V9 k5 r cM,V9 k6 s cK,U9 [.xl v0 n0 j0 c0,.xl v1 n1 j1 c1,.xl v2 n2 j2 c2] m cL n=0,W6 n cM r=0,W6 n cK s=0,m8 c0 c1 c2 cL (Y7 cM cK n) n true,¬ m8 c0 c1 c2 cL (Y7 cM cK n) n false])
 |_,_=>none
def c4v:R6:=b6d 26 [] [0] c2D
theorem b3S:Known Try.prog (clsO c4v):=b2z (fun args xs r ys ps h hp=>by
 unfold c2D at h
 split at h
 ·cases h
  obtain ⟨rfl,rfl,⟨rfl,P0,rfl,rfl⟩,⟨rfl,P1,rfl,rfl⟩,⟨rfl,P2,rfl,rfl⟩,⟨rfl,L,rfl,rfl⟩,⟨rfl,M,rfl,rfl⟩,⟨rfl,K,rfl,rfl⟩,h1,h2,h3,h4,h5,-⟩:=hp
  refine ⟨fun i x hi hx=>by simp at hx,fun i x hi hx=>?_,c4t _ _ P0 _ P1 _ P2 _ L _ M _ K h1 h2 h3 h4 h5⟩
  match i,hi with
  |1,_=>cases hx;exact H4 (Z4 (Z2 _))
  |2,_=>cases hx;exact H4 (Z4 (Z2 _))
  |3,_=>cases hx;exact H4 (Z4 (Z2 _))
  |4,_=>cases hx;exact H4 (Z4 (Z2 _))
  |i+5,_=>simp at hx
 ·cases h)
def c3B:List AV→Option (C9×List Prop):=fun vs =>
 match vs with
 |[.agg [.xl y m k1 cE,.xl yl n k2 cL],.xl z r k5 cM,.xl zk s k6 cK]=>some (.val (.v (.int .i64 (U0 (U9 cE m cL n) (W6 n cM r) (W6 n cK s)))),[V5 k1 cE m,Y5 k2 n cL,V9 k5 r cM,V9 k6 s cK,m≤1000,r≤1000,s≤1000,¬ U0 (U9 cE m cL n) (W6 n cM r) (W6 n cK s)=0])
 |_=>none
def c4G:R6:=H8 29 c3B
theorem b3o:Known Try.prog (clsO c4G):=O2 (fun vs r ps h hp=>by
 unfold c3B at h
 split at h
 ·cases h
  obtain ⟨⟨rfl,E,rfl,rfl⟩,⟨rfl,L,rfl,rfl⟩,⟨rfl,M,rfl,rfl⟩,⟨rfl,K,rfl,rfl⟩,h1,h2,h3,h4,-⟩:=hp
  exact ⟨X3 (D3 (X3 (U3 (Q3 E)) (X3 (U3 (W3 (X4 L))) S8))) (X3 (U3 (W3 (Z2 M))) (X3 (U3 (W3 (Z2 K))) S8)),_,rfl,c2q _ E _ L _ M _ K h1 h2 h3 h4⟩
 ·cases h)
def c4j:List AV→Option (C9×List Prop):=fun vs =>
 match vs with
 |[.agg [.xl y m k1 [.xl v0 n0 j0 c0,.xl v1 n1 j1 c1,.xl v2 n2 j2 c2],.xl yl n k2 cL],.xl z r k5 cM,.xl zk s k6 cK]=>some (.val (.v (.int .i64 (5))),[m7 k1,E9 m,Y5 j0 n0 c0,Y5 j1 n1 c1,Y5 j2 n2 c2,Y5 k2 n cL,V9 k5 r cM,V9 k6 s cK,U9 [.xl v0 n0 j0 c0,.xl v1 n1 j1 c1,.xl v2 n2 j2 c2] m cL n=0,W6 n cM r=0,W6 n cK s=0,suN c0 c1 c2 cL (Y7 cM cK n) n=0])
 |_=>none
def c5p:R6:=H8 29 c4j
theorem b3x:Known Try.prog (clsO c5p):=O2 (fun vs r ps h hp=>by
 unfold c4j at h
 split at h
 ·cases h
  obtain ⟨rfl,rfl,⟨rfl,P0,rfl,rfl⟩,⟨rfl,P1,rfl,rfl⟩,⟨rfl,P2,rfl,rfl⟩,⟨rfl,L,rfl,rfl⟩,⟨rfl,M,rfl,rfl⟩,⟨rfl,K,rfl,rfl⟩,h1,h2,h3,h4,-⟩:=hp
  exact ⟨X3 (D3 (X3 (U3 (Q3 [(_,P0),(_,P1),(_,P2)])) (X3 (U3 (W3 (X4 L))) S8))) (X3 (U3 (W3 (Z2 M))) (X3 (U3 (W3 (Z2 K))) S8)),_,rfl,c5C _ _ P0 _ P1 _ P2 _ L _ M _ K h1 h2 h3 h4⟩
 ·cases h)
def c3C:List AV→Option (C9×List Prop):=fun vs =>
 match vs with
 |[.agg [.xl y m k1 [.xl v0 n0 j0 c0,.xl v1 n1 j1 c1,.xl v2 n2 j2 c2],.xl yl n k2 cL],.xl z r k5 cM,.xl zk s k6 cK]=>some (.val (.v (.int .i64 (0))),[m7 k1,E9 m,Y5 j0 n0 c0,Y5 j1 n1 c1,Y5 j2 n2 c2,Y5 k2 n cL,V9 k5 r cM,V9 k6 s cK,U9 [.xl v0 n0 j0 c0,.xl v1 n1 j1 c1,.xl v2 n2 j2 c2] m cL n=0,W6 n cM r=0,W6 n cK s=0,suN c0 c1 c2 cL (Y7 cM cK n) n=19])
 |_=>none
def c1Q:R6:=H8 29 c3C
theorem a7K:Known Try.prog (clsO c1Q):=O2 (fun vs r ps h hp=>by
 unfold c3C at h
 split at h
 ·cases h
  obtain ⟨rfl,rfl,⟨rfl,P0,rfl,rfl⟩,⟨rfl,P1,rfl,rfl⟩,⟨rfl,P2,rfl,rfl⟩,⟨rfl,L,rfl,rfl⟩,⟨rfl,M,rfl,rfl⟩,⟨rfl,K,rfl,rfl⟩,h1,h2,h3,h4,-⟩:=hp
  exact ⟨X3 (D3 (X3 (U3 (Q3 [(_,P0),(_,P1),(_,P2)])) (X3 (U3 (W3 (X4 L))) S8))) (X3 (U3 (W3 (Z2 M))) (X3 (U3 (W3 (Z2 K))) S8)),_,rfl,c42 _ _ P0 _ P1 _ P2 _ L _ M _ K h1 h2 h3 h4⟩
 ·cases h)
def a6p(k n:Nat)(c:List AV)(k2 m:Nat)(d:List AV):Prop:=∃ R:List (Int×Int),k=2∧k2=2∧c=cR R∧d=cR R∧n=R.length∧m=R.length∧R.length≤1000
def c5W:List Yw→Option (C9×List Prop):=fun vs =>
 match vs with
 |[.one (.lst n k c),.one (.lst m k2 d)]=>some (.val (.v (.bool true)),[a6p k n c k2 m d])
 |_=>none
def b6o:R6:=u0 23 [.one (.lst 1),.one (.lst 1)] c5W
theorem a1f:Known Try.prog (clsO b6o):=F2 (fun vs r ps h hp=>by
 unfold c5W at h
 split at h
 ·cases h
  obtain ⟨⟨R,rfl,rfl,rfl,rfl,rfl,rfl,hR⟩,-⟩:=hp
  refine ⟨⟨⟨_,X4 R⟩,⟨_,X4 R⟩,trivial⟩,⟨[[[undef]],[[undef]]],⟨trivial,trivial,trivial⟩⟩,fun ys hy=>?_⟩
  match ys,hy with
  |[zs,us],_=>exact ⟨_,rfl,c3b _ _ R hR⟩
 ·cases h)
def c17(c d:List AV):Prop:=∃ a0 a1 a2 b0 b1 b2:Int,c=[.v (.int .i64 a0),.v (.int .i64 a1),.v (.int .i64 a2)]∧d=[.v (.int .i64 b0),.v (.int .i64 b1),.v (.int .i64 b2)]∧¬ (a0=b0∧a1=b1∧a2=b2)
def c3k:List Yw→Option (C9×List Prop):=fun vs =>
 match vs with
 |[.one (.lst n k c),.one (.lst m k2 d)]=>some (.val (.v (.bool false)),[m7 k,m7 k2,E9 n,E9 m,c17 c d])
 |_=>none
def b9j:R6:=u0 22 [.one (.lst 0),.one (.lst 0)] c3k
theorem a7n:Known Try.prog (clsO b9j):=F2 (fun vs r ps h hp=>by
 unfold c3k at h
 split at h
 ·cases h
  obtain ⟨rfl,rfl,rfl,rfl,⟨a0,a1,a2,b0,b1,b2,rfl,rfl,hN⟩,-⟩:=hp
  refine ⟨⟨⟨_,Z2 [a0,a1,a2]⟩,⟨_,Z2 [b0,b1,b2]⟩,trivial⟩,⟨[[[undef]],[[undef]]],⟨trivial,trivial,trivial⟩⟩,fun ys hy=>?_⟩
  match ys,hy with
  |[zs,us],_=>exact ⟨_,rfl,c36 _ _ a0 a1 a2 b0 b1 b2 hN⟩
 ·cases h)
theorem b2l{c0 c1 c2 cL cM cK:List AV}{n:Nat}{g:Bool}(h:¬ m8 c0 c1 c2 cL (Y7 cM cK n) n g):¬ (T6 (J5 (cI (tI (W8 c0 (Y7 cM cK n) g) n)) (cI (tI (W8 c1 (Y7 cM cK n) g) n)) (cI (tI (W8 c2 (Y7 cM cK n) g) n)) (cI (tI (W8 cL (Y7 cM cK n) g) n)) cM 0) n=T6 (J5 (cI (tI (W8 c0 (Y7 cM cK n) g) n)) (cI (tI (W8 c1 (Y7 cM cK n) g) n)) (cI (tI (W8 c2 (Y7 cM cK n) g) n)) (cI (tI (W8 cL (Y7 cM cK n) g) n)) cK 0) n∧T6 (J5 (cI (tI (W8 c0 (Y7 cM cK n) g) n)) (cI (tI (W8 c1 (Y7 cM cK n) g) n)) (cI (tI (W8 c2 (Y7 cM cK n) g) n)) (cI (tI (W8 cL (Y7 cM cK n) g) n)) cM 1) n=T6 (J5 (cI (tI (W8 c0 (Y7 cM cK n) g) n)) (cI (tI (W8 c1 (Y7 cM cK n) g) n)) (cI (tI (W8 c2 (Y7 cM cK n) g) n)) (cI (tI (W8 cL (Y7 cM cK n) g) n)) cK 1) n∧T6 (J5 (cI (tI (W8 c0 (Y7 cM cK n) g) n)) (cI (tI (W8 c1 (Y7 cM cK n) g) n)) (cI (tI (W8 c2 (Y7 cM cK n) g) n)) (cI (tI (W8 cL (Y7 cM cK n) g) n)) cM 2) n=T6 (J5 (cI (tI (W8 c0 (Y7 cM cK n) g) n)) (cI (tI (W8 c1 (Y7 cM cK n) g) n)) (cI (tI (W8 c2 (Y7 cM cK n) g) n)) (cI (tI (W8 cL (Y7 cM cK n) g) n)) cK 2) n):=fun q=>h (by
 unfold m8 R4
 rw [← b1U,← b1U,← b1U]
 exact ⟨by have:=q.1;omega,by have:=q.2.1;omega,by have:=q.2.2;omega⟩)
def lMe:R6:=e7 b5n (e7 wkO (e7 c2b (e7 c4r (e7 c5s (e7 c2Y (e7 c4R (e7 c4G b6o)))))))
theorem a1b(hw:Known Try.prog (clsO wkO)):Known Try.prog (clsO lMe):=Y3 a1i (Y3 hw (Y3 b3R (Y3 a7C (Y3 b3j (Y3 a7h (Y3 b3E (Y3 b3o a1f)))))))
def lMz:R6:=e7 b5n (e7 wkO (e7 b7w (e7 b80 (e7 b7M (e7 b7K (e7 c54 (e7 c5p b6o)))))))
theorem b37(hw:Known Try.prog (clsO wkO)):Known Try.prog (clsO lMz):=Y3 a1i (Y3 hw (Y3 a3M (Y3 H3 (Y3 a3j (Y3 e8 (Y3 b3e (Y3 b3x a1f)))))))
def lMt:R6:=e7 b5n (e7 wkO (e7 b7w (e7 b80 (e7 b7M (e7 b7K (e7 c6n (e7 c1Q (e7 b6o (e7 b9v (e7 c23 b9j))))))))))
theorem b35(hw:Known Try.prog (clsO wkO)):Known Try.prog (clsO lMt):=Y3 a1i (Y3 hw (Y3 a3M (Y3 H3 (Y3 a3j (Y3 e8 (Y3 b34 (Y3 a7K (Y3 a1f (Y3 a72 (Y3 a73 a7n))))))))))
def lMf:R6:=e7 b5n (e7 wkO (e7 b7w (e7 b80 (e7 b7M (e7 b7K (e7 c4v (e7 c1Q (e7 b6o (e7 b9v (e7 c23 b9j))))))))))
theorem b3C(hw:Known Try.prog (clsO wkO)):Known Try.prog (clsO lMf):=Y3 a1i (Y3 hw (Y3 a3M (Y3 H3 (Y3 a3j (Y3 e8 (Y3 b3S (Y3 a7K (Y3 a1f (Y3 a72 (Y3 a73 a7n))))))))))
end
end Go.Proofs.Ytegmogadbnfbgaa
