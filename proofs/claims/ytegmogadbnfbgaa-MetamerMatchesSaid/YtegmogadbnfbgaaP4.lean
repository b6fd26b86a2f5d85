/- Texts of this proof, put together. -/
import Derived.Test.YtegmogadbnfbgaaP3
set_option maxHeartbeats 4000000
set_option linter.all false
/- The errors of truths and chips, on both sides. -/
namespace Go.Proofs.Ytegmogadbnfbgaa
open Go Ev
noncomputable section
theorem b5Z{a:Int}(h : -9223372036854775808≤a)(k:a≤9223372036854775807):O8 .i64 a:=⟨h,k⟩
section
variable (E : List (Value × List (Int × Int))) (L : List (Int × Int)) (M : List Int) (X : List (Value × List Int)) (Y : List Int) (b : Nat) (u ul y yl z : Value)
@[reducible] def N0:Nat×Ev.AV:=(5,(.v (.int .i64 L.length)))
@[reducible] def a1N:Nat×Ev.AV:=(7,(.v (.int .i64 b)))
@[reducible] def a3A:Nat×Ev.AV:=(54,(.xl (ul) (Y.length) 1 (cI Y)))
@[reducible] def a3h:Nat×Ev.AV:=(55,(.v (.int .i64 b)))
@[reducible] def a3y:Nat×Ev.AV:=(57,(.v (.int .i64 (Z9 (cI Y) (b*1)))))
@[reducible] def a3s:Nat×Ev.AV:=(59,(.xl (yl) (L.length) 2 (cR L)))
@[reducible] def a3O:Nat×Ev.AV:=(60,(.v (.int .i64 b)))
@[reducible] def a3G:Nat×Ev.AV:=(63,(.v (.int .i64 (Z9 (cR L) (b*2+1)))))
@[reducible] def a3f:Nat×Ev.AV:=(64,(.v (.bool (X8 (Z9 (cR L) (b*2+1)) (Z9 (cI Y) (b*1))))))
@[reducible] def N9:Nat×Ev.AB:=(0,(.cells [(.xl (y) (E.length) 1 (Z1 E)),(.xl (yl) (L.length) 2 (cR L))] 25))
@[reducible] def P8:Nat×Ev.AB:=(1,(.cells [(.xl (u) (X.length) 1 (Y0 X)),(.xl (ul) (Y.length) 1 (cI Y))] 29))
@[reducible] def b5f:Ev.Lit:=⟨[(2,(.ptr 0 0)),(3,(.ptr 1 0)),(N0 L),(a1N b),(8,(.v (.int .i64 (.ofNat 0)))),(53,(.ptr 1 1)),(a3A Y ul),(a3h b),(56,(AV.xp ul Y.length 1 (cI Y) (b*1))),(a3y Y b),(58,(.ptr 0 1)),(a3s L yl),(a3O b),(61,(AV.xp yl L.length 2 (cR L) (b*2))),(62,(AV.xp yl L.length 2 (cR L) (b*2+1))),(a3G L b),(a3f L Y b)],[],2,[(N9 E L y yl),(P8 X Y u ul)]⟩
@[reducible] def b2q:Ev.Lit:=⟨[(2,(.ptr 0 0)),(3,(.ptr 1 0)),(N0 L),(a1N b),(53,(.ptr 1 1)),(a3A Y ul),(a3h b),(56,(AV.xp ul Y.length 1 (cI Y) (b*1))),(a3y Y b),(58,(.ptr 0 1)),(a3s L yl),(a3O b),(61,(AV.xp yl L.length 2 (cR L) (b*2))),(62,(AV.xp yl L.length 2 (cR L) (b*2+1))),(a3G L b),(a3f L Y b)],[],2,[(N9 E L y yl),(P8 X Y u ul)]⟩
@[reducible] def b21:Ev.Lit:=⟨[(2,(.ptr 0 0)),(3,(.ptr 1 0)),(N0 L),(a1N b)],[],2,[(N9 E L y yl),(P8 X Y u ul)]⟩
@[reducible] def b6Q:Ev.Lit:=⟨[(2,(.ptr 0 0)),(3,(.ptr 1 0)),(N0 L),(7,(.v (.int .i64 (.ofNat 0))))],[],2,[(N9 E L y yl),(P8 X Y u ul)]⟩
@[reducible] def b4L:Ev.Lit:=⟨[(2,(.ptr 0 0)),(3,(.ptr 1 0)),(N0 L),(6,(.v (.int .i64 (.ofNat 0))))],[],2,[(N9 E L y yl),(P8 X Y u ul)]⟩
@[reducible] def a4p:Ev.Lit:=⟨[(2,(.ptr 0 0)),(3,(.ptr 1 0)),(N0 L)],[],2,[(N9 E L y yl),(P8 X Y u ul)]⟩
@[reducible] def b94:Ev.Lit:=⟨[(2,(.ptr 0 0)),(3,(.ptr 1 0))],[],2,[(N9 E L y yl),(P8 X Y u ul)]⟩
@[reducible] def a05:Nat×Ev.AV:=(1,(.xl (z) (M.length) 1 (cI M)))
@[reducible] def b8f:Ev.Lit:=⟨[(a05 M z),(2,(.ptr 0 0))],[],1,[(N9 E L y yl)]⟩
@[reducible] def b6P:Ev.Lit:=⟨[(a05 M z),(5,(.v (.int .i64 (.ofNat 0))))],[],1,[]⟩
@[reducible] def K9:=(T9 Y.length L.length)
@[reducible] def a3N:=(T9 M.length L.length)
@[reducible] def a5U:Nat×Ev.AV:=(31,(.v (.int .i64 E.length)))
@[reducible] def b1g:Ev.Lit:=⟨[(4,(.v (.int .i64 (.ofNat 15))))],[],2,[]⟩
@[reducible] def a6h:Ev.Lit:=⟨[(4,(.v (.int .i64 (.ofNat 3))))],[],2,[]⟩
@[reducible] def a5w:Nat×Ev.AV:=(30,(.xl (y) (E.length) 1 (Z1 E)))
@[reducible] def I3:=(T9 X.length 3)
end
noncomputable def c3z:Code:=R8 Try.f52
noncomputable def c2N:Code:=N4 c3z
noncomputable def c3I:Code:=N4 c2N
noncomputable def b8M:Code:=N4 c3I
noncomputable def b1n:Code:=N4 b8M
noncomputable def c13:Code:=(m9 b8M)
noncomputable def b5J:Code:=N4 c13
noncomputable def b9U:Code:=L2 b5J
theorem c1Y(y:Value)(E:List (Value×List (Int×Int)))(yl:Value)(L:List (Int×Int))(u:Value)(X:List (Value×List Int))(ul:Value)(Y:List Int)(hC:U9 (Z1 E) E.length (cR L) L.length=0)(hX:X.length≤1000)(hqcto7_1:(K9 L Y)=true)(hqcto7_2:(p7 (Y0 X) X.length L.length)=true)(hqcto10_1:(Q8 (V7 (cR L) (cI Y)) L.length)=true)(h0b:∀ k,k<(E.length)→Q8 (V7 (X7 (Z1 E) (k*1)) (X7 (Y0 X) (k*1))) L.length=true)(hqcto21_1:(X8 E.length E.length)=false)(w:World)(hs:List Nat):Y4 Try.prog 46 b1n (⟨[],[],2,[]⟩) (BaseW.H w hs) (V3 Try.prog Try.f52 46 (.int .i64 (ctE (Z1 E) (cR L) L.length (Y0 X) X.length (cI Y) Y.length)) w):=by
 have hcl_L:=Y6 L
 have hcl_Y:=Z3 Y
 obtain ⟨hn,hm3,hrow,hlam,hcur⟩:=T5 hC
 have ghqcto7_1:=Y8 hqcto7_1
 have hxr:=(eyB_true.1 hqcto7_2).2
 have hx3:=(eyB_true.1 hqcto7_2).1
 have ghqcto21_1:=Z6 hqcto21_1
 exact Z8 W1 (Z7 Try.checked.mixed (Y3 a37 a1h) 200 (T':=⟨[(4,(.v (.int .i64 (.ofNat 0))))],[],2,[]⟩) (e:=.ret) (ps:=[]) [.go] (by kernel_rfl) (by kernel_rfl) trivial rfl) (Hd.en_eq (r:=(.int .i64 0)) (by rw [b1o (cE:=Z1 E) (cL:=cR L) (n:=L.length) (cX:=Y0 X) (m:=X.length) (cY:=cI Y) (k:=Y.length) (by omega) hqcto7_2 hqcto10_1 (fun i hi=>h0b i (by omega))]) (Hd.en_ret (v:=(.v (.int .i64 (.ofNat 0)))) (by kernel_rfl) rfl))
theorem c0K(y:Value)(E:List (Value×List (Int×Int)))(yl:Value)(L:List (Int×Int))(u:Value)(X:List (Value×List Int))(ul:Value)(Y:List Int)(hC:U9 (Z1 E) E.length (cR L) L.length=0)(hX:X.length≤1000)(hqcto7_1:(K9 L Y)=true)(hqcto7_2:(p7 (Y0 X) X.length L.length)=true)(hqcto10_1:(Q8 (V7 (cR L) (cI Y)) L.length)=true)(i:Nat)(hi1:i≤E.length)(hi2:∀ k,k<i→Q8 (V7 (X7 (Z1 E) (k*1)) (X7 (Y0 X) (k*1))) L.length=true)(w:World)(hs:List Nat):Y4 Try.prog 46 b9U (⟨[(3,(.ptr 1 0)),(a5w E y),(a5U E),(32,(.v (.int .i64 i)))],[],2,[(P8 X Y u ul)]⟩) (BaseW.H w hs) (Hd.StepC Try.prog 46 0 (fun i:{i:Nat // i≤E.length∧∀ k,k<i→Q8 (V7 (X7 (Z1 E) (k*1)) (X7 (Y0 X) (k*1))) L.length=true}=>⟨[(3,(.ptr 1 0)),(a5w E y),(a5U E),(32,(.v (.int .i64 i.1)))],[],2,[(P8 X Y u ul)]⟩) (fun i:{i:Nat // i≤E.length∧∀ k,k<i→Q8 (V7 (X7 (Z1 E) (k*1)) (X7 (Y0 X) (k*1))) L.length=true}=>E.length - i.1) b1n w (V3 Try.prog Try.f52 46 (.int .i64 (ctE (Z1 E) (cR L) L.length (Y0 X) X.length (cI Y) Y.length)) w) (⟨i,hi1,hi2⟩:{i:Nat // i≤E.length∧∀ k,k<i→Q8 (V7 (X7 (Z1 E) (k*1)) (X7 (Y0 X) (k*1))) L.length=true})):=by
 have hcl_L:=Y6 L
 have hcl_Y:=Z3 Y
 obtain ⟨hn,hm3,hrow,hlam,hcur⟩:=T5 hC
 have ghqcto7_1:=Y8 hqcto7_1
 have hxr:=(eyB_true.1 hqcto7_2).2
 have hx3:=(eyB_true.1 hqcto7_2).1
 rcases Bool.eq_false_or_eq_true (X8 i E.length) with hqcto21_1|hqcto21_1
 ·have ghqcto21_1:=Y1 hqcto21_1
  rcases Bool.eq_false_or_eq_true (Q8 (V7 (X7 (Z1 E) (i*1)) (X7 (Y0 X) (i*1))) (U5 (Z1 E) (i*1))) with hqcto21_2|hqcto21_2
  ·exact Z8 V0 (Z7 Try.checked.mixed (Y3 a37 a1h) 200 (T':=⟨[(3,(.ptr 1 0)),(a5w E y),(a5U E),(32,(.v (.int .i64 (((i+1):Nat):Int))))],[],2,[(P8 X Y u ul)]⟩) (e:=.normal) (ps:=[X8 i E.length=true,i<E.length,W7 Try.prog (Z1 E) (i*1) 23=some (AV.xl (xlY (Z1 E) (i*1)) (U5 (Z1 E) (i*1)) 2 (X7 (Z1 E) (i*1))),i<X.length,W7 Try.prog (Y0 X) (i*1) 27=some (AV.xl (xlY (Y0 X) (i*1)) (U5 (Y0 X) (i*1)) 1 (X7 (Y0 X) (i*1))),Y5 2 (U5 (Z1 E) (i*1)) (X7 (Z1 E) (i*1)),V9 1 (U5 (Y0 X) (i*1)) (X7 (Y0 X) (i*1)),U5 (Z1 E) (i*1)≤1000,U5 (Z1 E) (i*1)≤U5 (Y0 X) (i*1),(!Q8 (V7 (X7 (Z1 E) (i*1)) (X7 (Y0 X) (i*1))) (U5 (Z1 E) (i*1)))=false,O8 IntKind.i64 (((i:Nat):Int)+1)]) [.go,.b true,.go,.sym,.sym,.go,.go,.go,.go,.go,.go,.sym,.sym,.go,.b false,.go,.go] (by kernel_rfl) (by kernel_rfl) ⟨hqcto21_1,(by omega),(by rw [Nat.mul_one];exact Q0 (by omega) 23 (Try.underlying23) rfl),(by omega),(by rw [Nat.mul_one];exact J1 (by omega) 27 (Try.underlying27) rfl),(N8 (by omega)),(s4 (by omega)),(by have h9:=hrow i (by omega);have h8:=hxr i (by omega);omega),(by have h9:=hrow i (by omega);have h8:=hxr i (by omega);omega),(by rw [hqcto21_2];rfl),(b5Z (by omega) (by omega)),trivial⟩ rfl) (Hd.en_on (⟨i+1,by omega,(H7 (q:=fun k=>Q8 (V7 (X7 (Z1 E) (k*1)) (X7 (Y0 X) (k*1))) L.length=true) hi2 (by have h9:=hrow i (by omega);rw [← h9];exact hqcto21_2))⟩) (by show E.length - (i+1)<E.length - i;omega) rfl)
  ·exact Z8 W1 (Z7 Try.checked.mixed (Y3 a37 a1h) 200 (T':=a6h) (e:=.ret) (ps:=[X8 i E.length=true,i<E.length,W7 Try.prog (Z1 E) (i*1) 23=some (AV.xl (xlY (Z1 E) (i*1)) (U5 (Z1 E) (i*1)) 2 (X7 (Z1 E) (i*1))),i<X.length,W7 Try.prog (Y0 X) (i*1) 27=some (AV.xl (xlY (Y0 X) (i*1)) (U5 (Y0 X) (i*1)) 1 (X7 (Y0 X) (i*1))),Y5 2 (U5 (Z1 E) (i*1)) (X7 (Z1 E) (i*1)),V9 1 (U5 (Y0 X) (i*1)) (X7 (Y0 X) (i*1)),U5 (Z1 E) (i*1)≤1000,U5 (Z1 E) (i*1)≤U5 (Y0 X) (i*1),(!Q8 (V7 (X7 (Z1 E) (i*1)) (X7 (Y0 X) (i*1))) (U5 (Z1 E) (i*1)))=true]) [.go,.b true,.go,.sym,.sym,.go,.go,.go,.go,.go,.go,.sym,.sym,.go,.b true,.go] (by kernel_rfl) (by kernel_rfl) ⟨hqcto21_1,(by omega),(by rw [Nat.mul_one];exact Q0 (by omega) 23 (Try.underlying23) rfl),(by omega),(by rw [Nat.mul_one];exact J1 (by omega) 27 (Try.underlying27) rfl),(N8 (by omega)),(s4 (by omega)),(by have h9:=hrow i (by omega);have h8:=hxr i (by omega);omega),(by have h9:=hrow i (by omega);have h8:=hxr i (by omega);omega),(by rw [hqcto21_2];rfl),trivial⟩ rfl) (Hd.en_so (by intro h;cases h) (by intro h;cases h) (Hd.en_eq (r:=(.int .i64 3)) (by rw [a3D (cE:=Z1 E) (cL:=cR L) (n:=L.length) (cX:=Y0 X) (m:=X.length) (cY:=cI Y) (k:=Y.length) (by omega) hqcto7_2 (i:=i) (by omega) (by have h9:=hrow i (by omega);rw [← h9,hqcto21_2];decide)]) (Hd.en_ret (v:=(.v (.int .i64 (.ofNat 3)))) (by kernel_rfl) rfl)))
 ·have ghqcto21_1:=Z6 hqcto21_1
  obtain rfl:i=E.length:=by omega
  exact Z8 E7 (Z7 Try.checked.mixed (Y3 a37 a1h) 200 (T':=⟨[],[],2,[]⟩) (e:=.exit 0) (ps:=[X8 E.length E.length=false]) [.go,.b false] (by kernel_rfl) (by kernel_rfl) ⟨hqcto21_1,trivial⟩ rfl) (Hd.en_sx (c1Y y E yl L u X ul Y hC hX hqcto7_1 hqcto7_2 hqcto10_1 hi2  hqcto21_1 w hs))
theorem c7P(y:Value)(E:List (Value×List (Int×Int)))(yl:Value)(L:List (Int×Int))(u:Value)(X:List (Value×List Int))(ul:Value)(Y:List Int)(hC:U9 (Z1 E) E.length (cR L) L.length=0)(hX:X.length≤1000)(hqcto7_1:(K9 L Y)=true)(hqcto7_2:(p7 (Y0 X) X.length L.length)=true)(hqcto10_1:(Q8 (V7 (cR L) (cI Y)) L.length)=true)(w:World)(hs:List Nat):Y4 Try.prog 46 b5J (⟨[(3,(.ptr 1 0)),(a5w E y),(a5U E),(32,(.v (.int .i64 (.ofNat 0))))],[],2,[(P8 X Y u ul)]⟩) (BaseW.H w hs) (Hd.AfterN Try.prog 46 b1n w (V3 Try.prog Try.f52 46 (.int .i64 (ctE (Z1 E) (cR L) L.length (Y0 X) X.length (cI Y) Y.length)) w)):=by
 have hcl_L:=Y6 L
 have hcl_Y:=Z3 Y
 obtain ⟨hn,hm3,hrow,hlam,hcur⟩:=T5 hC
 have ghqcto7_1:=Y8 hqcto7_1
 have hxr:=(eyB_true.1 hqcto7_2).2
 have hx3:=(eyB_true.1 hqcto7_2).1
 exact Hd.goes_loopA (id:=0) (by kernel_rfl) (by kernel_rfl) (fun i:{i:Nat // i≤E.length∧∀ k,k<i→Q8 (V7 (X7 (Z1 E) (k*1)) (X7 (Y0 X) (k*1))) L.length=true}=>⟨[(3,(.ptr 1 0)),(a5w E y),(a5U E),(32,(.v (.int .i64 i.1)))],[],2,[(P8 X Y u ul)]⟩) (fun i:{i:Nat // i≤E.length∧∀ k,k<i→Q8 (V7 (X7 (Z1 E) (k*1)) (X7 (Y0 X) (k*1))) L.length=true}=>E.length - i.1) (fun ix_ hs=>c0K y E yl L u X ul Y hC hX hqcto7_1 hqcto7_2 hqcto10_1 ix_.1 ix_.2.1 ix_.2.2 w hs) ⟨0,Nat.zero_le _,(fun j hj=>by omega)⟩ hs
noncomputable def b8w:Code:=R8 Try.f30
noncomputable def b95:Code:=N4 b8w
noncomputable def b8l:Code:=N4 b95
noncomputable def b4Y:Code:=N4 b8l
noncomputable def a23:Code:=N4 b4Y
noncomputable def b6Z:Code:=(m9 b4Y)
noncomputable def b1H:Code:=N4 b6Z
noncomputable def c00:Code:=L2 b1H
noncomputable def w8:Code:=N4 a23
noncomputable def b5Q:Code:=(m9 a23)
noncomputable def b1N:Code:=N4 b5Q
noncomputable def b5j:Code:=L2 b1N
noncomputable def a8L:Code:=N4 b5j
noncomputable def a1I:Code:=N4 a8L
noncomputable def b6E:Code:=a6I (m9 a8L)
noncomputable def b6v:Code:=N4 b6E
noncomputable def b0F:Code:=N4 b6v
noncomputable def c0p:Code:=L2 b0F
theorem c1N(y:Value)(E:List (Value×List (Int×Int)))(yl:Value)(L:List (Int×Int))(u:Value)(X:List (Value×List Int))(ul:Value)(Y:List Int)(hC:U9 (Z1 E) E.length (cR L) L.length=0)(hX:X.length≤1000)(hqctr10_1:(K9 L Y)=true)(hqctr10_2:(I3 X)=true)(h0b:∀ k,k<(3)→U5 (Y0 X) (k*1)=L.length)(hqctr21_1:(X8 3 3)=false)(b:Nat)(hb1:b≤L.length)(hb2:∀ k,k<b→V7 (cR L) (cI Y) k∧∀ i,i<3→V7 (X7 (Z1 E) (i*1)) (X7 (Y0 X) (i*1)) k)(hqctr34_1:(X8 b L.length)=true)(hqctr41_1:(X8 (Z9 (cI Y) (b*1)) (Z9 (cR L) (b*2+0)))=false)(hqctr41_2:(X8 (Z9 (cR L) (b*2+1)) (Z9 (cI Y) (b*1)))=false)(hi2:∀ k,k<(3)→V7 (X7 (Z1 E) (k*1)) (X7 (Y0 X) (k*1)) b)(hqctr49_1:(X8 3 3)=false)(w:World)(hs:List Nat):Y4 Try.prog 108 a1I ((b2q E L X Y b u ul y yl)) (BaseW.H w hs) (Hd.StepC Try.prog 108 2 (fun b:{b:Nat // b≤L.length∧∀ k,k<b→V7 (cR L) (cI Y) k∧∀ i,i<3→V7 (X7 (Z1 E) (i*1)) (X7 (Y0 X) (i*1)) k}=>⟨[(2,(.ptr 0 0)),(3,(.ptr 1 0)),(N0 L),(7,(.v (.int .i64 b.1)))],[],2,[(N9 E L y yl),(P8 X Y u ul)]⟩) (fun b:{b:Nat // b≤L.length∧∀ k,k<b→V7 (cR L) (cI Y) k∧∀ i,i<3→V7 (X7 (Z1 E) (i*1)) (X7 (Y0 X) (i*1)) k}=>L.length - b.1) w8 w (V3 Try.prog Try.f30 108 (.int .i64 (ctE (Z1 E) (cR L) L.length (Y0 X) X.length (cI Y) Y.length)) w) (⟨b,hb1,hb2⟩:{b:Nat // b≤L.length∧∀ k,k<b→V7 (cR L) (cI Y) k∧∀ i,i<3→V7 (X7 (Z1 E) (i*1)) (X7 (Y0 X) (i*1)) k})):=by
 have hcl_L:=Y6 L
 have hcl_Y:=Z3 Y
 obtain ⟨hn,hm3,hrow,hlam,hcur⟩:=T5 hC
 have ghqctr10_1:=Y8 hqctr10_1
 have ghqctr10_2:=Y8 hqctr10_2
 have ghqctr49_1:=Z6 hqctr49_1
 have ghqctr34_1:=Y1 hqctr34_1
 have hxr:∀ i,i<3→U5 (Y0 X) (i*1)=L.length:=h0b
 have ghqctr41_1:=Z6 hqctr41_1
 have ghqctr41_2:=Z6 hqctr41_2
 exact Z8 V0 (Z7 Try.checked.mixed (Z5) 200 (T':=⟨[(2,(.ptr 0 0)),(3,(.ptr 1 0)),(N0 L),(7,(.v (.int .i64 (((b+1):Nat):Int))))],[],2,[(N9 E L y yl),(P8 X Y u ul)]⟩) (e:=.normal) (ps:=[O8 IntKind.i64 (((b:Nat):Int)+1)]) [.go,.go,.go] (by kernel_rfl) (by kernel_rfl) ⟨(b5Z (by omega) (by omega)),trivial⟩ rfl) (Hd.en_on (⟨b+1,by omega,(H7 (q:=fun k=>V7 (cR L) (cI Y) k∧∀ i,i<3→V7 (X7 (Z1 E) (i*1)) (X7 (Y0 X) (i*1)) k) hb2 ⟨by unfold V7;omega,hi2⟩)⟩) (by show L.length - (b+1)<L.length - b;omega) rfl)
theorem c0k(y:Value)(E:List (Value×List (Int×Int)))(yl:Value)(L:List (Int×Int))(u:Value)(X:List (Value×List Int))(ul:Value)(Y:List Int)(hC:U9 (Z1 E) E.length (cR L) L.length=0)(hX:X.length≤1000)(hqctr10_1:(K9 L Y)=true)(hqctr10_2:(I3 X)=true)(h0b:∀ k,k<(3)→U5 (Y0 X) (k*1)=L.length)(hqctr21_1:(X8 3 3)=false)(b:Nat)(hb1:b≤L.length)(hb2:∀ k,k<b→V7 (cR L) (cI Y) k∧∀ i,i<3→V7 (X7 (Z1 E) (i*1)) (X7 (Y0 X) (i*1)) k)(hqctr34_1:(X8 b L.length)=true)(hqctr41_1:(X8 (Z9 (cI Y) (b*1)) (Z9 (cR L) (b*2+0)))=false)(hqctr41_2:(X8 (Z9 (cR L) (b*2+1)) (Z9 (cI Y) (b*1)))=false)(i:Nat)(hi1:i≤3)(hi2:∀ k,k<i→V7 (X7 (Z1 E) (k*1)) (X7 (Y0 X) (k*1)) b)(w:World)(hs:List Nat):Y4 Try.prog 108 c0p (⟨[(2,(.ptr 0 0)),(3,(.ptr 1 0)),(N0 L),(a1N b),(8,(.v (.int .i64 i))),(53,(.ptr 1 1)),(a3A Y ul),(a3h b),(56,(AV.xp ul Y.length 1 (cI Y) (b*1))),(a3y Y b),(58,(.ptr 0 1)),(a3s L yl),(a3O b),(61,(AV.xp yl L.length 2 (cR L) (b*2))),(62,(AV.xp yl L.length 2 (cR L) (b*2+1))),(a3G L b),(a3f L Y b)],[],2,[(N9 E L y yl),(P8 X Y u ul)]⟩) (BaseW.H w hs) (Hd.StepL 108 4 (fun i:{i:Nat // i≤3∧∀ k,k<i→V7 (X7 (Z1 E) (k*1)) (X7 (Y0 X) (k*1)) b}=>⟨[(2,(.ptr 0 0)),(3,(.ptr 1 0)),(N0 L),(a1N b),(8,(.v (.int .i64 i.1))),(53,(.ptr 1 1)),(a3A Y ul),(a3h b),(56,(AV.xp ul Y.length 1 (cI Y) (b*1))),(a3y Y b),(58,(.ptr 0 1)),(a3s L yl),(a3O b),(61,(AV.xp yl L.length 2 (cR L) (b*2))),(62,(AV.xp yl L.length 2 (cR L) (b*2+1))),(a3G L b),(a3f L Y b)],[],2,[(N9 E L y yl),(P8 X Y u ul)]⟩) (fun i:{i:Nat // i≤3∧∀ k,k<i→V7 (X7 (Z1 E) (k*1)) (X7 (Y0 X) (k*1)) b}=>3 - i.1) w (Hd.AfterB Try.prog 108 3 a1I w (Hd.StepC Try.prog 108 2 (fun b:{b:Nat // b≤L.length∧∀ k,k<b→V7 (cR L) (cI Y) k∧∀ i,i<3→V7 (X7 (Z1 E) (i*1)) (X7 (Y0 X) (i*1)) k}=>⟨[(2,(.ptr 0 0)),(3,(.ptr 1 0)),(N0 L),(7,(.v (.int .i64 b.1)))],[],2,[(N9 E L y yl),(P8 X Y u ul)]⟩) (fun b:{b:Nat // b≤L.length∧∀ k,k<b→V7 (cR L) (cI Y) k∧∀ i,i<3→V7 (X7 (Z1 E) (i*1)) (X7 (Y0 X) (i*1)) k}=>L.length - b.1) w8 w (V3 Try.prog Try.f30 108 (.int .i64 (ctE (Z1 E) (cR L) L.length (Y0 X) X.length (cI Y) Y.length)) w) (⟨b,hb1,hb2⟩:{b:Nat // b≤L.length∧∀ k,k<b→V7 (cR L) (cI Y) k∧∀ i,i<3→V7 (X7 (Z1 E) (i*1)) (X7 (Y0 X) (i*1)) k}))) (⟨i,hi1,hi2⟩:{i:Nat // i≤3∧∀ k,k<i→V7 (X7 (Z1 E) (k*1)) (X7 (Y0 X) (k*1)) b})):=by
 have hcl_L:=Y6 L
 have hcl_Y:=Z3 Y
 obtain ⟨hn,hm3,hrow,hlam,hcur⟩:=T5 hC
 have ghqctr10_1:=Y8 hqctr10_1
 have ghqctr10_2:=Y8 hqctr10_2
 have ghqctr21_1:=Z6 hqctr21_1
 have ghqctr34_1:=Y1 hqctr34_1
 have hxr:∀ i,i<3→U5 (Y0 X) (i*1)=L.length:=h0b
 have ghqctr41_1:=Z6 hqctr41_1
 have ghqctr41_2:=Z6 hqctr41_2
 rcases Bool.eq_false_or_eq_true (X8 i 3) with hqctr49_1|hqctr49_1
 ·have ghqctr49_1:=Y1 hqctr49_1
  rcases Bool.eq_false_or_eq_true (X8 (Z9 (X7 (Y0 X) (i*1)) (b*1)) (Z9 (X7 (Z1 E) (i*1)) (b*2+0))) with hqctr49_2|hqctr49_2
  ·have ghqctr49_2:=Y1 hqctr49_2
   exact Z8 W1 (Z7 Try.checked.mixed (Z5) 200 (T':=a6h) (e:=.ret) (ps:=[X8 i 3=true,i<X.length,W7 Try.prog (Y0 X) (i*1) 27=some (AV.xl (xlY (Y0 X) (i*1)) (U5 (Y0 X) (i*1)) 1 (X7 (Y0 X) (i*1))),b<U5 (Y0 X) (i*1),W7 Try.prog (X7 (Y0 X) (i*1)) (b*1) 2=some (AV.v (Value.int IntKind.i64 (Z9 (X7 (Y0 X) (i*1)) (b*1)))),i<E.length,W7 Try.prog (Z1 E) (i*1) 23=some (AV.xl (xlY (Z1 E) (i*1)) (U5 (Z1 E) (i*1)) 2 (X7 (Z1 E) (i*1))),b<U5 (Z1 E) (i*1),b*2+0<((X7 (Z1 E) (i*1)):List AV).length,W7 Try.prog (X7 (Z1 E) (i*1)) (b*2+0) 2=some (AV.v (Value.int IntKind.i64 (Z9 (X7 (Z1 E) (i*1)) (b*2+0)))),X8 (Z9 (X7 (Y0 X) (i*1)) (b*1)) (Z9 (X7 (Z1 E) (i*1)) (b*2+0))=true,true=true,true=true,true=true,true=true,true=true,true=true,true=true,true=true,true=true,true=true,true=true,true=true,true=true,true=true,true=true,true=true,true=true,true=true]) [.go,.go,.b true,.go,.go,.go,.sym,.sym,.go,.sym,.sym,.go,.go,.go,.sym,.sym,.go,.sym,.sym,.sym,.go,.go,.b true,.b true,.b true,.b true,.b true,.b true,.b true,.b true,.b true,.b true,.b true,.b true,.b true,.b true,.b true,.b true,.b true,.b true,.go,.b true,.go] (by kernel_rfl) (by kernel_rfl) ⟨hqctr49_1,(by omega),(by rw [Nat.mul_one];exact J1 (by omega) 27 (Try.underlying27) rfl),(by have h9:=hrow i (by omega);have h8:=hxr i (by omega);omega),(by have h8:=hxr i (by omega);obtain ⟨-,L9,e9,n9⟩:=s4 (R:=X) (i:=i) (by omega);rw [e9,Nat.mul_one];exact U4 (by omega) 2 (Try.underlying2) rfl),(by omega),(by rw [Nat.mul_one];exact Q0 (by omega) 23 (Try.underlying23) rfl),(by have h9:=hrow i (by omega);have h8:=hxr i (by omega);omega),(by have h8:=hrow i (by omega);obtain ⟨-,P9,e9,n9⟩:=N8 (R:=E) (i:=i) (by omega);rw [e9,Y6];omega),(by have h8:=hrow i (by omega);obtain ⟨-,P9,e9,n9⟩:=N8 (R:=E) (i:=i) (by omega);rw [e9];exact C0 (i:=b) (by omega) (by omega) 2 (Try.underlying2) rfl),hqctr49_2,rfl,rfl,rfl,rfl,rfl,rfl,rfl,rfl,rfl,rfl,rfl,rfl,rfl,rfl,rfl,rfl,rfl,rfl,trivial⟩ rfl) (Hd.en_to (by intro h;cases h) (by intro h;cases h) (Hd.en_bo (by intro h;cases h) (by intro h;cases h) (Hd.en_so (by intro h;cases h) (by intro h;cases h) (Hd.en_eq (r:=(.int .i64 3)) (by rw [a3D (cE:=Z1 E) (cL:=cR L) (n:=L.length) (cX:=Y0 X) (m:=X.length) (cY:=cI Y) (k:=Y.length) (by omega) (eyB_true.2 ⟨by omega,fun i hi=>h0b i (by omega)⟩) (i:=i) (by omega) (fun h9=>by have h8:=allB_true.1 h9 b (by omega);unfold V7 at h8;omega)]) (Hd.en_ret (v:=(.v (.int .i64 (.ofNat 3)))) (by kernel_rfl) rfl)))))
  ·have ghqctr49_2:=Z6 hqctr49_2
   rcases Bool.eq_false_or_eq_true (X8 (Z9 (X7 (Z1 E) (i*1)) (b*2+1)) (Z9 (X7 (Y0 X) (i*1)) (b*1))) with hqctr49_3|hqctr49_3
   ·have ghqctr49_3:=Y1 hqctr49_3
    exact Z8 W1 (Z7 Try.checked.mixed (Z5) 200 (T':=a6h) (e:=.ret) (ps:=[X8 i 3=true,i<X.length,W7 Try.prog (Y0 X) (i*1) 27=some (AV.xl (xlY (Y0 X) (i*1)) (U5 (Y0 X) (i*1)) 1 (X7 (Y0 X) (i*1))),b<U5 (Y0 X) (i*1),W7 Try.prog (X7 (Y0 X) (i*1)) (b*1) 2=some (AV.v (Value.int IntKind.i64 (Z9 (X7 (Y0 X) (i*1)) (b*1)))),i<E.length,W7 Try.prog (Z1 E) (i*1) 23=some (AV.xl (xlY (Z1 E) (i*1)) (U5 (Z1 E) (i*1)) 2 (X7 (Z1 E) (i*1))),b<U5 (Z1 E) (i*1),b*2+0<((X7 (Z1 E) (i*1)):List AV).length,W7 Try.prog (X7 (Z1 E) (i*1)) (b*2+0) 2=some (AV.v (Value.int IntKind.i64 (Z9 (X7 (Z1 E) (i*1)) (b*2+0)))),X8 (Z9 (X7 (Y0 X) (i*1)) (b*1)) (Z9 (X7 (Z1 E) (i*1)) (b*2+0))=false,false=false,false=false,false=false,i<X.length,false=false,W7 Try.prog (Y0 X) (i*1) 27=some (AV.xl (xlY (Y0 X) (i*1)) (U5 (Y0 X) (i*1)) 1 (X7 (Y0 X) (i*1))),false=false,false=false,b<U5 (Y0 X) (i*1),false=false,W7 Try.prog (X7 (Y0 X) (i*1)) (b*1) 2=some (AV.v (Value.int IntKind.i64 (Z9 (X7 (Y0 X) (i*1)) (b*1)))),false=false,false=false,false=false,false=false,i<E.length,false=false,W7 Try.prog (Z1 E) (i*1) 23=some (AV.xl (xlY (Z1 E) (i*1)) (U5 (Z1 E) (i*1)) 2 (X7 (Z1 E) (i*1))),false=false,false=false,b<U5 (Z1 E) (i*1),false=false,b*2+1<((X7 (Z1 E) (i*1)):List AV).length,false=false,W7 Try.prog (X7 (Z1 E) (i*1)) (b*2+1) 2=some (AV.v (Value.int IntKind.i64 (Z9 (X7 (Z1 E) (i*1)) (b*2+1)))),false=false,X8 (Z9 (X7 (Z1 E) (i*1)) (b*2+1)) (Z9 (X7 (Y0 X) (i*1)) (b*1))=true]) [.go,.go,.b true,.go,.go,.go,.sym,.sym,.go,.sym,.sym,.go,.go,.go,.sym,.sym,.go,.sym,.sym,.sym,.go,.go,.b false,.go,.b false,.go,.b false,.go,.b false,.sym,.b false,.sym,.b false,.go,.b false,.sym,.b false,.sym,.b false,.go,.b false,.go,.b false,.go,.b false,.sym,.b false,.sym,.b false,.go,.b false,.sym,.b false,.sym,.b false,.sym,.b false,.go,.go,.b true,.go] (by kernel_rfl) (by kernel_rfl) ⟨hqctr49_1,(by omega),(by rw [Nat.mul_one];exact J1 (by omega) 27 (Try.underlying27) rfl),(by have h9:=hrow i (by omega);have h8:=hxr i (by omega);omega),(by have h8:=hxr i (by omega);obtain ⟨-,L9,e9,n9⟩:=s4 (R:=X) (i:=i) (by omega);rw [e9,Nat.mul_one];exact U4 (by omega) 2 (Try.underlying2) rfl),(by omega),(by rw [Nat.mul_one];exact Q0 (by omega) 23 (Try.underlying23) rfl),(by have h9:=hrow i (by omega);have h8:=hxr i (by omega);omega),(by have h8:=hrow i (by omega);obtain ⟨-,P9,e9,n9⟩:=N8 (R:=E) (i:=i) (by omega);rw [e9,Y6];omega),(by have h8:=hrow i (by omega);obtain ⟨-,P9,e9,n9⟩:=N8 (R:=E) (i:=i) (by omega);rw [e9];exact C0 (i:=b) (by omega) (by omega) 2 (Try.underlying2) rfl),hqctr49_2,rfl,rfl,rfl,(by omega),rfl,(by rw [Nat.mul_one];exact J1 (by omega) 27 (Try.underlying27) rfl),rfl,rfl,(by have h9:=hrow i (by omega);have h8:=hxr i (by omega);omega),rfl,(by have h8:=hxr i (by omega);obtain ⟨-,L9,e9,n9⟩:=s4 (R:=X) (i:=i) (by omega);rw [e9,Nat.mul_one];exact U4 (by omega) 2 (Try.underlying2) rfl),rfl,rfl,rfl,rfl,(by omega),rfl,(by rw [Nat.mul_one];exact Q0 (by omega) 23 (Try.underlying23) rfl),rfl,rfl,(by have h9:=hrow i (by omega);have h8:=hxr i (by omega);omega),rfl,(by have h8:=hrow i (by omega);obtain ⟨-,P9,e9,n9⟩:=N8 (R:=E) (i:=i) (by omega);rw [e9,Y6];omega),rfl,(by have h8:=hrow i (by omega);obtain ⟨-,P9,e9,n9⟩:=N8 (R:=E) (i:=i) (by omega);rw [e9];exact C0 (i:=b) (by omega) (by omega) 2 (Try.underlying2) rfl),rfl,hqctr49_3,trivial⟩ rfl) (Hd.en_to (by intro h;cases h) (by intro h;cases h) (Hd.en_bo (by intro h;cases h) (by intro h;cases h) (Hd.en_so (by intro h;cases h) (by intro h;cases h) (Hd.en_eq (r:=(.int .i64 3)) (by rw [a3D (cE:=Z1 E) (cL:=cR L) (n:=L.length) (cX:=Y0 X) (m:=X.length) (cY:=cI Y) (k:=Y.length) (by omega) (eyB_true.2 ⟨by omega,fun i hi=>h0b i (by omega)⟩) (i:=i) (by omega) (fun h9=>by have h8:=allB_true.1 h9 b (by omega);unfold V7 at h8;omega)]) (Hd.en_ret (v:=(.v (.int .i64 (.ofNat 3)))) (by kernel_rfl) rfl)))))
   ·have ghqctr49_3:=Z6 hqctr49_3
    exact Z8 V0 (Z7 Try.checked.mixed (Z5) 200 (T':=⟨[(2,(.ptr 0 0)),(3,(.ptr 1 0)),(N0 L),(a1N b),(8,(.v (.int .i64 (((i+1):Nat):Int)))),(53,(.ptr 1 1)),(a3A Y ul),(a3h b),(56,(AV.xp ul Y.length 1 (cI Y) (b*1))),(a3y Y b),(58,(.ptr 0 1)),(a3s L yl),(a3O b),(61,(AV.xp yl L.length 2 (cR L) (b*2))),(62,(AV.xp yl L.length 2 (cR L) (b*2+1))),(a3G L b),(a3f L Y b)],[],2,[(N9 E L y yl),(P8 X Y u ul)]⟩) (e:=.normal) (ps:=[X8 i 3=true,i<X.length,W7 Try.prog (Y0 X) (i*1) 27=some (AV.xl (xlY (Y0 X) (i*1)) (U5 (Y0 X) (i*1)) 1 (X7 (Y0 X) (i*1))),b<U5 (Y0 X) (i*1),W7 Try.prog (X7 (Y0 X) (i*1)) (b*1) 2=some (AV.v (Value.int IntKind.i64 (Z9 (X7 (Y0 X) (i*1)) (b*1)))),i<E.length,W7 Try.prog (Z1 E) (i*1) 23=some (AV.xl (xlY (Z1 E) (i*1)) (U5 (Z1 E) (i*1)) 2 (X7 (Z1 E) (i*1))),b<U5 (Z1 E) (i*1),b*2+0<((X7 (Z1 E) (i*1)):List AV).length,W7 Try.prog (X7 (Z1 E) (i*1)) (b*2+0) 2=some (AV.v (Value.int IntKind.i64 (Z9 (X7 (Z1 E) (i*1)) (b*2+0)))),X8 (Z9 (X7 (Y0 X) (i*1)) (b*1)) (Z9 (X7 (Z1 E) (i*1)) (b*2+0))=false,false=false,false=false,false=false,i<X.length,false=false,W7 Try.prog (Y0 X) (i*1) 27=some (AV.xl (xlY (Y0 X) (i*1)) (U5 (Y0 X) (i*1)) 1 (X7 (Y0 X) (i*1))),false=false,false=false,b<U5 (Y0 X) (i*1),false=false,W7 Try.prog (X7 (Y0 X) (i*1)) (b*1) 2=some (AV.v (Value.int IntKind.i64 (Z9 (X7 (Y0 X) (i*1)) (b*1)))),false=false,false=false,false=false,false=false,i<E.length,false=false,W7 Try.prog (Z1 E) (i*1) 23=some (AV.xl (xlY (Z1 E) (i*1)) (U5 (Z1 E) (i*1)) 2 (X7 (Z1 E) (i*1))),false=false,false=false,b<U5 (Z1 E) (i*1),false=false,b*2+1<((X7 (Z1 E) (i*1)):List AV).length,false=false,W7 Try.prog (X7 (Z1 E) (i*1)) (b*2+1) 2=some (AV.v (Value.int IntKind.i64 (Z9 (X7 (Z1 E) (i*1)) (b*2+1)))),false=false,X8 (Z9 (X7 (Z1 E) (i*1)) (b*2+1)) (Z9 (X7 (Y0 X) (i*1)) (b*1))=false,O8 IntKind.i64 (((i:Nat):Int)+1)]) [.go,.go,.b true,.go,.go,.go,.sym,.sym,.go,.sym,.sym,.go,.go,.go,.sym,.sym,.go,.sym,.sym,.sym,.go,.go,.b false,.go,.b false,.go,.b false,.go,.b false,.sym,.b false,.sym,.b false,.go,.b false,.sym,.b false,.sym,.b false,.go,.b false,.go,.b false,.go,.b false,.sym,.b false,.sym,.b false,.go,.b false,.sym,.b false,.sym,.b false,.sym,.b false,.go,.go,.b false,.go,.go,.go] (by kernel_rfl) (by kernel_rfl) ⟨hqctr49_1,(by omega),(by rw [Nat.mul_one];exact J1 (by omega) 27 (Try.underlying27) rfl),(by have h9:=hrow i (by omega);have h8:=hxr i (by omega);omega),(by have h8:=hxr i (by omega);obtain ⟨-,L9,e9,n9⟩:=s4 (R:=X) (i:=i) (by omega);rw [e9,Nat.mul_one];exact U4 (by omega) 2 (Try.underlying2) rfl),(by omega),(by rw [Nat.mul_one];exact Q0 (by omega) 23 (Try.underlying23) rfl),(by have h9:=hrow i (by omega);have h8:=hxr i (by omega);omega),(by have h8:=hrow i (by omega);obtain ⟨-,P9,e9,n9⟩:=N8 (R:=E) (i:=i) (by omega);rw [e9,Y6];omega),(by have h8:=hrow i (by omega);obtain ⟨-,P9,e9,n9⟩:=N8 (R:=E) (i:=i) (by omega);rw [e9];exact C0 (i:=b) (by omega) (by omega) 2 (Try.underlying2) rfl),hqctr49_2,rfl,rfl,rfl,(by omega),rfl,(by rw [Nat.mul_one];exact J1 (by omega) 27 (Try.underlying27) rfl),rfl,rfl,(by have h9:=hrow i (by omega);have h8:=hxr i (by omega);omega),rfl,(by have h8:=hxr i (by omega);obtain ⟨-,L9,e9,n9⟩:=s4 (R:=X) (i:=i) (by omega);rw [e9,Nat.mul_one];exact U4 (by omega) 2 (Try.underlying2) rfl),rfl,rfl,rfl,rfl,(by omega),rfl,(by rw [Nat.mul_one];exact Q0 (by omega) 23 (Try.underlying23) rfl),rfl,rfl,(by have h9:=hrow i (by omega);have h8:=hxr i (by omega);omega),rfl,(by have h8:=hrow i (by omega);obtain ⟨-,P9,e9,n9⟩:=N8 (R:=E) (i:=i) (by omega);rw [e9,Y6];omega),rfl,(by have h8:=hrow i (by omega);obtain ⟨-,P9,e9,n9⟩:=N8 (R:=E) (i:=i) (by omega);rw [e9];exact C0 (i:=b) (by omega) (by omega) 2 (Try.underlying2) rfl),rfl,hqctr49_3,(b5Z (by omega) (by omega)),trivial⟩ rfl) (Hd.en_tn (⟨i+1,by omega,(H7 (q:=fun k=>V7 (X7 (Z1 E) (k*1)) (X7 (Y0 X) (k*1)) b) hi2 (by unfold V7;omega))⟩) (by show 3 - (i+1)<3 - i;omega) rfl)
 ·have ghqctr49_1:=Z6 hqctr49_1
  obtain rfl:3=i:=by omega
  exact Z8 E7 (Z7 Try.checked.mixed (Z5) 200 (T':=(b2q E L X Y b u ul y yl)) (e:=.exit 4) (ps:=[X8 3 3=false]) [.go,.go,.b false] (by kernel_rfl) (by kernel_rfl) ⟨hqctr49_1,trivial⟩ rfl) (Hd.en_tx (Hd.en_bn (c1N y E yl L u X ul Y hC hX hqctr10_1 hqctr10_2 h0b hqctr21_1 b hb1 hb2 hqctr34_1 hqctr41_1 hqctr41_2 hi2 hqctr49_1 w hs)))
theorem c1k(y:Value)(E:List (Value×List (Int×Int)))(yl:Value)(L:List (Int×Int))(u:Value)(X:List (Value×List Int))(ul:Value)(Y:List Int)(hC:U9 (Z1 E) E.length (cR L) L.length=0)(hX:X.length≤1000)(hqctr10_1:(K9 L Y)=true)(hqctr10_2:(I3 X)=true)(h0b:∀ k,k<(3)→U5 (Y0 X) (k*1)=L.length)(hqctr21_1:(X8 3 3)=false)(b:Nat)(hb1:b≤L.length)(hb2:∀ k,k<b→V7 (cR L) (cI Y) k∧∀ i,i<3→V7 (X7 (Z1 E) (i*1)) (X7 (Y0 X) (i*1)) k)(hqctr34_1:(X8 b L.length)=true)(hqctr41_1:(X8 (Z9 (cI Y) (b*1)) (Z9 (cR L) (b*2+0)))=false)(hqctr41_2:(X8 (Z9 (cR L) (b*2+1)) (Z9 (cI Y) (b*1)))=false)(w:World)(hs:List Nat):Y4 Try.prog 108 b0F ((b5f E L X Y b u ul y yl)) (BaseW.H w hs) (Hd.AfterB Try.prog 108 3 a1I w (Hd.StepC Try.prog 108 2 (fun b:{b:Nat // b≤L.length∧∀ k,k<b→V7 (cR L) (cI Y) k∧∀ i,i<3→V7 (X7 (Z1 E) (i*1)) (X7 (Y0 X) (i*1)) k}=>⟨[(2,(.ptr 0 0)),(3,(.ptr 1 0)),(N0 L),(7,(.v (.int .i64 b.1)))],[],2,[(N9 E L y yl),(P8 X Y u ul)]⟩) (fun b:{b:Nat // b≤L.length∧∀ k,k<b→V7 (cR L) (cI Y) k∧∀ i,i<3→V7 (X7 (Z1 E) (i*1)) (X7 (Y0 X) (i*1)) k}=>L.length - b.1) w8 w (V3 Try.prog Try.f30 108 (.int .i64 (ctE (Z1 E) (cR L) L.length (Y0 X) X.length (cI Y) Y.length)) w) (⟨b,hb1,hb2⟩:{b:Nat // b≤L.length∧∀ k,k<b→V7 (cR L) (cI Y) k∧∀ i,i<3→V7 (X7 (Z1 E) (i*1)) (X7 (Y0 X) (i*1)) k}))):=by
 have hcl_L:=Y6 L
 have hcl_Y:=Z3 Y
 obtain ⟨hn,hm3,hrow,hlam,hcur⟩:=T5 hC
 have ghqctr10_1:=Y8 hqctr10_1
 have ghqctr10_2:=Y8 hqctr10_2
 have ghqctr21_1:=Z6 hqctr21_1
 have ghqctr34_1:=Y1 hqctr34_1
 have hxr:∀ i,i<3→U5 (Y0 X) (i*1)=L.length:=h0b
 have ghqctr41_1:=Z6 hqctr41_1
 have ghqctr41_2:=Z6 hqctr41_2
 exact Hd.goes_loopL (id:=4) (by kernel_rfl) (by kernel_rfl) (fun i:{i:Nat // i≤3∧∀ k,k<i→V7 (X7 (Z1 E) (k*1)) (X7 (Y0 X) (k*1)) b}=>⟨[(2,(.ptr 0 0)),(3,(.ptr 1 0)),(N0 L),(a1N b),(8,(.v (.int .i64 i.1))),(53,(.ptr 1 1)),(a3A Y ul),(a3h b),(56,(AV.xp ul Y.length 1 (cI Y) (b*1))),(a3y Y b),(58,(.ptr 0 1)),(a3s L yl),(a3O b),(61,(AV.xp yl L.length 2 (cR L) (b*2))),(62,(AV.xp yl L.length 2 (cR L) (b*2+1))),(a3G L b),(a3f L Y b)],[],2,[(N9 E L y yl),(P8 X Y u ul)]⟩) (fun i:{i:Nat // i≤3∧∀ k,k<i→V7 (X7 (Z1 E) (k*1)) (X7 (Y0 X) (k*1)) b}=>3 - i.1) (fun ix_ hs=>c0k y E yl L u X ul Y hC hX hqctr10_1 hqctr10_2 h0b hqctr21_1 b hb1 hb2 hqctr34_1 hqctr41_1 hqctr41_2 ix_.1 ix_.2.1 ix_.2.2 w hs) ⟨0,Nat.zero_le _,(fun j hj=>by omega)⟩ hs
theorem c27(y:Value)(E:List (Value×List (Int×Int)))(yl:Value)(L:List (Int×Int))(u:Value)(X:List (Value×List Int))(ul:Value)(Y:List Int)(hC:U9 (Z1 E) E.length (cR L) L.length=0)(hX:X.length≤1000)(hqctr10_1:(K9 L Y)=true)(hqctr10_2:(I3 X)=true)(h0b:∀ k,k<(3)→U5 (Y0 X) (k*1)=L.length)(hqctr21_1:(X8 3 3)=false)(b:Nat)(hb1:b≤L.length)(hb2:∀ k,k<b→V7 (cR L) (cI Y) k∧∀ i,i<3→V7 (X7 (Z1 E) (i*1)) (X7 (Y0 X) (i*1)) k)(hqctr34_1:(X8 b L.length)=true)(hqctr41_1:(X8 (Z9 (cI Y) (b*1)) (Z9 (cR L) (b*2+0)))=false)(hqctr41_2:(X8 (Z9 (cR L) (b*2+1)) (Z9 (cI Y) (b*1)))=false)(w:World)(hs:List Nat):Y4 Try.prog 108 b0F ((b5f E L X Y b u ul y yl)) (BaseW.H w hs) (Hd.AfterB Try.prog 108 3 a1I w (Hd.StepC Try.prog 108 2 (fun b:{b:Nat // b≤L.length∧∀ k,k<b→V7 (cR L) (cI Y) k∧∀ i,i<3→V7 (X7 (Z1 E) (i*1)) (X7 (Y0 X) (i*1)) k}=>⟨[(2,(.ptr 0 0)),(3,(.ptr 1 0)),(N0 L),(7,(.v (.int .i64 b.1)))],[],2,[(N9 E L y yl),(P8 X Y u ul)]⟩) (fun b:{b:Nat // b≤L.length∧∀ k,k<b→V7 (cR L) (cI Y) k∧∀ i,i<3→V7 (X7 (Z1 E) (i*1)) (X7 (Y0 X) (i*1)) k}=>L.length - b.1) w8 w (V3 Try.prog Try.f30 108 (.int .i64 (ctE (Z1 E) (cR L) L.length (Y0 X) X.length (cI Y) Y.length)) w) (⟨b,hb1,hb2⟩:{b:Nat // b≤L.length∧∀ k,k<b→V7 (cR L) (cI Y) k∧∀ i,i<3→V7 (X7 (Z1 E) (i*1)) (X7 (Y0 X) (i*1)) k}))):=by
 exact c1k y E yl L u X ul Y hC hX hqctr10_1 hqctr10_2 h0b hqctr21_1 b hb1 hb2 hqctr34_1 hqctr41_1 hqctr41_2 w hs
theorem c0S(y:Value)(E:List (Value×List (Int×Int)))(yl:Value)(L:List (Int×Int))(u:Value)(X:List (Value×List Int))(ul:Value)(Y:List Int)(hC:U9 (Z1 E) E.length (cR L) L.length=0)(hX:X.length≤1000)(hqctr10_1:(K9 L Y)=true)(hqctr10_2:(I3 X)=true)(h0b:∀ k,k<(3)→U5 (Y0 X) (k*1)=L.length)(hqctr21_1:(X8 3 3)=false)(b:Nat)(hb1:b≤L.length)(hb2:∀ k,k<b→V7 (cR L) (cI Y) k∧∀ i,i<3→V7 (X7 (Z1 E) (i*1)) (X7 (Y0 X) (i*1)) k)(hqctr34_1:(X8 b L.length)=true)(hqctr41_1:(X8 (Z9 (cI Y) (b*1)) (Z9 (cR L) (b*2+0)))=false)(hqctr41_2:(X8 (Z9 (cR L) (b*2+1)) (Z9 (cI Y) (b*1)))=false)(w:World)(hs:List Nat):Y4 Try.prog 108 b6v ((b2q E L X Y b u ul y yl)) (BaseW.H w hs) (Hd.AfterB Try.prog 108 3 a1I w (Hd.StepC Try.prog 108 2 (fun b:{b:Nat // b≤L.length∧∀ k,k<b→V7 (cR L) (cI Y) k∧∀ i,i<3→V7 (X7 (Z1 E) (i*1)) (X7 (Y0 X) (i*1)) k}=>⟨[(2,(.ptr 0 0)),(3,(.ptr 1 0)),(N0 L),(7,(.v (.int .i64 b.1)))],[],2,[(N9 E L y yl),(P8 X Y u ul)]⟩) (fun b:{b:Nat // b≤L.length∧∀ k,k<b→V7 (cR L) (cI Y) k∧∀ i,i<3→V7 (X7 (Z1 E) (i*1)) (X7 (Y0 X) (i*1)) k}=>L.length - b.1) w8 w (V3 Try.prog Try.f30 108 (.int .i64 (ctE (Z1 E) (cR L) L.length (Y0 X) X.length (cI Y) Y.length)) w) (⟨b,hb1,hb2⟩:{b:Nat // b≤L.length∧∀ k,k<b→V7 (cR L) (cI Y) k∧∀ i,i<3→V7 (X7 (Z1 E) (i*1)) (X7 (Y0 X) (i*1)) k}))):=by
 have hcl_L:=Y6 L
 have hcl_Y:=Z3 Y
 obtain ⟨hn,hm3,hrow,hlam,hcur⟩:=T5 hC
 have ghqctr10_1:=Y8 hqctr10_1
 have ghqctr10_2:=Y8 hqctr10_2
 have ghqctr21_1:=Z6 hqctr21_1
 have ghqctr34_1:=Y1 hqctr34_1
 have hxr:∀ i,i<3→U5 (Y0 X) (i*1)=L.length:=h0b
 have ghqctr41_1:=Z6 hqctr41_1
 have ghqctr41_2:=Z6 hqctr41_2
 refine Hd.goes_seqA (by kernel_rfl) ?_
 exact Z8 V0 (Z7 Try.checked.mixed (Z5) 200 (T':=(b5f E L X Y b u ul y yl)) (e:=.normal) (ps:=[]) [.go] (by kernel_rfl) (by kernel_rfl) trivial rfl) (Hd.en_n (c27 y E yl L u X ul Y hC hX hqctr10_1 hqctr10_2 h0b hqctr21_1 b hb1 hb2 hqctr34_1 hqctr41_1 hqctr41_2 w hs))
theorem c1s(y:Value)(E:List (Value×List (Int×Int)))(yl:Value)(L:List (Int×Int))(u:Value)(X:List (Value×List Int))(ul:Value)(Y:List Int)(hC:U9 (Z1 E) E.length (cR L) L.length=0)(hX:X.length≤1000)(hqctr10_1:(K9 L Y)=true)(hqctr10_2:(I3 X)=true)(h0b:∀ k,k<(3)→U5 (Y0 X) (k*1)=L.length)(hqctr21_1:(X8 3 3)=false)(b:Nat)(hb1:b≤L.length)(hb2:∀ k,k<b→V7 (cR L) (cI Y) k∧∀ i,i<3→V7 (X7 (Z1 E) (i*1)) (X7 (Y0 X) (i*1)) k)(hqctr34_1:(X8 b L.length)=true)(w:World)(hs:List Nat):Y4 Try.prog 108 b6E ((b21 E L X Y b u ul y yl)) (BaseW.H w hs) (Hd.AfterB Try.prog 108 3 a1I w (Hd.StepC Try.prog 108 2 (fun b:{b:Nat // b≤L.length∧∀ k,k<b→V7 (cR L) (cI Y) k∧∀ i,i<3→V7 (X7 (Z1 E) (i*1)) (X7 (Y0 X) (i*1)) k}=>⟨[(2,(.ptr 0 0)),(3,(.ptr 1 0)),(N0 L),(7,(.v (.int .i64 b.1)))],[],2,[(N9 E L y yl),(P8 X Y u ul)]⟩) (fun b:{b:Nat // b≤L.length∧∀ k,k<b→V7 (cR L) (cI Y) k∧∀ i,i<3→V7 (X7 (Z1 E) (i*1)) (X7 (Y0 X) (i*1)) k}=>L.length - b.1) w8 w (V3 Try.prog Try.f30 108 (.int .i64 (ctE (Z1 E) (cR L) L.length (Y0 X) X.length (cI Y) Y.length)) w) (⟨b,hb1,hb2⟩:{b:Nat // b≤L.length∧∀ k,k<b→V7 (cR L) (cI Y) k∧∀ i,i<3→V7 (X7 (Z1 E) (i*1)) (X7 (Y0 X) (i*1)) k}))):=by
 have hcl_L:=Y6 L
 have hcl_Y:=Z3 Y
 obtain ⟨hn,hm3,hrow,hlam,hcur⟩:=T5 hC
 have ghqctr10_1:=Y8 hqctr10_1
 have ghqctr10_2:=Y8 hqctr10_2
 have ghqctr21_1:=Z6 hqctr21_1
 have ghqctr34_1:=Y1 hqctr34_1
 have hxr:∀ i,i<3→U5 (Y0 X) (i*1)=L.length:=h0b
 refine Hd.goes_seqA (by kernel_rfl) ?_
 rcases Bool.eq_false_or_eq_true (X8 (Z9 (cI Y) (b*1)) (Z9 (cR L) (b*2+0))) with hqctr41_1|hqctr41_1
 ·have ghqctr41_1:=Y1 hqctr41_1
  exact Z8 W1 (Z7 Try.checked.mixed (Z5) 200 (T':=a6h) (e:=.ret) (ps:=[b<Y.length,W7 Try.prog (cI Y) (b*1) 2=some (AV.v (Value.int IntKind.i64 (Z9 (cI Y) (b*1)))),b<L.length,b*2+0<((cR L):List AV).length,W7 Try.prog (cR L) (b*2+0) 2=some (AV.v (Value.int IntKind.i64 (Z9 (cR L) (b*2+0)))),X8 (Z9 (cI Y) (b*1)) (Z9 (cR L) (b*2+0))=true,true=true,true=true,true=true,true=true,true=true,true=true,true=true,true=true,true=true,true=true,true=true,true=true]) [.go,.go,.go,.sym,.sym,.go,.go,.go,.sym,.sym,.sym,.go,.go,.b true,.b true,.b true,.b true,.b true,.b true,.b true,.b true,.b true,.b true,.b true,.b true,.go,.b true,.go] (by kernel_rfl) (by kernel_rfl) ⟨(by omega),(by rw [Nat.mul_one];exact U4 (show _<Y.length by omega) 2 (Try.underlying2) rfl),(by omega),(by rw [Y6];omega),(C0 (i:=b) (by omega) (by omega) 2 (Try.underlying2) rfl),hqctr41_1,rfl,rfl,rfl,rfl,rfl,rfl,rfl,rfl,rfl,rfl,rfl,rfl,trivial⟩ rfl) (Hd.en_o (by intro h;cases h) (Hd.en_bo (by intro h;cases h) (by intro h;cases h) (Hd.en_so (by intro h;cases h) (by intro h;cases h) (Hd.en_eq (r:=(.int .i64 3)) (by rw [a9B (cE:=Z1 E) (cL:=cR L) (n:=L.length) (cX:=Y0 X) (m:=X.length) (cY:=cI Y) (k:=Y.length) (by omega) (eyB_true.2 ⟨by omega,fun i hi=>h0b i (by omega)⟩) (fun h9=>by have h8:=allB_true.1 h9 b (by omega);unfold V7 at h8;omega)]) (Hd.en_ret (v:=(.v (.int .i64 (.ofNat 3)))) (by kernel_rfl) rfl)))))
 ·have ghqctr41_1:=Z6 hqctr41_1
  rcases Bool.eq_false_or_eq_true (X8 (Z9 (cR L) (b*2+1)) (Z9 (cI Y) (b*1))) with hqctr41_2|hqctr41_2
  ·have ghqctr41_2:=Y1 hqctr41_2
   exact Z8 W1 (Z7 Try.checked.mixed (Z5) 200 (T':=a6h) (e:=.ret) (ps:=[b<Y.length,W7 Try.prog (cI Y) (b*1) 2=some (AV.v (Value.int IntKind.i64 (Z9 (cI Y) (b*1)))),b<L.length,b*2+0<((cR L):List AV).length,W7 Try.prog (cR L) (b*2+0) 2=some (AV.v (Value.int IntKind.i64 (Z9 (cR L) (b*2+0)))),X8 (Z9 (cI Y) (b*1)) (Z9 (cR L) (b*2+0))=false,false=false,false=false,false=false,b<Y.length,false=false,W7 Try.prog (cI Y) (b*1) 2=some (AV.v (Value.int IntKind.i64 (Z9 (cI Y) (b*1)))),false=false,false=false,false=false,false=false,b<L.length,false=false,b*2+1<((cR L):List AV).length,false=false,W7 Try.prog (cR L) (b*2+1) 2=some (AV.v (Value.int IntKind.i64 (Z9 (cR L) (b*2+1)))),false=false,X8 (Z9 (cR L) (b*2+1)) (Z9 (cI Y) (b*1))=true]) [.go,.go,.go,.sym,.sym,.go,.go,.go,.sym,.sym,.sym,.go,.go,.b false,.go,.b false,.go,.b false,.go,.b false,.sym,.b false,.sym,.b false,.go,.b false,.go,.b false,.go,.b false,.sym,.b false,.sym,.b false,.sym,.b false,.go,.go,.b true,.go] (by kernel_rfl) (by kernel_rfl) ⟨(by omega),(by rw [Nat.mul_one];exact U4 (show _<Y.length by omega) 2 (Try.underlying2) rfl),(by omega),(by rw [Y6];omega),(C0 (i:=b) (by omega) (by omega) 2 (Try.underlying2) rfl),hqctr41_1,rfl,rfl,rfl,(by omega),rfl,(by rw [Nat.mul_one];exact U4 (show _<Y.length by omega) 2 (Try.underlying2) rfl),rfl,rfl,rfl,rfl,(by omega),rfl,(by rw [Y6];omega),rfl,(C0 (i:=b) (by omega) (by omega) 2 (Try.underlying2) rfl),rfl,hqctr41_2,trivial⟩ rfl) (Hd.en_o (by intro h;cases h) (Hd.en_bo (by intro h;cases h) (by intro h;cases h) (Hd.en_so (by intro h;cases h) (by intro h;cases h) (Hd.en_eq (r:=(.int .i64 3)) (by rw [a9B (cE:=Z1 E) (cL:=cR L) (n:=L.length) (cX:=Y0 X) (m:=X.length) (cY:=cI Y) (k:=Y.length) (by omega) (eyB_true.2 ⟨by omega,fun i hi=>h0b i (by omega)⟩) (fun h9=>by have h8:=allB_true.1 h9 b (by omega);unfold V7 at h8;omega)]) (Hd.en_ret (v:=(.v (.int .i64 (.ofNat 3)))) (by kernel_rfl) rfl)))))
  ·have ghqctr41_2:=Z6 hqctr41_2
   exact Z8 V0 (Z7 Try.checked.mixed (Z5) 200 (T':=(b2q E L X Y b u ul y yl)) (e:=.normal) (ps:=[b<Y.length,W7 Try.prog (cI Y) (b*1) 2=some (AV.v (Value.int IntKind.i64 (Z9 (cI Y) (b*1)))),b<L.length,b*2+0<((cR L):List AV).length,W7 Try.prog (cR L) (b*2+0) 2=some (AV.v (Value.int IntKind.i64 (Z9 (cR L) (b*2+0)))),X8 (Z9 (cI Y) (b*1)) (Z9 (cR L) (b*2+0))=false,false=false,false=false,false=false,b<Y.length,false=false,W7 Try.prog (cI Y) (b*1) 2=some (AV.v (Value.int IntKind.i64 (Z9 (cI Y) (b*1)))),false=false,false=false,false=false,false=false,b<L.length,false=false,b*2+1<((cR L):List AV).length,false=false,W7 Try.prog (cR L) (b*2+1) 2=some (AV.v (Value.int IntKind.i64 (Z9 (cR L) (b*2+1)))),false=false,X8 (Z9 (cR L) (b*2+1)) (Z9 (cI Y) (b*1))=false]) [.go,.go,.go,.sym,.sym,.go,.go,.go,.sym,.sym,.sym,.go,.go,.b false,.go,.b false,.go,.b false,.go,.b false,.sym,.b false,.sym,.b false,.go,.b false,.go,.b false,.go,.b false,.sym,.b false,.sym,.b false,.sym,.b false,.go,.go,.b false] (by kernel_rfl) (by kernel_rfl) ⟨(by omega),(by rw [Nat.mul_one];exact U4 (show _<Y.length by omega) 2 (Try.underlying2) rfl),(by omega),(by rw [Y6];omega),(C0 (i:=b) (by omega) (by omega) 2 (Try.underlying2) rfl),hqctr41_1,rfl,rfl,rfl,(by omega),rfl,(by rw [Nat.mul_one];exact U4 (show _<Y.length by omega) 2 (Try.underlying2) rfl),rfl,rfl,rfl,rfl,(by omega),rfl,(by rw [Y6];omega),rfl,(C0 (i:=b) (by omega) (by omega) 2 (Try.underlying2) rfl),rfl,hqctr41_2,trivial⟩ rfl) (Hd.en_n (c0S y E yl L u X ul Y hC hX hqctr10_1 hqctr10_2 h0b hqctr21_1 b hb1 hb2 hqctr34_1 hqctr41_1 hqctr41_2 w hs))
theorem c1z(y:Value)(E:List (Value×List (Int×Int)))(yl:Value)(L:List (Int×Int))(u:Value)(X:List (Value×List Int))(ul:Value)(Y:List Int)(hC:U9 (Z1 E) E.length (cR L) L.length=0)(hX:X.length≤1000)(hqctr10_1:(K9 L Y)=true)(hqctr10_2:(I3 X)=true)(h0b:∀ k,k<(3)→U5 (Y0 X) (k*1)=L.length)(hqctr21_1:(X8 3 3)=false)(b:Nat)(hb1:b≤L.length)(hb2:∀ k,k<b→V7 (cR L) (cI Y) k∧∀ i,i<3→V7 (X7 (Z1 E) (i*1)) (X7 (Y0 X) (i*1)) k)(hqctr34_1:(X8 b L.length)=true)(w:World)(hs:List Nat):Y4 Try.prog 108 (m9 a8L) ((b21 E L X Y b u ul y yl)) (BaseW.H w hs) (Hd.AfterN Try.prog 108 a1I w (Hd.StepC Try.prog 108 2 (fun b:{b:Nat // b≤L.length∧∀ k,k<b→V7 (cR L) (cI Y) k∧∀ i,i<3→V7 (X7 (Z1 E) (i*1)) (X7 (Y0 X) (i*1)) k}=>⟨[(2,(.ptr 0 0)),(3,(.ptr 1 0)),(N0 L),(7,(.v (.int .i64 b.1)))],[],2,[(N9 E L y yl),(P8 X Y u ul)]⟩) (fun b:{b:Nat // b≤L.length∧∀ k,k<b→V7 (cR L) (cI Y) k∧∀ i,i<3→V7 (X7 (Z1 E) (i*1)) (X7 (Y0 X) (i*1)) k}=>L.length - b.1) w8 w (V3 Try.prog Try.f30 108 (.int .i64 (ctE (Z1 E) (cR L) L.length (Y0 X) X.length (cI Y) Y.length)) w) (⟨b,hb1,hb2⟩:{b:Nat // b≤L.length∧∀ k,k<b→V7 (cR L) (cI Y) k∧∀ i,i<3→V7 (X7 (Z1 E) (i*1)) (X7 (Y0 X) (i*1)) k}))):=by
 exact Hd.goes_blkA (id:=3) (by kernel_rfl) (by kernel_rfl) (c1s y E yl L u X ul Y hC hX hqctr10_1 hqctr10_2 h0b hqctr21_1 b hb1 hb2 hqctr34_1 w hs)
theorem c0f(y:Value)(E:List (Value×List (Int×Int)))(yl:Value)(L:List (Int×Int))(u:Value)(X:List (Value×List Int))(ul:Value)(Y:List Int)(hC:U9 (Z1 E) E.length (cR L) L.length=0)(hX:X.length≤1000)(hqctr10_1:(K9 L Y)=true)(hqctr10_2:(I3 X)=true)(h0b:∀ k,k<(3)→U5 (Y0 X) (k*1)=L.length)(hqctr21_1:(X8 3 3)=false)(b:Nat)(hb1:b≤L.length)(hb2:∀ k,k<b→V7 (cR L) (cI Y) k∧∀ i,i<3→V7 (X7 (Z1 E) (i*1)) (X7 (Y0 X) (i*1)) k)(hqctr34_1:(X8 b L.length)=true)(w:World)(hs:List Nat):Y4 Try.prog 108 a8L ((b21 E L X Y b u ul y yl)) (BaseW.H w hs) (Hd.StepC Try.prog 108 2 (fun b:{b:Nat // b≤L.length∧∀ k,k<b→V7 (cR L) (cI Y) k∧∀ i,i<3→V7 (X7 (Z1 E) (i*1)) (X7 (Y0 X) (i*1)) k}=>⟨[(2,(.ptr 0 0)),(3,(.ptr 1 0)),(N0 L),(7,(.v (.int .i64 b.1)))],[],2,[(N9 E L y yl),(P8 X Y u ul)]⟩) (fun b:{b:Nat // b≤L.length∧∀ k,k<b→V7 (cR L) (cI Y) k∧∀ i,i<3→V7 (X7 (Z1 E) (i*1)) (X7 (Y0 X) (i*1)) k}=>L.length - b.1) w8 w (V3 Try.prog Try.f30 108 (.int .i64 (ctE (Z1 E) (cR L) L.length (Y0 X) X.length (cI Y) Y.length)) w) (⟨b,hb1,hb2⟩:{b:Nat // b≤L.length∧∀ k,k<b→V7 (cR L) (cI Y) k∧∀ i,i<3→V7 (X7 (Z1 E) (i*1)) (X7 (Y0 X) (i*1)) k})):=by
 exact Hd.goes_seqA (by kernel_rfl) (c1z y E yl L u X ul Y hC hX hqctr10_1 hqctr10_2 h0b hqctr21_1 b hb1 hb2 hqctr34_1 w hs)
theorem c1n(y:Value)(E:List (Value×List (Int×Int)))(yl:Value)(L:List (Int×Int))(u:Value)(X:List (Value×List Int))(ul:Value)(Y:List Int)(hC:U9 (Z1 E) E.length (cR L) L.length=0)(hX:X.length≤1000)(hqctr10_1:(K9 L Y)=true)(hqctr10_2:(I3 X)=true)(h0b:∀ k,k<(3)→U5 (Y0 X) (k*1)=L.length)(hqctr21_1:(X8 3 3)=false)(h2b:∀ k,k<(L.length)→V7 (cR L) (cI Y) k∧∀ i,i<3→V7 (X7 (Z1 E) (i*1)) (X7 (Y0 X) (i*1)) k)(hqctr34_1:(X8 L.length L.length)=false)(w:World)(hs:List Nat):Y4 Try.prog 108 w8 (⟨[],[],2,[]⟩) (BaseW.H w hs) (V3 Try.prog Try.f30 108 (.int .i64 (ctE (Z1 E) (cR L) L.length (Y0 X) X.length (cI Y) Y.length)) w):=by
 have hcl_L:=Y6 L
 have hcl_Y:=Z3 Y
 obtain ⟨hn,hm3,hrow,hlam,hcur⟩:=T5 hC
 have ghqctr10_1:=Y8 hqctr10_1
 have ghqctr10_2:=Y8 hqctr10_2
 have ghqctr21_1:=Z6 hqctr21_1
 have ghqctr34_1:=Z6 hqctr34_1
 exact Z8 W1 (Z7 Try.checked.mixed (Z5) 200 (T':=⟨[(4,(.v (.int .i64 (.ofNat 0))))],[],2,[]⟩) (e:=.ret) (ps:=[]) [.go] (by kernel_rfl) (by kernel_rfl) trivial rfl) (Hd.en_eq (r:=(.int .i64 0)) (by rw [b1o (cE:=Z1 E) (cL:=cR L) (n:=L.length) (cX:=Y0 X) (m:=X.length) (cY:=cI Y) (k:=Y.length) (by omega) (eyB_true.2 ⟨by omega,fun i hi=>h0b i (by omega)⟩) (allB_true.2 fun b hb=>(h2b b (by omega)).1) (fun i hi=>allB_true.2 fun b hb=>(h2b b (by omega)).2 i (by omega))]) (Hd.en_ret (v:=(.v (.int .i64 (.ofNat 0)))) (by kernel_rfl) rfl))
theorem c05(y:Value)(E:List (Value×List (Int×Int)))(yl:Value)(L:List (Int×Int))(u:Value)(X:List (Value×List Int))(ul:Value)(Y:List Int)(hC:U9 (Z1 E) E.length (cR L) L.length=0)(hX:X.length≤1000)(hqctr10_1:(K9 L Y)=true)(hqctr10_2:(I3 X)=true)(h0b:∀ k,k<(3)→U5 (Y0 X) (k*1)=L.length)(hqctr21_1:(X8 3 3)=false)(b:Nat)(hb1:b≤L.length)(hb2:∀ k,k<b→V7 (cR L) (cI Y) k∧∀ i,i<3→V7 (X7 (Z1 E) (i*1)) (X7 (Y0 X) (i*1)) k)(w:World)(hs:List Nat):Y4 Try.prog 108 b5j (⟨[(2,(.ptr 0 0)),(3,(.ptr 1 0)),(N0 L),(7,(.v (.int .i64 b)))],[],2,[(N9 E L y yl),(P8 X Y u ul)]⟩) (BaseW.H w hs) (Hd.StepC Try.prog 108 2 (fun b:{b:Nat // b≤L.length∧∀ k,k<b→V7 (cR L) (cI Y) k∧∀ i,i<3→V7 (X7 (Z1 E) (i*1)) (X7 (Y0 X) (i*1)) k}=>⟨[(2,(.ptr 0 0)),(3,(.ptr 1 0)),(N0 L),(7,(.v (.int .i64 b.1)))],[],2,[(N9 E L y yl),(P8 X Y u ul)]⟩) (fun b:{b:Nat // b≤L.length∧∀ k,k<b→V7 (cR L) (cI Y) k∧∀ i,i<3→V7 (X7 (Z1 E) (i*1)) (X7 (Y0 X) (i*1)) k}=>L.length - b.1) w8 w (V3 Try.prog Try.f30 108 (.int .i64 (ctE (Z1 E) (cR L) L.length (Y0 X) X.length (cI Y) Y.length)) w) (⟨b,hb1,hb2⟩:{b:Nat // b≤L.length∧∀ k,k<b→V7 (cR L) (cI Y) k∧∀ i,i<3→V7 (X7 (Z1 E) (i*1)) (X7 (Y0 X) (i*1)) k})):=by
 have hcl_L:=Y6 L
 have hcl_Y:=Z3 Y
 obtain ⟨hn,hm3,hrow,hlam,hcur⟩:=T5 hC
 have ghqctr10_1:=Y8 hqctr10_1
 have ghqctr10_2:=Y8 hqctr10_2
 have ghqctr21_1:=Z6 hqctr21_1
 refine Hd.goes_seqA (by kernel_rfl) ?_
 rcases Bool.eq_false_or_eq_true (X8 b L.length) with hqctr34_1|hqctr34_1
 ·have ghqctr34_1:=Y1 hqctr34_1
  have hxr:∀ i,i<3→U5 (Y0 X) (i*1)=L.length:=h0b
  exact Z8 V0 (Z7 Try.checked.mixed (Z5) 200 (T':=(b21 E L X Y b u ul y yl)) (e:=.normal) (ps:=[X8 b L.length=true]) [.go,.go,.go,.b true] (by kernel_rfl) (by kernel_rfl) ⟨hqctr34_1,trivial⟩ rfl) (Hd.en_n (c0f y E yl L u X ul Y hC hX hqctr10_1 hqctr10_2 h0b hqctr21_1 b hb1 hb2 hqctr34_1 w hs))
 ·have ghqctr34_1:=Z6 hqctr34_1
  obtain rfl:b=L.length:=by omega
  exact Z8 E7 (Z7 Try.checked.mixed (Z5) 200 (T':=⟨[],[],2,[]⟩) (e:=.exit 2) (ps:=[X8 L.length L.length=false]) [.go,.go,.go,.b false] (by kernel_rfl) (by kernel_rfl) ⟨hqctr34_1,trivial⟩ rfl) (Hd.en_o (by intro h;cases h) (Hd.en_sx (c1n y E yl L u X ul Y hC hX hqctr10_1 hqctr10_2 h0b hqctr21_1 hb2  hqctr34_1 w hs)))
theorem c1L(y:Value)(E:List (Value×List (Int×Int)))(yl:Value)(L:List (Int×Int))(u:Value)(X:List (Value×List Int))(ul:Value)(Y:List Int)(hC:U9 (Z1 E) E.length (cR L) L.length=0)(hX:X.length≤1000)(hqctr10_1:(K9 L Y)=true)(hqctr10_2:(I3 X)=true)(h0b:∀ k,k<(3)→U5 (Y0 X) (k*1)=L.length)(hqctr21_1:(X8 3 3)=false)(w:World)(hs:List Nat):Y4 Try.prog 108 b1N ((b6Q E L X Y u ul y yl)) (BaseW.H w hs) (Hd.AfterN Try.prog 108 w8 w (V3 Try.prog Try.f30 108 (.int .i64 (ctE (Z1 E) (cR L) L.length (Y0 X) X.length (cI Y) Y.length)) w)):=by
 have hcl_L:=Y6 L
 have hcl_Y:=Z3 Y
 obtain ⟨hn,hm3,hrow,hlam,hcur⟩:=T5 hC
 have ghqctr10_1:=Y8 hqctr10_1
 have ghqctr10_2:=Y8 hqctr10_2
 have ghqctr21_1:=Z6 hqctr21_1
 exact Hd.goes_loopA (id:=2) (by kernel_rfl) (by kernel_rfl) (fun b:{b:Nat // b≤L.length∧∀ k,k<b→V7 (cR L) (cI Y) k∧∀ i,i<3→V7 (X7 (Z1 E) (i*1)) (X7 (Y0 X) (i*1)) k}=>⟨[(2,(.ptr 0 0)),(3,(.ptr 1 0)),(N0 L),(7,(.v (.int .i64 b.1)))],[],2,[(N9 E L y yl),(P8 X Y u ul)]⟩) (fun b:{b:Nat // b≤L.length∧∀ k,k<b→V7 (cR L) (cI Y) k∧∀ i,i<3→V7 (X7 (Z1 E) (i*1)) (X7 (Y0 X) (i*1)) k}=>L.length - b.1) (fun ix_ hs=>c05 y E yl L u X ul Y hC hX hqctr10_1 hqctr10_2 h0b hqctr21_1 ix_.1 ix_.2.1 ix_.2.2 w hs) ⟨0,Nat.zero_le _,(fun j hj=>by omega)⟩ hs
theorem c15(y:Value)(E:List (Value×List (Int×Int)))(yl:Value)(L:List (Int×Int))(u:Value)(X:List (Value×List Int))(ul:Value)(Y:List Int)(hC:U9 (Z1 E) E.length (cR L) L.length=0)(hX:X.length≤1000)(hqctr10_1:(K9 L Y)=true)(hqctr10_2:(I3 X)=true)(h0b:∀ k,k<(3)→U5 (Y0 X) (k*1)=L.length)(hqctr21_1:(X8 3 3)=false)(w:World)(hs:List Nat):Y4 Try.prog 108 b1N ((b6Q E L X Y u ul y yl)) (BaseW.H w hs) (Hd.AfterN Try.prog 108 w8 w (V3 Try.prog Try.f30 108 (.int .i64 (ctE (Z1 E) (cR L) L.length (Y0 X) X.length (cI Y) Y.length)) w)):=by
 exact c1L y E yl L u X ul Y hC hX hqctr10_1 hqctr10_2 h0b hqctr21_1 w hs
theorem b9p(y:Value)(E:List (Value×List (Int×Int)))(yl:Value)(L:List (Int×Int))(u:Value)(X:List (Value×List Int))(ul:Value)(Y:List Int)(hC:U9 (Z1 E) E.length (cR L) L.length=0)(hX:X.length≤1000)(hqctr10_1:(K9 L Y)=true)(hqctr10_2:(I3 X)=true)(h0b:∀ k,k<(3)→U5 (Y0 X) (k*1)=L.length)(hqctr21_1:(X8 3 3)=false)(w:World)(hs:List Nat):Y4 Try.prog 108 b5Q ((a4p E L X Y u ul y yl)) (BaseW.H w hs) (Hd.AfterN Try.prog 108 w8 w (V3 Try.prog Try.f30 108 (.int .i64 (ctE (Z1 E) (cR L) L.length (Y0 X) X.length (cI Y) Y.length)) w)):=by
 have hcl_L:=Y6 L
 have hcl_Y:=Z3 Y
 obtain ⟨hn,hm3,hrow,hlam,hcur⟩:=T5 hC
 have ghqctr10_1:=Y8 hqctr10_1
 have ghqctr10_2:=Y8 hqctr10_2
 have ghqctr21_1:=Z6 hqctr21_1
 refine Hd.goes_seqA (by kernel_rfl) ?_
 exact Z8 V0 (Z7 Try.checked.mixed (Z5) 200 (T':=(b6Q E L X Y u ul y yl)) (e:=.normal) (ps:=[]) [.go] (by kernel_rfl) (by kernel_rfl) trivial rfl) (Hd.en_n (c15 y E yl L u X ul Y hC hX hqctr10_1 hqctr10_2 h0b hqctr21_1 w hs))
theorem c1u(y:Value)(E:List (Value×List (Int×Int)))(yl:Value)(L:List (Int×Int))(u:Value)(X:List (Value×List Int))(ul:Value)(Y:List Int)(hC:U9 (Z1 E) E.length (cR L) L.length=0)(hX:X.length≤1000)(hqctr10_1:(K9 L Y)=true)(hqctr10_2:(I3 X)=true)(h0b:∀ k,k<(3)→U5 (Y0 X) (k*1)=L.length)(hqctr21_1:(X8 3 3)=false)(w:World)(hs:List Nat):Y4 Try.prog 108 a23 ((a4p E L X Y u ul y yl)) (BaseW.H w hs) (V3 Try.prog Try.f30 108 (.int .i64 (ctE (Z1 E) (cR L) L.length (Y0 X) X.length (cI Y) Y.length)) w):=by
 exact Hd.goes_seqA (by kernel_rfl) (b9p y E yl L u X ul Y hC hX hqctr10_1 hqctr10_2 h0b hqctr21_1 w hs)
theorem c09(y:Value)(E:List (Value×List (Int×Int)))(yl:Value)(L:List (Int×Int))(u:Value)(X:List (Value×List Int))(ul:Value)(Y:List Int)(hC:U9 (Z1 E) E.length (cR L) L.length=0)(hX:X.length≤1000)(hqctr10_1:(K9 L Y)=true)(hqctr10_2:(I3 X)=true)(i:Nat)(hi1:i≤3)(hi2:∀ k,k<i→U5 (Y0 X) (k*1)=L.length)(w:World)(hs:List Nat):Y4 Try.prog 108 c00 (⟨[(2,(.ptr 0 0)),(3,(.ptr 1 0)),(N0 L),(6,(.v (.int .i64 i)))],[],2,[(N9 E L y yl),(P8 X Y u ul)]⟩) (BaseW.H w hs) (Hd.StepC Try.prog 108 0 (fun i:{i:Nat // i≤3∧∀ k,k<i→U5 (Y0 X) (k*1)=L.length}=>⟨[(2,(.ptr 0 0)),(3,(.ptr 1 0)),(N0 L),(6,(.v (.int .i64 i.1)))],[],2,[(N9 E L y yl),(P8 X Y u ul)]⟩) (fun i:{i:Nat // i≤3∧∀ k,k<i→U5 (Y0 X) (k*1)=L.length}=>3 - i.1) a23 w (V3 Try.prog Try.f30 108 (.int .i64 (ctE (Z1 E) (cR L) L.length (Y0 X) X.length (cI Y) Y.length)) w) (⟨i,hi1,hi2⟩:{i:Nat // i≤3∧∀ k,k<i→U5 (Y0 X) (k*1)=L.length})):=by
 have hcl_L:=Y6 L
 have hcl_Y:=Z3 Y
 obtain ⟨hn,hm3,hrow,hlam,hcur⟩:=T5 hC
 have ghqctr10_1:=Y8 hqctr10_1
 have ghqctr10_2:=Y8 hqctr10_2
 rcases Bool.eq_false_or_eq_true (X8 i 3) with hqctr21_1|hqctr21_1
 ·have ghqctr21_1:=Y1 hqctr21_1
  rcases Bool.eq_false_or_eq_true (T9 ((U5 (Y0 X) (i*1):Nat):Int) L.length) with hqctr21_2|hqctr21_2
  ·have ghqctr21_2:=Y8 hqctr21_2
   exact Z8 V0 (Z7 Try.checked.mixed (Z5) 200 (T':=⟨[(2,(.ptr 0 0)),(3,(.ptr 1 0)),(N0 L),(6,(.v (.int .i64 (((i+1):Nat):Int))))],[],2,[(N9 E L y yl),(P8 X Y u ul)]⟩) (e:=.normal) (ps:=[X8 i 3=true,i<X.length,W7 Try.prog (Y0 X) (i*1) 27=some (AV.xl (xlY (Y0 X) (i*1)) (U5 (Y0 X) (i*1)) 1 (X7 (Y0 X) (i*1))),(!T9 ((U5 (Y0 X) (i*1):Nat):Int) L.length)=false,O8 IntKind.i64 (((i:Nat):Int)+1)]) [.go,.go,.b true,.go,.go,.go,.sym,.sym,.go,.go,.go,.b false,.go,.go,.go] (by kernel_rfl) (by kernel_rfl) ⟨hqctr21_1,(by omega),(by rw [Nat.mul_one];exact J1 (by omega) 27 (Try.underlying27) rfl),(by rw [hqctr21_2];rfl),(b5Z (by omega) (by omega)),trivial⟩ rfl) (Hd.en_on (⟨i+1,by omega,(H7 (q:=fun k=>U5 (Y0 X) (k*1)=L.length) hi2 (by omega))⟩) (by show 3 - (i+1)<3 - i;omega) rfl)
  ·have ghqctr21_2:=X5 hqctr21_2
   exact Z8 W1 (Z7 Try.checked.mixed (Z5) 200 (T':=b1g) (e:=.ret) (ps:=[X8 i 3=true,i<X.length,W7 Try.prog (Y0 X) (i*1) 27=some (AV.xl (xlY (Y0 X) (i*1)) (U5 (Y0 X) (i*1)) 1 (X7 (Y0 X) (i*1))),(!T9 ((U5 (Y0 X) (i*1):Nat):Int) L.length)=true]) [.go,.go,.b true,.go,.go,.go,.sym,.sym,.go,.go,.go,.b true,.go] (by kernel_rfl) (by kernel_rfl) ⟨hqctr21_1,(by omega),(by rw [Nat.mul_one];exact J1 (by omega) 27 (Try.underlying27) rfl),(by rw [hqctr21_2];rfl),trivial⟩ rfl) (Hd.en_so (by intro h;cases h) (by intro h;cases h) (Hd.en_eq (r:=(.int .i64 15)) (by rw [a88 (cE:=Z1 E) (cL:=cR L) (n:=L.length) (cX:=Y0 X) (m:=X.length) (cY:=cI Y) (k:=Y.length) (fun h9=>by have h8:=(eyB_true.1 h9.2).2 i (by omega);omega)]) (Hd.en_ret (v:=(.v (.int .i64 (.ofNat 15)))) (by kernel_rfl) rfl)))
 ·have ghqctr21_1:=Z6 hqctr21_1
  obtain rfl:3=i:=by omega
  exact Z8 E7 (Z7 Try.checked.mixed (Z5) 200 (T':=(a4p E L X Y u ul y yl)) (e:=.exit 0) (ps:=[X8 3 3=false]) [.go,.go,.b false] (by kernel_rfl) (by kernel_rfl) ⟨hqctr21_1,trivial⟩ rfl) (Hd.en_sx (c1u y E yl L u X ul Y hC hX hqctr10_1 hqctr10_2 hi2  hqctr21_1 w hs))
theorem b9B(y:Value)(E:List (Value×List (Int×Int)))(yl:Value)(L:List (Int×Int))(u:Value)(X:List (Value×List Int))(ul:Value)(Y:List Int)(hC:U9 (Z1 E) E.length (cR L) L.length=0)(hX:X.length≤1000)(hqctr10_1:(K9 L Y)=true)(hqctr10_2:(I3 X)=true)(w:World)(hs:List Nat):Y4 Try.prog 108 b1H ((b4L E L X Y u ul y yl)) (BaseW.H w hs) (Hd.AfterN Try.prog 108 a23 w (V3 Try.prog Try.f30 108 (.int .i64 (ctE (Z1 E) (cR L) L.length (Y0 X) X.length (cI Y) Y.length)) w)):=by
 have hcl_L:=Y6 L
 have hcl_Y:=Z3 Y
 obtain ⟨hn,hm3,hrow,hlam,hcur⟩:=T5 hC
 have ghqctr10_1:=Y8 hqctr10_1
 have ghqctr10_2:=Y8 hqctr10_2
 exact Hd.goes_loopA (id:=0) (by kernel_rfl) (by kernel_rfl) (fun i:{i:Nat // i≤3∧∀ k,k<i→U5 (Y0 X) (k*1)=L.length}=>⟨[(2,(.ptr 0 0)),(3,(.ptr 1 0)),(N0 L),(6,(.v (.int .i64 i.1)))],[],2,[(N9 E L y yl),(P8 X Y u ul)]⟩) (fun i:{i:Nat // i≤3∧∀ k,k<i→U5 (Y0 X) (k*1)=L.length}=>3 - i.1) (fun ix_ hs=>c09 y E yl L u X ul Y hC hX hqctr10_1 hqctr10_2 ix_.1 ix_.2.1 ix_.2.2 w hs) ⟨0,Nat.zero_le _,(fun j hj=>by omega)⟩ hs
theorem c0s(y:Value)(E:List (Value×List (Int×Int)))(yl:Value)(L:List (Int×Int))(u:Value)(X:List (Value×List Int))(ul:Value)(Y:List Int)(hC:U9 (Z1 E) E.length (cR L) L.length=0)(hX:X.length≤1000)(hqctr10_1:(K9 L Y)=true)(hqctr10_2:(I3 X)=true)(w:World)(hs:List Nat):Y4 Try.prog 108 b1H ((b4L E L X Y u ul y yl)) (BaseW.H w hs) (Hd.AfterN Try.prog 108 a23 w (V3 Try.prog Try.f30 108 (.int .i64 (ctE (Z1 E) (cR L) L.length (Y0 X) X.length (cI Y) Y.length)) w)):=by
 exact b9B y E yl L u X ul Y hC hX hqctr10_1 hqctr10_2 w hs
theorem c0v(y:Value)(E:List (Value×List (Int×Int)))(yl:Value)(L:List (Int×Int))(u:Value)(X:List (Value×List Int))(ul:Value)(Y:List Int)(hC:U9 (Z1 E) E.length (cR L) L.length=0)(hX:X.length≤1000)(hqctr10_1:(K9 L Y)=true)(hqctr10_2:(I3 X)=true)(w:World)(hs:List Nat):Y4 Try.prog 108 b6Z ((a4p E L X Y u ul y yl)) (BaseW.H w hs) (Hd.AfterN Try.prog 108 a23 w (V3 Try.prog Try.f30 108 (.int .i64 (ctE (Z1 E) (cR L) L.length (Y0 X) X.length (cI Y) Y.length)) w)):=by
 have hcl_L:=Y6 L
 have hcl_Y:=Z3 Y
 obtain ⟨hn,hm3,hrow,hlam,hcur⟩:=T5 hC
 have ghqctr10_1:=Y8 hqctr10_1
 have ghqctr10_2:=Y8 hqctr10_2
 refine Hd.goes_seqA (by kernel_rfl) ?_
 exact Z8 V0 (Z7 Try.checked.mixed (Z5) 200 (T':=(b4L E L X Y u ul y yl)) (e:=.normal) (ps:=[]) [.go] (by kernel_rfl) (by kernel_rfl) trivial rfl) (Hd.en_n (c0s y E yl L u X ul Y hC hX hqctr10_1 hqctr10_2 w hs))
theorem c10(y:Value)(E:List (Value×List (Int×Int)))(yl:Value)(L:List (Int×Int))(u:Value)(X:List (Value×List Int))(ul:Value)(Y:List Int)(hC:U9 (Z1 E) E.length (cR L) L.length=0)(hX:X.length≤1000)(hqctr10_1:(K9 L Y)=true)(hqctr10_2:(I3 X)=true)(w:World)(hs:List Nat):Y4 Try.prog 108 b4Y ((a4p E L X Y u ul y yl)) (BaseW.H w hs) (V3 Try.prog Try.f30 108 (.int .i64 (ctE (Z1 E) (cR L) L.length (Y0 X) X.length (cI Y) Y.length)) w):=by
 exact Hd.goes_seqA (by kernel_rfl) (c0v y E yl L u X ul Y hC hX hqctr10_1 hqctr10_2 w hs)
theorem c5H(y:Value)(E:List (Value×List (Int×Int)))(yl:Value)(L:List (Int×Int))(u:Value)(X:List (Value×List Int))(ul:Value)(Y:List Int)(hC:U9 (Z1 E) E.length (cR L) L.length=0)(hX:X.length≤1000)(w:World)(hs:List Nat):Y4 Try.prog 108 b8l ((a4p E L X Y u ul y yl)) (BaseW.H w hs) (V3 Try.prog Try.f30 108 (.int .i64 (ctE (Z1 E) (cR L) L.length (Y0 X) X.length (cI Y) Y.length)) w):=by
 have hcl_L:=Y6 L
 have hcl_Y:=Z3 Y
 obtain ⟨hn,hm3,hrow,hlam,hcur⟩:=T5 hC
 refine Hd.goes_seqA (by kernel_rfl) ?_
 rcases Bool.eq_false_or_eq_true (T9 Y.length L.length) with hqctr10_1|hqctr10_1
 ·have ghqctr10_1:=Y8 hqctr10_1
  rcases Bool.eq_false_or_eq_true (T9 X.length 3) with hqctr10_2|hqctr10_2
  ·have ghqctr10_2:=Y8 hqctr10_2
   exact Z8 V0 (Z7 Try.checked.mixed (Z5) 200 (T':=(a4p E L X Y u ul y yl)) (e:=.normal) (ps:=[(!T9 Y.length L.length)=false,false=false,false=false,false=false,(!T9 X.length 3)=false]) [.go,.go,.go,.go,.go,.go,.b false,.go,.b false,.go,.b false,.go,.b false,.go,.go,.b false] (by kernel_rfl) (by kernel_rfl) ⟨(by rw [hqctr10_1];rfl),rfl,rfl,rfl,(by rw [hqctr10_2];rfl),trivial⟩ rfl) (Hd.en_n (c10 y E yl L u X ul Y hC hX hqctr10_1 hqctr10_2 w hs))
  ·have ghqctr10_2:=X5 hqctr10_2
   exact Z8 W1 (Z7 Try.checked.mixed (Z5) 200 (T':=b1g) (e:=.ret) (ps:=[(!T9 Y.length L.length)=false,false=false,false=false,false=false,(!T9 X.length 3)=true]) [.go,.go,.go,.go,.go,.go,.b false,.go,.b false,.go,.b false,.go,.b false,.go,.go,.b true,.go] (by kernel_rfl) (by kernel_rfl) ⟨(by rw [hqctr10_1];rfl),rfl,rfl,rfl,(by rw [hqctr10_2];rfl),trivial⟩ rfl) (Hd.en_o (by intro h;cases h) (Hd.en_eq (r:=(.int .i64 15)) (by rw [a88 (cE:=Z1 E) (cL:=cR L) (n:=L.length) (cX:=Y0 X) (m:=X.length) (cY:=cI Y) (k:=Y.length) (fun h9=>by have h8:=(eyB_true.1 h9.2).1;have h7:=h9.1;omega)]) (Hd.en_ret (v:=(.v (.int .i64 (.ofNat 15)))) (by kernel_rfl) rfl)))
 ·have ghqctr10_1:=X5 hqctr10_1
  exact Z8 W1 (Z7 Try.checked.mixed (Z5) 200 (T':=b1g) (e:=.ret) (ps:=[(!T9 Y.length L.length)=true,true=true,true=true,true=true,true=true]) [.go,.go,.go,.go,.go,.go,.b true,.b true,.b true,.b true,.go,.b true,.go] (by kernel_rfl) (by kernel_rfl) ⟨(by rw [hqctr10_1];rfl),rfl,rfl,rfl,rfl,trivial⟩ rfl) (Hd.en_o (by intro h;cases h) (Hd.en_eq (r:=(.int .i64 15)) (by rw [a88 (cE:=Z1 E) (cL:=cR L) (n:=L.length) (cX:=Y0 X) (m:=X.length) (cY:=cI Y) (k:=Y.length) (fun h9=>by have h8:=(eyB_true.1 h9.2).1;have h7:=h9.1;omega)]) (Hd.en_ret (v:=(.v (.int .i64 (.ofNat 15)))) (by kernel_rfl) rfl)))
theorem c2h(y:Value)(E:List (Value×List (Int×Int)))(yl:Value)(L:List (Int×Int))(u:Value)(X:List (Value×List Int))(ul:Value)(Y:List Int)(hC:U9 (Z1 E) E.length (cR L) L.length=0)(hX:X.length≤1000)(w:World)(hs:List Nat):Y4 Try.prog 108 b95 ((b94 E L X Y u ul y yl)) (BaseW.H w hs) (V3 Try.prog Try.f30 108 (.int .i64 (ctE (Z1 E) (cR L) L.length (Y0 X) X.length (cI Y) Y.length)) w):=by
 have hcl_L:=Y6 L
 have hcl_Y:=Z3 Y
 obtain ⟨hn,hm3,hrow,hlam,hcur⟩:=T5 hC
 refine Hd.goes_seqA (by kernel_rfl) ?_
 exact Z8 V0 (Z7 Try.checked.mixed (Z5) 200 (T':=(a4p E L X Y u ul y yl)) (e:=.normal) (ps:=[]) [.go,.go,.go,.go] (by kernel_rfl) (by kernel_rfl) trivial rfl) (Hd.en_n (c5H y E yl L u X ul Y hC hX w hs))
theorem c34(y:Value)(E:List (Value×List (Int×Int)))(yl:Value)(L:List (Int×Int))(u:Value)(X:List (Value×List Int))(ul:Value)(Y:List Int)(hC:U9 (Z1 E) E.length (cR L) L.length=0)(hX:X.length≤1000)(w:World)(hs:List Nat):Y4 Try.prog 108 b8w (⟨[(0,(.agg [.xl y E.length 1 (Z1 E),.xl yl L.length 2 (cR L)])),(1,(.agg [.xl u X.length 1 (Y0 X),.xl ul Y.length 1 (cI Y)]))],[],0,[]⟩) (BaseW.H w hs) (V3 Try.prog Try.f30 108 (.int .i64 (ctE (Z1 E) (cR L) L.length (Y0 X) X.length (cI Y) Y.length)) w):=by
 have hcl_L:=Y6 L
 have hcl_Y:=Z3 Y
 obtain ⟨hn,hm3,hrow,hlam,hcur⟩:=T5 hC
 refine Hd.goes_seqA (by kernel_rfl) ?_
 exact Z8 V0 (Z7 Try.checked.mixed (Z5) 200 (T':=(b94 E L X Y u ul y yl)) (e:=.normal) (ps:=[]) [.go,.go,.go] (by kernel_rfl) (by kernel_rfl) trivial rfl) (Hd.en_n (c2h y E yl L u X ul Y hC hX w hs))
theorem c3w(y:Value)(E:List (Value×List (Int×Int)))(yl:Value)(L:List (Int×Int))(u:Value)(X:List (Value×List Int))(ul:Value)(Y:List Int)(hC:U9 (Z1 E) E.length (cR L) L.length=0)(hX:X.length≤1000):GivesA Try.prog 30 [(.agg [.xl y E.length 1 (Z1 E),.xl yl L.length 2 (cR L)]),(.agg [.xl u X.length 1 (Y0 X),.xl ul Y.length 1 (cI Y)])] (.int .i64 (ctE (Z1 E) (cR L) L.length (Y0 X) X.length (cI Y) Y.length)) :=
 W0 108 Try.func30 (by kernel_rfl) (by kernel_rfl) (by kernel_rfl) (fun w=>W2 (by kernel_rfl) (by kernel_rfl) (by kernel_rfl) (by kernel_rfl) (c34 y E yl L u X ul Y hC hX w []))
noncomputable def c2L:Code:=R8 Try.f56
noncomputable def c3N:Code:=N4 c2L
noncomputable def b9D:Code:=N4 c3N
noncomputable def b5x:Code:=N4 b9D
noncomputable def b89:Code:=(m9 b9D)
noncomputable def b6u:Code:=N4 b89
noncomputable def c2a:Code:=L2 b6u
theorem c4b(y:Value)(E:List (Value×List (Int×Int)))(yl:Value)(L:List (Int×Int))(z:Value)(M:List Int)(hL:L.length≤1000)(hqcp7_1:(a3N L M)=true)(h0b:∀ j,j<(M.length)→0≤Z9 (cI M) (j*1)∧Z9 (cI M) (j*1)≤1000)(hqcp18_1:(X8 M.length M.length)=false)(w:World)(hs:List Nat):Y4 Try.prog 30 b5x (⟨[],[],1,[]⟩) (BaseW.H w hs) (V3 Try.prog Try.f56 30 (.int .i64 (W6 L.length (cI M) M.length)) w):=by
 have hcl_L:=Y6 L
 have hcl_M:=Z3 M
 have ghqcp7_1:=Y8 hqcp7_1
 have ghqcp18_1:=Z6 hqcp18_1
 exact Z8 W1 (Z7 Try.checked.mixed (Z5) 200 (T':=⟨[(4,(.v (.int .i64 (.ofNat 0))))],[],1,[]⟩) (e:=.ret) (ps:=[]) [.go] (by kernel_rfl) (by kernel_rfl) trivial rfl) (Hd.en_eq (r:=(.int .i64 0)) (by rw [a5J (n:=L.length) (d:=cI M) (k:=M.length) (by omega) (afB_true.2 h0b)]) (Hd.en_ret (v:=(.v (.int .i64 (.ofNat 0)))) (by kernel_rfl) rfl))
theorem c53(y:Value)(E:List (Value×List (Int×Int)))(yl:Value)(L:List (Int×Int))(z:Value)(M:List Int)(hL:L.length≤1000)(hqcp7_1:(a3N L M)=true)(i:Nat)(hi1:i≤M.length)(hi2:∀ j,j<i→0≤Z9 (cI M) (j*1)∧Z9 (cI M) (j*1)≤1000)(w:World)(hs:List Nat):Y4 Try.prog 30 c2a (⟨[(a05 M z),(5,(.v (.int .i64 i)))],[],1,[]⟩) (BaseW.H w hs) (Hd.StepC Try.prog 30 0 (fun i:{i:Nat // i≤M.length∧∀ j,j<i→0≤Z9 (cI M) (j*1)∧Z9 (cI M) (j*1)≤1000}=>⟨[(a05 M z),(5,(.v (.int .i64 i.1)))],[],1,[]⟩) (fun i:{i:Nat // i≤M.length∧∀ j,j<i→0≤Z9 (cI M) (j*1)∧Z9 (cI M) (j*1)≤1000}=>M.length - i.1) b5x w (V3 Try.prog Try.f56 30 (.int .i64 (W6 L.length (cI M) M.length)) w) (⟨i,hi1,hi2⟩:{i:Nat // i≤M.length∧∀ j,j<i→0≤Z9 (cI M) (j*1)∧Z9 (cI M) (j*1)≤1000})):=by
 have hcl_L:=Y6 L
 have hcl_M:=Z3 M
 have ghqcp7_1:=Y8 hqcp7_1
 rcases Bool.eq_false_or_eq_true (X8 i M.length) with hqcp18_1|hqcp18_1
 ·have ghqcp18_1:=Y1 hqcp18_1
  rcases Bool.eq_false_or_eq_true (X8 (Z9 (cI M) (i*1)) 0) with hqcp18_2|hqcp18_2
  ·have ghqcp18_2:=Y1 hqcp18_2
   exact Z8 W1 (Z7 Try.checked.mixed (Z5) 200 (T':=⟨[(4,(.v (.int .i64 (.ofNat 2))))],[],1,[]⟩) (e:=.ret) (ps:=[X8 i M.length=true,i<M.length,W7 Try.prog (cI M) (i*1) 2=some (AV.v (Value.int IntKind.i64 (Z9 (cI M) (i*1)))),X8 (Z9 (cI M) (i*1)) 0=true,true=true,true=true,true=true,true=true,true=true]) [.go,.go,.go,.go,.b true,.go,.go,.sym,.sym,.go,.go,.b true,.b true,.b true,.b true,.b true,.go,.b true,.go] (by kernel_rfl) (by kernel_rfl) ⟨hqcp18_1,(by omega),(by rw [Nat.mul_one];exact U4 (show _<M.length by omega) 2 (Try.underlying2) rfl),hqcp18_2,rfl,rfl,rfl,rfl,rfl,trivial⟩ rfl) (Hd.en_so (by intro h;cases h) (by intro h;cases h) (Hd.en_eq (r:=(.int .i64 2)) (by rw [a2g (n:=L.length) (d:=cI M) (k:=M.length) (by omega) (by rw [a8x (c:=cI M) (lo:=0) (hi:=1000) (n:=M.length) (i:=i) (by omega) (by omega)];decide)]) (Hd.en_ret (v:=(.v (.int .i64 (.ofNat 2)))) (by kernel_rfl) rfl)))
  ·have ghqcp18_2:=Z6 hqcp18_2
   rcases Bool.eq_false_or_eq_true (X8 1000 (Z9 (cI M) (i*1))) with hqcp18_3|hqcp18_3
   ·have ghqcp18_3:=Y1 hqcp18_3
    exact Z8 W1 (Z7 Try.checked.mixed (Z5) 200 (T':=⟨[(4,(.v (.int .i64 (.ofNat 2))))],[],1,[]⟩) (e:=.ret) (ps:=[X8 i M.length=true,i<M.length,W7 Try.prog (cI M) (i*1) 2=some (AV.v (Value.int IntKind.i64 (Z9 (cI M) (i*1)))),X8 (Z9 (cI M) (i*1)) 0=false,false=false,false=false,i<M.length,false=false,W7 Try.prog (cI M) (i*1) 2=some (AV.v (Value.int IntKind.i64 (Z9 (cI M) (i*1)))),false=false,X8 1000 (Z9 (cI M) (i*1))=true]) [.go,.go,.go,.go,.b true,.go,.go,.sym,.sym,.go,.go,.b false,.go,.b false,.go,.b false,.sym,.b false,.sym,.b false,.go,.go,.b true,.go] (by kernel_rfl) (by kernel_rfl) ⟨hqcp18_1,(by omega),(by rw [Nat.mul_one];exact U4 (show _<M.length by omega) 2 (Try.underlying2) rfl),hqcp18_2,rfl,rfl,(by omega),rfl,(by rw [Nat.mul_one];exact U4 (show _<M.length by omega) 2 (Try.underlying2) rfl),rfl,hqcp18_3,trivial⟩ rfl) (Hd.en_so (by intro h;cases h) (by intro h;cases h) (Hd.en_eq (r:=(.int .i64 2)) (by rw [a2g (n:=L.length) (d:=cI M) (k:=M.length) (by omega) (by rw [a8x (c:=cI M) (lo:=0) (hi:=1000) (n:=M.length) (i:=i) (by omega) (by omega)];decide)]) (Hd.en_ret (v:=(.v (.int .i64 (.ofNat 2)))) (by kernel_rfl) rfl)))
   ·have ghqcp18_3:=Z6 hqcp18_3
    exact Z8 V0 (Z7 Try.checked.mixed (Z5) 200 (T':=⟨[(a05 M z),(5,(.v (.int .i64 (((i+1):Nat):Int))))],[],1,[]⟩) (e:=.normal) (ps:=[X8 i M.length=true,i<M.length,W7 Try.prog (cI M) (i*1) 2=some (AV.v (Value.int IntKind.i64 (Z9 (cI M) (i*1)))),X8 (Z9 (cI M) (i*1)) 0=false,false=false,false=false,i<M.length,false=false,W7 Try.prog (cI M) (i*1) 2=some (AV.v (Value.int IntKind.i64 (Z9 (cI M) (i*1)))),false=false,X8 1000 (Z9 (cI M) (i*1))=false,O8 IntKind.i64 (((i:Nat):Int)+1)]) [.go,.go,.go,.go,.b true,.go,.go,.sym,.sym,.go,.go,.b false,.go,.b false,.go,.b false,.sym,.b false,.sym,.b false,.go,.go,.b false,.go,.go,.go] (by kernel_rfl) (by kernel_rfl) ⟨hqcp18_1,(by omega),(by rw [Nat.mul_one];exact U4 (show _<M.length by omega) 2 (Try.underlying2) rfl),hqcp18_2,rfl,rfl,(by omega),rfl,(by rw [Nat.mul_one];exact U4 (show _<M.length by omega) 2 (Try.underlying2) rfl),rfl,hqcp18_3,(b5Z (by omega) (by omega)),trivial⟩ rfl) (Hd.en_on (⟨i+1,by omega,(H7 (q:=fun j=>0≤Z9 (cI M) (j*1)∧Z9 (cI M) (j*1)≤1000) hi2 (by constructor<;>omega))⟩) (by show M.length - (i+1)<M.length - i;omega) rfl)
 ·have ghqcp18_1:=Z6 hqcp18_1
  obtain rfl:i=M.length:=by omega
  exact Z8 E7 (Z7 Try.checked.mixed (Z5) 200 (T':=⟨[],[],1,[]⟩) (e:=.exit 0) (ps:=[X8 M.length M.length=false]) [.go,.go,.go,.go,.b false] (by kernel_rfl) (by kernel_rfl) ⟨hqcp18_1,trivial⟩ rfl) (Hd.en_sx (c4b y E yl L z M hL hqcp7_1 hi2  hqcp18_1 w hs))
theorem c3W(y:Value)(E:List (Value×List (Int×Int)))(yl:Value)(L:List (Int×Int))(z:Value)(M:List Int)(hL:L.length≤1000)(hqcp7_1:(a3N L M)=true)(w:World)(hs:List Nat):Y4 Try.prog 30 b6u ((b6P M z)) (BaseW.H w hs) (Hd.AfterN Try.prog 30 b5x w (V3 Try.prog Try.f56 30 (.int .i64 (W6 L.length (cI M) M.length)) w)):=by
 have hcl_L:=Y6 L
 have hcl_M:=Z3 M
 have ghqcp7_1:=Y8 hqcp7_1
 exact Hd.goes_loopA (id:=0) (by kernel_rfl) (by kernel_rfl) (fun i:{i:Nat // i≤M.length∧∀ j,j<i→0≤Z9 (cI M) (j*1)∧Z9 (cI M) (j*1)≤1000}=>⟨[(a05 M z),(5,(.v (.int .i64 i.1)))],[],1,[]⟩) (fun i:{i:Nat // i≤M.length∧∀ j,j<i→0≤Z9 (cI M) (j*1)∧Z9 (cI M) (j*1)≤1000}=>M.length - i.1) (fun ix_ hs=>c53 y E yl L z M hL hqcp7_1 ix_.1 ix_.2.1 ix_.2.2 w hs) ⟨0,Nat.zero_le _,(fun j hj=>by omega)⟩ hs
theorem c35(y:Value)(E:List (Value×List (Int×Int)))(yl:Value)(L:List (Int×Int))(z:Value)(M:List Int)(hL:L.length≤1000)(hqcp7_1:(a3N L M)=true)(w:World)(hs:List Nat):Y4 Try.prog 30 b6u ((b6P M z)) (BaseW.H w hs) (Hd.AfterN Try.prog 30 b5x w (V3 Try.prog Try.f56 30 (.int .i64 (W6 L.length (cI M) M.length)) w)):=by
 exact c3W y E yl L z M hL hqcp7_1 w hs
theorem c5c(y:Value)(E:List (Value×List (Int×Int)))(yl:Value)(L:List (Int×Int))(z:Value)(M:List Int)(hL:L.length≤1000)(hqcp7_1:(a3N L M)=true)(w:World)(hs:List Nat):Y4 Try.prog 30 b89 (⟨[(a05 M z)],[],1,[]⟩) (BaseW.H w hs) (Hd.AfterN Try.prog 30 b5x w (V3 Try.prog Try.f56 30 (.int .i64 (W6 L.length (cI M) M.length)) w)):=by
 have hcl_L:=Y6 L
 have hcl_M:=Z3 M
 have ghqcp7_1:=Y8 hqcp7_1
 refine Hd.goes_seqA (by kernel_rfl) ?_
 exact Z8 V0 (Z7 Try.checked.mixed (Z5) 200 (T':=(b6P M z)) (e:=.normal) (ps:=[]) [.go] (by kernel_rfl) (by kernel_rfl) trivial rfl) (Hd.en_n (c35 y E yl L z M hL hqcp7_1 w hs))
theorem c6x(y:Value)(E:List (Value×List (Int×Int)))(yl:Value)(L:List (Int×Int))(z:Value)(M:List Int)(hL:L.length≤1000)(hqcp7_1:(a3N L M)=true)(w:World)(hs:List Nat):Y4 Try.prog 30 b9D (⟨[(a05 M z)],[],1,[]⟩) (BaseW.H w hs) (V3 Try.prog Try.f56 30 (.int .i64 (W6 L.length (cI M) M.length)) w):=by
 exact Hd.goes_seqA (by kernel_rfl) (c5c y E yl L z M hL hqcp7_1 w hs)
theorem c7B(y:Value)(E:List (Value×List (Int×Int)))(yl:Value)(L:List (Int×Int))(z:Value)(M:List Int)(hL:L.length≤1000)(w:World)(hs:List Nat):Y4 Try.prog 30 c3N ((b8f E L M y yl z)) (BaseW.H w hs) (V3 Try.prog Try.f56 30 (.int .i64 (W6 L.length (cI M) M.length)) w):=by
 have hcl_L:=Y6 L
 have hcl_M:=Z3 M
 refine Hd.goes_seqA (by kernel_rfl) ?_
 rcases Bool.eq_false_or_eq_true (T9 M.length L.length) with hqcp7_1|hqcp7_1
 ·have ghqcp7_1:=Y8 hqcp7_1
  exact Z8 V0 (Z7 Try.checked.mixed (Z5) 200 (T':=⟨[(a05 M z)],[],1,[]⟩) (e:=.normal) (ps:=[(!T9 M.length L.length)=false]) [.go,.go,.go,.go,.go,.go,.b false] (by kernel_rfl) (by kernel_rfl) ⟨(by rw [hqcp7_1];rfl),trivial⟩ rfl) (Hd.en_n (c6x y E yl L z M hL hqcp7_1 w hs))
 ·have ghqcp7_1:=X5 hqcp7_1
  exact Z8 W1 (Z7 Try.checked.mixed (Z5) 200 (T':=⟨[(4,(.v (.int .i64 (.ofNat 15))))],[],1,[]⟩) (e:=.ret) (ps:=[(!T9 M.length L.length)=true]) [.go,.go,.go,.go,.go,.go,.b true,.go] (by kernel_rfl) (by kernel_rfl) ⟨(by rw [hqcp7_1];rfl),trivial⟩ rfl) (Hd.en_o (by intro h;cases h) (Hd.en_eq (r:=(.int .i64 15)) (by rw [a4F (n:=L.length) (d:=cI M) (k:=M.length) (by omega)]) (Hd.en_ret (v:=(.v (.int .i64 (.ofNat 15)))) (by kernel_rfl) rfl)))
theorem c6U(y:Value)(E:List (Value×List (Int×Int)))(yl:Value)(L:List (Int×Int))(z:Value)(M:List Int)(hL:L.length≤1000)(w:World)(hs:List Nat):Y4 Try.prog 30 c2L (⟨[(0,(.agg [.xl y E.length 1 (Z1 E),.xl yl L.length 2 (cR L)])),(1,(.xl z M.length 1 (cI M)))],[],0,[]⟩) (BaseW.H w hs) (V3 Try.prog Try.f56 30 (.int .i64 (W6 L.length (cI M) M.length)) w):=by
 have hcl_L:=Y6 L
 have hcl_M:=Z3 M
 refine Hd.goes_seqA (by kernel_rfl) ?_
 exact Z8 V0 (Z7 Try.checked.mixed (Z5) 200 (T':=(b8f E L M y yl z)) (e:=.normal) (ps:=[]) [.go,.go] (by kernel_rfl) (by kernel_rfl) trivial rfl) (Hd.en_n (c7B y E yl L z M hL w hs))
theorem c7j(y:Value)(E:List (Value×List (Int×Int)))(yl:Value)(L:List (Int×Int))(z:Value)(M:List Int)(hL:L.length≤1000):GivesA Try.prog 56 [(.agg [.xl y E.length 1 (Z1 E),.xl yl L.length 2 (cR L)]),(.xl z M.length 1 (cI M))] (.int .i64 (W6 L.length (cI M) M.length)) :=
 W0 30 Try.func56 (by kernel_rfl) (by kernel_rfl) (by kernel_rfl) (fun w=>W2 (by kernel_rfl) (by kernel_rfl) (by kernel_rfl) (by kernel_rfl) (c6U y E yl L z M hL w []))
end
end Go.Proofs.Ytegmogadbnfbgaa
set_option linter.all false
/- Mathematics of sums over bands. -/
namespace Go.Proofs.Ytegmogadbnfbgaa
open Go Ev
noncomputable section
def T6(p:Nat→Int):Nat→Int
 |0=>0
 |b+1=>T6 p b+p b
theorem a80{p q:Nat→Int}:∀ {n:Nat},(∀ b,b<n→p b=q b)→T6 p n=T6 q n
 |0,_=>rfl
 |n+1,h=>by simp only [T6];rw [a80 (fun b hb=>h b (by omega)),h n (by omega)]
theorem a6r{p:Nat→Int}{m:Nat}:∀ {n:Nat},(∀ b,b<n → -((m:Nat):Int)≤p b∧p b≤((m:Nat):Int)) → -((n:Int)*m)≤T6 p n∧T6 p n≤(n:Int)*m
 |0,_=>by simp [T6]
 |n+1,h=>by
  have h1:=a6r (n:=n) (fun b hb=>h b (by omega))
  have h2:=h n (by omega)
  simp only [T6]
  have h3:(((n+1:Nat):Int))*(m:Int)=(n:Int)*m+m:=by rw [Int.natCast_add,Int.add_mul];simp
  omega
def s6(p:Nat→Nat→Int)(n i:Nat):Nat→Int:=fun k=>if k<i then T6 (p k) n else 0
def thB(p:Nat→Nat→Int)(n i j:Nat):Nat→Int:=fun k=>if k<i then T6 (p k) n else if k=i then T6 (p i) j else 0
theorem a76{p:Nat→Nat→Int}{n i:Nat}:tI (thB p n i 0) 3=tI (s6 p n i) 3:=a3T (fun k hk=>by
 unfold s6 thB
 split
 ·rfl
 ·split<;>rfl)
theorem b2C{p:Nat→Nat→Int}{n i:Nat}:tI (thB p n i n) 3=tI (s6 p n (i+1)) 3:=a3T (fun k hk=>by
 unfold s6 thB
 by_cases h:k<i
 ·rw [if_pos h,if_pos (by omega)]
 ·rw [if_neg h]
  by_cases e:k=i
  ·subst e;rw [if_pos rfl,if_pos (by omega)]
  ·rw [if_neg e,if_neg (by omega)])
theorem a8O{p:Nat→Nat→Int}{n i j:Nat}(hi:i<3):Z9 (cI (tI (thB p n i j) 3)) (0+i*1)=T6 (p i) j:=by
 rw [Nat.zero_add,Nat.mul_one,u6 hi]
 unfold thB
 rw [if_neg (by omega),if_pos rfl]
theorem b0n{p:Nat→Nat→Int}{n i j:Nat}(hi:i<3){v:Int}(hv:v=T6 (p i) j+p i j):V2 (cI (tI (thB p n i j) 3)) (0+i*1) (AV.v (.int .i64 v)).cells=cI (tI (thB p n i (j+1)) 3):=by
 rw [Nat.zero_add,Nat.mul_one]
 show V2 _ i [AV.v (.int .i64 v)]=_
 rw [b1x hi]
 congr 1
 refine a3T (fun k hk=>?_)
 unfold b1l thB
 by_cases e:k=i
 ·subst e;rw [if_pos rfl,if_neg (by omega),if_pos rfl,hv];rfl
 ·rw [if_neg e]
  by_cases h:k<i
  ·rw [if_pos h,if_pos h]
  ·rw [if_neg h,if_neg h,if_neg e,if_neg e]
theorem a9a{p:Nat→Nat→Int}{n:Nat}:cI (tI (s6 p n 0) 3)=[.v (.int .i64 0),.v (.int .i64 0),.v (.int .i64 0)]:=by rw [a1u];rfl
theorem a8U{p:Nat→Nat→Int}{n:Nat}:cI (tI (s6 p n 3) 3)=[.v (.int .i64 (T6 (p 0) n)),.v (.int .i64 (T6 (p 1) n)),.v (.int .i64 (T6 (p 2) n))]:=by rw [a1u];rfl
def R5(cX cY cM:List AV)(c b:Nat):Int:=Z9 (X7 cX (c*1)) (b*1)*Z9 cY (b*1)*Z9 cM (b*1)
theorem B5{x y z:Int}(hx:0≤x∧x≤100)(hy:0≤y∧y≤100)(hz : -1000≤z∧z≤1000):(0≤x*y∧x*y≤10000) ∧ -10000000≤x*y*z∧x*y*z≤10000000:=by
 have h1:0≤x*y:=Int.mul_nonneg hx.1 hy.1
 have h2:x*y≤100*100:=Int.mul_le_mul hx.2 hy.2 hy.1 (by decide)
 refine ⟨⟨h1,by omega⟩,?_⟩
 rcases Int.le_total 0 z with hz0|hz0
 ·have h3:0≤x*y*z:=Int.mul_nonneg h1 hz0
  have h4:x*y*z≤10000*1000:=Int.mul_le_mul (by omega) hz.2 hz0 (by decide)
  omega
 ·have h3:0≤x*y*(-z):=Int.mul_nonneg h1 (by omega)
  have h4:x*y*(-z)≤10000*1000:=Int.mul_le_mul (by omega) (by omega) (by omega) (by decide)
  rw [Int.mul_neg] at h3 h4
  omega
end
end Go.Proofs.Ytegmogadbnfbgaa
set_option linter.all false
/- What is known of the product. -/
namespace Go.Proofs.Ytegmogadbnfbgaa
open Go Ev
noncomputable section
def b2d(t:TypeId):Prop:=t=29
def b27(t:TypeId):Prop:=t=85
def b3b:AV→Nat→Bool
 |.ptr b o,k=>Nat.beq b k&&Nat.beq o 0
 |_,_=>false
theorem a4D{v:AV}{k:Nat}(h:b3b v k=true):v = .ptr k 0:=by
 cases v with
 |ptr b o =>
  simp only [b3b,Bool.and_eq_true] at h
  rw [Nat.eq_of_beq_eq_true h.1,Nat.eq_of_beq_eq_true h.2]
 |_=>cases h
end
end Go.Proofs.Ytegmogadbnfbgaa
set_option linter.all false
/- What is known of sums. -/
namespace Go.Proofs.Ytegmogadbnfbgaa
open Go Ev
noncomputable section
end
end Go.Proofs.Ytegmogadbnfbgaa
set_option linter.all false
/- What is known of functions whose arguments, or parts of t -/
namespace Go.Proofs.Ytegmogadbnfbgaa.Ev
open Go
noncomputable section
variable {P : Program}
theorem a3x{σ:Env}{w:World}{s:HS}(hs:Sim s.H σ w){k:Nat}{a:AV}{v:Vw}{ps:List Prop}{x:Value}(h:b0s s k a=some (v,ps))(hp:I6 ps)(hx:den σ a=some x) :
  (v = .val x)∨(∃ n k' c,v = .lst n k' c∧∃ cs,denL σ c=some cs∧XOk w x n k' cs):=by
 have key:∀ {b o n q:Nat} {B:Nat} {l:List AV},σ.blk b=some B→s.cells b=some l→o+n*q≤l.length→∀ cap,n≤cap→∃ cs,denL σ ((l.drop o).take (n*q))=some cs∧XOk w (.slice (some ⟨B,o,none⟩) n cap) n q cs:=by
  intro b o n q B l hB hc hle cap hcap
  obtain ⟨B',vs,rest,t,h1,h2,h3⟩:=a00 hs hc
  rw [hB] at h1
  cases h1
  have hl:=S4 h2
  have e1:=r5 (n*q) (r8 o h2)
  have hlen:((vs.drop o).take (n*q)).length=n*q:=by simp;omega
  refine ⟨_,e1,some ⟨B,o,none⟩,cap,rfl,hcap,hlen,fun _=>⟨B,o,rfl,fun i hi=>?_⟩⟩
  rw [hlen] at hi
  have:w.cell? ⟨B,o+i,none⟩=(vs++rest)[o+i]?:=by simp [World.cell?,h3]
  rw [this,List.getElem?_append_left (by omega),List.getElem?_take_of_lt hi,List.getElem?_drop]
 unfold b0s at h
 split at h
 ·split at h
  ·rename_i y hy
   cases h
   rw [M0 hy] at hx
   cases hx
   exact .inl rfl
  ·cases h
 ·rename_i k
  split at h
  ·rename_i y n k' c
   split at h
   ·rename_i hb
    cases h
    have hb':=Nat.eq_of_beq_eq_true hb
    subst hb'
    obtain ⟨cs,h1,hok,rfl⟩:=o9 hx
    refine .inr ⟨n,_,c,rfl,cs,h1,?_⟩
    obtain ⟨ba,cap,q1,q2,q3,q4⟩:=hok
    refine ⟨ba,cap,q1,q2,q3,fun h0=>?_⟩
    obtain ⟨g,off,e1,e2⟩:=q4 h0
    refine ⟨g,off,e1,fun i hi=>?_⟩
    have:=e2 i hi
    rw [List.getElem?_eq_getElem hi] at this ⊢
    exact hs.cell this
   ·cases h
  ·rename_i b o n cp
   split at h
   ·rename_i l hl
    cases h
    simp only [den,Option.map_eq_some_iff] at hx
    obtain ⟨B,hB,rfl⟩:=hx
    exact .inr ⟨n,_,_,rfl,key hB hl hp.1 cp hp.2.1⟩
   ·cases h
  ·rename_i b o n d
   split at h
   ·rename_i l hl
    cases h
    obtain ⟨B,hB,rfl,hcap⟩:=A4 hx
    exact .inr ⟨n,_,_,rfl,key hB hl hp.1 _ hcap⟩
   ·cases h
  ·split at h
   ·split at h
    ·split at h
     ·cases h
      simp only [den,Option.some.injEq] at hx
      subst hx
      exact .inr ⟨0,_,[],rfl,[],rfl,none,_,rfl,Nat.zero_le _,by simp,fun h0=>absurd h0 (by simp)⟩
     ·cases h
    ·cases h
   ·cases h
  ·cases h
inductive Yv where
 |ext (a:AV)
 |lst (n k:Nat) (c:List AV)
 |lls (n k:Nat) (rows:List (Nat×List AV))
 |fnc (f:Fn) (cs:List AV)
inductive Ky where
 |ext
 |lst (k:Nat)
 |lls (k:Nat)
 |fnc
def a59(s:HS):List AV→Option (List AV)
 |[]=>some []
 |a::l=>match a with
  |.ptr b o=>match Nat.beq o 0,s.cells b,a59 s l with
   |true,some c,some cs=>match c with
    |[x]=>some (x::cs)
    |_=>none
   |_,_,_=>none
  |_=>none
def mkC:List Value→List AV→List AV
 |z::zs,c::cs=>.xp z 1 1 [c] 0::mkC zs cs
 |_,_=>[]
def okC:List AV→Prop
 |[]=>True
 |c::l=>Ext c∧okC l
theorem a5G{σ:Env}{w:World}{s:HS}(hs:Sim s.H σ w):∀ {l cs:List AV} {xs:List Value},a59 s l=some cs→denL σ l=some xs→okC cs→∃ zs,zs.length=cs.length∧denL (bare w) (mkC zs cs)=some xs
 |[],cs,xs,h,hx,hv=>by
  unfold a59 at h
  cases h
  cases hx
  exact ⟨[],rfl,rfl⟩
 |a::l,cs,xs,h,hx,hv=>by
  unfold a59 at h
  split at h
  ·rename_i b o
   split at h
   ·rename_i c cs' e0 e1 e2
    split at h
    ·rename_i x
     cases h
     rw [Nat.eq_of_beq_eq_true e0] at hx
     obtain ⟨B,vs,rest,t,g1,g2,g3⟩:=a00 hs e1
     simp only [denL] at hx g2
     cases d1:den σ x with
     |none=>rw [d1] at g2;cases g2
     |some v =>
      rw [d1] at g2
      cases g2
      cases d2:denL σ l with
      |none=>simp only [den,g1,d2,Option.map_some] at hx;cases hx
      |some us =>
       simp only [den,g1,d2,Option.map_some] at hx
       cases hx
       obtain ⟨zs,q1,q2⟩:=a5G hs e2 d2 hv.2
       have e3:denL (bare w) [x]=some [v]:=by simp only [denL,hv.1 s.H σ w v hs d1]
       refine ⟨.slice (some ⟨B,0,none⟩) 1 1::zs,by simp [q1],?_⟩
       have e4:den (bare w) (.xp (.slice (some ⟨B,0,none⟩) 1 1) 1 1 [x] 0)=some (.pointer (some ⟨B,0,none⟩)):=a1c (i:=0) e3 ⟨some ⟨B,0,none⟩,1,rfl,Nat.le_refl _,rfl,fun _=>⟨B,0,rfl,fun i hi=>by
        have hi0:i=0:=by simp at hi;exact hi
        subst hi0
        simp [World.cell?,bare,g3]⟩⟩ (Nat.zero_lt_succ _)
       simp only [mkC,denL,e4,q2]
    ·cases h
   ·cases h
  ·cases h
def a5a(s:HS)(k:Nat):List AV→Option (List (Nat×List AV)×List Prop)
 |[]=>some ([],[])
 |a::l=>match b0s s (k+1) a,a5a s k l with
  |some (v,ps),some (r,qs)=>match v with
   |.lst n k' c=>some ((n,c)::r,apL ps qs)
   |.val _=>none
  |_,_=>none
def b7I(s:HS)(q:Ky)(a:AV):Option (Yv×List Prop) :=
 match q with
 |.ext=>some (.ext a,[])
 |.lst k=>match b0s s (k+1) a with
  |some (v,ps)=>match v with
   |.lst n k' c=>some (.lst n (k+1) c,ps)
   |.val _=>none
  |none=>none
 |.lls k=>match b0s s 1 a with
  |some (v,ps)=>match v with
   |.lst n k' c=>match a5a s k c with
    |some (r,qs)=>some (.lls n (k+1) r,apL ps qs)
    |none=>none
   |.val _=>none
  |none=>none
 |.fnc=>match a with
  |.fn f l c=>match l,a59 s c with
   |[],some cs=>some (.fnc f cs,[])
   |_,_=>none
  |_=>none
def b7D(k:Nat):List Value→List (Nat×List AV)→List AV
 |v::vs,(n,c)::r=>.xl v n k c::b7D k vs r
 |_,_=>[]
def mkY(v:Yv)(zs:List Value):AV :=
 match v with
 |.ext a=>a
 |.lst n k c=>.xl (zs.headD undef) n k c
 |.lls n k r=>.xl (zs.headD undef) n 1 (b7D k zs.tail r)
 |.fnc f cs=>.fn f [] (mkC zs cs)
def okR:List (Nat×List AV)→Prop
 |[]=>True
 |(_,c)::r=>(∃ cs,Q7 c=some cs)∧okR r
def okY(v:Yv):Prop :=
 match v with
 |.ext a=>Ext a
 |.lst _ _ c=>∃ cs,Q7 c=some cs
 |.lls _ _ r=>okR r
 |.fnc _ cs=>okC cs
def lnY(v:Yv)(zs:List Value):Prop :=
 match v with
 |.lls _ _ r=>zs.length=r.length+1
 |.fnc _ cs=>zs.length=cs.length
 |_=>True
theorem b1L{s:HS}{k:Nat}{a:AV}{n k':Nat}{c:List AV}{ps:List Prop}(h:b0s s (k+1) a=some (.lst n k' c,ps)):k'=k+1:=by
 unfold b0s at h
 simp only at h
 split at h
 ·split at h
  ·cases h;rfl
  ·cases h
 ·split at h
  ·cases h;rfl
  ·cases h
 ·split at h
  ·cases h;rfl
  ·cases h
 ·split at h
  ·split at h
   ·split at h
    ·cases h;rfl
    ·cases h
   ·cases h
  ·cases h
 ·cases h
theorem a4Y{σ:Env}{w:World}{s:HS}(hs:Sim s.H σ w){k:Nat}:∀ {c:List AV} {r:List (Nat×List AV)} {ps:List Prop} {cs:List Value},a5a s k c=some (r,ps)→I6 ps→denL σ c=some cs→okR r→cs.length=r.length∧denL (bare w) (b7D (k+1) cs r)=some cs
 |[],r,ps,cs,h,hp,hx,hr=>by
  unfold a5a at h
  cases h
  cases hx
  exact ⟨rfl,rfl⟩
 |a::l,r,ps,cs,h,hp,hx,hr=>by
  unfold a5a at h
  split at h
  ·rename_i v p1 r1 q1 h1 h2
   split at h
   ·rename_i n k' c
    cases h
    rw [L1] at hp
    obtain ⟨a1,a2⟩:=T4 hp
    simp only [denL] at hx
    cases e1:den σ a with
    |none=>rw [e1] at hx;cases hx
    |some x=>cases e2:denL σ l with
     |none=>rw [e1,e2] at hx;cases hx
     |some z =>
      rw [e1,e2] at hx
      cases hx
      obtain ⟨⟨ds,hd⟩,hr2⟩:=hr
      obtain ⟨g1,g2⟩:=a4Y hs h2 a2 e2 hr2
      have hk:=b1L h1
      rcases a3x hs h1 a1 e1 with h3|⟨n',k2,c',h3,us,h4,hok⟩
      ·cases h3
      ·cases h3
       rw [plainL_den hd] at h4
       cases h4
       have e3:=den_xl_mk (σ:=bare w) (y:=x) (plainL_den hd) hok
       rw [hk] at e3
       exact ⟨by simp [g1],by simp only [b7D,denL,e3,g2]⟩
   ·cases h
  ·cases h
theorem b0e{σ:Env}{w:World}{s:HS}(hs:Sim s.H σ w){q:Ky}{a:AV}{v:Yv}{ps:List Prop}{x:Value}(h:b7I s q a=some (v,ps))(hp:I6 ps)(hx:den σ a=some x)(hv:okY v):∃ zs,lnY v zs∧den (bare w) (mkY v zs)=some x:=by
 unfold b7I at h
 split at h
 ·cases h
  exact ⟨[],trivial,hv s.H σ w x hs hx⟩
 ·split at h
  ·rename_i v1 ps1 h1
   split at h
   ·rename_i n k' c
    cases h
    obtain ⟨ds,hd⟩:=hv
    have hk:=b1L h1
    rcases a3x hs h1 hp hx with h3|⟨n',k2,c',h3,us,h4,hok⟩
    ·cases h3
    ·cases h3
     rw [plainL_den hd] at h4
     cases h4
     have e3:=den_xl_mk (σ:=bare w) (y:=x) (plainL_den hd) hok
     rw [hk] at e3
     exact ⟨[x],trivial,e3⟩
   ·cases h
  ·cases h
 ·split at h
  ·rename_i v1 ps1 h1
   split at h
   ·rename_i n k' c
    split at h
    ·rename_i r q1 h2
     cases h
     rw [L1] at hp
     obtain ⟨a1,a2⟩:=T4 hp
     have hk:=b1L h1
     rcases a3x hs h1 a1 hx with h3|⟨n',k2,c',h3,us,h4,hok⟩
     ·cases h3
     ·cases h3
      obtain ⟨g1,g2⟩:=a4Y hs h2 a2 h4 hv
      have e3:=den_xl_mk (σ:=bare w) (y:=x) g2 hok
      rw [hk] at e3
      exact ⟨x::us,by show _+1=_+1;rw [g1],e3⟩
    ·cases h
   ·cases h
  ·cases h
 ·split at h
  ·rename_i f l c
   split at h
   ·rename_i cs e1
    cases h
    simp only [den,denL] at hx
    cases d1:denL σ c with
    |none=>rw [d1] at hx;cases hx
    |some us =>
     rw [d1] at hx
     cases hx
     obtain ⟨zs,q1,q2⟩:=a5G hs e1 d1 hv
     exact ⟨zs,q1,by show den (bare w) (.fn f [] (mkC zs cs))=_;simp only [den,denL,q2]⟩
   ·cases h
  ·cases h
def a6y(s:HS):List Ky→List AV→Option (List Yv×List Prop)
 |[],[]=>some ([],[])
 |k::ks,a::l=>match b7I s k a with
  |some (v,ps)=>match a6y s ks l with
   |some (vs,qs)=>some (v::vs,apL ps qs)
   |none=>none
  |none=>none
 |_,_=>none
def b79:List Yv→List (List Value)→List AV
 |v::l,zs::ys=>mkY v zs::b79 l ys
 |_,_=>[]
def c0l:List Yv→Prop
 |[]=>True
 |v::l=>okY v∧c0l l
def b9k:List Yv→List (List Value)→Prop
 |[],[]=>True
 |v::l,zs::ys=>lnY v zs∧b9k l ys
 |_,_=>False
theorem a75{σ:Env}{w:World}{s:HS}(hs:Sim s.H σ w):∀ {ks:List Ky} {l:List AV} {vs:List Yv} {ps:List Prop} {xs:List Value},a6y s ks l=some (vs,ps)→I6 ps→denL σ l=some xs→c0l vs→∃ ys,b9k vs ys∧denL (bare w) (b79 vs ys)=some xs
 |[],[],vs,ps,xs,h,hp,hx,hv=>by
  simp only [a6y] at h
  cases h
  cases hx
  exact ⟨[],trivial,rfl⟩
 |[],_::_,vs,ps,xs,h,hp,hx,hv=>by simp [a6y] at h
 |_::_,[],vs,ps,xs,h,hp,hx,hv=>by simp [a6y] at h
 |k::ks,a::l,vs,ps,xs,h,hp,hx,hv=>by
  simp only [a6y] at h
  split at h
  ·rename_i v p1 h1
   split at h
   ·rename_i vs' p2 h2
    cases h
    rw [L1] at hp
    obtain ⟨a1,a2⟩:=T4 hp
    simp only [denL] at hx
    cases e1:den σ a with
    |none=>rw [e1] at hx;cases hx
    |some x=>cases e2:denL σ l with
     |none=>rw [e1,e2] at hx;cases hx
     |some z =>
      rw [e1,e2] at hx
      cases hx
      obtain ⟨zs,q1,q2⟩:=b0e hs h1 a1 e1 hv.1
      obtain ⟨ys,q3,q4⟩:=a75 hs h2 a2 e2 hv.2
      exact ⟨zs::ys,⟨q1,q3⟩,by simp only [b79,denL,q2,q4]⟩
   ·cases h
  ·cases h
inductive Yw where
 |one (v:Yv)
 |str (l:List Yv)
inductive Kz where
 |one (k:Ky)
 |str (ks:List Ky)
def c1e(s:HS)(q:Kz)(a:AV):Option (Yw×List Prop) :=
 match q with
 |.one k=>match b7I s k a with
  |some (v,ps)=>some (.one v,ps)
  |none=>none
 |.str ks=>match a with
  |.agg l=>match a6y s ks l with
   |some (vs,ps)=>some (.str vs,ps)
   |none=>none
  |_=>none
def mkZ(v:Yw)(zs:List (List Value)):AV :=
 match v with
 |.one v=>mkY v (zs.headD [])
 |.str vs=>.agg (b79 vs zs)
def okZ(v:Yw):Prop :=
 match v with
 |.one v=>okY v
 |.str vs=>c0l vs
def lnZ(v:Yw)(zs:List (List Value)):Prop :=
 match v with
 |.one v=>lnY v (zs.headD [])
 |.str vs=>b9k vs zs
theorem b6i{σ:Env}{w:World}{s:HS}(hs:Sim s.H σ w){q:Kz}{a:AV}{v:Yw}{ps:List Prop}{x:Value}(h:c1e s q a=some (v,ps))(hp:I6 ps)(hx:den σ a=some x)(hv:okZ v):∃ zs,lnZ v zs∧den (bare w) (mkZ v zs)=some x:=by
 unfold c1e at h
 split at h
 ·split at h
  ·rename_i v1 p1 h1
   cases h
   obtain ⟨zs,q1,q2⟩:=b0e hs h1 hp hx hv
   exact ⟨[zs],q1,q2⟩
  ·cases h
 ·split at h
  ·split at h
   ·rename_i vs p1 h1
    cases h
    simp only [den,Option.map_eq_some_iff] at hx
    obtain ⟨xs,e1,rfl⟩:=hx
    obtain ⟨ys,q1,q2⟩:=a75 hs h1 hp e1 hv
    exact ⟨ys,q1,by show den (bare w) (.agg (b79 vs ys))=_;simp only [den,q2,Option.map_some]⟩
   ·cases h
  ·cases h
def a4g(s:HS):List Kz→List AV→Option (List Yw×List Prop)
 |[],[]=>some ([],[])
 |k::ks,a::l=>match c1e s k a with
  |some (v,ps)=>match a4g s ks l with
   |some (vs,qs)=>some (v::vs,apL ps qs)
   |none=>none
  |none=>none
 |_,_=>none
def b6U:List Yw→List (List (List Value))→List AV
 |v::l,zs::ys=>mkZ v zs::b6U l ys
 |_,_=>[]
def c1y:List Yw→Prop
 |[]=>True
 |v::l=>okZ v∧c1y l
def b7T:List Yw→List (List (List Value))→Prop
 |[],[]=>True
 |v::l,zs::ys=>lnZ v zs∧b7T l ys
 |_,_=>False
theorem a3b{σ:Env}{w:World}{s:HS}(hs:Sim s.H σ w):∀ {ks:List Kz} {l:List AV} {vs:List Yw} {ps:List Prop} {xs:List Value},a4g s ks l=some (vs,ps)→I6 ps→denL σ l=some xs→c1y vs→∃ ys,b7T vs ys∧denL (bare w) (b6U vs ys)=some xs
 |[],[],vs,ps,xs,h,hp,hx,hv=>by
  simp only [a4g] at h
  cases h
  cases hx
  exact ⟨[],trivial,rfl⟩
 |[],_::_,vs,ps,xs,h,hp,hx,hv=>by simp [a4g] at h
 |_::_,[],vs,ps,xs,h,hp,hx,hv=>by simp [a4g] at h
 |k::ks,a::l,vs,ps,xs,h,hp,hx,hv=>by
  simp only [a4g] at h
  split at h
  ·rename_i v p1 h1
   split at h
   ·rename_i vs' p2 h2
    cases h
    rw [L1] at hp
    obtain ⟨a1,a2⟩:=T4 hp
    simp only [denL] at hx
    cases e1:den σ a with
    |none=>rw [e1] at hx;cases hx
    |some x=>cases e2:denL σ l with
     |none=>rw [e1,e2] at hx;cases hx
     |some z =>
      rw [e1,e2] at hx
      cases hx
      obtain ⟨zs,q1,q2⟩:=b6i hs h1 a1 e1 hv.1
      obtain ⟨ys,q3,q4⟩:=a3b hs h2 a2 e2 hv.2
      exact ⟨zs::ys,⟨q1,q3⟩,by simp only [b6U,denL,q2,q4]⟩
   ·cases h
  ·cases h
def u0(f:FuncId)(ks:List Kz)(S:List Yw→Option (C9×List Prop)):R6:=fun g args s =>
 match Nat.beq g f with
 |true=>match a4g s ks args with
  |some (vs,qs)=>match S vs with
   |some (r,ps)=>match r with
    |.val v=>some ((v,s),apL qs ps)
    |.blk V x=>match Nat.ble s.n 1000000 with
     |true=>some ((V s.n,s.new x),apL qs ps)
     |false=>none
   |none=>none
  |none=>none
 |false=>none
def c1T(P:Program)(f:FuncId)(vs:List Yw)(r:C9):Prop :=
 (∃ ys,b7T vs ys)∧∀ ys,b7T vs ys→match r with
  |.val v=>∃ x,plain v=some x∧GivesA P f (b6U vs ys) x
  |.blk V x=>b1v P f (b6U vs ys) V x
theorem F2{f:FuncId}{ks:List Kz}{S:List Yw→Option (C9×List Prop)}(h:∀ vs r ps,S vs=some (r,ps)→I6 ps→c1y vs∧c1T P f vs r):Known P (clsO (u0 f ks S)):=by
 have inv:∀ {g:FuncId} {args:List AV} {s:HS} {u:AV} {s':HS},clsO (u0 f ks S) g args s=some (u,s') →
   g=f∧∃ vs qs r ps,a4g s ks args=some (vs,qs)∧I6 qs∧S vs=some (r,ps)∧I6 ps∧((∃ v,r = .val v∧u=v∧s'=s)∨(∃ V x,r = .blk V x∧u=V s.n∧s'=s.new x)):=by
  intro g args s u s' e
  unfold clsO at e
  split at e
  ·rename_i r ps ho
   split at e
   ·rename_i hall
    cases e
    unfold u0 at ho
    split at ho
    ·rename_i hb
     split at ho
     ·rename_i vs qs hv
      split at ho
      ·rename_i r' ps' hS
       cases r' with
       |val v =>
        simp only at ho
        cases ho
        rw [L1] at hall
        obtain ⟨a1,a2⟩:=T4 hall
        exact ⟨Nat.eq_of_beq_eq_true hb,vs,qs,_,_,hv,a1,hS,a2,.inl ⟨_,rfl,rfl,rfl⟩⟩
       |blk V x =>
        simp only at ho
        split at ho
        ·cases ho
         rw [L1] at hall
         obtain ⟨a1,a2⟩:=T4 hall
         exact ⟨Nat.eq_of_beq_eq_true hb,vs,qs,_,_,hv,a1,hS,a2,.inr ⟨V,x,rfl,rfl,rfl⟩⟩
        ·cases ho
      ·cases ho
     ·cases ho
    ·cases ho
   ·cases e
  ·cases e
 refine ⟨fun g args s u s' e=>?_,fun g args s u s' e=>?_⟩
 ·obtain ⟨rfl,vs,qs,r,ps,hv,hq,hS,hps,hr⟩:=inv e
  obtain ⟨hpl,⟨y0,hy0⟩,hg⟩:=h vs r ps hS hps
  rcases hr with ⟨v,rfl,rfl,rfl⟩|⟨V,x,rfl,rfl,rfl⟩
  ·obtain ⟨y,hy,hA⟩:=hg y0 hy0
   refine ⟨hA.1,Nat.le_refl _,fun F n σ w xs hW gd hs hfr hx=>?_⟩
   obtain ⟨ys,hl,hd⟩:=a3b hs hv hq hx hpl
   obtain ⟨y2,hy2,hA2⟩:=hg ys hl
   rw [hy] at hy2
   cases hy2
   refine CallsIn.mono (hA2.2 F n w xs hW hd) (fun e' w' hp=>?_)
   obtain ⟨q1,q2⟩:=hp
   exact ⟨y,σ,q1,M0 hy,a14 gd hs q2.old q2.size q2.os q2.tape q2.output⟩
  ·refine ⟨(hg y0 hy0).1,Nat.le_succ _,fun F n σ w xs hW gd hs hfr hx=>?_⟩
   obtain ⟨ys,hl,hd⟩:=a3b hs hv hq hx hpl
   refine CallsIn.mono ((hg ys hl).2 F n w xs hW hd) (fun e' w' hp=>?_)
   obtain ⟨kp,r,B,o,c,h1,h2,h3,h4⟩:=hp
   obtain ⟨h5,h6⟩:=h4 σ s.n
   exact ⟨r,_,h1,h6,a2K gd hs (hfr s.n (Nat.le_refl _) (Nat.lt_succ_self _)) kp h2 h3 x c h5⟩
 ·obtain ⟨rfl,vs,qs,r,ps,hv,hq,hS,hps,hr⟩:=inv e
  rcases hr with ⟨v,rfl,rfl,rfl⟩|⟨V,x,rfl,rfl,rfl⟩
  ·exact Stat.refl _
  ·exact L5 _ _
end
end Go.Proofs.Ytegmogadbnfbgaa.Ev
set_option maxHeartbeats 4000000
set_option linter.all false
/- What is known of checks and numbers. -/
namespace Go.Proofs.Ytegmogadbnfbgaa
open Go Ev
noncomputable section
section
variable (M : List Int) (X : List (Value × List Int)) (Y : List Int) (i j : Nat) (u ul z : Value)
@[reducible] def N3:Nat×Ev.AV:=(1,(.xl (z) (M.length) 1 (cI M)))
@[reducible] def k8:Nat×Ev.AV:=(6,(.v (.int .i64 i)))
@[reducible] def b1Q:Nat×Ev.AV:=(7,(.v (.int .i64 (((j+1):Nat):Int))))
@[reducible] def N5:Nat×Ev.AB:=(0,(.cells [(.xl (u) (X.length) 1 (Y0 X)),(.xl (ul) (Y.length) 1 (cI Y))] 29))
@[reducible] def g6:=(cI (tI (thB (R5 (Y0 X) (cI Y) (cI M)) M.length i j) 3))
@[reducible] def b8T:Ev.Lit:=⟨[(N3 M z),(2,(.ptr 0 0)),(5,(.sl 1 0 3 3)),(k8 i),(b1Q j)],[],2,[(N5 X Y u ul),(1,(.cells (V2 (g6 M X Y i j) (0+i*1) [(.v (.int .i64 (Z9 (g6 M X Y i j) (0+i*1)+Z9 (X7 (Y0 X) (i*1)) (j*1)*Z9 (cI Y) (j*1)*Z9 (cI M) (j*1))))]) 2))]⟩
@[reducible] def b1t:Nat×Ev.AB:=(1,(.cells (cI (tI (s6 (R5 (Y0 X) (cI Y) (cI M)) M.length i) 3)) 2))
@[reducible] def b2x:Ev.Lit:=⟨[(N3 M z),(2,(.ptr 0 0)),(5,(.sl 1 0 3 3)),(k8 i),(7,(.v (.int .i64 (.ofNat 0))))],[],2,[(N5 X Y u ul),(b1t M X Y i)]⟩
@[reducible] def b67:Nat×Ev.AB:=(1,(.cells [(.v (.int .i64 (.ofNat 0))),(.v (.int .i64 (.ofNat 0))),(.v (.int .i64 (.ofNat 0)))] 2))
@[reducible] def b2r:Ev.Lit:=⟨[(N3 M z),(2,(.ptr 0 0)),(5,(.sl 1 0 3 3)),(6,(.v (.int .i64 (.ofNat 0))))],[],2,[(N5 X Y u ul),b67]⟩
@[reducible] def b1J:Nat×Ev.AV:=(6,(.v (.int .i64 (((i+1):Nat):Int))))
@[reducible] def b8e:Ev.Lit:=⟨[(N3 M z),(2,(.ptr 0 0)),(5,(.sl 1 0 3 3)),(b1J i)],[],2,[(N5 X Y u ul),(1,(.cells (cI (tI (thB (R5 (Y0 X) (cI Y) (cI M)) M.length i M.length) 3)) 2))]⟩
@[reducible] def b90:Ev.Lit:=⟨[(N3 M z),(2,(.ptr 0 0)),(5,(.sl 1 0 3 3)),(k8 i)],[],2,[(N5 X Y u ul),(1,(.cells (cI (tI (thB (R5 (Y0 X) (cI Y) (cI M)) M.length i (M.length)) 3)) 2))]⟩
@[reducible] def b20:Ev.Lit:=⟨[(N3 M z),(2,(.ptr 0 0)),(5,(.sl 1 0 3 3)),(k8 i)],[],2,[(N5 X Y u ul),(b1t M X Y i)]⟩
@[reducible] def b5s:Ev.Lit:=⟨[(N3 M z),(2,(.ptr 0 0)),(5,(.sl 1 0 3 3))],[],2,[(N5 X Y u ul),b67]⟩
@[reducible] def b8u:Ev.Lit:=⟨[(N3 M z),(2,(.ptr 0 0))],[],1,[(N5 X Y u ul)]⟩
@[reducible] def b98:Ev.Lit:=⟨[(5,(.sl 1 0 3 3))],[],2,[(1,(.cells (cI (tI (s6 (R5 (Y0 X) (cI Y) (cI M)) M.length (3)) 3)) 2))]⟩
@[reducible] def G6:Ev.AB:=(.cells (cI (tI (s6 (R5 (Y0 X) (cI Y) (cI M)) M.length 3) 3)) 2)
end
def gcS:List AV→Option (C9×List Prop):=fun vs =>
 match vs with
 |[.agg [.xl y m k1 cE,.xl yl n k2 cL]]=>some (.val (.v (.int .i64 (U9 cE m cL n))),[V5 k1 cE m,Y5 k2 n cL,m≤1000])
 |_=>none
def gcO:R6:=H8 20 gcS
theorem g5:Known Try.prog (clsO gcO):=O2 (fun vs r ps h hp=>by
 unfold gcS at h
 split at h
 ·cases h
  obtain ⟨⟨rfl,E,rfl,rfl⟩,⟨rfl,L,rfl,rfl⟩,h1,-⟩:=hp
  exact ⟨X3 (a2L E L) S8,_,rfl,c3J _ E _ L h1⟩
 ·cases h)
def grS:List AV→Option (C9×List Prop):=fun vs =>
 match vs with
 |[.agg [.xl y m k1 cE,.xl yl n k2 cL]]=>some (.val (.v (.int .i64 (U9 cE m cL n))),[V5 k1 cE m,Y5 k2 n cL,m≤1000])
 |_=>none
def grO:R6:=H8 21 grS
theorem a2p:Known Try.prog (clsO grO):=O2 (fun vs r ps h hp=>by
 unfold grS at h
 split at h
 ·cases h
  obtain ⟨⟨rfl,E,rfl,rfl⟩,⟨rfl,L,rfl,rfl⟩,h1,-⟩:=hp
  exact ⟨X3 (a2L E L) S8,_,rfl,c4a _ E _ L h1⟩
 ·cases h)
def gpS:List AV→Option (C9×List Prop):=fun vs =>
 match vs with
 |[.agg [.xl y m k1 cE,.xl yl n k2 cL],.xl z r k5 cM]=>some (.val (.v (.int .i64 (W6 n cM r))),[V5 k1 cE m,Y5 k2 n cL,V9 k5 r cM,n≤1000])
 |_=>none
def gpO:R6:=H8 56 gpS
theorem a2o:Known Try.prog (clsO gpO):=O2 (fun vs r ps h hp=>by
 unfold gpS at h
 split at h
 ·cases h
  obtain ⟨⟨rfl,E,rfl,rfl⟩,⟨rfl,L,rfl,rfl⟩,⟨rfl,M,rfl,rfl⟩,h1,-⟩:=hp
  exact ⟨X3 (a2L E L) (X3 (U3 (W3 (Z2 M))) S8),_,rfl,c7j _ E _ L _ M h1⟩
 ·cases h)
noncomputable def c5t:Code:=R8 Try.f31
noncomputable def c68:Code:=N4 c5t
noncomputable def c1h:Code:=N4 c68
noncomputable def a4B:Code:=N4 c1h
noncomputable def b8z:Code:=(m9 c1h)
noncomputable def b4H:Code:=N4 b8z
noncomputable def b92:Code:=L2 b4H
noncomputable def b24:Code:=N4 b92
noncomputable def a7t:Code:=N4 b24
noncomputable def b8x:Code:=a6I (m9 b24)
noncomputable def b7a:Code:=N4 b8x
noncomputable def c4o:Code:=L2 b7a
theorem c6d(u:Value)(X:List (Value×List Int))(ul:Value)(Y:List Int)(z:Value)(M:List Int)(hn8:M.length≤8)(hx3:X.length=3)(hxr:∀ i,i<3→U5 (Y0 X) (i*1)=M.length)(hy:Y.length=M.length)(hx1:∀ i,i<3→∀ b,b<M.length→0≤Z9 (X7 (Y0 X) (i*1)) (b*1)∧Z9 (X7 (Y0 X) (i*1)) (b*1)≤100)(hy1:∀ b,b<M.length→0≤Z9 (cI Y) (b*1)∧Z9 (cI Y) (b*1)≤100)(hm1:∀ b,b<M.length→0≤Z9 (cI M) (b*1)∧Z9 (cI M) (b*1)≤1000)(i:Nat)(hi1:i≤3)(hi2:True)(hqsr20_1:(X8 i 3)=true)(hqsr32_1:(X8 M.length M.length)=false)(v:BaseW)(eb:Nat→Option Nat)(ec:Nat→Nat)(hs:List Nat):Y4 Try.prog 45 a7t ((b90 M X Y i u ul z)) (BaseW.H (bw v 0 eb ec) hs) (Hd.StepC Try.prog 45 0 (fun i:{i:Nat // i≤3∧True}=>⟨[(N3 M z),(2,(.ptr 0 0)),(5,(.sl 1 0 3 3)),(6,(.v (.int .i64 i.1)))],[],2,[(N5 X Y u ul),(1,(.cells (cI (tI (s6 (R5 (Y0 X) (cI Y) (cI M)) M.length i.1) 3)) 2))]⟩) (fun i:{i:Nat // i≤3∧True}=>3 - i.1) a4B (bw v 0 eb ec) (R7 Try.prog Try.f31 45 ((.sl 0 0 3 3)) [(G6 M X Y)] (bw v 0 eb ec)) (⟨i,hi1,hi2⟩:{i:Nat // i≤3∧True})):=by
 have hcl_Y:=Z3 Y
 have hcl_M:=Z3 M
 have ghqsr20_1:=Y1 hqsr20_1
 have ghqsr32_1:=Z6 hqsr32_1
 exact Z8 V0 (Z7 Try.checked.mixed (Z5) 200 (T':=(b8e M X Y i u ul z)) (e:=.normal) (ps:=[O8 IntKind.i64 (((i:Nat):Int)+1)]) [.go,.go,.go] (by kernel_rfl) (by kernel_rfl) ⟨(by show -9223372036854775808≤_∧_≤9223372036854775807;constructor<;>omega),trivial⟩ rfl) (Hd.en_on (⟨i+1,by omega,trivial⟩) (by show 3 - (i+1)<3 - i;omega) (show ((b8e M X Y i u ul z):Ev.Lit)=⟨[(N3 M z),(2,(.ptr 0 0)),(5,(.sl 1 0 3 3)),(b1J i)],[],2,[(N5 X Y u ul),(1,(.cells (cI (tI (s6 (R5 (Y0 X) (cI Y) (cI M)) M.length (i+1)) 3)) 2))]⟩ from by have hz_:=congrArg (fun (xq0:Ev.AB)=>(⟨[(N3 M z),(2,(.ptr 0 0)),(5,(.sl 1 0 3 3)),(b1J i)],[],2,[(N5 X Y u ul),(1,xq0)]⟩:Ev.Lit)) (congrArg (fun z=>Ev.AB.cells z 2) (show ((cI (tI (thB (R5 (Y0 X) (cI Y) (cI M)) M.length i M.length) 3)):List Ev.AV)=(cI (tI (s6 (R5 (Y0 X) (cI Y) (cI M)) M.length (i+1)) 3)) from by rw [b2C]));exact hz_))
theorem c6j(u:Value)(X:List (Value×List Int))(ul:Value)(Y:List Int)(z:Value)(M:List Int)(hn8:M.length≤8)(hx3:X.length=3)(hxr:∀ i,i<3→U5 (Y0 X) (i*1)=M.length)(hy:Y.length=M.length)(hx1:∀ i,i<3→∀ b,b<M.length→0≤Z9 (X7 (Y0 X) (i*1)) (b*1)∧Z9 (X7 (Y0 X) (i*1)) (b*1)≤100)(hy1:∀ b,b<M.length→0≤Z9 (cI Y) (b*1)∧Z9 (cI Y) (b*1)≤100)(hm1:∀ b,b<M.length→0≤Z9 (cI M) (b*1)∧Z9 (cI M) (b*1)≤1000)(i:Nat)(hi1:i≤3)(hi2:True)(hqsr20_1:(X8 i 3)=true)(j:Nat)(hj1:j≤M.length)(hj2:True)(v:BaseW)(eb:Nat→Option Nat)(ec:Nat→Nat)(hs:List Nat):Y4 Try.prog 45 c4o (⟨[(N3 M z),(2,(.ptr 0 0)),(5,(.sl 1 0 3 3)),(k8 i),(7,(.v (.int .i64 j)))],[],2,[(N5 X Y u ul),(1,(.cells (g6 M X Y i j) 2))]⟩) (BaseW.H (bw v 0 eb ec) hs) (Hd.StepL 45 2 (fun j:{j:Nat // j≤M.length∧True}=>⟨[(N3 M z),(2,(.ptr 0 0)),(5,(.sl 1 0 3 3)),(k8 i),(7,(.v (.int .i64 j.1)))],[],2,[(N5 X Y u ul),(1,(.cells (cI (tI (thB (R5 (Y0 X) (cI Y) (cI M)) M.length i j.1) 3)) 2))]⟩) (fun j:{j:Nat // j≤M.length∧True}=>M.length - j.1) (bw v 0 eb ec) (Hd.AfterB Try.prog 45 1 a7t (bw v 0 eb ec) (Hd.StepC Try.prog 45 0 (fun i:{i:Nat // i≤3∧True}=>⟨[(N3 M z),(2,(.ptr 0 0)),(5,(.sl 1 0 3 3)),(6,(.v (.int .i64 i.1)))],[],2,[(N5 X Y u ul),(1,(.cells (cI (tI (s6 (R5 (Y0 X) (cI Y) (cI M)) M.length i.1) 3)) 2))]⟩) (fun i:{i:Nat // i≤3∧True}=>3 - i.1) a4B (bw v 0 eb ec) (R7 Try.prog Try.f31 45 ((.sl 0 0 3 3)) [(G6 M X Y)] (bw v 0 eb ec)) (⟨i,hi1,hi2⟩:{i:Nat // i≤3∧True}))) (⟨j,hj1,hj2⟩:{j:Nat // j≤M.length∧True})):=by
 have hcl_Y:=Z3 Y
 have hcl_M:=Z3 M
 have ghqsr20_1:=Y1 hqsr20_1
 rcases Bool.eq_false_or_eq_true (X8 j M.length) with hqsr32_1|hqsr32_1
 ·have ghqsr32_1:=Y1 hqsr32_1
  exact Z8 V0 (Z7 Try.checked.mixed (Z5) 200 (T':=(b8T M X Y i j u ul z)) (e:=.normal) (ps:=[X8 j M.length=true,i<3,W7 Try.prog (g6 M X Y i j) (0+i*1) 2=some (AV.v (Value.int IntKind.i64 (Z9 (g6 M X Y i j) (0+i*1)))),i<X.length,W7 Try.prog (Y0 X) (i*1) 27=some (AV.xl (xlY (Y0 X) (i*1)) (U5 (Y0 X) (i*1)) 1 (X7 (Y0 X) (i*1))),j<U5 (Y0 X) (i*1),W7 Try.prog (X7 (Y0 X) (i*1)) (j*1) 2=some (AV.v (Value.int IntKind.i64 (Z9 (X7 (Y0 X) (i*1)) (j*1)))),j<Y.length,W7 Try.prog (cI Y) (j*1) 2=some (AV.v (Value.int IntKind.i64 (Z9 (cI Y) (j*1)))),O8 IntKind.i64 (Z9 (X7 (Y0 X) (i*1)) (j*1)*Z9 (cI Y) (j*1)),j<M.length,W7 Try.prog (cI M) (j*1) 2=some (AV.v (Value.int IntKind.i64 (Z9 (cI M) (j*1)))),O8 IntKind.i64 (Z9 (X7 (Y0 X) (i*1)) (j*1)*Z9 (cI Y) (j*1)*Z9 (cI M) (j*1)),O8 IntKind.i64 (Z9 (g6 M X Y i j) (0+i*1)+Z9 (X7 (Y0 X) (i*1)) (j*1)*Z9 (cI Y) (j*1)*Z9 (cI M) (j*1)),i<3,0+i*1+([(.v (.int .i64 (Z9 (g6 M X Y i j) (0+i*1)+Z9 (X7 (Y0 X) (i*1)) (j*1)*Z9 (cI Y) (j*1)*Z9 (cI M) (j*1))))]:List AV).length≤((g6 M X Y i j):List AV).length,O8 IntKind.i64 (((j:Nat):Int)+1)]) [.go,.go,.go,.go,.b true,.go,.go,.sym,.sym,.go,.go,.go,.sym,.sym,.go,.sym,.sym,.go,.go,.go,.sym,.sym,.go,.go,.go,.sym,.sym,.go,.go,.sym,.sym,.go,.go,.go] (by kernel_rfl) (by kernel_rfl) ⟨hqsr32_1,(by omega),(U4 (by rw [Y9];omega) 2 (Try.underlying2) rfl),(by omega),(by rw [Nat.mul_one];exact J1 (by omega) 27 (Try.underlying27) rfl),(by rw [hxr i (by omega)];omega),(by have h8:=hxr i (by omega);obtain ⟨-,L9,e9,n9⟩:=s4 (R:=X) (i:=i) (by omega);rw [e9,Nat.mul_one];exact U4 (by omega) 2 (Try.underlying2) rfl),(by omega),(by rw [Nat.mul_one];exact U4 (show _<Y.length by omega) 2 (Try.underlying2) rfl),(by have h9:=B5 (hx1 i (by omega) j (by omega)) (hy1 j (by omega)) ⟨by have:=(hm1 j (by omega)).1;omega,(hm1 j (by omega)).2⟩;show -9223372036854775808≤_∧_≤9223372036854775807;constructor<;>omega),(by omega),(by rw [Nat.mul_one];exact U4 (show _<M.length by omega) 2 (Try.underlying2) rfl),(by have h9:=B5 (hx1 i (by omega) j (by omega)) (hy1 j (by omega)) ⟨by have:=(hm1 j (by omega)).1;omega,(hm1 j (by omega)).2⟩;show -9223372036854775808≤_∧_≤9223372036854775807;constructor<;>omega),(by rw [a8O (by omega)];have h9:=a6r (p:=R5 (Y0 X) (cI Y) (cI M) i) (m:=10000000) (n:=j) (fun b hb=>by have:=(B5 (hx1 i (by omega) b (by omega)) (hy1 b (by omega)) ⟨by have:=(hm1 b (by omega)).1;omega,(hm1 b (by omega)).2⟩).2;exact this);have h8:=(B5 (hx1 i (by omega) j (by omega)) (hy1 j (by omega)) ⟨by have:=(hm1 j (by omega)).1;omega,(hm1 j (by omega)).2⟩).2;unfold R5 at *;show -9223372036854775808≤_∧_≤9223372036854775807;constructor<;>omega),(by omega),(by show 0+i*1+1≤_;rw [Z3,Y9];omega),(by show -9223372036854775808≤_∧_≤9223372036854775807;constructor<;>omega),trivial⟩ rfl) (Hd.en_tn (⟨j+1,by omega,trivial⟩) (by show M.length - (j+1)<M.length - j;omega) (show ((b8T M X Y i j u ul z):Ev.Lit)=⟨[(N3 M z),(2,(.ptr 0 0)),(5,(.sl 1 0 3 3)),(k8 i),(b1Q j)],[],2,[(N5 X Y u ul),(1,(.cells (cI (tI (thB (R5 (Y0 X) (cI Y) (cI M)) M.length i (j+1)) 3)) 2))]⟩ from by have hz_:=congrArg (fun (xq0:Ev.AB)=>(⟨[(N3 M z),(2,(.ptr 0 0)),(5,(.sl 1 0 3 3)),(k8 i),(b1Q j)],[],2,[(N5 X Y u ul),(1,xq0)]⟩:Ev.Lit)) (congrArg (fun z=>Ev.AB.cells z 2) (show ((V2 (g6 M X Y i j) (0+i*1) [(.v (.int .i64 (Z9 (g6 M X Y i j) (0+i*1)+Z9 (X7 (Y0 X) (i*1)) (j*1)*Z9 (cI Y) (j*1)*Z9 (cI M) (j*1))))]):List Ev.AV)=(cI (tI (thB (R5 (Y0 X) (cI Y) (cI M)) M.length i (j+1)) 3)) from by (refine (b0n (i:=i) (j:=j) (by omega) ?_);rw [a8O (i:=i) (by omega)];rfl)));exact hz_))
 ·have ghqsr32_1:=Z6 hqsr32_1
  obtain rfl:j=M.length:=by omega
  exact Z8 E7 (Z7 Try.checked.mixed (Z5) 200 (T':=(b90 M X Y i u ul z)) (e:=.exit 2) (ps:=[X8 M.length M.length=false]) [.go,.go,.go,.go,.b false] (by kernel_rfl) (by kernel_rfl) ⟨hqsr32_1,trivial⟩ rfl) (Hd.en_tx (Hd.en_bn (c6d u X ul Y z M hn8 hx3 hxr hy hx1 hy1 hm1 i hi1 hi2 hqsr20_1 hqsr32_1 v eb ec hs)))
theorem c6m(u:Value)(X:List (Value×List Int))(ul:Value)(Y:List Int)(z:Value)(M:List Int)(hn8:M.length≤8)(hx3:X.length=3)(hxr:∀ i,i<3→U5 (Y0 X) (i*1)=M.length)(hy:Y.length=M.length)(hx1:∀ i,i<3→∀ b,b<M.length→0≤Z9 (X7 (Y0 X) (i*1)) (b*1)∧Z9 (X7 (Y0 X) (i*1)) (b*1)≤100)(hy1:∀ b,b<M.length→0≤Z9 (cI Y) (b*1)∧Z9 (cI Y) (b*1)≤100)(hm1:∀ b,b<M.length→0≤Z9 (cI M) (b*1)∧Z9 (cI M) (b*1)≤1000)(i:Nat)(hi1:i≤3)(hi2:True)(hqsr20_1:(X8 i 3)=true)(v:BaseW)(eb:Nat→Option Nat)(ec:Nat→Nat)(hs:List Nat):Y4 Try.prog 45 b7a ((b2x M X Y i u ul z)) (BaseW.H (bw v 0 eb ec) hs) (Hd.AfterB Try.prog 45 1 a7t (bw v 0 eb ec) (Hd.StepC Try.prog 45 0 (fun i:{i:Nat // i≤3∧True}=>⟨[(N3 M z),(2,(.ptr 0 0)),(5,(.sl 1 0 3 3)),(6,(.v (.int .i64 i.1)))],[],2,[(N5 X Y u ul),(1,(.cells (cI (tI (s6 (R5 (Y0 X) (cI Y) (cI M)) M.length i.1) 3)) 2))]⟩) (fun i:{i:Nat // i≤3∧True}=>3 - i.1) a4B (bw v 0 eb ec) (R7 Try.prog Try.f31 45 ((.sl 0 0 3 3)) [(G6 M X Y)] (bw v 0 eb ec)) (⟨i,hi1,hi2⟩:{i:Nat // i≤3∧True}))):=by
 have hcl_Y:=Z3 Y
 have hcl_M:=Z3 M
 have ghqsr20_1:=Y1 hqsr20_1
 rw [show ((b2x M X Y i u ul z):Ev.Lit)=⟨[(N3 M z),(2,(.ptr 0 0)),(5,(.sl 1 0 3 3)),(k8 i),(7,(.v (.int .i64 0)))],[],2,[(N5 X Y u ul),(1,(.cells (cI (tI (thB (R5 (Y0 X) (cI Y) (cI M)) M.length i 0) 3)) 2))]⟩ from by (rw [a76];rfl)]
 exact Hd.goes_loopL (id:=2) (by kernel_rfl) (by kernel_rfl) (fun j:{j:Nat // j≤M.length∧True}=>⟨[(N3 M z),(2,(.ptr 0 0)),(5,(.sl 1 0 3 3)),(k8 i),(7,(.v (.int .i64 j.1)))],[],2,[(N5 X Y u ul),(1,(.cells (cI (tI (thB (R5 (Y0 X) (cI Y) (cI M)) M.length i j.1) 3)) 2))]⟩) (fun j:{j:Nat // j≤M.length∧True}=>M.length - j.1) (fun ix_ hs=>c6j u X ul Y z M hn8 hx3 hxr hy hx1 hy1 hm1 i hi1 hi2 hqsr20_1 ix_.1 ix_.2.1 ix_.2.2 v eb ec hs) ⟨0,Nat.zero_le _,trivial⟩ hs
theorem c3s(u:Value)(X:List (Value×List Int))(ul:Value)(Y:List Int)(z:Value)(M:List Int)(hn8:M.length≤8)(hx3:X.length=3)(hxr:∀ i,i<3→U5 (Y0 X) (i*1)=M.length)(hy:Y.length=M.length)(hx1:∀ i,i<3→∀ b,b<M.length→0≤Z9 (X7 (Y0 X) (i*1)) (b*1)∧Z9 (X7 (Y0 X) (i*1)) (b*1)≤100)(hy1:∀ b,b<M.length→0≤Z9 (cI Y) (b*1)∧Z9 (cI Y) (b*1)≤100)(hm1:∀ b,b<M.length→0≤Z9 (cI M) (b*1)∧Z9 (cI M) (b*1)≤1000)(i:Nat)(hi1:i≤3)(hi2:True)(hqsr20_1:(X8 i 3)=true)(v:BaseW)(eb:Nat→Option Nat)(ec:Nat→Nat)(hs:List Nat):Y4 Try.prog 45 b7a ((b2x M X Y i u ul z)) (BaseW.H (bw v 0 eb ec) hs) (Hd.AfterB Try.prog 45 1 a7t (bw v 0 eb ec) (Hd.StepC Try.prog 45 0 (fun i:{i:Nat // i≤3∧True}=>⟨[(N3 M z),(2,(.ptr 0 0)),(5,(.sl 1 0 3 3)),(6,(.v (.int .i64 i.1)))],[],2,[(N5 X Y u ul),(1,(.cells (cI (tI (s6 (R5 (Y0 X) (cI Y) (cI M)) M.length i.1) 3)) 2))]⟩) (fun i:{i:Nat // i≤3∧True}=>3 - i.1) a4B (bw v 0 eb ec) (R7 Try.prog Try.f31 45 ((.sl 0 0 3 3)) [(G6 M X Y)] (bw v 0 eb ec)) (⟨i,hi1,hi2⟩:{i:Nat // i≤3∧True}))):=by
 exact c6m u X ul Y z M hn8 hx3 hxr hy hx1 hy1 hm1 i hi1 hi2 hqsr20_1 v eb ec hs
theorem c5R(u:Value)(X:List (Value×List Int))(ul:Value)(Y:List Int)(z:Value)(M:List Int)(hn8:M.length≤8)(hx3:X.length=3)(hxr:∀ i,i<3→U5 (Y0 X) (i*1)=M.length)(hy:Y.length=M.length)(hx1:∀ i,i<3→∀ b,b<M.length→0≤Z9 (X7 (Y0 X) (i*1)) (b*1)∧Z9 (X7 (Y0 X) (i*1)) (b*1)≤100)(hy1:∀ b,b<M.length→0≤Z9 (cI Y) (b*1)∧Z9 (cI Y) (b*1)≤100)(hm1:∀ b,b<M.length→0≤Z9 (cI M) (b*1)∧Z9 (cI M) (b*1)≤1000)(i:Nat)(hi1:i≤3)(hi2:True)(hqsr20_1:(X8 i 3)=true)(v:BaseW)(eb:Nat→Option Nat)(ec:Nat→Nat)(hs:List Nat):Y4 Try.prog 45 b8x ((b20 M X Y i u ul z)) (BaseW.H (bw v 0 eb ec) hs) (Hd.AfterB Try.prog 45 1 a7t (bw v 0 eb ec) (Hd.StepC Try.prog 45 0 (fun i:{i:Nat // i≤3∧True}=>⟨[(N3 M z),(2,(.ptr 0 0)),(5,(.sl 1 0 3 3)),(6,(.v (.int .i64 i.1)))],[],2,[(N5 X Y u ul),(1,(.cells (cI (tI (s6 (R5 (Y0 X) (cI Y) (cI M)) M.length i.1) 3)) 2))]⟩) (fun i:{i:Nat // i≤3∧True}=>3 - i.1) a4B (bw v 0 eb ec) (R7 Try.prog Try.f31 45 ((.sl 0 0 3 3)) [(G6 M X Y)] (bw v 0 eb ec)) (⟨i,hi1,hi2⟩:{i:Nat // i≤3∧True}))):=by
 have hcl_Y:=Z3 Y
 have hcl_M:=Z3 M
 have ghqsr20_1:=Y1 hqsr20_1
 refine Hd.goes_seqA (by kernel_rfl) ?_
 exact Z8 V0 (Z7 Try.checked.mixed (Z5) 200 (T':=(b2x M X Y i u ul z)) (e:=.normal) (ps:=[]) [.go] (by kernel_rfl) (by kernel_rfl) trivial rfl) (Hd.en_n (c3s u X ul Y z M hn8 hx3 hxr hy hx1 hy1 hm1 i hi1 hi2 hqsr20_1 v eb ec hs))
theorem c2B(u:Value)(X:List (Value×List Int))(ul:Value)(Y:List Int)(z:Value)(M:List Int)(hn8:M.length≤8)(hx3:X.length=3)(hxr:∀ i,i<3→U5 (Y0 X) (i*1)=M.length)(hy:Y.length=M.length)(hx1:∀ i,i<3→∀ b,b<M.length→0≤Z9 (X7 (Y0 X) (i*1)) (b*1)∧Z9 (X7 (Y0 X) (i*1)) (b*1)≤100)(hy1:∀ b,b<M.length→0≤Z9 (cI Y) (b*1)∧Z9 (cI Y) (b*1)≤100)(hm1:∀ b,b<M.length→0≤Z9 (cI M) (b*1)∧Z9 (cI M) (b*1)≤1000)(i:Nat)(hi1:i≤3)(hi2:True)(hqsr20_1:(X8 i 3)=true)(v:BaseW)(eb:Nat→Option Nat)(ec:Nat→Nat)(hs:List Nat):Y4 Try.prog 45 (m9 b24) ((b20 M X Y i u ul z)) (BaseW.H (bw v 0 eb ec) hs) (Hd.AfterN Try.prog 45 a7t (bw v 0 eb ec) (Hd.StepC Try.prog 45 0 (fun i:{i:Nat // i≤3∧True}=>⟨[(N3 M z),(2,(.ptr 0 0)),(5,(.sl 1 0 3 3)),(6,(.v (.int .i64 i.1)))],[],2,[(N5 X Y u ul),(1,(.cells (cI (tI (s6 (R5 (Y0 X) (cI Y) (cI M)) M.length i.1) 3)) 2))]⟩) (fun i:{i:Nat // i≤3∧True}=>3 - i.1) a4B (bw v 0 eb ec) (R7 Try.prog Try.f31 45 ((.sl 0 0 3 3)) [(G6 M X Y)] (bw v 0 eb ec)) (⟨i,hi1,hi2⟩:{i:Nat // i≤3∧True}))):=by
 exact Hd.goes_blkA (id:=1) (by kernel_rfl) (by kernel_rfl) (c5R u X ul Y z M hn8 hx3 hxr hy hx1 hy1 hm1 i hi1 hi2 hqsr20_1 v eb ec hs)
theorem c3r(u:Value)(X:List (Value×List Int))(ul:Value)(Y:List Int)(z:Value)(M:List Int)(hn8:M.length≤8)(hx3:X.length=3)(hxr:∀ i,i<3→U5 (Y0 X) (i*1)=M.length)(hy:Y.length=M.length)(hx1:∀ i,i<3→∀ b,b<M.length→0≤Z9 (X7 (Y0 X) (i*1)) (b*1)∧Z9 (X7 (Y0 X) (i*1)) (b*1)≤100)(hy1:∀ b,b<M.length→0≤Z9 (cI Y) (b*1)∧Z9 (cI Y) (b*1)≤100)(hm1:∀ b,b<M.length→0≤Z9 (cI M) (b*1)∧Z9 (cI M) (b*1)≤1000)(i:Nat)(hi1:i≤3)(hi2:True)(hqsr20_1:(X8 i 3)=true)(v:BaseW)(eb:Nat→Option Nat)(ec:Nat→Nat)(hs:List Nat):Y4 Try.prog 45 b24 ((b20 M X Y i u ul z)) (BaseW.H (bw v 0 eb ec) hs) (Hd.StepC Try.prog 45 0 (fun i:{i:Nat // i≤3∧True}=>⟨[(N3 M z),(2,(.ptr 0 0)),(5,(.sl 1 0 3 3)),(6,(.v (.int .i64 i.1)))],[],2,[(N5 X Y u ul),(1,(.cells (cI (tI (s6 (R5 (Y0 X) (cI Y) (cI M)) M.length i.1) 3)) 2))]⟩) (fun i:{i:Nat // i≤3∧True}=>3 - i.1) a4B (bw v 0 eb ec) (R7 Try.prog Try.f31 45 ((.sl 0 0 3 3)) [(G6 M X Y)] (bw v 0 eb ec)) (⟨i,hi1,hi2⟩:{i:Nat // i≤3∧True})):=by
 exact Hd.goes_seqA (by kernel_rfl) (c2B u X ul Y z M hn8 hx3 hxr hy hx1 hy1 hm1 i hi1 hi2 hqsr20_1 v eb ec hs)
theorem c5n(u:Value)(X:List (Value×List Int))(ul:Value)(Y:List Int)(z:Value)(M:List Int)(hn8:M.length≤8)(hx3:X.length=3)(hxr:∀ i,i<3→U5 (Y0 X) (i*1)=M.length)(hy:Y.length=M.length)(hx1:∀ i,i<3→∀ b,b<M.length→0≤Z9 (X7 (Y0 X) (i*1)) (b*1)∧Z9 (X7 (Y0 X) (i*1)) (b*1)≤100)(hy1:∀ b,b<M.length→0≤Z9 (cI Y) (b*1)∧Z9 (cI Y) (b*1)≤100)(hm1:∀ b,b<M.length→0≤Z9 (cI M) (b*1)∧Z9 (cI M) (b*1)≤1000)(h0b:True)(hqsr20_1:(X8 3 3)=false)(v:BaseW)(eb:Nat→Option Nat)(ec:Nat→Nat)(hs:List Nat):Y4 Try.prog 45 a4B ((b98 M X Y)) (BaseW.H (bw v 0 eb ec) hs) (R7 Try.prog Try.f31 45 ((.sl 0 0 3 3)) [(G6 M X Y)] (bw v 0 eb ec)):=by
 have hcl_Y:=Z3 Y
 have hcl_M:=Z3 M
 have ghqsr20_1:=Z6 hqsr20_1
 exact Z8 W1 (L6 Try.checked.mixed (Z5) 200 (T':=⟨[(4,(.sl 0 0 3 3))],[],1,[(0,(G6 M X Y))]⟩) (e:=.ret) (m:=2) (ps:=[]) [.go,.go] [1] [(.sl 1 0 3 3)] [(G6 M X Y)] (by kernel_rfl) (by kernel_rfl) trivial rfl rfl (by decide) rfl ⟨b5y rfl,trivial⟩ ⟨⟨by show 0<1;decide,U8 (U6 (Z2 _))⟩,trivial⟩) (E3 (r:=(.sl 0 0 3 3)) (ys:=[(G6 M X Y)]) (by rfl) (by rfl) (J4 (by kernel_rfl) (by kernel_rfl) rfl (.inr rfl)))
theorem c2p(u:Value)(X:List (Value×List Int))(ul:Value)(Y:List Int)(z:Value)(M:List Int)(hn8:M.length≤8)(hx3:X.length=3)(hxr:∀ i,i<3→U5 (Y0 X) (i*1)=M.length)(hy:Y.length=M.length)(hx1:∀ i,i<3→∀ b,b<M.length→0≤Z9 (X7 (Y0 X) (i*1)) (b*1)∧Z9 (X7 (Y0 X) (i*1)) (b*1)≤100)(hy1:∀ b,b<M.length→0≤Z9 (cI Y) (b*1)∧Z9 (cI Y) (b*1)≤100)(hm1:∀ b,b<M.length→0≤Z9 (cI M) (b*1)∧Z9 (cI M) (b*1)≤1000)(i:Nat)(hi1:i≤3)(hi2:True)(v:BaseW)(eb:Nat→Option Nat)(ec:Nat→Nat)(hs:List Nat):Y4 Try.prog 45 b92 (⟨[(N3 M z),(2,(.ptr 0 0)),(5,(.sl 1 0 3 3)),(6,(.v (.int .i64 i)))],[],2,[(N5 X Y u ul),(b1t M X Y i)]⟩) (BaseW.H (bw v 0 eb ec) hs) (Hd.StepC Try.prog 45 0 (fun i:{i:Nat // i≤3∧True}=>⟨[(N3 M z),(2,(.ptr 0 0)),(5,(.sl 1 0 3 3)),(6,(.v (.int .i64 i.1)))],[],2,[(N5 X Y u ul),(1,(.cells (cI (tI (s6 (R5 (Y0 X) (cI Y) (cI M)) M.length i.1) 3)) 2))]⟩) (fun i:{i:Nat // i≤3∧True}=>3 - i.1) a4B (bw v 0 eb ec) (R7 Try.prog Try.f31 45 ((.sl 0 0 3 3)) [(G6 M X Y)] (bw v 0 eb ec)) (⟨i,hi1,hi2⟩:{i:Nat // i≤3∧True})):=by
 have hcl_Y:=Z3 Y
 have hcl_M:=Z3 M
 refine Hd.goes_seqA (by kernel_rfl) ?_
 rcases Bool.eq_false_or_eq_true (X8 i 3) with hqsr20_1|hqsr20_1
 ·have ghqsr20_1:=Y1 hqsr20_1
  exact Z8 V0 (Z7 Try.checked.mixed (Z5) 200 (T':=(b20 M X Y i u ul z)) (e:=.normal) (ps:=[X8 i 3=true]) [.go,.go,.b true] (by kernel_rfl) (by kernel_rfl) ⟨hqsr20_1,trivial⟩ rfl) (Hd.en_n (c3r u X ul Y z M hn8 hx3 hxr hy hx1 hy1 hm1 i hi1 hi2 hqsr20_1 v eb ec hs))
 ·have ghqsr20_1:=Z6 hqsr20_1
  obtain rfl:3=i:=by omega
  exact Z8 E7 (Z7 Try.checked.mixed (Z5) 200 (T':=(b98 M X Y)) (e:=.exit 0) (ps:=[X8 3 3=false]) [.go,.go,.b false] (by kernel_rfl) (by kernel_rfl) ⟨hqsr20_1,trivial⟩ rfl) (Hd.en_o (by intro h;cases h) (Hd.en_sx (c5n u X ul Y z M hn8 hx3 hxr hy hx1 hy1 hm1 hi2  hqsr20_1 v eb ec hs)))
theorem c44(u:Value)(X:List (Value×List Int))(ul:Value)(Y:List Int)(z:Value)(M:List Int)(hn8:M.length≤8)(hx3:X.length=3)(hxr:∀ i,i<3→U5 (Y0 X) (i*1)=M.length)(hy:Y.length=M.length)(hx1:∀ i,i<3→∀ b,b<M.length→0≤Z9 (X7 (Y0 X) (i*1)) (b*1)∧Z9 (X7 (Y0 X) (i*1)) (b*1)≤100)(hy1:∀ b,b<M.length→0≤Z9 (cI Y) (b*1)∧Z9 (cI Y) (b*1)≤100)(hm1:∀ b,b<M.length→0≤Z9 (cI M) (b*1)∧Z9 (cI M) (b*1)≤1000)(v:BaseW)(eb:Nat→Option Nat)(ec:Nat→Nat)(hs:List Nat):Y4 Try.prog 45 b4H ((b2r M X Y u ul z)) (BaseW.H (bw v 0 eb ec) hs) (Hd.AfterN Try.prog 45 a4B (bw v 0 eb ec) (R7 Try.prog Try.f31 45 ((.sl 0 0 3 3)) [(G6 M X Y)] (bw v 0 eb ec))):=by
 have hcl_Y:=Z3 Y
 have hcl_M:=Z3 M
 rw [show ((b2r M X Y u ul z):Ev.Lit)=⟨[(N3 M z),(2,(.ptr 0 0)),(5,(.sl 1 0 3 3)),(6,(.v (.int .i64 0)))],[],2,[(N5 X Y u ul),(1,(.cells (cI (tI (s6 (R5 (Y0 X) (cI Y) (cI M)) M.length 0) 3)) 2))]⟩ from by (rw [a9a];rfl)]
 exact Hd.goes_loopA (id:=0) (by kernel_rfl) (by kernel_rfl) (fun i:{i:Nat // i≤3∧True}=>⟨[(N3 M z),(2,(.ptr 0 0)),(5,(.sl 1 0 3 3)),(6,(.v (.int .i64 i.1)))],[],2,[(N5 X Y u ul),(1,(.cells (cI (tI (s6 (R5 (Y0 X) (cI Y) (cI M)) M.length i.1) 3)) 2))]⟩) (fun i:{i:Nat // i≤3∧True}=>3 - i.1) (fun ix_ hs=>c2p u X ul Y z M hn8 hx3 hxr hy hx1 hy1 hm1 ix_.1 ix_.2.1 ix_.2.2 v eb ec hs) ⟨0,Nat.zero_le _,trivial⟩ hs
theorem c56(u:Value)(X:List (Value×List Int))(ul:Value)(Y:List Int)(z:Value)(M:List Int)(hn8:M.length≤8)(hx3:X.length=3)(hxr:∀ i,i<3→U5 (Y0 X) (i*1)=M.length)(hy:Y.length=M.length)(hx1:∀ i,i<3→∀ b,b<M.length→0≤Z9 (X7 (Y0 X) (i*1)) (b*1)∧Z9 (X7 (Y0 X) (i*1)) (b*1)≤100)(hy1:∀ b,b<M.length→0≤Z9 (cI Y) (b*1)∧Z9 (cI Y) (b*1)≤100)(hm1:∀ b,b<M.length→0≤Z9 (cI M) (b*1)∧Z9 (cI M) (b*1)≤1000)(v:BaseW)(eb:Nat→Option Nat)(ec:Nat→Nat)(hs:List Nat):Y4 Try.prog 45 b4H ((b2r M X Y u ul z)) (BaseW.H (bw v 0 eb ec) hs) (Hd.AfterN Try.prog 45 a4B (bw v 0 eb ec) (R7 Try.prog Try.f31 45 ((.sl 0 0 3 3)) [(G6 M X Y)] (bw v 0 eb ec))):=by
 exact c44 u X ul Y z M hn8 hx3 hxr hy hx1 hy1 hm1 v eb ec hs
theorem c67(u:Value)(X:List (Value×List Int))(ul:Value)(Y:List Int)(z:Value)(M:List Int)(hn8:M.length≤8)(hx3:X.length=3)(hxr:∀ i,i<3→U5 (Y0 X) (i*1)=M.length)(hy:Y.length=M.length)(hx1:∀ i,i<3→∀ b,b<M.length→0≤Z9 (X7 (Y0 X) (i*1)) (b*1)∧Z9 (X7 (Y0 X) (i*1)) (b*1)≤100)(hy1:∀ b,b<M.length→0≤Z9 (cI Y) (b*1)∧Z9 (cI Y) (b*1)≤100)(hm1:∀ b,b<M.length→0≤Z9 (cI M) (b*1)∧Z9 (cI M) (b*1)≤1000)(v:BaseW)(eb:Nat→Option Nat)(ec:Nat→Nat)(hs:List Nat):Y4 Try.prog 45 b8z ((b5s M X Y u ul z)) (BaseW.H (bw v 0 eb ec) hs) (Hd.AfterN Try.prog 45 a4B (bw v 0 eb ec) (R7 Try.prog Try.f31 45 ((.sl 0 0 3 3)) [(G6 M X Y)] (bw v 0 eb ec))):=by
 have hcl_Y:=Z3 Y
 have hcl_M:=Z3 M
 refine Hd.goes_seqA (by kernel_rfl) ?_
 exact Z8 V0 (Z7 Try.checked.mixed (Z5) 200 (T':=(b2r M X Y u ul z)) (e:=.normal) (ps:=[]) [.go] (by kernel_rfl) (by kernel_rfl) trivial rfl) (Hd.en_n (c56 u X ul Y z M hn8 hx3 hxr hy hx1 hy1 hm1 v eb ec hs))
theorem c6N(u:Value)(X:List (Value×List Int))(ul:Value)(Y:List Int)(z:Value)(M:List Int)(hn8:M.length≤8)(hx3:X.length=3)(hxr:∀ i,i<3→U5 (Y0 X) (i*1)=M.length)(hy:Y.length=M.length)(hx1:∀ i,i<3→∀ b,b<M.length→0≤Z9 (X7 (Y0 X) (i*1)) (b*1)∧Z9 (X7 (Y0 X) (i*1)) (b*1)≤100)(hy1:∀ b,b<M.length→0≤Z9 (cI Y) (b*1)∧Z9 (cI Y) (b*1)≤100)(hm1:∀ b,b<M.length→0≤Z9 (cI M) (b*1)∧Z9 (cI M) (b*1)≤1000)(v:BaseW)(eb:Nat→Option Nat)(ec:Nat→Nat)(hs:List Nat):Y4 Try.prog 45 c1h ((b5s M X Y u ul z)) (BaseW.H (bw v 0 eb ec) hs) (R7 Try.prog Try.f31 45 ((.sl 0 0 3 3)) [(G6 M X Y)] (bw v 0 eb ec)):=by
 exact Hd.goes_seqA (by kernel_rfl) (c67 u X ul Y z M hn8 hx3 hxr hy hx1 hy1 hm1 v eb ec hs)
theorem c6J(u:Value)(X:List (Value×List Int))(ul:Value)(Y:List Int)(z:Value)(M:List Int)(hn8:M.length≤8)(hx3:X.length=3)(hxr:∀ i,i<3→U5 (Y0 X) (i*1)=M.length)(hy:Y.length=M.length)(hx1:∀ i,i<3→∀ b,b<M.length→0≤Z9 (X7 (Y0 X) (i*1)) (b*1)∧Z9 (X7 (Y0 X) (i*1)) (b*1)≤100)(hy1:∀ b,b<M.length→0≤Z9 (cI Y) (b*1)∧Z9 (cI Y) (b*1)≤100)(hm1:∀ b,b<M.length→0≤Z9 (cI M) (b*1)∧Z9 (cI M) (b*1)≤1000)(v:BaseW)(eb:Nat→Option Nat)(ec:Nat→Nat)(hs:List Nat):Y4 Try.prog 45 c68 ((b8u M X Y u ul z)) (BaseW.H (bw v 0 eb ec) hs) (R7 Try.prog Try.f31 45 ((.sl 0 0 3 3)) [(G6 M X Y)] (bw v 0 eb ec)):=by
 have hcl_Y:=Z3 Y
 have hcl_M:=Z3 M
 refine Hd.goes_seqA (by kernel_rfl) ?_
 exact Z8 V0 (Z7 Try.checked.mixed (Z5) 200 (T':=(b5s M X Y u ul z)) (e:=.normal) (ps:=[]) [.go,.go] (by kernel_rfl) (by kernel_rfl) trivial rfl) (Hd.en_n (c6N u X ul Y z M hn8 hx3 hxr hy hx1 hy1 hm1 v eb ec hs))
theorem c7M(u:Value)(X:List (Value×List Int))(ul:Value)(Y:List Int)(z:Value)(M:List Int)(hn8:M.length≤8)(hx3:X.length=3)(hxr:∀ i,i<3→U5 (Y0 X) (i*1)=M.length)(hy:Y.length=M.length)(hx1:∀ i,i<3→∀ b,b<M.length→0≤Z9 (X7 (Y0 X) (i*1)) (b*1)∧Z9 (X7 (Y0 X) (i*1)) (b*1)≤100)(hy1:∀ b,b<M.length→0≤Z9 (cI Y) (b*1)∧Z9 (cI Y) (b*1)≤100)(hm1:∀ b,b<M.length→0≤Z9 (cI M) (b*1)∧Z9 (cI M) (b*1)≤1000)(v:BaseW)(eb:Nat→Option Nat)(ec:Nat→Nat)(hs:List Nat):Y4 Try.prog 45 c5t (⟨[(0,(.agg [.xl u X.length 1 (Y0 X),.xl ul Y.length 1 (cI Y)])),(1,(.xl z M.length 1 (cI M)))],[],0,[]⟩) (BaseW.H (bw v 0 eb ec) hs) (R7 Try.prog Try.f31 45 ((.sl 0 0 3 3)) [(G6 M X Y)] (bw v 0 eb ec)):=by
 have hcl_Y:=Z3 Y
 have hcl_M:=Z3 M
 refine Hd.goes_seqA (by kernel_rfl) ?_
 exact Z8 V0 (Z7 Try.checked.mixed (Z5) 200 (T':=(b8u M X Y u ul z)) (e:=.normal) (ps:=[]) [.go,.go] (by kernel_rfl) (by kernel_rfl) trivial rfl) (Hd.en_n (c6J u X ul Y z M hn8 hx3 hxr hy hx1 hy1 hm1 v eb ec hs))
theorem c72(u:Value)(X:List (Value×List Int))(ul:Value)(Y:List Int)(z:Value)(M:List Int)(hn8:M.length≤8)(hx3:X.length=3)(hxr:∀ i,i<3→U5 (Y0 X) (i*1)=M.length)(hy:Y.length=M.length)(hx1:∀ i,i<3→∀ b,b<M.length→0≤Z9 (X7 (Y0 X) (i*1)) (b*1)∧Z9 (X7 (Y0 X) (i*1)) (b*1)≤100)(hy1:∀ b,b<M.length→0≤Z9 (cI Y) (b*1)∧Z9 (cI Y) (b*1)≤100)(hm1:∀ b,b<M.length→0≤Z9 (cI M) (b*1)∧Z9 (cI M) (b*1)≤1000):G7 Try.prog 31 [(.agg [.xl u X.length 1 (Y0 X),.xl ul Y.length 1 (cI Y)]),(.xl z M.length 1 (cI M))] [] ((.sl 0 0 3 3)) [(.cells (cI (tI (s6 (R5 (Y0 X) (cI Y) (cI M)) M.length 3) 3)) 2)] :=
 R0 45 (by kernel_rfl) Try.func31 (by kernel_rfl) (by kernel_rfl) (by kernel_rfl) (fun v eb ec=>W2 (by kernel_rfl) (by kernel_rfl) (by kernel_rfl) (by kernel_rfl) (c7M u X ul Y z M hn8 hx3 hxr hy hx1 hy1 hm1 v eb ec []))
end
end Go.Proofs.Ytegmogadbnfbgaa
set_option linter.all false
/- A chip, looked at. -/
namespace Go.Proofs.Ytegmogadbnfbgaa
open Go Ev
noncomputable section
end
end Go.Proofs.Ytegmogadbnfbgaa
set_option linter.all false
/- What is known of See and lookAt. -/
namespace Go.Proofs.Ytegmogadbnfbgaa
open Go Ev
noncomputable section
end
end Go.Proofs.Ytegmogadbnfbgaa
set_option linter.all false
/- Mathematics of ends. -/
namespace Go.Proofs.Ytegmogadbnfbgaa
open Go Ev
noncomputable section
theorem b4E(f:Nat→Int)(n:Nat):cI (tI f n)++[.v (.int .i64 (f n))]=cI (tI f (n+1)):=by
 rw [a1u,a1u]
 show cI (a5X f n)++cI [f n]=_
 rw [c12];rfl
def W8(c d:List AV)(g:Bool)(b:Nat):Int:=if (g == X8 0 (Z9 d (b*1)))=true then Z9 c (b*2+1) else Z9 c (b*2+0)
theorem a34{c d:List AV}{g:Bool}{b:Nat}(h:(g == X8 0 (Z9 d (b*1)))=true):W8 c d g b=Z9 c (b*2+1):=if_pos h
theorem a6j{c d:List AV}{g:Bool}{b:Nat}(h:¬ (g == X8 0 (Z9 d (b*1)))=true):W8 c d g b=Z9 c (b*2+0):=if_neg h
theorem a8G{c d:List AV}{g:Bool}{b:Nat}{v:Int}(h:W8 c d g b=v):cI (tI (W8 c d g) b)++[.v (.int .i64 v)]=cI (tI (W8 c d g) (b+1)):=by rw [← h];exact b4E _ _
theorem b5B{c d:List AV}{g:Bool}{b:Nat}{v:Int}(hb:b=0)(h:W8 c d g b=v):[AV.v (.int .i64 v)]=cI (tI (W8 c d g) (b+1)):=by
 subst hb
 rw [← h,a1u];rfl
end
end Go.Proofs.Ytegmogadbnfbgaa
set_option linter.all false
/- What is known of ends. -/
namespace Go.Proofs.Ytegmogadbnfbgaa
open Go Ev
noncomputable section
end
end Go.Proofs.Ytegmogadbnfbgaa
set_option linter.all false
/- What is known of extreme, and of numbers by an own truth. -/
namespace Go.Proofs.Ytegmogadbnfbgaa
open Go Ev
noncomputable section
def J5(c0 c1 c2 cY cM:List AV)(i b:Nat):Int:=(match i with|0=>Z9 c0 (b*1)|1=>Z9 c1 (b*1)|_=>Z9 c2 (b*1))*Z9 cY (b*1)*Z9 cM (b*1)
theorem a6Z{v0 v1 v2:Value}{X0 X1 X2:List Int}{cY cM:List AV}{i n:Nat}(hi:i<3):T6 (R5 (Y0 [(v0,X0),(v1,X1),(v2,X2)]) cY cM i) n=T6 (J5 (cI X0) (cI X1) (cI X2) cY cM i) n:=by
 match i,hi with
 |0,_=>rfl
 |1,_=>rfl
 |2,_=>rfl
def b3Y(c0 c1 c2 cY cM:List AV)(n:Nat):Prop:=(∀ b,b<n→0≤Z9 c0 (b*1)∧Z9 c0 (b*1)≤100)∧(∀ b,b<n→0≤Z9 c1 (b*1)∧Z9 c1 (b*1)≤100)∧(∀ b,b<n→0≤Z9 c2 (b*1)∧Z9 c2 (b*1)≤100)∧(∀ b,b<n→0≤Z9 cY (b*1)∧Z9 cY (b*1)≤100)∧(∀ b,b<n→0≤Z9 cM (b*1)∧Z9 cM (b*1)≤1000)
def J7(k n:Nat)(c:List AV):Prop:=k=1∧∃ X,c=cI X∧n=X.length
def E9(m:Nat):Prop:=m=3
theorem Z0{f:Nat→Int}{n:Nat}:List.take (n*(0+1)) (List.drop 0 (cI (tI f n)))=cI (tI f n):=by
 rw [List.drop_zero,List.take_of_length_le (by rw [Z3,Y9];omega)]
theorem a8S{c d:List AV}{g:Bool}{b:Nat}(h:Y2 100 c b):0≤W8 c d g b∧W8 c d g b≤100:=by
 unfold Y2 at h
 unfold W8
 split<;>omega
def R4(c0 c1 c2 cL cM:List AV)(n:Nat)(g:Bool)(k:Nat):Int:=T6 (J5 (cI (tI (W8 c0 cM g) n)) (cI (tI (W8 c1 cM g) n)) (cI (tI (W8 c2 cM g) n)) (cI (tI (W8 cL cM g) n)) cM k) n
end
end Go.Proofs.Ytegmogadbnfbgaa
set_option maxHeartbeats 4000000
set_option linter.all false
/- Mathematics of the spans of the reference. -/
namespace Go.Proofs.Ytegmogadbnfbgaa
open Go Ev
noncomputable section
section
variable (E : List (Value × List (Int × Int))) (L : List (Int × Int)) (M : List Int) (i j : Nat) (y yl z : Value)
@[reducible] def Q5:Nat×Ev.AV:=(1,(.xl (z) (M.length) 1 (cI M)))
@[reducible] def w5:Nat×Ev.AV:=(6,(.v (.int .i64 i)))
@[reducible] def a87:Nat×Ev.AV:=(7,(.v (.int .i64 (((j+1):Nat):Int))))
@[reducible] def Q4:Nat×Ev.AB:=(0,(.cells [(.xl (y) (E.length) 1 (Z1 E)),(.xl (yl) (L.length) 2 (cR L))] 25))
@[reducible] def b5Y:Nat×Ev.AB:=(1,(.cells [(.v (.int .i64 (.ofNat 0))),(.v (.int .i64 (.ofNat 0))),(.v (.int .i64 (.ofNat 0))),(.v (.int .i64 (.ofNat 0))),(.v (.int .i64 (.ofNat 0))),(.v (.int .i64 (.ofNat 0)))] 65))
@[reducible] def a8f:Ev.Lit:=⟨[(Q5 M z),(2,(.ptr 0 0)),(5,(.sl 1 0 3 3)),(6,(.v (.int .i64 (.ofNat 0))))],[],2,[(Q4 E L y yl),b5Y]⟩
@[reducible] def b1f:Ev.Lit:=⟨[(Q5 M z),(2,(.ptr 0 0)),(5,(.sl 1 0 3 3))],[],2,[(Q4 E L y yl),b5Y]⟩
@[reducible] def a8F:Nat×Ev.AV:=(6,(.v (.int .i64 (((i+1):Nat):Int))))
@[reducible] def b5M:Ev.Lit:=⟨[(Q5 M z),(2,(.ptr 0 0))],[],1,[(Q4 E L y yl)]⟩
end
def pxP(cE cL cM:List AV)(i b:Nat):Int:=Z9 (X7 cE (i*1)) (b*2+0)*Z9 cL (b*2+0)*Z9 cM (b*1)
def pyP(cE cL cM:List AV)(i b:Nat):Int:=Z9 (X7 cE (i*1)) (b*2+1)*Z9 cL (b*2+1)*Z9 cM (b*1)
def a9(cE cL cM:List AV)(i b:Nat):Int:=if pyP cE cL cM i b<pxP cE cL cM i b then pyP cE cL cM i b else pxP cE cL cM i b
def hiP(cE cL cM:List AV)(i b:Nat):Int:=if pyP cE cL cM i b > pxP cE cL cM i b then pyP cE cL cM i b else pxP cE cL cM i b
def s6A(p q:Nat→Nat→Int)(n i:Nat):Nat→Int:=fun k=>if k / 2<i then T6 (if k % 2=0 then p (k / 2) else q (k / 2)) n else 0
section
variable (E : List (Value × List (Int × Int))) (L : List (Int × Int)) (M : List Int) (i : Nat) (y yl z : Value)
@[reducible] def a7Q:Nat×Ev.AB:=(1,(.cells (cI (tI (s6A (a9 (Z1 E) (cR L) (cI M)) (hiP (Z1 E) (cR L) (cI M)) L.length i) 6)) 65))
@[reducible] def a8k:Ev.Lit:=⟨[(Q5 M z),(2,(.ptr 0 0)),(5,(.sl 1 0 3 3)),(w5 i),(7,(.v (.int .i64 (.ofNat 0))))],[],2,[(Q4 E L y yl),(a7Q E L M i)]⟩
@[reducible] def a89:Ev.Lit:=⟨[(Q5 M z),(2,(.ptr 0 0)),(5,(.sl 1 0 3 3)),(w5 i)],[],2,[(Q4 E L y yl),(a7Q E L M i)]⟩
@[reducible] def b2P:Ev.Lit:=⟨[(5,(.sl 1 0 3 3))],[],2,[(1,(.cells (cI (tI (s6A (a9 (Z1 E) (cR L) (cI M)) (hiP (Z1 E) (cR L) (cI M)) L.length (3)) 6)) 65))]⟩
@[reducible] def M1:Ev.AB:=(.cells (cI (tI (s6A (a9 (Z1 E) (cR L) (cI M)) (hiP (Z1 E) (cR L) (cI M)) L.length 3) 6)) 65)
end
def s6B(p q:Nat→Nat→Int)(n i j:Nat):Nat→Int:=fun k=>if k / 2<i then T6 (if k % 2=0 then p (k / 2) else q (k / 2)) n else if k / 2=i then T6 (if k % 2=0 then p i else q i) j else 0
section
variable (E : List (Value × List (Int × Int))) (L : List (Int × Int)) (M : List Int) (i j : Nat) (y yl z : Value)
@[reducible] def P5:=(cI (tI (s6B (a9 (Z1 E) (cR L) (cI M)) (hiP (Z1 E) (cR L) (cI M)) L.length i j) 6))
@[reducible] def b4m:Ev.Lit:=⟨[(Q5 M z),(2,(.ptr 0 0)),(5,(.sl 1 0 3 3)),(w5 i),(a87 j)],[],2,[(Q4 E L y yl),(1,(.cells (V2 (V2 (P5 E L M i j) (0+i*2+0) [(.v (.int .i64 (Z9 (P5 E L M i j) (0+i*2+0)+if Z9 (X7 (Z1 E) (i*1)) (j*2+1)*Z9 (cR L) (j*2+1)*Z9 (cI M) (j*1)<Z9 (X7 (Z1 E) (i*1)) (j*2+0)*Z9 (cR L) (j*2+0)*Z9 (cI M) (j*1) then Z9 (X7 (Z1 E) (i*1)) (j*2+1)*Z9 (cR L) (j*2+1)*Z9 (cI M) (j*1) else Z9 (X7 (Z1 E) (i*1)) (j*2+0)*Z9 (cR L) (j*2+0)*Z9 (cI M) (j*1))))]) (0+i*2+1) [(.v (.int .i64 (Z9 (V2 (P5 E L M i j) (0+i*2+0) (AV.v (Value.int IntKind.i64 (Z9 (P5 E L M i j) (0+i*2+0)+if Z9 (X7 (Z1 E) (i*1)) (j*2+1)*Z9 (cR L) (j*2+1)*Z9 (cI M) (j*1)<Z9 (X7 (Z1 E) (i*1)) (j*2+0)*Z9 (cR L) (j*2+0)*Z9 (cI M) (j*1) then Z9 (X7 (Z1 E) (i*1)) (j*2+1)*Z9 (cR L) (j*2+1)*Z9 (cI M) (j*1) else Z9 (X7 (Z1 E) (i*1)) (j*2+0)*Z9 (cR L) (j*2+0)*Z9 (cI M) (j*1)))).cells) (0+i*2+1)+if Z9 (X7 (Z1 E) (i*1)) (j*2+1)*Z9 (cR L) (j*2+1)*Z9 (cI M) (j*1) > Z9 (X7 (Z1 E) (i*1)) (j*2+0)*Z9 (cR L) (j*2+0)*Z9 (cI M) (j*1) then Z9 (X7 (Z1 E) (i*1)) (j*2+1)*Z9 (cR L) (j*2+1)*Z9 (cI M) (j*1) else Z9 (X7 (Z1 E) (i*1)) (j*2+0)*Z9 (cR L) (j*2+0)*Z9 (cI M) (j*1))))]) 65))]⟩
@[reducible] def b4l:Ev.Lit:=⟨[(Q5 M z),(2,(.ptr 0 0)),(5,(.sl 1 0 3 3)),(a8F i)],[],2,[(Q4 E L y yl),(1,(.cells (cI (tI (s6B (a9 (Z1 E) (cR L) (cI M)) (hiP (Z1 E) (cR L) (cI M)) L.length i L.length) 6)) 65))]⟩
@[reducible] def b6r:Ev.Lit:=⟨[(Q5 M z),(2,(.ptr 0 0)),(5,(.sl 1 0 3 3)),(w5 i)],[],2,[(Q4 E L y yl),(1,(.cells (cI (tI (s6B (a9 (Z1 E) (cR L) (cI M)) (hiP (Z1 E) (cR L) (cI M)) L.length i (L.length)) 6)) 65))]⟩
end
theorem b41{p q:Nat→Nat→Int}{n i:Nat}:tI (s6B p q n i 0) 6=tI (s6A p q n i) 6:=a3T (fun k hk=>by
 unfold s6A s6B
 split
 ·rfl
 ·split
  ·split<;>rfl
  ·rfl)
theorem c0g{p q:Nat→Nat→Int}{n i:Nat}:tI (s6B p q n i n) 6=tI (s6A p q n (i+1)) 6:=a3T (fun k hk=>by
 unfold s6A s6B
 by_cases h:k / 2<i
 ·rw [if_pos h,if_pos (show k / 2<i+1 by omega)]
 ·rw [if_neg h]
  by_cases e:k / 2=i
  ·rw [if_pos e,if_pos (show k / 2<i+1 by omega),e]
  ·rw [if_neg e,if_neg (show ¬ k / 2<i+1 by omega)])
theorem b8E{p q:Nat→Nat→Int}{n i j:Nat}(hi:i<3):Z9 (cI (tI (s6B p q n i j) 6)) (0+i*2+0)=T6 (p i) j:=by
 rw [u6 (by omega)]
 unfold s6B
 rw [if_neg (by omega),if_pos (by omega),if_pos (by omega)]
theorem c81{p q:Nat→Nat→Int}{n i j:Nat}(hi:i<3):Z9 (cI (tI (s6B p q n i j) 6)) (0+i*2+1)=T6 (q i) j:=by
 rw [u6 (by omega)]
 unfold s6B
 rw [if_neg (by omega),if_pos (by omega),if_neg (by omega)]
def s6C(p q:Nat→Nat→Int)(n i j:Nat):Nat→Int:=b1l (s6B p q n i j) (0+i*2+0) (T6 (p i) (j+1))
theorem c26{p q:Nat→Nat→Int}{n i j:Nat}(hi:i<3){v:Int}(hv:v=T6 (p i) j+p i j):V2 (cI (tI (s6B p q n i j) 6)) (0+i*2+0) [AV.v (.int .i64 v)]=cI (tI (s6C p q n i j) 6):=by
 rw [b1x (by omega),hv];rfl
theorem b6w{p q:Nat→Nat→Int}{n i j:Nat}(hi:i<3):Z9 (cI (tI (s6C p q n i j) 6)) (0+i*2+1)=T6 (q i) j:=by
 rw [u6 (by omega)]
 unfold s6C b1l
 rw [if_neg (by omega)]
 unfold s6B
 rw [if_neg (by omega),if_pos (by omega),if_neg (by omega)]
theorem c1K{p q:Nat→Nat→Int}{n i j:Nat}(hi:i<3){w:Int}(hw:w=T6 (q i) j+q i j):V2 (cI (tI (s6C p q n i j) 6)) (0+i*2+1) [AV.v (.int .i64 w)]=cI (tI (s6B p q n i (j+1)) 6):=by
 rw [b1x (by omega),hw]
 congr 1
 refine a3T (fun k hk=>?_)
 unfold s6C b1l s6B
 by_cases h1:k=0+i*2+1
 ·rw [if_pos h1,if_neg (by omega),if_pos (by omega),if_neg (by omega)];rfl
 ·rw [if_neg h1]
  by_cases h2:k=0+i*2+0
  ·rw [if_pos h2,if_neg (by omega),if_pos (by omega),if_pos (by omega)]
  ·rw [if_neg h2]
   by_cases h3:k / 2<i
   ·rw [if_pos h3,if_pos h3]
   ·rw [if_neg h3,if_neg h3,if_neg (by omega),if_neg (by omega)]
theorem b4j{p q:Nat→Nat→Int}{n:Nat}:cI (tI (s6A p q n 0) 6)=[.v (.int .i64 0),.v (.int .i64 0),.v (.int .i64 0),.v (.int .i64 0),.v (.int .i64 0),.v (.int .i64 0)]:=by rw [a1u];rfl
theorem b7f{p q:Nat→Nat→Int}{n:Nat}:cI (tI (s6A p q n 3) 6)=[.v (.int .i64 (T6 (p 0) n)),.v (.int .i64 (T6 (q 0) n)),.v (.int .i64 (T6 (p 1) n)),.v (.int .i64 (T6 (q 1) n)),.v (.int .i64 (T6 (p 2) n)),.v (.int .i64 (T6 (q 2) n))]:=by rw [a1u];rfl
theorem a86{p q:Nat→Nat→Int}{n i j:Nat}(hi:i<3):V2 (cI (tI (s6B p q n i j) 6)) (0+i*2+0) [AV.v (.int .i64 (Z9 (cI (tI (s6B p q n i j) 6)) (0+i*2+0)+p i j))]=cI (tI (s6C p q n i j) 6):=c26 hi (by rw [b8E hi])
theorem a9J{cE cL cM:List AV}{i b:Nat}(h0:Y2 100 (X7 cE (i*1)) b)(h1:Y2 100 cL b)(h2 : -1000≤Z9 cM (b*1)∧Z9 cM (b*1)≤1000):((0≤Z9 (X7 cE (i*1)) (b*2+0)*Z9 cL (b*2+0)∧Z9 (X7 cE (i*1)) (b*2+0)*Z9 cL (b*2+0)≤10000)∧(0≤Z9 (X7 cE (i*1)) (b*2+1)*Z9 cL (b*2+1)∧Z9 (X7 cE (i*1)) (b*2+1)*Z9 cL (b*2+1)≤10000))∧(-10000000≤pxP cE cL cM i b∧pxP cE cL cM i b≤10000000) ∧ -10000000≤pyP cE cL cM i b∧pyP cE cL cM i b≤10000000:=by
 unfold Y2 at h0 h1
 have a1:=B5 (x:=Z9 (X7 cE (i*1)) (b*2+0)) (y:=Z9 cL (b*2+0)) (z:=Z9 cM (b*1)) (by omega) (by omega) (by omega)
 have a2:=B5 (x:=Z9 (X7 cE (i*1)) (b*2+1)) (y:=Z9 cL (b*2+1)) (z:=Z9 cM (b*1)) (by omega) (by omega) (by omega)
 exact ⟨⟨a1.1,a2.1⟩,a1.2,a2.2⟩
theorem b2o{cE cL cM:List AV}{i b:Nat}(h0:Y2 100 (X7 cE (i*1)) b)(h1:Y2 100 cL b)(h2 : -1000≤Z9 cM (b*1)∧Z9 cM (b*1)≤1000):(-10000000≤a9 cE cL cM i b∧a9 cE cL cM i b≤10000000) ∧ -10000000≤hiP cE cL cM i b∧hiP cE cL cM i b≤10000000:=by
 have h:=a9J h0 h1 h2
 unfold a9 hiP
 constructor<;>split<;>omega
noncomputable def c3u:Code:=R8 Try.f59
noncomputable def c2v:Code:=N4 c3u
noncomputable def c06:Code:=N4 c2v
noncomputable def a4z:Code:=N4 c06
noncomputable def b8b:Code:=(m9 c06)
noncomputable def b4O:Code:=N4 b8b
noncomputable def b8X:Code:=L2 b4O
noncomputable def b29:Code:=N4 b8X
noncomputable def a6W:Code:=N4 b29
noncomputable def b8G:Code:=a6I (m9 b29)
noncomputable def b7d:Code:=N4 b8G
noncomputable def c5B:Code:=L2 b7d
theorem c4N(y:Value)(E:List (Value×List (Int×Int)))(yl:Value)(L:List (Int×Int))(z:Value)(M:List Int)(hn8:L.length≤8)(hE3:E.length=3)(hrow:∀ i,i<3→U5 (Z1 E) (i*1)=L.length)(hm:M.length=L.length)(hl:∀ b,b<L.length→Y2 100 (cR L) b)(hc:∀ i,i<3→∀ b,b<L.length→Y2 100 (X7 (Z1 E) (i*1)) b)(hm1:∀ b,b<L.length → -1000≤Z9 (cI M) (b*1)∧Z9 (cI M) (b*1)≤1000)(i:Nat)(hi1:i≤3)(hi2:True)(hqrs20_1:(X8 i 3)=true)(hqrs32_1:(X8 L.length M.length)=false)(v:BaseW)(eb:Nat→Option Nat)(ec:Nat→Nat)(hs:List Nat):Y4 Try.prog 86 a6W ((b6r E L M i y yl z)) (BaseW.H (bw v 0 eb ec) hs) (Hd.StepC Try.prog 86 0 (fun i:{i:Nat // i≤3∧True}=>⟨[(Q5 M z),(2,(.ptr 0 0)),(5,(.sl 1 0 3 3)),(6,(.v (.int .i64 i.1)))],[],2,[(Q4 E L y yl),(1,(.cells (cI (tI (s6A (a9 (Z1 E) (cR L) (cI M)) (hiP (Z1 E) (cR L) (cI M)) L.length i.1) 6)) 65))]⟩) (fun i:{i:Nat // i≤3∧True}=>3 - i.1) a4z (bw v 0 eb ec) (R7 Try.prog Try.f59 86 ((.sl 0 0 3 3)) [(M1 E L M)] (bw v 0 eb ec)) (⟨i,hi1,hi2⟩:{i:Nat // i≤3∧True})):=by
 have hcl_L:=Y6 L
 have hcl_M:=Z3 M
 have ghqrs20_1:=Y1 hqrs20_1
 have ghqrs32_1:=Z6 hqrs32_1
 exact Z8 V0 (Z7 Try.checked.mixed (Z5) 200 (T':=(b4l E L M i y yl z)) (e:=.normal) (ps:=[O8 IntKind.i64 (((i:Nat):Int)+1)]) [.go,.go,.go] (by kernel_rfl) (by kernel_rfl) ⟨(by show -9223372036854775808≤_∧_≤9223372036854775807;constructor<;>omega),trivial⟩ rfl) (Hd.en_on (⟨i+1,by omega,trivial⟩) (by show 3 - (i+1)<3 - i;omega) (show ((b4l E L M i y yl z):Ev.Lit)=⟨[(Q5 M z),(2,(.ptr 0 0)),(5,(.sl 1 0 3 3)),(a8F i)],[],2,[(Q4 E L y yl),(1,(.cells (cI (tI (s6A (a9 (Z1 E) (cR L) (cI M)) (hiP (Z1 E) (cR L) (cI M)) L.length (i+1)) 6)) 65))]⟩ from by have hz_:=congrArg (fun (xq0:Ev.AB)=>(⟨[(Q5 M z),(2,(.ptr 0 0)),(5,(.sl 1 0 3 3)),(a8F i)],[],2,[(Q4 E L y yl),(1,xq0)]⟩:Ev.Lit)) (congrArg (fun z=>Ev.AB.cells z 65) (show ((cI (tI (s6B (a9 (Z1 E) (cR L) (cI M)) (hiP (Z1 E) (cR L) (cI M)) L.length i L.length) 6)):List Ev.AV)=(cI (tI (s6A (a9 (Z1 E) (cR L) (cI M)) (hiP (Z1 E) (cR L) (cI M)) L.length (i+1)) 6)) from by rw [c0g]));exact hz_))
theorem c3j(y:Value)(E:List (Value×List (Int×Int)))(yl:Value)(L:List (Int×Int))(z:Value)(M:List Int)(hn8:L.length≤8)(hE3:E.length=3)(hrow:∀ i,i<3→U5 (Z1 E) (i*1)=L.length)(hm:M.length=L.length)(hl:∀ b,b<L.length→Y2 100 (cR L) b)(hc:∀ i,i<3→∀ b,b<L.length→Y2 100 (X7 (Z1 E) (i*1)) b)(hm1:∀ b,b<L.length → -1000≤Z9 (cI M) (b*1)∧Z9 (cI M) (b*1)≤1000)(i:Nat)(hi1:i≤3)(hi2:True)(hqrs20_1:(X8 i 3)=true)(j:Nat)(hj1:j≤L.length)(hj2:True)(v:BaseW)(eb:Nat→Option Nat)(ec:Nat→Nat)(hs:List Nat):Y4 Try.prog 86 c5B (⟨[(Q5 M z),(2,(.ptr 0 0)),(5,(.sl 1 0 3 3)),(w5 i),(7,(.v (.int .i64 j)))],[],2,[(Q4 E L y yl),(1,(.cells (P5 E L M i j) 65))]⟩) (BaseW.H (bw v 0 eb ec) hs) (Hd.StepL 86 2 (fun j:{j:Nat // j≤L.length∧True}=>⟨[(Q5 M z),(2,(.ptr 0 0)),(5,(.sl 1 0 3 3)),(w5 i),(7,(.v (.int .i64 j.1)))],[],2,[(Q4 E L y yl),(1,(.cells (cI (tI (s6B (a9 (Z1 E) (cR L) (cI M)) (hiP (Z1 E) (cR L) (cI M)) L.length i j.1) 6)) 65))]⟩) (fun j:{j:Nat // j≤L.length∧True}=>L.length - j.1) (bw v 0 eb ec) (Hd.AfterB Try.prog 86 1 a6W (bw v 0 eb ec) (Hd.StepC Try.prog 86 0 (fun i:{i:Nat // i≤3∧True}=>⟨[(Q5 M z),(2,(.ptr 0 0)),(5,(.sl 1 0 3 3)),(6,(.v (.int .i64 i.1)))],[],2,[(Q4 E L y yl),(1,(.cells (cI (tI (s6A (a9 (Z1 E) (cR L) (cI M)) (hiP (Z1 E) (cR L) (cI M)) L.length i.1) 6)) 65))]⟩) (fun i:{i:Nat // i≤3∧True}=>3 - i.1) a4z (bw v 0 eb ec) (R7 Try.prog Try.f59 86 ((.sl 0 0 3 3)) [(M1 E L M)] (bw v 0 eb ec)) (⟨i,hi1,hi2⟩:{i:Nat // i≤3∧True}))) (⟨j,hj1,hj2⟩:{j:Nat // j≤L.length∧True})):=by
 have hcl_L:=Y6 L
 have hcl_M:=Z3 M
 have ghqrs20_1:=Y1 hqrs20_1
 rcases Bool.eq_false_or_eq_true (X8 j M.length) with hqrs32_1|hqrs32_1
 ·have ghqrs32_1:=Y1 hqrs32_1
  exact Z8 V0 (Z7 Try.checked.mixed (Z5) 200 (T':=(b4m E L M i j y yl z)) (e:=.normal) (ps:=[X8 j M.length=true,i<E.length,W7 Try.prog (Z1 E) (i*1) 23=some (AV.xl (xlY (Z1 E) (i*1)) (U5 (Z1 E) (i*1)) 2 (X7 (Z1 E) (i*1))),j<U5 (Z1 E) (i*1),j*2+0<((X7 (Z1 E) (i*1)):List AV).length,W7 Try.prog (X7 (Z1 E) (i*1)) (j*2+0) 2=some (AV.v (Value.int IntKind.i64 (Z9 (X7 (Z1 E) (i*1)) (j*2+0)))),j<L.length,j*2+0<((cR L):List AV).length,W7 Try.prog (cR L) (j*2+0) 2=some (AV.v (Value.int IntKind.i64 (Z9 (cR L) (j*2+0)))),O8 IntKind.i64 (Z9 (X7 (Z1 E) (i*1)) (j*2+0)*Z9 (cR L) (j*2+0)),j<M.length,W7 Try.prog (cI M) (j*1) 2=some (AV.v (Value.int IntKind.i64 (Z9 (cI M) (j*1)))),O8 IntKind.i64 (Z9 (X7 (Z1 E) (i*1)) (j*2+0)*Z9 (cR L) (j*2+0)*Z9 (cI M) (j*1)),i<E.length,W7 Try.prog (Z1 E) (i*1) 23=some (AV.xl (xlY (Z1 E) (i*1)) (U5 (Z1 E) (i*1)) 2 (X7 (Z1 E) (i*1))),j<U5 (Z1 E) (i*1),j*2+1<((X7 (Z1 E) (i*1)):List AV).length,W7 Try.prog (X7 (Z1 E) (i*1)) (j*2+1) 2=some (AV.v (Value.int IntKind.i64 (Z9 (X7 (Z1 E) (i*1)) (j*2+1)))),j<L.length,j*2+1<((cR L):List AV).length,W7 Try.prog (cR L) (j*2+1) 2=some (AV.v (Value.int IntKind.i64 (Z9 (cR L) (j*2+1)))),O8 IntKind.i64 (Z9 (X7 (Z1 E) (i*1)) (j*2+1)*Z9 (cR L) (j*2+1)),j<M.length,W7 Try.prog (cI M) (j*1) 2=some (AV.v (Value.int IntKind.i64 (Z9 (cI M) (j*1)))),O8 IntKind.i64 (Z9 (X7 (Z1 E) (i*1)) (j*2+1)*Z9 (cR L) (j*2+1)*Z9 (cI M) (j*1)),i<3,W7 Try.prog (P5 E L M i j) (0+i*2+0) 2=some (AV.v (Value.int IntKind.i64 (Z9 (P5 E L M i j) (0+i*2+0)))),O8 IntKind.i64 (Z9 (P5 E L M i j) (0+i*2+0)+if Z9 (X7 (Z1 E) (i*1)) (j*2+1)*Z9 (cR L) (j*2+1)*Z9 (cI M) (j*1)<Z9 (X7 (Z1 E) (i*1)) (j*2+0)*Z9 (cR L) (j*2+0)*Z9 (cI M) (j*1) then Z9 (X7 (Z1 E) (i*1)) (j*2+1)*Z9 (cR L) (j*2+1)*Z9 (cI M) (j*1) else Z9 (X7 (Z1 E) (i*1)) (j*2+0)*Z9 (cR L) (j*2+0)*Z9 (cI M) (j*1)),i<3,0+i*2+0+([(.v (.int .i64 (Z9 (P5 E L M i j) (0+i*2+0)+if Z9 (X7 (Z1 E) (i*1)) (j*2+1)*Z9 (cR L) (j*2+1)*Z9 (cI M) (j*1)<Z9 (X7 (Z1 E) (i*1)) (j*2+0)*Z9 (cR L) (j*2+0)*Z9 (cI M) (j*1) then Z9 (X7 (Z1 E) (i*1)) (j*2+1)*Z9 (cR L) (j*2+1)*Z9 (cI M) (j*1) else Z9 (X7 (Z1 E) (i*1)) (j*2+0)*Z9 (cR L) (j*2+0)*Z9 (cI M) (j*1))))]:List AV).length≤((P5 E L M i j):List AV).length,i<3,W7 Try.prog (V2 (P5 E L M i j) (0+i*2+0) (AV.v (Value.int IntKind.i64 (Z9 (P5 E L M i j) (0+i*2+0)+if Z9 (X7 (Z1 E) (i*1)) (j*2+1)*Z9 (cR L) (j*2+1)*Z9 (cI M) (j*1)<Z9 (X7 (Z1 E) (i*1)) (j*2+0)*Z9 (cR L) (j*2+0)*Z9 (cI M) (j*1) then Z9 (X7 (Z1 E) (i*1)) (j*2+1)*Z9 (cR L) (j*2+1)*Z9 (cI M) (j*1) else Z9 (X7 (Z1 E) (i*1)) (j*2+0)*Z9 (cR L) (j*2+0)*Z9 (cI M) (j*1)))).cells) (0+i*2+1) 2=some (AV.v (Value.int IntKind.i64 (Z9 (V2 (P5 E L M i j) (0+i*2+0) (AV.v (Value.int IntKind.i64 (Z9 (P5 E L M i j) (0+i*2+0)+if Z9 (X7 (Z1 E) (i*1)) (j*2+1)*Z9 (cR L) (j*2+1)*Z9 (cI M) (j*1)<Z9 (X7 (Z1 E) (i*1)) (j*2+0)*Z9 (cR L) (j*2+0)*Z9 (cI M) (j*1) then Z9 (X7 (Z1 E) (i*1)) (j*2+1)*Z9 (cR L) (j*2+1)*Z9 (cI M) (j*1) else Z9 (X7 (Z1 E) (i*1)) (j*2+0)*Z9 (cR L) (j*2+0)*Z9 (cI M) (j*1)))).cells) (0+i*2+1)))),O8 IntKind.i64 (Z9 (V2 (P5 E L M i j) (0+i*2+0) (AV.v (Value.int IntKind.i64 (Z9 (P5 E L M i j) (0+i*2+0)+if Z9 (X7 (Z1 E) (i*1)) (j*2+1)*Z9 (cR L) (j*2+1)*Z9 (cI M) (j*1)<Z9 (X7 (Z1 E) (i*1)) (j*2+0)*Z9 (cR L) (j*2+0)*Z9 (cI M) (j*1) then Z9 (X7 (Z1 E) (i*1)) (j*2+1)*Z9 (cR L) (j*2+1)*Z9 (cI M) (j*1) else Z9 (X7 (Z1 E) (i*1)) (j*2+0)*Z9 (cR L) (j*2+0)*Z9 (cI M) (j*1)))).cells) (0+i*2+1)+if Z9 (X7 (Z1 E) (i*1)) (j*2+1)*Z9 (cR L) (j*2+1)*Z9 (cI M) (j*1) > Z9 (X7 (Z1 E) (i*1)) (j*2+0)*Z9 (cR L) (j*2+0)*Z9 (cI M) (j*1) then Z9 (X7 (Z1 E) (i*1)) (j*2+1)*Z9 (cR L) (j*2+1)*Z9 (cI M) (j*1) else Z9 (X7 (Z1 E) (i*1)) (j*2+0)*Z9 (cR L) (j*2+0)*Z9 (cI M) (j*1)),i<3,0+i*2+1+([(.v (.int .i64 (Z9 (V2 (P5 E L M i j) (0+i*2+0) (AV.v (Value.int IntKind.i64 (Z9 (P5 E L M i j) (0+i*2+0)+if Z9 (X7 (Z1 E) (i*1)) (j*2+1)*Z9 (cR L) (j*2+1)*Z9 (cI M) (j*1)<Z9 (X7 (Z1 E) (i*1)) (j*2+0)*Z9 (cR L) (j*2+0)*Z9 (cI M) (j*1) then Z9 (X7 (Z1 E) (i*1)) (j*2+1)*Z9 (cR L) (j*2+1)*Z9 (cI M) (j*1) else Z9 (X7 (Z1 E) (i*1)) (j*2+0)*Z9 (cR L) (j*2+0)*Z9 (cI M) (j*1)))).cells) (0+i*2+1)+if Z9 (X7 (Z1 E) (i*1)) (j*2+1)*Z9 (cR L) (j*2+1)*Z9 (cI M) (j*1) > Z9 (X7 (Z1 E) (i*1)) (j*2+0)*Z9 (cR L) (j*2+0)*Z9 (cI M) (j*1) then Z9 (X7 (Z1 E) (i*1)) (j*2+1)*Z9 (cR L) (j*2+1)*Z9 (cI M) (j*1) else Z9 (X7 (Z1 E) (i*1)) (j*2+0)*Z9 (cR L) (j*2+0)*Z9 (cI M) (j*1))))]:List AV).length≤((V2 (P5 E L M i j) (0+i*2+0) [(.v (.int .i64 (Z9 (P5 E L M i j) (0+i*2+0)+if Z9 (X7 (Z1 E) (i*1)) (j*2+1)*Z9 (cR L) (j*2+1)*Z9 (cI M) (j*1)<Z9 (X7 (Z1 E) (i*1)) (j*2+0)*Z9 (cR L) (j*2+0)*Z9 (cI M) (j*1) then Z9 (X7 (Z1 E) (i*1)) (j*2+1)*Z9 (cR L) (j*2+1)*Z9 (cI M) (j*1) else Z9 (X7 (Z1 E) (i*1)) (j*2+0)*Z9 (cR L) (j*2+0)*Z9 (cI M) (j*1))))]):List AV).length,O8 IntKind.i64 (((j:Nat):Int)+1)]) [.go,.go,.go,.go,.b true,.go,.go,.go,.sym,.sym,.go,.sym,.sym,.sym,.go,.go,.go,.sym,.sym,.sym,.go,.go,.go,.sym,.sym,.go,.go,.go,.go,.go,.sym,.sym,.go,.sym,.sym,.sym,.go,.go,.go,.sym,.sym,.sym,.go,.go,.go,.sym,.sym,.go,.go,.go,.go,.sym,.go,.sym,.go,.go,.go,.go,.sym,.go,.sym,.go,.go,.sym,.go,.sym,.go,.go,.go,.go,.sym,.go,.sym,.go,.go,.go] (by kernel_rfl) (by kernel_rfl) ⟨hqrs32_1,(by omega),(by rw [Nat.mul_one];exact Q0 (by omega) 23 (Try.underlying23) rfl),(by rw [hrow i (by omega)];omega),(by have h8:=hrow i (by omega);obtain ⟨-,P9,e9,n9⟩:=N8 (R:=E) (i:=i) (by omega);rw [e9,Y6];omega),(by have h8:=hrow i (by omega);obtain ⟨-,P9,e9,n9⟩:=N8 (R:=E) (i:=i) (by omega);rw [e9];exact C0 (i:=j) (by omega) (by omega) 2 (Try.underlying2) rfl),(by omega),(by rw [Y6];omega),(C0 (i:=j) (by omega) (by omega) 2 (Try.underlying2) rfl),(by have h9:=a9J (hc i (by omega) j (by omega)) (hl j (by omega)) (hm1 j (by omega));unfold pxP pyP at h9;show -9223372036854775808≤_∧_≤9223372036854775807;constructor<;>omega),(by omega),(by rw [Nat.mul_one];exact U4 (show _<M.length by omega) 2 (Try.underlying2) rfl),(by have h9:=a9J (hc i (by omega) j (by omega)) (hl j (by omega)) (hm1 j (by omega));unfold pxP pyP at h9;show -9223372036854775808≤_∧_≤9223372036854775807;constructor<;>omega),(by omega),(by rw [Nat.mul_one];exact Q0 (by omega) 23 (Try.underlying23) rfl),(by rw [hrow i (by omega)];omega),(by have h8:=hrow i (by omega);obtain ⟨-,P9,e9,n9⟩:=N8 (R:=E) (i:=i) (by omega);rw [e9,Y6];omega),(by have h8:=hrow i (by omega);obtain ⟨-,P9,e9,n9⟩:=N8 (R:=E) (i:=i) (by omega);rw [e9];exact C0 (i:=j) (by omega) (by omega) 2 (Try.underlying2) rfl),(by omega),(by rw [Y6];omega),(C0 (i:=j) (by omega) (by omega) 2 (Try.underlying2) rfl),(by have h9:=a9J (hc i (by omega) j (by omega)) (hl j (by omega)) (hm1 j (by omega));unfold pxP pyP at h9;show -9223372036854775808≤_∧_≤9223372036854775807;constructor<;>omega),(by omega),(by rw [Nat.mul_one];exact U4 (show _<M.length by omega) 2 (Try.underlying2) rfl),(by have h9:=a9J (hc i (by omega) j (by omega)) (hl j (by omega)) (hm1 j (by omega));unfold pxP pyP at h9;show -9223372036854775808≤_∧_≤9223372036854775807;constructor<;>omega),(by omega),(U4 (by rw [Y9];omega) 2 (Try.underlying2) rfl),(by show O8 .i64 (Z9 _ _+a9 (Z1 E) (cR L) (cI M) i j);rw [b8E (by omega)];have h7:=a6r (p:=a9 (Z1 E) (cR L) (cI M) i) (m:=10000000) (n:=j) (fun b hb=>(b2o (hc i (by omega) b (by omega)) (hl b (by omega)) (hm1 b (by omega))).1);have h8:=(b2o (hc i (by omega) j (by omega)) (hl j (by omega)) (hm1 j (by omega))).1;exact ⟨by omega,by omega⟩),(by omega),(by rw [Z3,Y9];show 0+i*2+0+1≤6;omega),(by omega),(by show W7 _ (V2 _ _ [AV.v (.int .i64 (Z9 _ _+a9 (Z1 E) (cR L) (cI M) i j))]) _ _=some (.v (.int .i64 (Z9 (V2 _ _ [AV.v (.int .i64 (Z9 _ _+a9 (Z1 E) (cR L) (cI M) i j))]) _)));rw [a86 (by omega)];exact U4 (by rw [Y9];omega) 2 (Try.underlying2) rfl),(by show O8 .i64 (Z9 (V2 _ _ [AV.v (.int .i64 (Z9 _ _+a9 (Z1 E) (cR L) (cI M) i j))]) _+hiP (Z1 E) (cR L) (cI M) i j);rw [a86 (by omega),b6w (by omega)];have h7:=a6r (p:=hiP (Z1 E) (cR L) (cI M) i) (m:=10000000) (n:=j) (fun b hb=>(b2o (hc i (by omega) b (by omega)) (hl b (by omega)) (hm1 b (by omega))).2);have h8:=(b2o (hc i (by omega) j (by omega)) (hl j (by omega)) (hm1 j (by omega))).2;exact ⟨by omega,by omega⟩),(by omega),(by show _≤(V2 _ _ [AV.v (.int .i64 (Z9 _ _+a9 (Z1 E) (cR L) (cI M) i j))]).length;rw [a86 (by omega),Z3,Y9];show 0+i*2+1+1≤6;omega),(by show -9223372036854775808≤_∧_≤9223372036854775807;constructor<;>omega),trivial⟩ rfl) (Hd.en_tn (⟨j+1,by omega,trivial⟩) (by show L.length - (j+1)<L.length - j;omega) (show ((b4m E L M i j y yl z):Ev.Lit)=⟨[(Q5 M z),(2,(.ptr 0 0)),(5,(.sl 1 0 3 3)),(w5 i),(a87 j)],[],2,[(Q4 E L y yl),(1,(.cells (cI (tI (s6B (a9 (Z1 E) (cR L) (cI M)) (hiP (Z1 E) (cR L) (cI M)) L.length i (j+1)) 6)) 65))]⟩ from by have hz_:=congrArg (fun (xq0:Ev.AB)=>(⟨[(Q5 M z),(2,(.ptr 0 0)),(5,(.sl 1 0 3 3)),(w5 i),(a87 j)],[],2,[(Q4 E L y yl),(1,xq0)]⟩:Ev.Lit)) (congrArg (fun z=>Ev.AB.cells z 65) (show ((V2 (V2 (P5 E L M i j) (0+i*2+0) [(.v (.int .i64 (Z9 (P5 E L M i j) (0+i*2+0)+if Z9 (X7 (Z1 E) (i*1)) (j*2+1)*Z9 (cR L) (j*2+1)*Z9 (cI M) (j*1)<Z9 (X7 (Z1 E) (i*1)) (j*2+0)*Z9 (cR L) (j*2+0)*Z9 (cI M) (j*1) then Z9 (X7 (Z1 E) (i*1)) (j*2+1)*Z9 (cR L) (j*2+1)*Z9 (cI M) (j*1) else Z9 (X7 (Z1 E) (i*1)) (j*2+0)*Z9 (cR L) (j*2+0)*Z9 (cI M) (j*1))))]) (0+i*2+1) [(.v (.int .i64 (Z9 (V2 (P5 E L M i j) (0+i*2+0) (AV.v (Value.int IntKind.i64 (Z9 (P5 E L M i j) (0+i*2+0)+if Z9 (X7 (Z1 E) (i*1)) (j*2+1)*Z9 (cR L) (j*2+1)*Z9 (cI M) (j*1)<Z9 (X7 (Z1 E) (i*1)) (j*2+0)*Z9 (cR L) (j*2+0)*Z9 (cI M) (j*1) then Z9 (X7 (Z1 E) (i*1)) (j*2+1)*Z9 (cR L) (j*2+1)*Z9 (cI M) (j*1) else Z9 (X7 (Z1 E) (i*1)) (j*2+0)*Z9 (cR L) (j*2+0)*Z9 (cI M) (j*1)))).cells) (0+i*2+1)+if Z9 (X7 (Z1 E) (i*1)) (j*2+1)*Z9 (cR L) (j*2+1)*Z9 (cI M) (j*1) > Z9 (X7 (Z1 E) (i*1)) (j*2+0)*Z9 (cR L) (j*2+0)*Z9 (cI M) (j*1) then Z9 (X7 (Z1 E) (i*1)) (j*2+1)*Z9 (cR L) (j*2+1)*Z9 (cI M) (j*1) else Z9 (X7 (Z1 E) (i*1)) (j*2+0)*Z9 (cR L) (j*2+0)*Z9 (cI M) (j*1))))]):List Ev.AV)=(cI (tI (s6B (a9 (Z1 E) (cR L) (cI M)) (hiP (Z1 E) (cR L) (cI M)) L.length i (j+1)) 6)) from by (show V2 (V2 _ _ [AV.v (.int .i64 (Z9 _ _+a9 (Z1 E) (cR L) (cI M) i j))]) _ [AV.v (.int .i64 (Z9 (V2 _ _ [AV.v (.int .i64 (Z9 _ _+a9 (Z1 E) (cR L) (cI M) i j))]) _+hiP (Z1 E) (cR L) (cI M) i j))]=_;rw [a86 (by omega),b6w (by omega)];exact c1K (by omega) rfl)));exact hz_))
 ·have ghqrs32_1:=Z6 hqrs32_1
  obtain rfl:j=L.length:=by omega
  exact Z8 E7 (Z7 Try.checked.mixed (Z5) 200 (T':=(b6r E L M i y yl z)) (e:=.exit 2) (ps:=[X8 L.length M.length=false]) [.go,.go,.go,.go,.b false] (by kernel_rfl) (by kernel_rfl) ⟨hqrs32_1,trivial⟩ rfl) (Hd.en_tx (Hd.en_bn (c4N y E yl L z M hn8 hE3 hrow hm hl hc hm1 i hi1 hi2 hqrs20_1 hqrs32_1 v eb ec hs)))
theorem c3A(y:Value)(E:List (Value×List (Int×Int)))(yl:Value)(L:List (Int×Int))(z:Value)(M:List Int)(hn8:L.length≤8)(hE3:E.length=3)(hrow:∀ i,i<3→U5 (Z1 E) (i*1)=L.length)(hm:M.length=L.length)(hl:∀ b,b<L.length→Y2 100 (cR L) b)(hc:∀ i,i<3→∀ b,b<L.length→Y2 100 (X7 (Z1 E) (i*1)) b)(hm1:∀ b,b<L.length → -1000≤Z9 (cI M) (b*1)∧Z9 (cI M) (b*1)≤1000)(i:Nat)(hi1:i≤3)(hi2:True)(hqrs20_1:(X8 i 3)=true)(v:BaseW)(eb:Nat→Option Nat)(ec:Nat→Nat)(hs:List Nat):Y4 Try.prog 86 b7d ((a8k E L M i y yl z)) (BaseW.H (bw v 0 eb ec) hs) (Hd.AfterB Try.prog 86 1 a6W (bw v 0 eb ec) (Hd.StepC Try.prog 86 0 (fun i:{i:Nat // i≤3∧True}=>⟨[(Q5 M z),(2,(.ptr 0 0)),(5,(.sl 1 0 3 3)),(6,(.v (.int .i64 i.1)))],[],2,[(Q4 E L y yl),(1,(.cells (cI (tI (s6A (a9 (Z1 E) (cR L) (cI M)) (hiP (Z1 E) (cR L) (cI M)) L.length i.1) 6)) 65))]⟩) (fun i:{i:Nat // i≤3∧True}=>3 - i.1) a4z (bw v 0 eb ec) (R7 Try.prog Try.f59 86 ((.sl 0 0 3 3)) [(M1 E L M)] (bw v 0 eb ec)) (⟨i,hi1,hi2⟩:{i:Nat // i≤3∧True}))):=by
 have hcl_L:=Y6 L
 have hcl_M:=Z3 M
 have ghqrs20_1:=Y1 hqrs20_1
 rw [show ((a8k E L M i y yl z):Ev.Lit)=⟨[(Q5 M z),(2,(.ptr 0 0)),(5,(.sl 1 0 3 3)),(w5 i),(7,(.v (.int .i64 0)))],[],2,[(Q4 E L y yl),(1,(.cells (cI (tI (s6B (a9 (Z1 E) (cR L) (cI M)) (hiP (Z1 E) (cR L) (cI M)) L.length i 0) 6)) 65))]⟩ from by (rw [b41];rfl)]
 exact Hd.goes_loopL (id:=2) (by kernel_rfl) (by kernel_rfl) (fun j:{j:Nat // j≤L.length∧True}=>⟨[(Q5 M z),(2,(.ptr 0 0)),(5,(.sl 1 0 3 3)),(w5 i),(7,(.v (.int .i64 j.1)))],[],2,[(Q4 E L y yl),(1,(.cells (cI (tI (s6B (a9 (Z1 E) (cR L) (cI M)) (hiP (Z1 E) (cR L) (cI M)) L.length i j.1) 6)) 65))]⟩) (fun j:{j:Nat // j≤L.length∧True}=>L.length - j.1) (fun ix_ hs=>c3j y E yl L z M hn8 hE3 hrow hm hl hc hm1 i hi1 hi2 hqrs20_1 ix_.1 ix_.2.1 ix_.2.2 v eb ec hs) ⟨0,Nat.zero_le _,trivial⟩ hs
theorem c5I(y:Value)(E:List (Value×List (Int×Int)))(yl:Value)(L:List (Int×Int))(z:Value)(M:List Int)(hn8:L.length≤8)(hE3:E.length=3)(hrow:∀ i,i<3→U5 (Z1 E) (i*1)=L.length)(hm:M.length=L.length)(hl:∀ b,b<L.length→Y2 100 (cR L) b)(hc:∀ i,i<3→∀ b,b<L.length→Y2 100 (X7 (Z1 E) (i*1)) b)(hm1:∀ b,b<L.length → -1000≤Z9 (cI M) (b*1)∧Z9 (cI M) (b*1)≤1000)(i:Nat)(hi1:i≤3)(hi2:True)(hqrs20_1:(X8 i 3)=true)(v:BaseW)(eb:Nat→Option Nat)(ec:Nat→Nat)(hs:List Nat):Y4 Try.prog 86 b7d ((a8k E L M i y yl z)) (BaseW.H (bw v 0 eb ec) hs) (Hd.AfterB Try.prog 86 1 a6W (bw v 0 eb ec) (Hd.StepC Try.prog 86 0 (fun i:{i:Nat // i≤3∧True}=>⟨[(Q5 M z),(2,(.ptr 0 0)),(5,(.sl 1 0 3 3)),(6,(.v (.int .i64 i.1)))],[],2,[(Q4 E L y yl),(1,(.cells (cI (tI (s6A (a9 (Z1 E) (cR L) (cI M)) (hiP (Z1 E) (cR L) (cI M)) L.length i.1) 6)) 65))]⟩) (fun i:{i:Nat // i≤3∧True}=>3 - i.1) a4z (bw v 0 eb ec) (R7 Try.prog Try.f59 86 ((.sl 0 0 3 3)) [(M1 E L M)] (bw v 0 eb ec)) (⟨i,hi1,hi2⟩:{i:Nat // i≤3∧True}))):=by
 exact c3A y E yl L z M hn8 hE3 hrow hm hl hc hm1 i hi1 hi2 hqrs20_1 v eb ec hs
theorem c29(y:Value)(E:List (Value×List (Int×Int)))(yl:Value)(L:List (Int×Int))(z:Value)(M:List Int)(hn8:L.length≤8)(hE3:E.length=3)(hrow:∀ i,i<3→U5 (Z1 E) (i*1)=L.length)(hm:M.length=L.length)(hl:∀ b,b<L.length→Y2 100 (cR L) b)(hc:∀ i,i<3→∀ b,b<L.length→Y2 100 (X7 (Z1 E) (i*1)) b)(hm1:∀ b,b<L.length → -1000≤Z9 (cI M) (b*1)∧Z9 (cI M) (b*1)≤1000)(i:Nat)(hi1:i≤3)(hi2:True)(hqrs20_1:(X8 i 3)=true)(v:BaseW)(eb:Nat→Option Nat)(ec:Nat→Nat)(hs:List Nat):Y4 Try.prog 86 b8G ((a89 E L M i y yl z)) (BaseW.H (bw v 0 eb ec) hs) (Hd.AfterB Try.prog 86 1 a6W (bw v 0 eb ec) (Hd.StepC Try.prog 86 0 (fun i:{i:Nat // i≤3∧True}=>⟨[(Q5 M z),(2,(.ptr 0 0)),(5,(.sl 1 0 3 3)),(6,(.v (.int .i64 i.1)))],[],2,[(Q4 E L y yl),(1,(.cells (cI (tI (s6A (a9 (Z1 E) (cR L) (cI M)) (hiP (Z1 E) (cR L) (cI M)) L.length i.1) 6)) 65))]⟩) (fun i:{i:Nat // i≤3∧True}=>3 - i.1) a4z (bw v 0 eb ec) (R7 Try.prog Try.f59 86 ((.sl 0 0 3 3)) [(M1 E L M)] (bw v 0 eb ec)) (⟨i,hi1,hi2⟩:{i:Nat // i≤3∧True}))):=by
 have hcl_L:=Y6 L
 have hcl_M:=Z3 M
 have ghqrs20_1:=Y1 hqrs20_1
 refine Hd.goes_seqA (by kernel_rfl) ?_
 exact Z8 V0 (Z7 Try.checked.mixed (Z5) 200 (T':=(a8k E L M i y yl z)) (e:=.normal) (ps:=[]) [.go] (by kernel_rfl) (by kernel_rfl) trivial rfl) (Hd.en_n (c5I y E yl L z M hn8 hE3 hrow hm hl hc hm1 i hi1 hi2 hqrs20_1 v eb ec hs))
theorem c2j(y:Value)(E:List (Value×List (Int×Int)))(yl:Value)(L:List (Int×Int))(z:Value)(M:List Int)(hn8:L.length≤8)(hE3:E.length=3)(hrow:∀ i,i<3→U5 (Z1 E) (i*1)=L.length)(hm:M.length=L.length)(hl:∀ b,b<L.length→Y2 100 (cR L) b)(hc:∀ i,i<3→∀ b,b<L.length→Y2 100 (X7 (Z1 E) (i*1)) b)(hm1:∀ b,b<L.length → -1000≤Z9 (cI M) (b*1)∧Z9 (cI M) (b*1)≤1000)(i:Nat)(hi1:i≤3)(hi2:True)(hqrs20_1:(X8 i 3)=true)(v:BaseW)(eb:Nat→Option Nat)(ec:Nat→Nat)(hs:List Nat):Y4 Try.prog 86 (m9 b29) ((a89 E L M i y yl z)) (BaseW.H (bw v 0 eb ec) hs) (Hd.AfterN Try.prog 86 a6W (bw v 0 eb ec) (Hd.StepC Try.prog 86 0 (fun i:{i:Nat // i≤3∧True}=>⟨[(Q5 M z),(2,(.ptr 0 0)),(5,(.sl 1 0 3 3)),(6,(.v (.int .i64 i.1)))],[],2,[(Q4 E L y yl),(1,(.cells (cI (tI (s6A (a9 (Z1 E) (cR L) (cI M)) (hiP (Z1 E) (cR L) (cI M)) L.length i.1) 6)) 65))]⟩) (fun i:{i:Nat // i≤3∧True}=>3 - i.1) a4z (bw v 0 eb ec) (R7 Try.prog Try.f59 86 ((.sl 0 0 3 3)) [(M1 E L M)] (bw v 0 eb ec)) (⟨i,hi1,hi2⟩:{i:Nat // i≤3∧True}))):=by
 exact Hd.goes_blkA (id:=1) (by kernel_rfl) (by kernel_rfl) (c29 y E yl L z M hn8 hE3 hrow hm hl hc hm1 i hi1 hi2 hqrs20_1 v eb ec hs)
theorem c3V(y:Value)(E:List (Value×List (Int×Int)))(yl:Value)(L:List (Int×Int))(z:Value)(M:List Int)(hn8:L.length≤8)(hE3:E.length=3)(hrow:∀ i,i<3→U5 (Z1 E) (i*1)=L.length)(hm:M.length=L.length)(hl:∀ b,b<L.length→Y2 100 (cR L) b)(hc:∀ i,i<3→∀ b,b<L.length→Y2 100 (X7 (Z1 E) (i*1)) b)(hm1:∀ b,b<L.length → -1000≤Z9 (cI M) (b*1)∧Z9 (cI M) (b*1)≤1000)(i:Nat)(hi1:i≤3)(hi2:True)(hqrs20_1:(X8 i 3)=true)(v:BaseW)(eb:Nat→Option Nat)(ec:Nat→Nat)(hs:List Nat):Y4 Try.prog 86 b29 ((a89 E L M i y yl z)) (BaseW.H (bw v 0 eb ec) hs) (Hd.StepC Try.prog 86 0 (fun i:{i:Nat // i≤3∧True}=>⟨[(Q5 M z),(2,(.ptr 0 0)),(5,(.sl 1 0 3 3)),(6,(.v (.int .i64 i.1)))],[],2,[(Q4 E L y yl),(1,(.cells (cI (tI (s6A (a9 (Z1 E) (cR L) (cI M)) (hiP (Z1 E) (cR L) (cI M)) L.length i.1) 6)) 65))]⟩) (fun i:{i:Nat // i≤3∧True}=>3 - i.1) a4z (bw v 0 eb ec) (R7 Try.prog Try.f59 86 ((.sl 0 0 3 3)) [(M1 E L M)] (bw v 0 eb ec)) (⟨i,hi1,hi2⟩:{i:Nat // i≤3∧True})):=by
 exact Hd.goes_seqA (by kernel_rfl) (c2j y E yl L z M hn8 hE3 hrow hm hl hc hm1 i hi1 hi2 hqrs20_1 v eb ec hs)
theorem c5G(y:Value)(E:List (Value×List (Int×Int)))(yl:Value)(L:List (Int×Int))(z:Value)(M:List Int)(hn8:L.length≤8)(hE3:E.length=3)(hrow:∀ i,i<3→U5 (Z1 E) (i*1)=L.length)(hm:M.length=L.length)(hl:∀ b,b<L.length→Y2 100 (cR L) b)(hc:∀ i,i<3→∀ b,b<L.length→Y2 100 (X7 (Z1 E) (i*1)) b)(hm1:∀ b,b<L.length → -1000≤Z9 (cI M) (b*1)∧Z9 (cI M) (b*1)≤1000)(h0b:True)(hqrs20_1:(X8 3 3)=false)(v:BaseW)(eb:Nat→Option Nat)(ec:Nat→Nat)(hs:List Nat):Y4 Try.prog 86 a4z ((b2P E L M)) (BaseW.H (bw v 0 eb ec) hs) (R7 Try.prog Try.f59 86 ((.sl 0 0 3 3)) [(M1 E L M)] (bw v 0 eb ec)):=by
 have hcl_L:=Y6 L
 have hcl_M:=Z3 M
 have ghqrs20_1:=Z6 hqrs20_1
 exact Z8 W1 (L6 Try.checked.mixed (Z5) 200 (T':=⟨[(4,(.sl 0 0 3 3))],[],1,[(0,(M1 E L M))]⟩) (e:=.ret) (m:=2) (ps:=[]) [.go,.go] [1] [(.sl 1 0 3 3)] [(M1 E L M)] (by kernel_rfl) (by kernel_rfl) trivial rfl rfl (by decide) rfl ⟨b5y rfl,trivial⟩ ⟨⟨by show 0<1;decide,U8 (U6 (Z2 _))⟩,trivial⟩) (E3 (r:=(.sl 0 0 3 3)) (ys:=[(M1 E L M)]) (by rfl) (by rfl) (J4 (by kernel_rfl) (by kernel_rfl) rfl (.inr rfl)))
theorem c5K(y:Value)(E:List (Value×List (Int×Int)))(yl:Value)(L:List (Int×Int))(z:Value)(M:List Int)(hn8:L.length≤8)(hE3:E.length=3)(hrow:∀ i,i<3→U5 (Z1 E) (i*1)=L.length)(hm:M.length=L.length)(hl:∀ b,b<L.length→Y2 100 (cR L) b)(hc:∀ i,i<3→∀ b,b<L.length→Y2 100 (X7 (Z1 E) (i*1)) b)(hm1:∀ b,b<L.length → -1000≤Z9 (cI M) (b*1)∧Z9 (cI M) (b*1)≤1000)(i:Nat)(hi1:i≤3)(hi2:True)(v:BaseW)(eb:Nat→Option Nat)(ec:Nat→Nat)(hs:List Nat):Y4 Try.prog 86 b8X (⟨[(Q5 M z),(2,(.ptr 0 0)),(5,(.sl 1 0 3 3)),(6,(.v (.int .i64 i)))],[],2,[(Q4 E L y yl),(a7Q E L M i)]⟩) (BaseW.H (bw v 0 eb ec) hs) (Hd.StepC Try.prog 86 0 (fun i:{i:Nat // i≤3∧True}=>⟨[(Q5 M z),(2,(.ptr 0 0)),(5,(.sl 1 0 3 3)),(6,(.v (.int .i64 i.1)))],[],2,[(Q4 E L y yl),(1,(.cells (cI (tI (s6A (a9 (Z1 E) (cR L) (cI M)) (hiP (Z1 E) (cR L) (cI M)) L.length i.1) 6)) 65))]⟩) (fun i:{i:Nat // i≤3∧True}=>3 - i.1) a4z (bw v 0 eb ec) (R7 Try.prog Try.f59 86 ((.sl 0 0 3 3)) [(M1 E L M)] (bw v 0 eb ec)) (⟨i,hi1,hi2⟩:{i:Nat // i≤3∧True})):=by
 have hcl_L:=Y6 L
 have hcl_M:=Z3 M
 refine Hd.goes_seqA (by kernel_rfl) ?_
 rcases Bool.eq_false_or_eq_true (X8 i 3) with hqrs20_1|hqrs20_1
 ·have ghqrs20_1:=Y1 hqrs20_1
  exact Z8 V0 (Z7 Try.checked.mixed (Z5) 200 (T':=(a89 E L M i y yl z)) (e:=.normal) (ps:=[X8 i 3=true]) [.go,.go,.b true] (by kernel_rfl) (by kernel_rfl) ⟨hqrs20_1,trivial⟩ rfl) (Hd.en_n (c3V y E yl L z M hn8 hE3 hrow hm hl hc hm1 i hi1 hi2 hqrs20_1 v eb ec hs))
 ·have ghqrs20_1:=Z6 hqrs20_1
  obtain rfl:3=i:=by omega
  exact Z8 E7 (Z7 Try.checked.mixed (Z5) 200 (T':=(b2P E L M)) (e:=.exit 0) (ps:=[X8 3 3=false]) [.go,.go,.b false] (by kernel_rfl) (by kernel_rfl) ⟨hqrs20_1,trivial⟩ rfl) (Hd.en_o (by intro h;cases h) (Hd.en_sx (c5G y E yl L z M hn8 hE3 hrow hm hl hc hm1 hi2  hqrs20_1 v eb ec hs)))
theorem c5r(y:Value)(E:List (Value×List (Int×Int)))(yl:Value)(L:List (Int×Int))(z:Value)(M:List Int)(hn8:L.length≤8)(hE3:E.length=3)(hrow:∀ i,i<3→U5 (Z1 E) (i*1)=L.length)(hm:M.length=L.length)(hl:∀ b,b<L.length→Y2 100 (cR L) b)(hc:∀ i,i<3→∀ b,b<L.length→Y2 100 (X7 (Z1 E) (i*1)) b)(hm1:∀ b,b<L.length → -1000≤Z9 (cI M) (b*1)∧Z9 (cI M) (b*1)≤1000)(v:BaseW)(eb:Nat→Option Nat)(ec:Nat→Nat)(hs:List Nat):Y4 Try.prog 86 b4O ((a8f E L M y yl z)) (BaseW.H (bw v 0 eb ec) hs) (Hd.AfterN Try.prog 86 a4z (bw v 0 eb ec) (R7 Try.prog Try.f59 86 ((.sl 0 0 3 3)) [(M1 E L M)] (bw v 0 eb ec))):=by
 have hcl_L:=Y6 L
 have hcl_M:=Z3 M
 rw [show ((a8f E L M y yl z):Ev.Lit)=⟨[(Q5 M z),(2,(.ptr 0 0)),(5,(.sl 1 0 3 3)),(6,(.v (.int .i64 0)))],[],2,[(Q4 E L y yl),(1,(.cells (cI (tI (s6A (a9 (Z1 E) (cR L) (cI M)) (hiP (Z1 E) (cR L) (cI M)) L.length 0) 6)) 65))]⟩ from by (rw [b4j];rfl)]
 exact Hd.goes_loopA (id:=0) (by kernel_rfl) (by kernel_rfl) (fun i:{i:Nat // i≤3∧True}=>⟨[(Q5 M z),(2,(.ptr 0 0)),(5,(.sl 1 0 3 3)),(6,(.v (.int .i64 i.1)))],[],2,[(Q4 E L y yl),(1,(.cells (cI (tI (s6A (a9 (Z1 E) (cR L) (cI M)) (hiP (Z1 E) (cR L) (cI M)) L.length i.1) 6)) 65))]⟩) (fun i:{i:Nat // i≤3∧True}=>3 - i.1) (fun ix_ hs=>c5K y E yl L z M hn8 hE3 hrow hm hl hc hm1 ix_.1 ix_.2.1 ix_.2.2 v eb ec hs) ⟨0,Nat.zero_le _,trivial⟩ hs
theorem c4i(y:Value)(E:List (Value×List (Int×Int)))(yl:Value)(L:List (Int×Int))(z:Value)(M:List Int)(hn8:L.length≤8)(hE3:E.length=3)(hrow:∀ i,i<3→U5 (Z1 E) (i*1)=L.length)(hm:M.length=L.length)(hl:∀ b,b<L.length→Y2 100 (cR L) b)(hc:∀ i,i<3→∀ b,b<L.length→Y2 100 (X7 (Z1 E) (i*1)) b)(hm1:∀ b,b<L.length → -1000≤Z9 (cI M) (b*1)∧Z9 (cI M) (b*1)≤1000)(v:BaseW)(eb:Nat→Option Nat)(ec:Nat→Nat)(hs:List Nat):Y4 Try.prog 86 b4O ((a8f E L M y yl z)) (BaseW.H (bw v 0 eb ec) hs) (Hd.AfterN Try.prog 86 a4z (bw v 0 eb ec) (R7 Try.prog Try.f59 86 ((.sl 0 0 3 3)) [(M1 E L M)] (bw v 0 eb ec))):=by
 exact c5r y E yl L z M hn8 hE3 hrow hm hl hc hm1 v eb ec hs
theorem c5O(y:Value)(E:List (Value×List (Int×Int)))(yl:Value)(L:List (Int×Int))(z:Value)(M:List Int)(hn8:L.length≤8)(hE3:E.length=3)(hrow:∀ i,i<3→U5 (Z1 E) (i*1)=L.length)(hm:M.length=L.length)(hl:∀ b,b<L.length→Y2 100 (cR L) b)(hc:∀ i,i<3→∀ b,b<L.length→Y2 100 (X7 (Z1 E) (i*1)) b)(hm1:∀ b,b<L.length → -1000≤Z9 (cI M) (b*1)∧Z9 (cI M) (b*1)≤1000)(v:BaseW)(eb:Nat→Option Nat)(ec:Nat→Nat)(hs:List Nat):Y4 Try.prog 86 b8b ((b1f E L M y yl z)) (BaseW.H (bw v 0 eb ec) hs) (Hd.AfterN Try.prog 86 a4z (bw v 0 eb ec) (R7 Try.prog Try.f59 86 ((.sl 0 0 3 3)) [(M1 E L M)] (bw v 0 eb ec))):=by
 have hcl_L:=Y6 L
 have hcl_M:=Z3 M
 refine Hd.goes_seqA (by kernel_rfl) ?_
 exact Z8 V0 (Z7 Try.checked.mixed (Z5) 200 (T':=(a8f E L M y yl z)) (e:=.normal) (ps:=[]) [.go] (by kernel_rfl) (by kernel_rfl) trivial rfl) (Hd.en_n (c4i y E yl L z M hn8 hE3 hrow hm hl hc hm1 v eb ec hs))
theorem c71(y:Value)(E:List (Value×List (Int×Int)))(yl:Value)(L:List (Int×Int))(z:Value)(M:List Int)(hn8:L.length≤8)(hE3:E.length=3)(hrow:∀ i,i<3→U5 (Z1 E) (i*1)=L.length)(hm:M.length=L.length)(hl:∀ b,b<L.length→Y2 100 (cR L) b)(hc:∀ i,i<3→∀ b,b<L.length→Y2 100 (X7 (Z1 E) (i*1)) b)(hm1:∀ b,b<L.length → -1000≤Z9 (cI M) (b*1)∧Z9 (cI M) (b*1)≤1000)(v:BaseW)(eb:Nat→Option Nat)(ec:Nat→Nat)(hs:List Nat):Y4 Try.prog 86 c06 ((b1f E L M y yl z)) (BaseW.H (bw v 0 eb ec) hs) (R7 Try.prog Try.f59 86 ((.sl 0 0 3 3)) [(M1 E L M)] (bw v 0 eb ec)):=by
 exact Hd.goes_seqA (by kernel_rfl) (c5O y E yl L z M hn8 hE3 hrow hm hl hc hm1 v eb ec hs)
theorem c6w(y:Value)(E:List (Value×List (Int×Int)))(yl:Value)(L:List (Int×Int))(z:Value)(M:List Int)(hn8:L.length≤8)(hE3:E.length=3)(hrow:∀ i,i<3→U5 (Z1 E) (i*1)=L.length)(hm:M.length=L.length)(hl:∀ b,b<L.length→Y2 100 (cR L) b)(hc:∀ i,i<3→∀ b,b<L.length→Y2 100 (X7 (Z1 E) (i*1)) b)(hm1:∀ b,b<L.length → -1000≤Z9 (cI M) (b*1)∧Z9 (cI M) (b*1)≤1000)(v:BaseW)(eb:Nat→Option Nat)(ec:Nat→Nat)(hs:List Nat):Y4 Try.prog 86 c2v ((b5M E L M y yl z)) (BaseW.H (bw v 0 eb ec) hs) (R7 Try.prog Try.f59 86 ((.sl 0 0 3 3)) [(M1 E L M)] (bw v 0 eb ec)):=by
 have hcl_L:=Y6 L
 have hcl_M:=Z3 M
 refine Hd.goes_seqA (by kernel_rfl) ?_
 exact Z8 V0 (Z7 Try.checked.mixed (Z5) 200 (T':=(b1f E L M y yl z)) (e:=.normal) (ps:=[]) [.go,.go] (by kernel_rfl) (by kernel_rfl) trivial rfl) (Hd.en_n (c71 y E yl L z M hn8 hE3 hrow hm hl hc hm1 v eb ec hs))
theorem c6B(y:Value)(E:List (Value×List (Int×Int)))(yl:Value)(L:List (Int×Int))(z:Value)(M:List Int)(hn8:L.length≤8)(hE3:E.length=3)(hrow:∀ i,i<3→U5 (Z1 E) (i*1)=L.length)(hm:M.length=L.length)(hl:∀ b,b<L.length→Y2 100 (cR L) b)(hc:∀ i,i<3→∀ b,b<L.length→Y2 100 (X7 (Z1 E) (i*1)) b)(hm1:∀ b,b<L.length → -1000≤Z9 (cI M) (b*1)∧Z9 (cI M) (b*1)≤1000)(v:BaseW)(eb:Nat→Option Nat)(ec:Nat→Nat)(hs:List Nat):Y4 Try.prog 86 c3u (⟨[(0,(.agg [.xl y E.length 1 (Z1 E),.xl yl L.length 2 (cR L)])),(1,(.xl z M.length 1 (cI M)))],[],0,[]⟩) (BaseW.H (bw v 0 eb ec) hs) (R7 Try.prog Try.f59 86 ((.sl 0 0 3 3)) [(M1 E L M)] (bw v 0 eb ec)):=by
 have hcl_L:=Y6 L
 have hcl_M:=Z3 M
 refine Hd.goes_seqA (by kernel_rfl) ?_
 exact Z8 V0 (Z7 Try.checked.mixed (Z5) 200 (T':=(b5M E L M y yl z)) (e:=.normal) (ps:=[]) [.go,.go] (by kernel_rfl) (by kernel_rfl) trivial rfl) (Hd.en_n (c6w y E yl L z M hn8 hE3 hrow hm hl hc hm1 v eb ec hs))
theorem c6u(y:Value)(E:List (Value×List (Int×Int)))(yl:Value)(L:List (Int×Int))(z:Value)(M:List Int)(hn8:L.length≤8)(hE3:E.length=3)(hrow:∀ i,i<3→U5 (Z1 E) (i*1)=L.length)(hm:M.length=L.length)(hl:∀ b,b<L.length→Y2 100 (cR L) b)(hc:∀ i,i<3→∀ b,b<L.length→Y2 100 (X7 (Z1 E) (i*1)) b)(hm1:∀ b,b<L.length → -1000≤Z9 (cI M) (b*1)∧Z9 (cI M) (b*1)≤1000):G7 Try.prog 59 [(.agg [.xl y E.length 1 (Z1 E),.xl yl L.length 2 (cR L)]),(.xl z M.length 1 (cI M))] [] ((.sl 0 0 3 3)) [(M1 E L M)] :=
 R0 86 (by kernel_rfl) Try.func59 (by kernel_rfl) (by kernel_rfl) (by kernel_rfl) (fun v eb ec=>W2 (by kernel_rfl) (by kernel_rfl) (by kernel_rfl) (by kernel_rfl) (c6B y E yl L z M hn8 hE3 hrow hm hl hc hm1 v eb ec []))
end
end Go.Proofs.Ytegmogadbnfbgaa
set_option linter.all false
/- What is known of spans. -/
namespace Go.Proofs.Ytegmogadbnfbgaa
open Go Ev
noncomputable section
def m7(k:Nat):Prop:=k=1
def c22(cE cL cM:List AV)(n:Nat):Prop:=(∀ i,i<3→U5 cE (i*1)=n)∧(∀ b,b<n→Y2 100 cL b)∧(∀ i,i<3→∀ b,b<n→Y2 100 (X7 cE (i*1)) b)∧(∀ b,b<n → -1000≤Z9 cM (b*1)∧Z9 cM (b*1)≤1000)
end
end Go.Proofs.Ytegmogadbnfbgaa
set_option linter.all false
/- Mathematics of two chips. -/
namespace Go.Proofs.Ytegmogadbnfbgaa
open Go Ev
noncomputable section
section
variable (E : List (Value × List (Int × Int))) (K : List Int) (L : List (Int × Int)) (M : List Int) (X : List (Value × List Int)) (Y : List Int) (q0 q1 u ul y yl z zk : Value)
@[reducible] def b62:Ev.AB:=(.cells [.xl y E.length 1 (Z1 E),.xl yl L.length 2 (cR L),(.fn (.func 82) [] [.xp q0 1 1 [.xl z M.length 1 (cI M)] 0,.xp q1 1 1 [.xl zk K.length 1 (cI K)] 0])] 85)
@[reducible] def b75:Ev.AB:=(.cells [.xl u X.length 1 (Y0 X),.xl ul Y.length 1 (cI Y)] 29)
end
def dfF(c d:List AV)(b:Nat):Int:=Z9 c (b*1) - Z9 d (b*1)
def Y7(c d:List AV)(n:Nat):List AV:=cI (tI (dfF c d) n)
theorem a58{c d:List AV}{n b:Nat}(h:b<n):Z9 (Y7 c d n) (b*1)=Z9 c (b*1) - Z9 d (b*1):=by
 unfold Y7
 rw [Nat.mul_one,u6 h]
 unfold dfF
 rw [Nat.mul_one]
theorem b5T{cX cY c d:List AV}{n i b:Nat}(h:b<n):R5 cX cY (Y7 c d n) i b=Z9 (X7 cX (i*1)) (b*1)*Z9 cY (b*1)*(Z9 c (b*1) - Z9 d (b*1)):=by
 unfold R5
 rw [a58 h]
theorem a5x{c m k:List AV}{g:Bool}{b n:Nat}(hb:b<n)(h:(g == X8 0 (Z9 m (b*1) - Z9 k (b*1)))=true):W8 c (Y7 m k n) g b=Z9 c (b*2+1):=a34 (by rw [a58 hb];exact h)
theorem a8W{c m k:List AV}{g:Bool}{b n:Nat}(hb:b<n)(h:¬ (g == X8 0 (Z9 m (b*1) - Z9 k (b*1)))=true):W8 c (Y7 m k n) g b=Z9 c (b*2+0):=a6j (by rw [a58 hb];exact h)
theorem b6q{g:Fn}{l:List AV}(h:W9 l):W9 [.fn g [] l]:=fun σ τ hb x e=>by
 simp only [denL,den] at e ⊢
 cases h1:denL σ l with
 |none=>rw [h1] at e;cases e
 |some us =>
  rw [h1] at e
  rw [h σ τ hb us h1]
  exact e
theorem P6{y:Value}{n k i:Nat}{c:List AV}(h:W9 c):W9 [.xp y n k c i]:=fun σ τ hb x e=>by
 simp only [denL,den] at e ⊢
 cases h1:denL σ c with
 |none=>rw [h1] at e;cases e
 |some us =>
  rw [h1] at e
  rw [h σ τ hb us h1,hb]
  exact e
def a4m(n k i:Nat):Prop:=n=1∧k=1∧i=0
def b7Z(k3 m k4 q k5 r k6 s:Nat)(cX cY cM cK:List AV)(n:Nat):Prop:=∃ (X:List (Value×List Int)) (Y M K:List Int),(k3=1∧cX=Y0 X∧m=X.length)∧(k4=1∧cY=cI Y∧q=Y.length)∧(k5=1∧cM=cI M∧r=M.length)∧(k6=1∧cK=cI K∧s=K.length)∧X.length=3∧(∀ i,i<3→U5 (Y0 X) (i*1)=n)∧Y.length=n∧M.length=n∧K.length=n∧(∀ i,i<3→∀ b,b<n→0≤Z9 (X7 (Y0 X) (i*1)) (b*1)∧Z9 (X7 (Y0 X) (i*1)) (b*1)≤100)∧(∀ b,b<n→0≤Z9 (cI Y) (b*1)∧Z9 (cI Y) (b*1)≤100)∧(∀ b,b<n → -1000≤Z9 (cI M) (b*1) - Z9 (cI K) (b*1)∧Z9 (cI M) (b*1) - Z9 (cI K) (b*1)≤1000)
noncomputable def c7d:Code:=R8 Try.f80
set_option maxHeartbeats 2000000 in
theorem c7i(y:Value)(E:List (Value×List (Int×Int)))(yl:Value)(L:List (Int×Int))(u:Value)(X:List (Value×List Int))(ul:Value)(Y:List Int)(q0 z:Value)(M:List Int)(q1 zk:Value)(K:List Int)(n c b:Nat)(hx3:X.length=3)(hxr:∀ i,i<3→U5 (Y0 X) (i*1)=n)(hy:Y.length=n)(hm:M.length=n)(hk:K.length=n)(hx1:∀ i,i<3→∀ b,b<n→0≤Z9 (X7 (Y0 X) (i*1)) (b*1)∧Z9 (X7 (Y0 X) (i*1)) (b*1)≤100)(hy1:∀ b,b<n→0≤Z9 (cI Y) (b*1)∧Z9 (cI Y) (b*1)≤100)(hm1:∀ b,b<n → -1000≤Z9 (cI M) (b*1) - Z9 (cI K) (b*1)∧Z9 (cI M) (b*1) - Z9 (cI K) (b*1)≤1000)(hc:c<3)(hb:b<n)(v:BaseW)(eb:Nat→Option Nat)(ec:Nat→Nat)(hs:List Nat):Y4 Try.prog 26 c7d (⟨[(0,(.v (.int .i64 c))),(1,(.v (.int .i64 b))),(2,(.ptr 0 0)),(3,(.ptr 1 0))],[],2,[(0,(b75 X Y u ul)),(1,(b62 E K L M q0 q1 y yl z zk))]⟩) (BaseW.H (bw v 2 eb ec) hs) (b3t Try.prog Try.f80 26 (.int .i64 (R5 (Y0 X) (cI Y) (Y7 (cI M) (cI K) n) c b)) [(b75 X Y u ul),(b62 E K L M q0 q1 y yl z zk)] (bw v 2 eb ec)):=by
 have hcl_L:=Y6 L
 have hcl_Y:=Z3 Y
 have hcl_M:=Z3 M
 have hcl_K:=Z3 K
 exact Z8 W1 (Z7 Try.checked.mixed (Z5) 200 (T':=⟨[(6,(.v (.int .i64 (Z9 (X7 (Y0 X) (c*1)) (b*1)*Z9 (cI Y) (b*1)*(Z9 (cI M) (b*1) - Z9 (cI K) (b*1))))))],[],2,[(0,(.cells [(.xl (u) (X.length) 1 (Y0 X)),(.xl (ul) (Y.length) 1 (cI Y))] 29)),(1,(.cells [(.xl (y) (E.length) 1 (Z1 E)),(.xl (yl) (L.length) 2 (cR L)),(.fn (.func 82) [] [(AV.xp q0 1 1 [AV.xl z M.length 1 (cI M)] 0),(AV.xp q1 1 1 [AV.xl zk K.length 1 (cI K)] 0)])] 85))]⟩) (e:=.ret) (ps:=[c<X.length,W7 Try.prog (Y0 X) (c*1) 27=some (AV.xl (xlY (Y0 X) (c*1)) (U5 (Y0 X) (c*1)) 1 (X7 (Y0 X) (c*1))),b<U5 (Y0 X) (c*1),W7 Try.prog (X7 (Y0 X) (c*1)) (b*1) 2=some (AV.v (Value.int IntKind.i64 (Z9 (X7 (Y0 X) (c*1)) (b*1)))),b<Y.length,W7 Try.prog (cI Y) (b*1) 2=some (AV.v (Value.int IntKind.i64 (Z9 (cI Y) (b*1)))),O8 IntKind.i64 (Z9 (X7 (Y0 X) (c*1)) (b*1)*Z9 (cI Y) (b*1)),b<M.length,W7 Try.prog (cI M) (b*1) 2=some (AV.v (Value.int IntKind.i64 (Z9 (cI M) (b*1)))),b<K.length,W7 Try.prog (cI K) (b*1) 2=some (AV.v (Value.int IntKind.i64 (Z9 (cI K) (b*1)))),O8 IntKind.i64 (Z9 (cI M) (b*1) - Z9 (cI K) (b*1)),O8 IntKind.i64 (Z9 (X7 (Y0 X) (c*1)) (b*1)*Z9 (cI Y) (b*1)*(Z9 (cI M) (b*1) - Z9 (cI K) (b*1)))]) [.go,.go,.go,.go,.sym,.sym,.go,.sym,.sym,.go,.go,.go,.sym,.sym,.go,.go,.go,.go,.go,.go,.go,.go,.go,.go,.sym,.sym,.go,.go,.go,.go,.go,.go,.sym,.sym,.go,.go,.go,.go,.go] (by kernel_rfl) (by kernel_rfl) ⟨(by omega),(by rw [Nat.mul_one];exact J1 (by omega) 27 (Try.underlying27) rfl),(by rw [hxr c hc];exact hb),(by have h8:=hxr c hc;obtain ⟨-,L9,e9,n9⟩:=s4 (R:=X) (i:=c) (by omega);rw [e9,Nat.mul_one];exact U4 (by omega) 2 (Try.underlying2) rfl),(by omega),(by rw [Nat.mul_one];exact U4 (show _<Y.length by omega) 2 (Try.underlying2) rfl),(by have h9:=B5 (hx1 c hc b hb) (hy1 b hb) (hm1 b hb);have h8:=hm1 b hb;show -9223372036854775808≤_∧_≤9223372036854775807;constructor<;>omega),(by omega),(by rw [Nat.mul_one];exact U4 (show _<M.length by omega) 2 (Try.underlying2) rfl),(by omega),(by rw [Nat.mul_one];exact U4 (show _<K.length by omega) 2 (Try.underlying2) rfl),(by have h9:=B5 (hx1 c hc b hb) (hy1 b hb) (hm1 b hb);have h8:=hm1 b hb;show -9223372036854775808≤_∧_≤9223372036854775807;constructor<;>omega),(by have h9:=B5 (hx1 c hc b hb) (hy1 b hb) (hm1 b hb);have h8:=hm1 b hb;show -9223372036854775808≤_∧_≤9223372036854775807;constructor<;>omega),trivial⟩ rfl) (c1o (r:=(.int .i64 (Z9 (X7 (Y0 X) (c*1)) (b*1)*Z9 (cI Y) (b*1)*(Z9 (cI M) (b*1) - Z9 (cI K) (b*1))))) (by (rw [b5T hb])) (b7W (v:=(.v (.int .i64 (Z9 (X7 (Y0 X) (c*1)) (b*1)*Z9 (cI Y) (b*1)*(Z9 (cI M) (b*1) - Z9 (cI K) (b*1)))))) (by kernel_rfl) (by kernel_rfl) rfl (.inr rfl)))
theorem c6Z(y:Value)(E:List (Value×List (Int×Int)))(yl:Value)(L:List (Int×Int))(u:Value)(X:List (Value×List Int))(ul:Value)(Y:List Int)(q0 z:Value)(M:List Int)(q1 zk:Value)(K:List Int)(n c b:Nat)(hx3:X.length=3)(hxr:∀ i,i<3→U5 (Y0 X) (i*1)=n)(hy:Y.length=n)(hm:M.length=n)(hk:K.length=n)(hx1:∀ i,i<3→∀ b,b<n→0≤Z9 (X7 (Y0 X) (i*1)) (b*1)∧Z9 (X7 (Y0 X) (i*1)) (b*1)≤100)(hy1:∀ b,b<n→0≤Z9 (cI Y) (b*1)∧Z9 (cI Y) (b*1)≤100)(hm1:∀ b,b<n → -1000≤Z9 (cI M) (b*1) - Z9 (cI K) (b*1)∧Z9 (cI M) (b*1) - Z9 (cI K) (b*1)≤1000)(hc:c<3)(hb:b<n):b11 Try.prog 80 [(.v (.int .i64 c)),(.v (.int .i64 b)),(.ptr 0 0),(.ptr 1 0)] [(b75 X Y u ul),(b62 E K L M q0 q1 y yl z zk)] (.int .i64 (R5 (Y0 X) (cI Y) (Y7 (cI M) (cI K) n) c b)) :=
 a8c 26 Try.func80 (by kernel_rfl) (by kernel_rfl) (by kernel_rfl) (fun v eb ec=>W2 (by kernel_rfl) (by kernel_rfl) (by kernel_rfl) (by kernel_rfl) (c7i y E yl L u X ul Y q0 z M q1 zk K n c b hx3 hxr hy hm hk hx1 hy1 hm1 hc hb v eb ec []))
end
end Go.Proofs.Ytegmogadbnfbgaa
set_option maxHeartbeats 4000000
set_option linter.all false
/- What is known of the product of two chips. -/
namespace Go.Proofs.Ytegmogadbnfbgaa
open Go Ev
noncomputable section
section
variable (E : List (Value × List (Int × Int))) (K : List Int) (L : List (Int × Int)) (M : List Int) (X : List (Value × List Int)) (Y : List Int) (i : Nat) (q0 q1 u ul y yl z zk : Value)
@[reducible] def a8y:Ev.AB:=(.cells [(.xl (u) (X.length) 1 (Y0 X)),(.xl (ul) (Y.length) 1 (cI Y))] 29)
@[reducible] def S5:Nat×Ev.AB:=(0,(a8y X Y u ul))
@[reducible] def a1E:Ev.AB:=(.cells [(.xl (y) (E.length) 1 (Z1 E)),(.xl (yl) (L.length) 2 (cR L)),(.fn (.func 82) [] [(AV.xp q0 1 1 [AV.xl z M.length 1 (cI M)] 0),(AV.xp q1 1 1 [AV.xl zk K.length 1 (cI K)] 0)])] 85)
@[reducible] def S7:Nat×Ev.AB:=(1,(a1E E K L M q0 q1 y yl z zk))
@[reducible] def S0:Nat×Ev.AB:=(2,(a1E E K L M q0 q1 y yl z zk))
@[reducible] def b4t:Ev.AB:=(.cells [(.fn (.func 80) [] [(.ptr 0 0),(.ptr 1 0)])] 116)
@[reducible] def S1:Nat×Ev.AB:=(3,b4t)
@[reducible] def b0p:Ev.AB:=(.cells [(.v (.int .i64 (.ofNat 0))),(.v (.int .i64 (.ofNat 0))),(.v (.int .i64 (.ofNat 0)))] 82)
@[reducible] def S3:Nat×Ev.AB:=(4,b0p)
@[reducible] def t9:Nat×Ev.AB:=(5,(.cells (cI (tI (s6 (R5 (Y0 X) (cI Y) (Y7 (cI M) (cI K) L.length)) L.length i) 3)) 82))
@[reducible] def H0:Nat×Ev.AB:=(6,(.cells [(.v (.int .i64 i))] 3))
@[reducible] def b1d:Nat×Ev.AB:=(7,(a1E E K L M q0 q1 y yl z zk))
@[reducible] def a74:Ev.Lit:=⟨[(2,(.ptr 2 0)),(3,(.ptr 3 0)),(4,(.ptr 4 0)),(5,(.ptr 5 0)),(6,(.ptr 6 0)),(8,(.v (.int .i64 i))),(12,(.fn (.func 93) [] [(.ptr 7 0)]))],[],8,[(S5 X Y u ul),(S7 E K L M q0 q1 y yl z zk),(S0 E K L M q0 q1 y yl z zk),S1,S3,(t9 K L M X Y i),(H0 i),(b1d E K L M q0 q1 y yl z zk)]⟩
@[reducible] def b7c:Ev.AB:=(.cells (cI (tI (thB (R5 (Y0 X) (cI Y) (Y7 (cI M) (cI K) L.length)) L.length i L.length) 3)) 82)
@[reducible] def a6q:Nat×Ev.AB:=(5,(b7c K L M X Y i))
@[reducible] def b8r:Ev.Lit:=⟨[(2,(.ptr 2 0)),(3,(.ptr 3 0)),(4,(.ptr 4 0)),(5,(.ptr 5 0)),(6,(.ptr 6 0)),(8,(.v (.int .i64 i)))],[],7,[(S5 X Y u ul),(S7 E K L M q0 q1 y yl z zk),(S0 E K L M q0 q1 y yl z zk),S1,S3,(t9 K L M X Y i),(H0 i)]⟩
@[reducible] def b97:Ev.Lit:=⟨[(2,(.ptr 2 0)),(3,(.ptr 3 0)),(4,(.ptr 4 0)),(5,(.ptr 5 0)),(8,(.v (.int .i64 i))),(9,(.v (.bool (X8 i 3))))],[],6,[(S5 X Y u ul),(S7 E K L M q0 q1 y yl z zk),(S0 E K L M q0 q1 y yl z zk),S1,S3,(t9 K L M X Y i)]⟩
@[reducible] def b8D:Ev.Lit:=⟨[(2,(.ptr 2 0)),(3,(.ptr 3 0)),(4,(.ptr 4 0)),(5,(.ptr 5 0)),(8,(.v (.int .i64 i)))],[8],10,[(S5 X Y u ul),(S7 E K L M q0 q1 y yl z zk),(S0 E K L M q0 q1 y yl z zk),S1,S3,(a6q K L M X Y i),(8,(.defd .true))]⟩
@[reducible] def b99:Ev.Lit:=⟨[(2,(.ptr 2 0)),(3,(.ptr 3 0)),(4,(.ptr 4 0)),(5,(.ptr 5 0)),(8,(.v (.int .i64 (((i+1):Nat):Int))))],[],6,[(S5 X Y u ul),(S7 E K L M q0 q1 y yl z zk),(S0 E K L M q0 q1 y yl z zk),S1,S3,(a6q K L M X Y i)]⟩
@[reducible] def b8L:Ev.Lit:=⟨[(2,(.ptr 2 0)),(3,(.ptr 3 0)),(4,(.ptr 4 0)),(5,(.ptr 5 0)),(8,(.v (.int .i64 i)))],[],8,[(S5 X Y u ul),(S7 E K L M q0 q1 y yl z zk),(S0 E K L M q0 q1 y yl z zk),S1,S3,(a6q K L M X Y i)]⟩
@[reducible] def a3c:Nat×Ev.AV:=(8,(.v (.int .i64 (.ofNat 0))))
@[reducible] def b6L:Nat×Ev.AB:=(5,b0p)
@[reducible] def b33:Ev.Lit:=⟨[(2,(.ptr 2 0)),(3,(.ptr 3 0)),(4,(.ptr 4 0)),(5,(.ptr 5 0)),a3c],[],6,[(S5 X Y u ul),(S7 E K L M q0 q1 y yl z zk),(S0 E K L M q0 q1 y yl z zk),S1,S3,b6L]⟩
@[reducible] def b2M:Ev.Lit:=⟨[(2,(.ptr 2 0)),(3,(.ptr 3 0)),(4,(.ptr 4 0)),(5,(.ptr 5 0)),(8,(.v (.int .i64 i)))],[],6,[(S5 X Y u ul),(S7 E K L M q0 q1 y yl z zk),(S0 E K L M q0 q1 y yl z zk),S1,S3,(t9 K L M X Y i)]⟩
@[reducible] def b0U:Ev.Lit:=⟨[(2,(.ptr 2 0)),(3,(.ptr 3 0)),(4,(.ptr 4 0)),(5,(.ptr 5 0))],[],6,[(S5 X Y u ul),(S7 E K L M q0 q1 y yl z zk),(S0 E K L M q0 q1 y yl z zk),S1,S3,b6L]⟩
@[reducible] def b6f:Ev.Lit:=⟨[(2,(.ptr 2 0)),(3,(.ptr 3 0)),(4,(.ptr 4 0))],[],5,[(S5 X Y u ul),(S7 E K L M q0 q1 y yl z zk),(S0 E K L M q0 q1 y yl z zk),S1,S3]⟩
@[reducible] def b5L:Ev.Lit:=⟨[(4,(.ptr 4 0)),(5,(.ptr 5 0))],[],6,[(S5 X Y u ul),(S7 E K L M q0 q1 y yl z zk),S3,(5,(.cells (cI (tI (s6 (R5 (Y0 X) (cI Y) (Y7 (cI M) (cI K) L.length)) L.length (3)) 3)) 82))]⟩
@[reducible] def b6x:Ev.AB:=(.cells [(.v (.int .i64 (Z9 (cI (tI (s6 (R5 (Y0 X) (cI Y) (Y7 (cI M) (cI K) L.length)) L.length 3) 3)) 0))),(.v (.int .i64 (Z9 (cI (tI (s6 (R5 (Y0 X) (cI Y) (Y7 (cI M) (cI K) L.length)) L.length 3) 3)) (0+1)))),(.v (.int .i64 (Z9 (cI (tI (s6 (R5 (Y0 X) (cI Y) (Y7 (cI M) (cI K) L.length)) L.length 3) 3)) (0+1+1))))] 82)
@[reducible] def b5G:List Ev.AV:=[.xl y E.length 1 (Z1 E),.xl yl L.length 2 (cR L),(.fn (.func 82) [] [.xp q0 1 1 [.xl z M.length 1 (cI M)] 0,.xp q1 1 1 [.xl zk K.length 1 (cI K)] 0])]
@[reducible] def K0:Ev.AB:=(.cells (b5G E K L M q0 q1 y yl z zk) 85)
@[reducible] def b7b:Ev.AV:=(.agg (b5G E K L M q0 q1 y yl z zk))
@[reducible] def b6X:List Ev.AV:=[.xl u X.length 1 (Y0 X),.xl ul Y.length 1 (cI Y)]
@[reducible] def J8:Ev.AB:=(.cells (b6X X Y u ul) 29)
@[reducible] def u9:Nat×Ev.AV:=(7,(.v (.int .i64 L.length)))
end
theorem b1z{y yl q0 z q1 zk:Value}{f:FuncId}{t2:TypeId}(E:List (Value×List (Int×Int)))(L:List (Int×Int))(M K:List Int):a2y (AB.cells [.xl y E.length 1 (Z1 E),.xl yl L.length 2 (cR L),.fn (.func f) [] [.xp q0 1 1 [.xl z M.length 1 (cI M)] 0,.xp q1 1 1 [.xl zk K.length 1 (cI K)] 0]] t2):=v8 (y7 (V4 (X6 E)) (y7 (V4 (Z4 (X4 L))) (b6q (y7 (P6 (V4 (Z4 (Z2 M)))) (P6 (V4 (Z4 (Z2 K))))))))
theorem a3L{u ul y yl q0 z q1 zk:Value}{f:FuncId}{t1 t2:TypeId}(X:List (Value×List Int))(Y:List Int)(E:List (Value×List (Int×Int)))(L:List (Int×Int))(M K:List Int):∀ x,x∈[AB.cells (b6X X Y u ul) t1,AB.cells [.xl y E.length 1 (Z1 E),.xl yl L.length 2 (cR L),.fn (.func f) [] [.xp q0 1 1 [.xl z M.length 1 (cI M)] 0,.xp q1 1 1 [.xl zk K.length 1 (cI K)] 0]] t2]→a2y x:=fun x hx=>by
 rcases List.mem_cons.1 hx with rfl|hx
 ·exact v8 (y7 (V4 (B4 X)) (V4 (Z4 (Z2 Y))))
 ·rw [List.mem_singleton.1 hx]
  exact b1z E L M K
def pdS:List AV→List AB→Option (Value×List Prop):=fun args xs =>
 match args with
 |[.v vc,.v vb,p,q]=>match a8n vc,a8n vb,b3b p 0,b3b q 1,xs with
  |some c,some b,true,true,[.cells l1 t1,.cells l2 t2]=>match l1,l2 with
   |[.xl u m k3 cX,.xl ul j k4 cY],[.xl y me k1 cE,.xl yl n k2 cL,.fn (.func f) lz lc]=>match lz,lc,Nat.beq f 82 with
    |[],[.xp q0 a1 a2 d0 a3,.xp q1 b1 b2 d1 b3],true=>match d0,d1 with
     |[.xl z r k5 cM],[.xl zk s k6 cK]=>some (.int .i64 (R5 cX cY (Y7 cM cK n) c.toNat b.toNat),[b2d t1,b27 t2,V5 k1 cE me,Y5 k2 n cL,b7Z k3 m k4 j k5 r k6 s cX cY cM cK n,a4m a1 a2 a3,a4m b1 b2 b3,0≤c∧c<3,0≤b∧b.toNat<n])
     |_,_=>none
    |_,_,_=>none
   |_,_=>none
  |_,_,_,_,_=>none
 |_=>none
def pdO:R6:=b7R 80 pdS
theorem J3:Known Try.prog (clsO pdO):=b7G (fun args xs r ps h hp=>by
 unfold pdS at h
 split at h
 ·split at h
  ·rename_i c b l1 t1 l2 t2 e1 e2 e3 e4
   split at h
   ·split at h
    ·rename_i e5
     split at h
     ·cases h
      obtain ⟨rfl,rfl,⟨rfl,E,rfl,rfl⟩,⟨rfl,L,rfl,rfl⟩,⟨X,Y,M,K,⟨rfl,rfl,rfl⟩,⟨rfl,rfl,rfl⟩,⟨rfl,rfl,rfl⟩,⟨rfl,rfl,rfl⟩,h1,h2,h3,h4,h4',h5,h6,h7⟩,⟨rfl,rfl,rfl⟩,⟨rfl,rfl,rfl⟩,hc,hb,-⟩:=hp
      rw [a09 e1,a09 e2,a4D e3,a4D e4,Nat.eq_of_beq_eq_true e5]
      obtain ⟨c,rfl⟩:∃ k:Nat,c=((k:Nat):Int):=⟨c.toNat,by omega⟩
      obtain ⟨b,rfl⟩:∃ k:Nat,b=((k:Nat):Int):=⟨b.toNat,by omega⟩
      exact ⟨fun x hx=>⟨a3L X Y E L M K x hx,by rcases List.mem_cons.1 hx with rfl|hx;exact a5B;rw [List.mem_singleton.1 hx];exact a5B⟩,c6Z _ E _ L _ X _ Y _ _ M _ _ K L.length c b h1 h2 h3 h4 h4' h5 h6 h7 (by omega) hb.2⟩
     ·cases h
    ·cases h
   ·cases h
  ·cases h
 ·cases h)
noncomputable def c3a:Code:=R8 Try.f79
noncomputable def c4l:Code:=N4 c3a
noncomputable def c1P:Code:=N4 c4l
noncomputable def a1Q:Code:=N4 c1P
noncomputable def b8C:Code:=(m9 c1P)
noncomputable def b6m:Code:=N4 b8C
noncomputable def b9c:Code:=L2 b6m
noncomputable def b8j:Code:=N4 b9c
noncomputable def b1Z:Code:=N4 b8j
noncomputable def a45:Code:=N4 b1Z
noncomputable def b9e:Code:=a6I (m9 b1Z)
noncomputable def b83:Code:=N4 b9e
noncomputable def b4K:Code:=N4 b83
noncomputable def R1:Code:=a6I b4K
section
variable (E : List (Value × List (Int × Int))) (K : List Int) (L : List (Int × Int)) (M : List Int) (X : List (Value × List Int)) (Y : List Int) (eb : Nat → Option Nat) (ec : Nat → Nat) (i : Nat) (q0 q1 u ul : Value) (v : BaseW) (y yl z zk : Value)
@[reducible] def b8N:=(a55 16 (fun _:Unit=>((⟨[],[],10,9,[(3,(.ptr 3 0)),(5,(.ptr 5 0)),(6,(.ptr 6 0))],[(S5 X Y u ul),(S7 E K L M q0 q1 y yl z zk),(S0 E K L M q0 q1 y yl z zk),S1,S3,(a6q K L M X Y i),(H0 i),(8,(.defd .true))],.ready,none,25,z7 R1,z9 R1,z8 R1,8⟩:Ev.Lit1)).lit) (fun _:Unit=>True) (bw v 10 eb ec))
end
noncomputable def b43:Code:=R8 Try.f93
noncomputable def b6e:Code:=N4 b43
noncomputable def c1v:Code:=L2 b6e
theorem c0h(y:Value)(E:List (Value×List (Int×Int)))(yl:Value)(L:List (Int×Int))(u:Value)(X:List (Value×List Int))(ul:Value)(Y:List Int)(q0 z:Value)(M:List Int)(q1 zk:Value)(K:List Int)(hn8:L.length≤8)(hx3:X.length=3)(hxr:∀ i,i<3→U5 (Y0 X) (i*1)=L.length)(hy:Y.length=L.length)(hm:M.length=L.length)(hk:K.length=L.length)(hx1:∀ i,i<3→∀ b,b<L.length→0≤Z9 (X7 (Y0 X) (i*1)) (b*1)∧Z9 (X7 (Y0 X) (i*1)) (b*1)≤100)(hy1:∀ b,b<L.length→0≤Z9 (cI Y) (b*1)∧Z9 (cI Y) (b*1)≤100)(hm1:∀ b,b<L.length → -1000≤Z9 (cI M) (b*1) - Z9 (cI K) (b*1)∧Z9 (cI M) (b*1) - Z9 (cI K) (b*1)≤1000)(i:Nat)(hi1:i≤3)(hi2:True)(hqsd23_1:(X8 i 3)=true)(v:BaseW)(eb:Nat→Option Nat)(ec:Nat→Nat):Y4 Try.prog 16 b6e ((⟨[(0,(.yld 9)),(u9 L),a3c],[],10,9,[(3,(.ptr 3 0)),(5,(.ptr 5 0)),(6,(.ptr 6 0))],[(S5 X Y u ul),(S7 E K L M q0 q1 y yl z zk),(S0 E K L M q0 q1 y yl z zk),S1,S3,(t9 K L M X Y i),(H0 i),(8,(.defd .true))],.ready,none,25,z7 R1,z9 R1,z8 R1,8⟩:Ev.Lit1).lit) (bw v 10 eb ec) (b8N E K L M X Y eb ec i q0 q1 u ul v y yl z zk):=by
 have hcl_L:=Y6 L
 have hcl_Y:=Z3 Y
 have hcl_M:=Z3 M
 have hcl_K:=Z3 K
 have ghqsd23_1:=Y1 hqsd23_1
 refine W2 (T':=(⟨[(0,(.yld 9)),(u9 L),a3c],[],10,9,[(3,(.ptr 3 0)),(5,(.ptr 5 0)),(6,(.ptr 6 0))],[(S5 X Y u ul),(S7 E K L M q0 q1 y yl z zk),(S0 E K L M q0 q1 y yl z zk),S1,S3,(t9 K L M X Y i),(H0 i),(8,(.defd .true))],.ready,none,25,z7 R1,z9 R1,z8 R1,8⟩:Ev.Lit1).lit) (by kernel_rfl) (by kernel_rfl) (by kernel_rfl) (by kernel_rfl) (a6f (ι:={j:Nat // j≤L.length∧True}) (T:=(fun j:{j:Nat // j≤L.length∧True}=>(⟨[(0,(.yld 9)),(u9 L),(8,(.v (.int .i64 j.1)))],[],10,9,[(3,(.ptr 3 0)),(5,(.ptr 5 0)),(6,(.ptr 6 0))],[(S5 X Y u ul),(S7 E K L M q0 q1 y yl z zk),(S0 E K L M q0 q1 y yl z zk),S1,S3,(5,(.cells (cI (tI (thB (R5 (Y0 X) (cI Y) (Y7 (cI M) (cI K) L.length)) L.length i j.1) 3)) 82)),(H0 i),(8,(.defd .true))],.ready,none,25,z7 R1,z9 R1,z8 R1,8⟩:Ev.Lit1).lit)) (R:=(fun j:{j:Nat // j≤L.length∧True}=>L.length≤j.1)) (by kernel_rfl) (b0m (show ((⟨[(0,(.yld 9)),(u9 L),a3c],[],10,9,[(3,(.ptr 3 0)),(5,(.ptr 5 0)),(6,(.ptr 6 0))],[(S5 X Y u ul),(S7 E K L M q0 q1 y yl z zk),(S0 E K L M q0 q1 y yl z zk),S1,S3,(t9 K L M X Y i),(H0 i),(8,(.defd .true))],.ready,none,25,z7 R1,z9 R1,z8 R1,8⟩:Ev.Lit1).lit:Ev.Lit)=(⟨[(0,(.yld 9)),(u9 L),(8,(.v (.int .i64 0)))],[],10,9,[(3,(.ptr 3 0)),(5,(.ptr 5 0)),(6,(.ptr 6 0))],[(S5 X Y u ul),(S7 E K L M q0 q1 y yl z zk),(S0 E K L M q0 q1 y yl z zk),S1,S3,(5,(.cells (cI (tI (thB (R5 (Y0 X) (cI Y) (Y7 (cI M) (cI K) L.length)) L.length i 0) 3)) 82)),(H0 i),(8,(.defd .true))],.ready,none,25,z7 R1,z9 R1,z8 R1,8⟩:Ev.Lit1).lit from by (rw [a76];rfl)) (a0H (by kernel_rfl) (fun j:{j:Nat // j≤L.length∧True}=>(⟨[(0,(.yld 9)),(u9 L),(8,(.v (.int .i64 j.1)))],[],10,9,[(3,(.ptr 3 0)),(5,(.ptr 5 0)),(6,(.ptr 6 0))],[(S5 X Y u ul),(S7 E K L M q0 q1 y yl z zk),(S0 E K L M q0 q1 y yl z zk),S1,S3,(5,(.cells (cI (tI (thB (R5 (Y0 X) (cI Y) (Y7 (cI M) (cI K) L.length)) L.length i j.1) 3)) 82)),(H0 i),(8,(.defd .true))],.ready,none,25,z7 R1,z9 R1,z8 R1,8⟩:Ev.Lit1).lit) (fun j:{j:Nat // j≤L.length∧True}=>L.length - j.1) (fun i=>?_) ⟨0,Nat.zero_le _,trivial⟩)) (fun ixR hxR=>(fun (j0r:Nat) (h0ra:j0r≤L.length) (h0rb:True) (h0rc:L.length≤j0r)=>⟨(),show True from trivial,(by obtain ⟨i9,q1,q2⟩:=ixR;have h9:L.length≤i9:=hxR;have e:i9=L.length:=(by omega);subst e;exact o0 (by kernel_rfl) (by kernel_rfl) (by kernel_rfl) (by kernel_rfl))⟩) ixR.1 ixR.2.1 ixR.2.2 hxR))
 obtain ⟨j,hi1,hi2⟩:=i
 show Y4 Try.prog 16 c1v ((⟨[(0,(.yld 9)),(u9 L),(8,(.v (.int .i64 j)))],[],10,9,[(3,(.ptr 3 0)),(5,(.ptr 5 0)),(6,(.ptr 6 0))],[(S5 X Y u ul),(S7 E K L M q0 q1 y yl z zk),(S0 E K L M q0 q1 y yl z zk),S1,S3,(5,(.cells (cI (tI (thB (R5 (Y0 X) (cI Y) (Y7 (cI M) (cI K) L.length)) L.length i j) 3)) 82)),(H0 i),(8,(.defd .true))],.ready,none,25,z7 R1,z9 R1,z8 R1,8⟩:Ev.Lit1).lit) (bw v 10 eb ec) (a5R _ _ _ _ _ _ _ _)
 rcases Bool.eq_false_or_eq_true (X8 j L.length) with hl0_1|hl0_1
 ·have ghl0_1:=Y1 hl0_1
  refine Ev.step_on ⟨j+1,by omega,trivial⟩ (by show L.length - (j+1)<L.length - j;omega) ?_
  show Y4 _ _ _ _ _ (G0 _ isN ((⟨[(0,(.yld 9)),(u9 L),(8,(.v (.int .i64 (((j+1):Nat):Int))))],[],10,9,[(3,(.ptr 3 0)),(5,(.ptr 5 0)),(6,(.ptr 6 0))],[(S5 X Y u ul),(S7 E K L M q0 q1 y yl z zk),(S0 E K L M q0 q1 y yl z zk),S1,S3,(5,(.cells (cI (tI (thB (R5 (Y0 X) (cI Y) (Y7 (cI M) (cI K) L.length)) L.length i (j+1)) 3)) 82)),(H0 i),(8,(.defd .true))],.ready,none,25,z7 R1,z9 R1,z8 R1,8⟩:Ev.Lit1).lit) _)
  rw [show ((cI (tI (thB (R5 (Y0 X) (cI Y) (Y7 (cI M) (cI K) L.length)) L.length i (j+1)) 3)):List AV)=(V2 (cI (tI (thB (R5 (Y0 X) (cI Y) (Y7 (cI M) (cI K) L.length)) L.length i j) 3)) (0+i*1) [(.v (.int .i64 (Z9 (cI (tI (thB (R5 (Y0 X) (cI Y) (Y7 (cI M) (cI K) L.length)) L.length i j) 3)) (0+i*1)+R5 (Y0 X) (cI Y) (Y7 (cI M) (cI K) L.length) i j)))]) from by (refine (b0n (i:=i) (j:=j) (by omega) ?_).symm;rw [a8O (i:=i) (by omega)])]
  exact n7 Try.checked.mixed (J3) 200 (T':=(⟨[(0,(.yld 9)),(u9 L),(8,(.v (.int .i64 (((j+1):Nat):Int))))],[],10,9,[(3,(.ptr 3 0)),(5,(.ptr 5 0)),(6,(.ptr 6 0))],[(S5 X Y u ul),(S7 E K L M q0 q1 y yl z zk),(S0 E K L M q0 q1 y yl z zk),S1,S3,(5,(.cells (V2 (cI (tI (thB (R5 (Y0 X) (cI Y) (Y7 (cI M) (cI K) L.length)) L.length i j) 3)) (0+i*1) [(.v (.int .i64 (Z9 (cI (tI (thB (R5 (Y0 X) (cI Y) (Y7 (cI M) (cI K) L.length)) L.length i j) 3)) (0+i*1)+R5 (Y0 X) (cI Y) (Y7 (cI M) (cI K) L.length) i j)))]) 82)),(H0 i),(8,(.defd .true))],.ready,none,25,z7 R1,z9 R1,z8 R1,8⟩:Ev.Lit1)) (e:=.normal) (ps:=[X8 j L.length=true,i<3,W7 Try.prog (cI (tI (thB (R5 (Y0 X) (cI Y) (Y7 (cI M) (cI K) L.length)) L.length i j) 3)) (0+i*1) 2=some (AV.v (Value.int IntKind.i64 (Z9 (cI (tI (thB (R5 (Y0 X) (cI Y) (Y7 (cI M) (cI K) L.length)) L.length i j) 3)) (0+i*1)))),b2d 29,b27 85,V5 1 (Z1 E) E.length,Y5 2 L.length (cR L),b7Z 1 X.length 1 Y.length 1 M.length 1 K.length (Y0 X) (cI Y) (cI M) (cI K) L.length,a4m 1 1 0,a4m 1 1 0,(0:Int)≤((i:Nat):Int)∧((i:Nat):Int)<3,(0:Int)≤((j:Nat):Int)∧j<L.length,O8 IntKind.i64 (Z9 (cI (tI (thB (R5 (Y0 X) (cI Y) (Y7 (cI M) (cI K) L.length)) L.length i j) 3)) (0+i*1)+R5 (Y0 X) (cI Y) (Y7 (cI M) (cI K) L.length) i j),i<3,0+i*1+([(.v (.int .i64 (Z9 (cI (tI (thB (R5 (Y0 X) (cI Y) (Y7 (cI M) (cI K) L.length)) L.length i j) 3)) (0+i*1)+R5 (Y0 X) (cI Y) (Y7 (cI M) (cI K) L.length) i j)))]:List AV).length≤((cI (tI (thB (R5 (Y0 X) (cI Y) (Y7 (cI M) (cI K) L.length)) L.length i j) 3)):List AV).length,(!true)=false,O8 IntKind.i64 (((j:Nat):Int)+1)]) [.go,.b true,.go,.go,.go,.go,.go,.go,.sym,.sym,.go,.go,.go,.go,.sym,.sym,.go,.b false,.go,.go] (by kernel_rfl) (by kernel_rfl) ⟨hl0_1,(by omega),(U4 (by rw [Y9];omega) 2 (Try.underlying2) rfl),rfl,rfl,⟨rfl,E,rfl,rfl⟩,⟨rfl,L,rfl,rfl⟩,⟨X,Y,M,K,⟨rfl,rfl,rfl⟩,⟨rfl,rfl,rfl⟩,⟨rfl,rfl,rfl⟩,⟨rfl,rfl,rfl⟩,hx3,hxr,hy,hm,hk,hx1,hy1,hm1⟩,⟨rfl,rfl,rfl⟩,⟨rfl,rfl,rfl⟩,(by omega),(by omega),(by rw [a8O (by omega)];have h9:=a6r (p:=R5 (Y0 X) (cI Y) (Y7 (cI M) (cI K) L.length) i) (m:=10000000) (n:=j) (fun b hb=>by rw [b5T (by omega)];exact (B5 (hx1 i (by omega) b (by omega)) (hy1 b (by omega)) (hm1 b (by omega))).2);have h8 : -10000000≤R5 (Y0 X) (cI Y) (Y7 (cI M) (cI K) L.length) i j∧R5 (Y0 X) (cI Y) (Y7 (cI M) (cI K) L.length) i j≤10000000:=(by rw [b5T (by omega)];exact (B5 (hx1 i (by omega) j (by omega)) (hy1 j (by omega)) (hm1 j (by omega))).2);show -9223372036854775808≤_∧_≤9223372036854775807;constructor<;>omega),(by omega),(by show 0+i*1+1≤_;rw [Z3,Y9];omega),rfl,(by show -9223372036854775808≤_∧_≤9223372036854775807;constructor<;>omega),trivial⟩ rfl
 ·have ghl0_1:=Z6 hl0_1
  exact Ev.step_out (by show L.length≤j;omega) (n7 Try.checked.mixed (J3) 200 (T':=(⟨[(0,(.yld 9)),(u9 L),(8,(.v (.int .i64 j)))],[],10,9,[(3,(.ptr 3 0)),(5,(.ptr 5 0)),(6,(.ptr 6 0))],[(S5 X Y u ul),(S7 E K L M q0 q1 y yl z zk),(S0 E K L M q0 q1 y yl z zk),S1,S3,(5,(.cells (cI (tI (thB (R5 (Y0 X) (cI Y) (Y7 (cI M) (cI K) L.length)) L.length i j) 3)) 82)),(H0 i),(8,(.defd .true))],.ready,none,25,z7 R1,z9 R1,z8 R1,8⟩:Ev.Lit1)) (e:=.exit 0) (ps:=[X8 j L.length=false]) [.go,.b false] (by kernel_rfl) (by kernel_rfl) ⟨hl0_1,trivial⟩ rfl)
theorem c0E(y:Value)(E:List (Value×List (Int×Int)))(yl:Value)(L:List (Int×Int))(u:Value)(X:List (Value×List Int))(ul:Value)(Y:List Int)(q0 z:Value)(M:List Int)(q1 zk:Value)(K:List Int)(hn8:L.length≤8)(hx3:X.length=3)(hxr:∀ i,i<3→U5 (Y0 X) (i*1)=L.length)(hy:Y.length=L.length)(hm:M.length=L.length)(hk:K.length=L.length)(hx1:∀ i,i<3→∀ b,b<L.length→0≤Z9 (X7 (Y0 X) (i*1)) (b*1)∧Z9 (X7 (Y0 X) (i*1)) (b*1)≤100)(hy1:∀ b,b<L.length→0≤Z9 (cI Y) (b*1)∧Z9 (cI Y) (b*1)≤100)(hm1:∀ b,b<L.length → -1000≤Z9 (cI M) (b*1) - Z9 (cI K) (b*1)∧Z9 (cI M) (b*1) - Z9 (cI K) (b*1)≤1000)(i:Nat)(hi1:i≤3)(hi2:True)(hqsd23_1:(X8 i 3)=true)(v:BaseW)(eb:Nat→Option Nat)(ec:Nat→Nat):Y4 Try.prog 16 b43 ((⟨[(0,(.yld 9)),(1,(.ptr 7 0))],[],10,9,[(3,(.ptr 3 0)),(5,(.ptr 5 0)),(6,(.ptr 6 0))],[(S5 X Y u ul),(S7 E K L M q0 q1 y yl z zk),(S0 E K L M q0 q1 y yl z zk),S1,S3,(t9 K L M X Y i),(H0 i),(b1d E K L M q0 q1 y yl z zk),(8,(.defd .true))],.ready,none,25,z7 R1,z9 R1,z8 R1,8⟩:Ev.Lit1).lit) (bw v 10 eb ec) (b8N E K L M X Y eb ec i q0 q1 u ul v y yl z zk):=by
 have hcl_L:=Y6 L
 have hcl_Y:=Z3 Y
 have hcl_M:=Z3 M
 have hcl_K:=Z3 K
 have ghqsd23_1:=Y1 hqsd23_1
 exact Q2 (T':=(⟨[(0,(.yld 9)),(u9 L),a3c],[],10,9,[(3,(.ptr 3 0)),(5,(.ptr 5 0)),(6,(.ptr 6 0))],[(S5 X Y u ul),(S7 E K L M q0 q1 y yl z zk),(S0 E K L M q0 q1 y yl z zk),S1,S3,(t9 K L M X Y i),(H0 i),(8,(.defd .true))],.ready,none,25,z7 R1,z9 R1,z8 R1,8⟩:Ev.Lit1).lit) (by kernel_rfl) (n7 Try.checked.mixed (J3) 200 (T':=(⟨[(0,(.yld 9)),(u9 L),a3c],[],10,9,[(3,(.ptr 3 0)),(5,(.ptr 5 0)),(6,(.ptr 6 0))],[(S5 X Y u ul),(S7 E K L M q0 q1 y yl z zk),(S0 E K L M q0 q1 y yl z zk),S1,S3,(t9 K L M X Y i),(H0 i),(8,(.defd .true))],.ready,none,25,z7 R1,z9 R1,z8 R1,8⟩:Ev.Lit1)) (e:=.normal) (ps:=[]) [.go,.go,.go,.go,.go] (by kernel_rfl) (by kernel_rfl) trivial rfl) (c0h y E yl L u X ul Y q0 z M q1 zk K hn8 hx3 hxr hy hm hk hx1 hy1 hm1 i hi1 hi2 hqsd23_1 v eb ec)
theorem c3Y(y:Value)(E:List (Value×List (Int×Int)))(yl:Value)(L:List (Int×Int))(u:Value)(X:List (Value×List Int))(ul:Value)(Y:List Int)(q0 z:Value)(M:List Int)(q1 zk:Value)(K:List Int)(hn8:L.length≤8)(hx3:X.length=3)(hxr:∀ i,i<3→U5 (Y0 X) (i*1)=L.length)(hy:Y.length=L.length)(hm:M.length=L.length)(hk:K.length=L.length)(hx1:∀ i,i<3→∀ b,b<L.length→0≤Z9 (X7 (Y0 X) (i*1)) (b*1)∧Z9 (X7 (Y0 X) (i*1)) (b*1)≤100)(hy1:∀ b,b<L.length→0≤Z9 (cI Y) (b*1)∧Z9 (cI Y) (b*1)≤100)(hm1:∀ b,b<L.length → -1000≤Z9 (cI M) (b*1) - Z9 (cI K) (b*1)∧Z9 (cI M) (b*1) - Z9 (cI K) (b*1)≤1000)(i:Nat)(hi1:i≤3)(hi2:True)(hqsd23_1:(X8 i 3)=true)(v:BaseW)(eb:Nat→Option Nat)(ec:Nat→Nat)(hs:List Nat):Y4 Try.prog 25 a45 ((b8L E K L M X Y i q0 q1 u ul y yl z zk)) (BaseW.H (bw v 2 eb ec) hs) (Hd.StepC Try.prog 25 0 (fun i:{i:Nat // i≤3∧True}=>⟨[(2,(.ptr 2 0)),(3,(.ptr 3 0)),(4,(.ptr 4 0)),(5,(.ptr 5 0)),(8,(.v (.int .i64 i.1)))],[],6,[(S5 X Y u ul),(S7 E K L M q0 q1 y yl z zk),(S0 E K L M q0 q1 y yl z zk),S1,S3,(5,(.cells (cI (tI (s6 (R5 (Y0 X) (cI Y) (Y7 (cI M) (cI K) L.length)) L.length i.1) 3)) 82))]⟩) (fun i:{i:Nat // i≤3∧True}=>3 - i.1) a1Q (bw v 2 eb ec) (R7 Try.prog Try.f79 25 ((.agg [.v (.int .i64 (T6 (R5 (Y0 X) (cI Y) (Y7 (cI M) (cI K) L.length) 0) L.length)),.v (.int .i64 (T6 (R5 (Y0 X) (cI Y) (Y7 (cI M) (cI K) L.length) 1) L.length)),.v (.int .i64 (T6 (R5 (Y0 X) (cI Y) (Y7 (cI M) (cI K) L.length) 2) L.length))])) [(J8 X Y u ul),(K0 E K L M q0 q1 y yl z zk)] (bw v 2 eb ec)) (⟨i,hi1,hi2⟩:{i:Nat // i≤3∧True})):=by
 have hcl_L:=Y6 L
 have hcl_Y:=Z3 Y
 have hcl_M:=Z3 M
 have hcl_K:=Z3 K
 have ghqsd23_1:=Y1 hqsd23_1
 exact Z8 V0 (B1 Try.checked.mixed (J3) 200 (T':=(b99 E K L M X Y i q0 q1 u ul y yl z zk)) (e:=.normal) (m:=8) (ps:=[O8 IntKind.i64 (((i:Nat):Int)+1)]) [.go,.go] (by kernel_rfl) (by kernel_rfl) ⟨(by show -9223372036854775808≤_∧_≤9223372036854775807;constructor<;>omega),trivial⟩ rfl (by show 6≤8;decide) ⟨⟨a0v (by show 2<6;decide),a0v (by show 3<6;decide),a0v (by show 4<6;decide),a0v (by show 5<6;decide),m6 _,trivial⟩,⟨⟨by show 0<6;decide,B6 (N7 (s3 (V4 (B4 _))) (N7 (a46 (Z2 Y)) (fun _ hz=>absurd hz List.not_mem_nil)))⟩,⟨by show 1<6;decide,B6 (N7 (s3 (V4 (X6 _))) (N7 (a46 (X4 L)) (N7 (b47 (fun _ hz=>absurd hz List.not_mem_nil) (N7 (s3 (P6 (V4 (Z4 (Z2 _))))) (N7 (s3 (P6 (V4 (Z4 (Z2 _))))) (fun _ hz=>absurd hz List.not_mem_nil)))) (fun _ hz=>absurd hz List.not_mem_nil))))⟩,⟨by show 2<6;decide,B6 (N7 (s3 (V4 (X6 _))) (N7 (a46 (X4 L)) (N7 (b47 (fun _ hz=>absurd hz List.not_mem_nil) (N7 (s3 (P6 (V4 (Z4 (Z2 _))))) (N7 (s3 (P6 (V4 (Z4 (Z2 _))))) (fun _ hz=>absurd hz List.not_mem_nil)))) (fun _ hz=>absurd hz List.not_mem_nil))))⟩,⟨by show 3<6;decide,B6 (N7 (b47 (fun _ hz=>absurd hz List.not_mem_nil) (N7 (a0v (by show 0<6;decide)) (N7 (a0v (by show 1<6;decide)) (fun _ hz=>absurd hz List.not_mem_nil)))) (fun _ hz=>absurd hz List.not_mem_nil))⟩,⟨by show 4<6;decide,B6 (N7 (m6 _) (N7 (m6 _) (N7 (m6 _) (fun _ hz=>absurd hz List.not_mem_nil))))⟩,⟨by show 5<6;decide,b3q (Z2 _)⟩,trivial⟩,rfl⟩ (by show 2≤6;decide)) (Hd.en_on (⟨i+1,by omega,trivial⟩) (by show 3 - (i+1)<3 - i;omega) (show ((b99 E K L M X Y i q0 q1 u ul y yl z zk):Ev.Lit)=⟨[(2,(.ptr 2 0)),(3,(.ptr 3 0)),(4,(.ptr 4 0)),(5,(.ptr 5 0)),(8,(.v (.int .i64 (((i+1):Nat):Int))))],[],6,[(S5 X Y u ul),(S7 E K L M q0 q1 y yl z zk),(S0 E K L M q0 q1 y yl z zk),S1,S3,(5,(.cells (cI (tI (s6 (R5 (Y0 X) (cI Y) (Y7 (cI M) (cI K) L.length)) L.length (i+1)) 3)) 82))]⟩ from by have hz_:=congrArg (fun (xq0:Ev.AB)=>(⟨[(2,(.ptr 2 0)),(3,(.ptr 3 0)),(4,(.ptr 4 0)),(5,(.ptr 5 0)),(8,(.v (.int .i64 (((i+1):Nat):Int))))],[],6,[(S5 X Y u ul),(S7 E K L M q0 q1 y yl z zk),(S0 E K L M q0 q1 y yl z zk),S1,S3,(5,xq0)]⟩:Ev.Lit)) (congrArg (fun z=>Ev.AB.cells z 82) (show ((cI (tI (thB (R5 (Y0 X) (cI Y) (Y7 (cI M) (cI K) L.length)) L.length i L.length) 3)):List Ev.AV)=(cI (tI (s6 (R5 (Y0 X) (cI Y) (Y7 (cI M) (cI K) L.length)) L.length (i+1)) 3)) from by rw [b2C]));exact hz_))
theorem c4T(y:Value)(E:List (Value×List (Int×Int)))(yl:Value)(L:List (Int×Int))(u:Value)(X:List (Value×List Int))(ul:Value)(Y:List Int)(q0 z:Value)(M:List Int)(q1 zk:Value)(K:List Int)(hn8:L.length≤8)(hx3:X.length=3)(hxr:∀ i,i<3→U5 (Y0 X) (i*1)=L.length)(hy:Y.length=L.length)(hm:M.length=L.length)(hk:K.length=L.length)(hx1:∀ i,i<3→∀ b,b<L.length→0≤Z9 (X7 (Y0 X) (i*1)) (b*1)∧Z9 (X7 (Y0 X) (i*1)) (b*1)≤100)(hy1:∀ b,b<L.length→0≤Z9 (cI Y) (b*1)∧Z9 (cI Y) (b*1)≤100)(hm1:∀ b,b<L.length → -1000≤Z9 (cI M) (b*1) - Z9 (cI K) (b*1)∧Z9 (cI M) (b*1) - Z9 (cI K) (b*1)≤1000)(i:Nat)(hi1:i≤3)(hi2:True)(hqsd23_1:(X8 i 3)=true)(v:BaseW)(eb:Nat→Option Nat)(ec:Nat→Nat)(hs:List Nat):Y4 Try.prog 25 R1 ((a74 E K L M X Y i q0 q1 u ul y yl z zk)) (BaseW.H (bw v 2 eb ec) hs) (a5v 2 (Hd.AfterB Try.prog 25 1 a45 (bw v 2 eb ec) (Hd.StepC Try.prog 25 0 (fun i:{i:Nat // i≤3∧True}=>⟨[(2,(.ptr 2 0)),(3,(.ptr 3 0)),(4,(.ptr 4 0)),(5,(.ptr 5 0)),(8,(.v (.int .i64 i.1)))],[],6,[(S5 X Y u ul),(S7 E K L M q0 q1 y yl z zk),(S0 E K L M q0 q1 y yl z zk),S1,S3,(5,(.cells (cI (tI (s6 (R5 (Y0 X) (cI Y) (Y7 (cI M) (cI K) L.length)) L.length i.1) 3)) 82))]⟩) (fun i:{i:Nat // i≤3∧True}=>3 - i.1) a1Q (bw v 2 eb ec) (R7 Try.prog Try.f79 25 ((.agg [.v (.int .i64 (T6 (R5 (Y0 X) (cI Y) (Y7 (cI M) (cI K) L.length) 0) L.length)),.v (.int .i64 (T6 (R5 (Y0 X) (cI Y) (Y7 (cI M) (cI K) L.length) 1) L.length)),.v (.int .i64 (T6 (R5 (Y0 X) (cI Y) (Y7 (cI M) (cI K) L.length) 2) L.length))])) [(J8 X Y u ul),(K0 E K L M q0 q1 y yl z zk)] (bw v 2 eb ec)) (⟨i,hi1,hi2⟩:{i:Nat // i≤3∧True})))):=by
 have hcl_L:=Y6 L
 have hcl_Y:=Z3 Y
 have hcl_M:=Z3 M
 have hcl_K:=Z3 K
 have ghqsd23_1:=Y1 hqsd23_1
 refine W2 (T':=(a74 E K L M X Y i q0 q1 u ul y yl z zk)) (by kernel_rfl) (by kernel_rfl) (by kernel_rfl) (by kernel_rfl) ?_
 exact a4q (T1:=(⟨[(0,(.yld 9)),(1,(.ptr 7 0))],[],10,9,[(3,(.ptr 3 0)),(5,(.ptr 5 0)),(6,(.ptr 6 0))],[(S5 X Y u ul),(S7 E K L M q0 q1 y yl z zk),(S0 E K L M q0 q1 y yl z zk),S1,S3,(t9 K L M X Y i),(H0 i),(b1d E K L M q0 q1 y yl z zk),(8,(.defd .true))],.ready,none,25,z7 R1,z9 R1,z8 R1,8⟩:Ev.Lit1)) (T2:=(fun _:Unit=>(⟨[],[],10,9,[(3,(.ptr 3 0)),(5,(.ptr 5 0)),(6,(.ptr 6 0))],[(S5 X Y u ul),(S7 E K L M q0 q1 y yl z zk),(S0 E K L M q0 q1 y yl z zk),S1,S3,(a6q K L M X Y i),(H0 i),(8,(.defd .true))],.ready,none,25,z7 R1,z9 R1,z8 R1,8⟩:Ev.Lit1))) (T3:=fun _:Unit=>(b8D E K L M X Y i q0 q1 u ul y yl z zk)) (R:=(fun _:Unit=>True)) (k:=93) (l:=9) (szk:=16) (K:=10) (e:=fun _=>.normal) rfl (by kernel_rfl) Try.func93 (by kernel_rfl) (by kernel_rfl) (by kernel_rfl) (by kernel_rfl) (by kernel_rfl) (fun _ _=>rfl) (fun v eb ec=>c0E y E yl L u X ul Y q0 z M q1 zk K hn8 hx3 hxr hy hm hk hx1 hy1 hm1 i hi1 hi2 hqsd23_1 v eb ec) (fun _ _=>by kernel_rfl) (fun _ _=>b30 (T:=(b8D E K L M X Y i q0 q1 u ul y yl z zk)) (T':=(b8L E K L M X Y i q0 q1 u ul y yl z zk)) (m:=8) [0,1,2,3,4,5,6,7] [(.ptr 2 0),(.ptr 3 0),(.ptr 4 0),(.ptr 5 0),(.v (.int .i64 i))] [(a8y X Y u ul),(a1E E K L M q0 q1 y yl z zk),(a1E E K L M q0 q1 y yl z zk),b4t,b0p,(b7c K L M X Y i)] rfl (by kernel_rfl) rfl rfl (by decide) (by kernel_rfl) (by kernel_rfl) ⟨P7 rfl,P7 rfl,P7 rfl,P7 rfl,E2 _,trivial⟩ ⟨⟨by show 0<8;decide,U8 (X9 (P4 (V4 (B4 _))) (X9 (C4 (U6 (Z2 Y))) (V1)))⟩,⟨by show 1<8;decide,U8 (X9 (P4 (V4 (X6 _))) (X9 (C4 (U6 (X4 L))) (X9 (a2m (V1) (X9 (P4 (P6 (V4 (Z4 (Z2 _))))) (X9 (P4 (P6 (V4 (Z4 (Z2 _))))) (V1)))) (V1))))⟩,⟨by show 2<8;decide,U8 (X9 (P4 (V4 (X6 _))) (X9 (C4 (U6 (X4 L))) (X9 (a2m (V1) (X9 (P4 (P6 (V4 (Z4 (Z2 _))))) (X9 (P4 (P6 (V4 (Z4 (Z2 _))))) (V1)))) (V1))))⟩,⟨by show 3<8;decide,U8 (X9 (a2m (V1) (X9 (P7 rfl) (X9 (P7 rfl) (V1)))) (V1))⟩,⟨by show 4<8;decide,U8 (X9 (E2 _) (X9 (E2 _) (X9 (E2 _) (V1))))⟩,⟨by show 5<8;decide,U8 (U6 (Z2 _))⟩,trivial⟩ ⟨(by show 0≠8;decide),(by show 1≠8;decide),(by show 2≠8;decide),(by show 3≠8;decide),(by show 4≠8;decide),(by show 5≠8;decide),trivial⟩ (by show 2≤8;decide) (fun b hb=>(by have hb2:b<2:=hb;match b,hb2 with|0,_=>rfl|1,_=>rfl)) (fun hs=>c5j (Hd.en_bn (c3Y y E yl L u X ul Y q0 z M q1 zk K hn8 hx3 hxr hy hm hk hx1 hy1 hm1 i hi1 hi2 hqsd23_1 v eb ec hs))))
theorem c3X(y:Value)(E:List (Value×List (Int×Int)))(yl:Value)(L:List (Int×Int))(u:Value)(X:List (Value×List Int))(ul:Value)(Y:List Int)(q0 z:Value)(M:List Int)(q1 zk:Value)(K:List Int)(hn8:L.length≤8)(hx3:X.length=3)(hxr:∀ i,i<3→U5 (Y0 X) (i*1)=L.length)(hy:Y.length=L.length)(hm:M.length=L.length)(hk:K.length=L.length)(hx1:∀ i,i<3→∀ b,b<L.length→0≤Z9 (X7 (Y0 X) (i*1)) (b*1)∧Z9 (X7 (Y0 X) (i*1)) (b*1)≤100)(hy1:∀ b,b<L.length→0≤Z9 (cI Y) (b*1)∧Z9 (cI Y) (b*1)≤100)(hm1:∀ b,b<L.length → -1000≤Z9 (cI M) (b*1) - Z9 (cI K) (b*1)∧Z9 (cI M) (b*1) - Z9 (cI K) (b*1)≤1000)(i:Nat)(hi1:i≤3)(hi2:True)(hqsd23_1:(X8 i 3)=true)(v:BaseW)(eb:Nat→Option Nat)(ec:Nat→Nat)(hs:List Nat):Y4 Try.prog 25 R1 ((a74 E K L M X Y i q0 q1 u ul y yl z zk)) (BaseW.H (bw v 2 eb ec) hs) (a5v 2 (Hd.AfterB Try.prog 25 1 a45 (bw v 2 eb ec) (Hd.StepC Try.prog 25 0 (fun i:{i:Nat // i≤3∧True}=>⟨[(2,(.ptr 2 0)),(3,(.ptr 3 0)),(4,(.ptr 4 0)),(5,(.ptr 5 0)),(8,(.v (.int .i64 i.1)))],[],6,[(S5 X Y u ul),(S7 E K L M q0 q1 y yl z zk),(S0 E K L M q0 q1 y yl z zk),S1,S3,(5,(.cells (cI (tI (s6 (R5 (Y0 X) (cI Y) (Y7 (cI M) (cI K) L.length)) L.length i.1) 3)) 82))]⟩) (fun i:{i:Nat // i≤3∧True}=>3 - i.1) a1Q (bw v 2 eb ec) (R7 Try.prog Try.f79 25 ((.agg [.v (.int .i64 (T6 (R5 (Y0 X) (cI Y) (Y7 (cI M) (cI K) L.length) 0) L.length)),.v (.int .i64 (T6 (R5 (Y0 X) (cI Y) (Y7 (cI M) (cI K) L.length) 1) L.length)),.v (.int .i64 (T6 (R5 (Y0 X) (cI Y) (Y7 (cI M) (cI K) L.length) 2) L.length))])) [(J8 X Y u ul),(K0 E K L M q0 q1 y yl z zk)] (bw v 2 eb ec)) (⟨i,hi1,hi2⟩:{i:Nat // i≤3∧True})))):=by
 exact c4T y E yl L u X ul Y q0 z M q1 zk K hn8 hx3 hxr hy hm hk hx1 hy1 hm1 i hi1 hi2 hqsd23_1 v eb ec hs
theorem c5d(y:Value)(E:List (Value×List (Int×Int)))(yl:Value)(L:List (Int×Int))(u:Value)(X:List (Value×List Int))(ul:Value)(Y:List Int)(q0 z:Value)(M:List Int)(q1 zk:Value)(K:List Int)(hn8:L.length≤8)(hx3:X.length=3)(hxr:∀ i,i<3→U5 (Y0 X) (i*1)=L.length)(hy:Y.length=L.length)(hm:M.length=L.length)(hk:K.length=L.length)(hx1:∀ i,i<3→∀ b,b<L.length→0≤Z9 (X7 (Y0 X) (i*1)) (b*1)∧Z9 (X7 (Y0 X) (i*1)) (b*1)≤100)(hy1:∀ b,b<L.length→0≤Z9 (cI Y) (b*1)∧Z9 (cI Y) (b*1)≤100)(hm1:∀ b,b<L.length → -1000≤Z9 (cI M) (b*1) - Z9 (cI K) (b*1)∧Z9 (cI M) (b*1) - Z9 (cI K) (b*1)≤1000)(i:Nat)(hi1:i≤3)(hi2:True)(hqsd23_1:(X8 i 3)=true)(v:BaseW)(eb:Nat→Option Nat)(ec:Nat→Nat)(hs:List Nat):Y4 Try.prog 25 b4K ((a74 E K L M X Y i q0 q1 u ul y yl z zk)) (BaseW.H (bw v 2 eb ec) hs) (Hd.AfterB Try.prog 25 1 a45 (bw v 2 eb ec) (Hd.StepC Try.prog 25 0 (fun i:{i:Nat // i≤3∧True}=>⟨[(2,(.ptr 2 0)),(3,(.ptr 3 0)),(4,(.ptr 4 0)),(5,(.ptr 5 0)),(8,(.v (.int .i64 i.1)))],[],6,[(S5 X Y u ul),(S7 E K L M q0 q1 y yl z zk),(S0 E K L M q0 q1 y yl z zk),S1,S3,(5,(.cells (cI (tI (s6 (R5 (Y0 X) (cI Y) (Y7 (cI M) (cI K) L.length)) L.length i.1) 3)) 82))]⟩) (fun i:{i:Nat // i≤3∧True}=>3 - i.1) a1Q (bw v 2 eb ec) (R7 Try.prog Try.f79 25 ((.agg [.v (.int .i64 (T6 (R5 (Y0 X) (cI Y) (Y7 (cI M) (cI K) L.length) 0) L.length)),.v (.int .i64 (T6 (R5 (Y0 X) (cI Y) (Y7 (cI M) (cI K) L.length) 1) L.length)),.v (.int .i64 (T6 (R5 (Y0 X) (cI Y) (Y7 (cI M) (cI K) L.length) 2) L.length))])) [(J8 X Y u ul),(K0 E K L M q0 q1 y yl z zk)] (bw v 2 eb ec)) (⟨i,hi1,hi2⟩:{i:Nat // i≤3∧True}))):=by
 exact b3O (id:=2) (by kernel_rfl) (by kernel_rfl) (c3X y E yl L u X ul Y q0 z M q1 zk K hn8 hx3 hxr hy hm hk hx1 hy1 hm1 i hi1 hi2 hqsd23_1 v eb ec hs)
theorem c5P(y:Value)(E:List (Value×List (Int×Int)))(yl:Value)(L:List (Int×Int))(u:Value)(X:List (Value×List Int))(ul:Value)(Y:List Int)(q0 z:Value)(M:List Int)(q1 zk:Value)(K:List Int)(hn8:L.length≤8)(hx3:X.length=3)(hxr:∀ i,i<3→U5 (Y0 X) (i*1)=L.length)(hy:Y.length=L.length)(hm:M.length=L.length)(hk:K.length=L.length)(hx1:∀ i,i<3→∀ b,b<L.length→0≤Z9 (X7 (Y0 X) (i*1)) (b*1)∧Z9 (X7 (Y0 X) (i*1)) (b*1)≤100)(hy1:∀ b,b<L.length→0≤Z9 (cI Y) (b*1)∧Z9 (cI Y) (b*1)≤100)(hm1:∀ b,b<L.length → -1000≤Z9 (cI M) (b*1) - Z9 (cI K) (b*1)∧Z9 (cI M) (b*1) - Z9 (cI K) (b*1)≤1000)(i:Nat)(hi1:i≤3)(hi2:True)(hqsd23_1:(X8 i 3)=true)(v:BaseW)(eb:Nat→Option Nat)(ec:Nat→Nat)(hs:List Nat):Y4 Try.prog 25 b4K ((a74 E K L M X Y i q0 q1 u ul y yl z zk)) (BaseW.H (bw v 2 eb ec) hs) (Hd.AfterB Try.prog 25 1 a45 (bw v 2 eb ec) (Hd.StepC Try.prog 25 0 (fun i:{i:Nat // i≤3∧True}=>⟨[(2,(.ptr 2 0)),(3,(.ptr 3 0)),(4,(.ptr 4 0)),(5,(.ptr 5 0)),(8,(.v (.int .i64 i.1)))],[],6,[(S5 X Y u ul),(S7 E K L M q0 q1 y yl z zk),(S0 E K L M q0 q1 y yl z zk),S1,S3,(5,(.cells (cI (tI (s6 (R5 (Y0 X) (cI Y) (Y7 (cI M) (cI K) L.length)) L.length i.1) 3)) 82))]⟩) (fun i:{i:Nat // i≤3∧True}=>3 - i.1) a1Q (bw v 2 eb ec) (R7 Try.prog Try.f79 25 ((.agg [.v (.int .i64 (T6 (R5 (Y0 X) (cI Y) (Y7 (cI M) (cI K) L.length) 0) L.length)),.v (.int .i64 (T6 (R5 (Y0 X) (cI Y) (Y7 (cI M) (cI K) L.length) 1) L.length)),.v (.int .i64 (T6 (R5 (Y0 X) (cI Y) (Y7 (cI M) (cI K) L.length) 2) L.length))])) [(J8 X Y u ul),(K0 E K L M q0 q1 y yl z zk)] (bw v 2 eb ec)) (⟨i,hi1,hi2⟩:{i:Nat // i≤3∧True}))):=by
 exact c5d y E yl L u X ul Y q0 z M q1 zk K hn8 hx3 hxr hy hm hk hx1 hy1 hm1 i hi1 hi2 hqsd23_1 v eb ec hs
theorem c2g(y:Value)(E:List (Value×List (Int×Int)))(yl:Value)(L:List (Int×Int))(u:Value)(X:List (Value×List Int))(ul:Value)(Y:List Int)(q0 z:Value)(M:List Int)(q1 zk:Value)(K:List Int)(hn8:L.length≤8)(hx3:X.length=3)(hxr:∀ i,i<3→U5 (Y0 X) (i*1)=L.length)(hy:Y.length=L.length)(hm:M.length=L.length)(hk:K.length=L.length)(hx1:∀ i,i<3→∀ b,b<L.length→0≤Z9 (X7 (Y0 X) (i*1)) (b*1)∧Z9 (X7 (Y0 X) (i*1)) (b*1)≤100)(hy1:∀ b,b<L.length→0≤Z9 (cI Y) (b*1)∧Z9 (cI Y) (b*1)≤100)(hm1:∀ b,b<L.length → -1000≤Z9 (cI M) (b*1) - Z9 (cI K) (b*1)∧Z9 (cI M) (b*1) - Z9 (cI K) (b*1)≤1000)(i:Nat)(hi1:i≤3)(hi2:True)(hqsd23_1:(X8 i 3)=true)(v:BaseW)(eb:Nat→Option Nat)(ec:Nat→Nat)(hs:List Nat):Y4 Try.prog 25 b83 ((b8r E K L M X Y i q0 q1 u ul y yl z zk)) (BaseW.H (bw v 2 eb ec) hs) (Hd.AfterB Try.prog 25 1 a45 (bw v 2 eb ec) (Hd.StepC Try.prog 25 0 (fun i:{i:Nat // i≤3∧True}=>⟨[(2,(.ptr 2 0)),(3,(.ptr 3 0)),(4,(.ptr 4 0)),(5,(.ptr 5 0)),(8,(.v (.int .i64 i.1)))],[],6,[(S5 X Y u ul),(S7 E K L M q0 q1 y yl z zk),(S0 E K L M q0 q1 y yl z zk),S1,S3,(5,(.cells (cI (tI (s6 (R5 (Y0 X) (cI Y) (Y7 (cI M) (cI K) L.length)) L.length i.1) 3)) 82))]⟩) (fun i:{i:Nat // i≤3∧True}=>3 - i.1) a1Q (bw v 2 eb ec) (R7 Try.prog Try.f79 25 ((.agg [.v (.int .i64 (T6 (R5 (Y0 X) (cI Y) (Y7 (cI M) (cI K) L.length) 0) L.length)),.v (.int .i64 (T6 (R5 (Y0 X) (cI Y) (Y7 (cI M) (cI K) L.length) 1) L.length)),.v (.int .i64 (T6 (R5 (Y0 X) (cI Y) (Y7 (cI M) (cI K) L.length) 2) L.length))])) [(J8 X Y u ul),(K0 E K L M q0 q1 y yl z zk)] (bw v 2 eb ec)) (⟨i,hi1,hi2⟩:{i:Nat // i≤3∧True}))):=by
 have hcl_L:=Y6 L
 have hcl_Y:=Z3 Y
 have hcl_M:=Z3 M
 have hcl_K:=Z3 K
 have ghqsd23_1:=Y1 hqsd23_1
 refine Hd.goes_seqA (by kernel_rfl) ?_
 exact Z8 V0 (Z7 Try.checked.mixed (J3) 200 (T':=(a74 E K L M X Y i q0 q1 u ul y yl z zk)) (e:=.normal) (ps:=[]) [.go,.go,.go,.go,.go] (by kernel_rfl) (by kernel_rfl) trivial rfl) (Hd.en_n (c5P y E yl L u X ul Y q0 z M q1 zk K hn8 hx3 hxr hy hm hk hx1 hy1 hm1 i hi1 hi2 hqsd23_1 v eb ec hs))
theorem c4k(y:Value)(E:List (Value×List (Int×Int)))(yl:Value)(L:List (Int×Int))(u:Value)(X:List (Value×List Int))(ul:Value)(Y:List Int)(q0 z:Value)(M:List Int)(q1 zk:Value)(K:List Int)(hn8:L.length≤8)(hx3:X.length=3)(hxr:∀ i,i<3→U5 (Y0 X) (i*1)=L.length)(hy:Y.length=L.length)(hm:M.length=L.length)(hk:K.length=L.length)(hx1:∀ i,i<3→∀ b,b<L.length→0≤Z9 (X7 (Y0 X) (i*1)) (b*1)∧Z9 (X7 (Y0 X) (i*1)) (b*1)≤100)(hy1:∀ b,b<L.length→0≤Z9 (cI Y) (b*1)∧Z9 (cI Y) (b*1)≤100)(hm1:∀ b,b<L.length → -1000≤Z9 (cI M) (b*1) - Z9 (cI K) (b*1)∧Z9 (cI M) (b*1) - Z9 (cI K) (b*1)≤1000)(i:Nat)(hi1:i≤3)(hi2:True)(hqsd23_1:(X8 i 3)=true)(v:BaseW)(eb:Nat→Option Nat)(ec:Nat→Nat)(hs:List Nat):Y4 Try.prog 25 b9e ((b2M E K L M X Y i q0 q1 u ul y yl z zk)) (BaseW.H (bw v 2 eb ec) hs) (Hd.AfterB Try.prog 25 1 a45 (bw v 2 eb ec) (Hd.StepC Try.prog 25 0 (fun i:{i:Nat // i≤3∧True}=>⟨[(2,(.ptr 2 0)),(3,(.ptr 3 0)),(4,(.ptr 4 0)),(5,(.ptr 5 0)),(8,(.v (.int .i64 i.1)))],[],6,[(S5 X Y u ul),(S7 E K L M q0 q1 y yl z zk),(S0 E K L M q0 q1 y yl z zk),S1,S3,(5,(.cells (cI (tI (s6 (R5 (Y0 X) (cI Y) (Y7 (cI M) (cI K) L.length)) L.length i.1) 3)) 82))]⟩) (fun i:{i:Nat // i≤3∧True}=>3 - i.1) a1Q (bw v 2 eb ec) (R7 Try.prog Try.f79 25 ((.agg [.v (.int .i64 (T6 (R5 (Y0 X) (cI Y) (Y7 (cI M) (cI K) L.length) 0) L.length)),.v (.int .i64 (T6 (R5 (Y0 X) (cI Y) (Y7 (cI M) (cI K) L.length) 1) L.length)),.v (.int .i64 (T6 (R5 (Y0 X) (cI Y) (Y7 (cI M) (cI K) L.length) 2) L.length))])) [(J8 X Y u ul),(K0 E K L M q0 q1 y yl z zk)] (bw v 2 eb ec)) (⟨i,hi1,hi2⟩:{i:Nat // i≤3∧True}))):=by
 have hcl_L:=Y6 L
 have hcl_Y:=Z3 Y
 have hcl_M:=Z3 M
 have hcl_K:=Z3 K
 have ghqsd23_1:=Y1 hqsd23_1
 refine Hd.goes_seqA (by kernel_rfl) ?_
 exact Z8 V0 (Z7 Try.checked.mixed (J3) 200 (T':=(b8r E K L M X Y i q0 q1 u ul y yl z zk)) (e:=.normal) (ps:=[]) [.go,.go,.go] (by kernel_rfl) (by kernel_rfl) trivial rfl) (Hd.en_n (c2g y E yl L u X ul Y q0 z M q1 zk K hn8 hx3 hxr hy hm hk hx1 hy1 hm1 i hi1 hi2 hqsd23_1 v eb ec hs))
theorem c5a(y:Value)(E:List (Value×List (Int×Int)))(yl:Value)(L:List (Int×Int))(u:Value)(X:List (Value×List Int))(ul:Value)(Y:List Int)(q0 z:Value)(M:List Int)(q1 zk:Value)(K:List Int)(hn8:L.length≤8)(hx3:X.length=3)(hxr:∀ i,i<3→U5 (Y0 X) (i*1)=L.length)(hy:Y.length=L.length)(hm:M.length=L.length)(hk:K.length=L.length)(hx1:∀ i,i<3→∀ b,b<L.length→0≤Z9 (X7 (Y0 X) (i*1)) (b*1)∧Z9 (X7 (Y0 X) (i*1)) (b*1)≤100)(hy1:∀ b,b<L.length→0≤Z9 (cI Y) (b*1)∧Z9 (cI Y) (b*1)≤100)(hm1:∀ b,b<L.length → -1000≤Z9 (cI M) (b*1) - Z9 (cI K) (b*1)∧Z9 (cI M) (b*1) - Z9 (cI K) (b*1)≤1000)(i:Nat)(hi1:i≤3)(hi2:True)(hqsd23_1:(X8 i 3)=true)(v:BaseW)(eb:Nat→Option Nat)(ec:Nat→Nat)(hs:List Nat):Y4 Try.prog 25 (m9 b1Z) ((b2M E K L M X Y i q0 q1 u ul y yl z zk)) (BaseW.H (bw v 2 eb ec) hs) (Hd.AfterN Try.prog 25 a45 (bw v 2 eb ec) (Hd.StepC Try.prog 25 0 (fun i:{i:Nat // i≤3∧True}=>⟨[(2,(.ptr 2 0)),(3,(.ptr 3 0)),(4,(.ptr 4 0)),(5,(.ptr 5 0)),(8,(.v (.int .i64 i.1)))],[],6,[(S5 X Y u ul),(S7 E K L M q0 q1 y yl z zk),(S0 E K L M q0 q1 y yl z zk),S1,S3,(5,(.cells (cI (tI (s6 (R5 (Y0 X) (cI Y) (Y7 (cI M) (cI K) L.length)) L.length i.1) 3)) 82))]⟩) (fun i:{i:Nat // i≤3∧True}=>3 - i.1) a1Q (bw v 2 eb ec) (R7 Try.prog Try.f79 25 ((.agg [.v (.int .i64 (T6 (R5 (Y0 X) (cI Y) (Y7 (cI M) (cI K) L.length) 0) L.length)),.v (.int .i64 (T6 (R5 (Y0 X) (cI Y) (Y7 (cI M) (cI K) L.length) 1) L.length)),.v (.int .i64 (T6 (R5 (Y0 X) (cI Y) (Y7 (cI M) (cI K) L.length) 2) L.length))])) [(J8 X Y u ul),(K0 E K L M q0 q1 y yl z zk)] (bw v 2 eb ec)) (⟨i,hi1,hi2⟩:{i:Nat // i≤3∧True}))):=by
 exact Hd.goes_blkA (id:=1) (by kernel_rfl) (by kernel_rfl) (c4k y E yl L u X ul Y q0 z M q1 zk K hn8 hx3 hxr hy hm hk hx1 hy1 hm1 i hi1 hi2 hqsd23_1 v eb ec hs)
theorem c3U(y:Value)(E:List (Value×List (Int×Int)))(yl:Value)(L:List (Int×Int))(u:Value)(X:List (Value×List Int))(ul:Value)(Y:List Int)(q0 z:Value)(M:List Int)(q1 zk:Value)(K:List Int)(hn8:L.length≤8)(hx3:X.length=3)(hxr:∀ i,i<3→U5 (Y0 X) (i*1)=L.length)(hy:Y.length=L.length)(hm:M.length=L.length)(hk:K.length=L.length)(hx1:∀ i,i<3→∀ b,b<L.length→0≤Z9 (X7 (Y0 X) (i*1)) (b*1)∧Z9 (X7 (Y0 X) (i*1)) (b*1)≤100)(hy1:∀ b,b<L.length→0≤Z9 (cI Y) (b*1)∧Z9 (cI Y) (b*1)≤100)(hm1:∀ b,b<L.length → -1000≤Z9 (cI M) (b*1) - Z9 (cI K) (b*1)∧Z9 (cI M) (b*1) - Z9 (cI K) (b*1)≤1000)(i:Nat)(hi1:i≤3)(hi2:True)(hqsd23_1:(X8 i 3)=true)(v:BaseW)(eb:Nat→Option Nat)(ec:Nat→Nat)(hs:List Nat):Y4 Try.prog 25 b1Z ((b2M E K L M X Y i q0 q1 u ul y yl z zk)) (BaseW.H (bw v 2 eb ec) hs) (Hd.StepC Try.prog 25 0 (fun i:{i:Nat // i≤3∧True}=>⟨[(2,(.ptr 2 0)),(3,(.ptr 3 0)),(4,(.ptr 4 0)),(5,(.ptr 5 0)),(8,(.v (.int .i64 i.1)))],[],6,[(S5 X Y u ul),(S7 E K L M q0 q1 y yl z zk),(S0 E K L M q0 q1 y yl z zk),S1,S3,(5,(.cells (cI (tI (s6 (R5 (Y0 X) (cI Y) (Y7 (cI M) (cI K) L.length)) L.length i.1) 3)) 82))]⟩) (fun i:{i:Nat // i≤3∧True}=>3 - i.1) a1Q (bw v 2 eb ec) (R7 Try.prog Try.f79 25 ((.agg [.v (.int .i64 (T6 (R5 (Y0 X) (cI Y) (Y7 (cI M) (cI K) L.length) 0) L.length)),.v (.int .i64 (T6 (R5 (Y0 X) (cI Y) (Y7 (cI M) (cI K) L.length) 1) L.length)),.v (.int .i64 (T6 (R5 (Y0 X) (cI Y) (Y7 (cI M) (cI K) L.length) 2) L.length))])) [(J8 X Y u ul),(K0 E K L M q0 q1 y yl z zk)] (bw v 2 eb ec)) (⟨i,hi1,hi2⟩:{i:Nat // i≤3∧True})):=by
 exact Hd.goes_seqA (by kernel_rfl) (c5a y E yl L u X ul Y q0 z M q1 zk K hn8 hx3 hxr hy hm hk hx1 hy1 hm1 i hi1 hi2 hqsd23_1 v eb ec hs)
theorem c6g(y:Value)(E:List (Value×List (Int×Int)))(yl:Value)(L:List (Int×Int))(u:Value)(X:List (Value×List Int))(ul:Value)(Y:List Int)(q0 z:Value)(M:List Int)(q1 zk:Value)(K:List Int)(hn8:L.length≤8)(hx3:X.length=3)(hxr:∀ i,i<3→U5 (Y0 X) (i*1)=L.length)(hy:Y.length=L.length)(hm:M.length=L.length)(hk:K.length=L.length)(hx1:∀ i,i<3→∀ b,b<L.length→0≤Z9 (X7 (Y0 X) (i*1)) (b*1)∧Z9 (X7 (Y0 X) (i*1)) (b*1)≤100)(hy1:∀ b,b<L.length→0≤Z9 (cI Y) (b*1)∧Z9 (cI Y) (b*1)≤100)(hm1:∀ b,b<L.length → -1000≤Z9 (cI M) (b*1) - Z9 (cI K) (b*1)∧Z9 (cI M) (b*1) - Z9 (cI K) (b*1)≤1000)(h0b:True)(hqsd23_1:(X8 3 3)=false)(v:BaseW)(eb:Nat→Option Nat)(ec:Nat→Nat)(hs:List Nat):Y4 Try.prog 25 a1Q ((b5L E K L M X Y q0 q1 u ul y yl z zk)) (BaseW.H (bw v 2 eb ec) hs) (R7 Try.prog Try.f79 25 ((.agg [.v (.int .i64 (T6 (R5 (Y0 X) (cI Y) (Y7 (cI M) (cI K) L.length) 0) L.length)),.v (.int .i64 (T6 (R5 (Y0 X) (cI Y) (Y7 (cI M) (cI K) L.length) 1) L.length)),.v (.int .i64 (T6 (R5 (Y0 X) (cI Y) (Y7 (cI M) (cI K) L.length) 2) L.length))])) [(J8 X Y u ul),(K0 E K L M q0 q1 y yl z zk)] (bw v 2 eb ec)):=by
 have hcl_L:=Y6 L
 have hcl_Y:=Z3 Y
 have hcl_M:=Z3 M
 have hcl_K:=Z3 K
 have ghqsd23_1:=Z6 hqsd23_1
 exact Z8 W1 (L6 Try.checked.mixed (J3) 200 (T':=⟨[(4,(.ptr 2 0))],[],3,[(S5 X Y u ul),(S7 E K L M q0 q1 y yl z zk),(2,(b6x K L M X Y))]⟩) (e:=.ret) (m:=6) (ps:=[W7 Try.prog (cI (tI (s6 (R5 (Y0 X) (cI Y) (Y7 (cI M) (cI K) L.length)) L.length 3) 3)) 0 82=some (AV.agg [AV.v (Value.int IntKind.i64 (Z9 (cI (tI (s6 (R5 (Y0 X) (cI Y) (Y7 (cI M) (cI K) L.length)) L.length 3) 3)) 0)),AV.v (Value.int IntKind.i64 (Z9 (cI (tI (s6 (R5 (Y0 X) (cI Y) (Y7 (cI M) (cI K) L.length)) L.length 3) 3)) (0+1))),AV.v (Value.int IntKind.i64 (Z9 (cI (tI (s6 (R5 (Y0 X) (cI Y) (Y7 (cI M) (cI K) L.length)) L.length 3) 3)) (0+1+1)))])]) [.sym,.go] [0,1,4] [(.ptr 4 0)] [(a8y X Y u ul),(a1E E K L M q0 q1 y yl z zk),(b6x K L M X Y)] (by kernel_rfl) (by kernel_rfl) ⟨(by rw [a8U];kernel_rfl),trivial⟩ rfl rfl (by decide) rfl ⟨P7 rfl,trivial⟩ ⟨⟨by show 0<3;decide,U8 (X9 (P4 (V4 (B4 _))) (X9 (C4 (U6 (Z2 Y))) (V1)))⟩,⟨by show 1<3;decide,U8 (X9 (P4 (V4 (X6 _))) (X9 (C4 (U6 (X4 L))) (X9 (a2m (V1) (X9 (P4 (P6 (V4 (Z4 (Z2 _))))) (X9 (P4 (P6 (V4 (Z4 (Z2 _))))) (V1)))) (V1))))⟩,⟨by show 2<3;decide,U8 (X9 (E2 _) (X9 (E2 _) (X9 (E2 _) (V1))))⟩,trivial⟩ (by show 2≤3;decide) (fun b hb=>(by have hb2:b<2:=hb;match b,hb2 with|0,_=>rfl|1,_=>rfl))) (E3 (r:=(.agg [(.v (.int .i64 (Z9 (cI (tI (s6 (R5 (Y0 X) (cI Y) (Y7 (cI M) (cI K) L.length)) L.length 3) 3)) 0))),(.v (.int .i64 (Z9 (cI (tI (s6 (R5 (Y0 X) (cI Y) (Y7 (cI M) (cI K) L.length)) L.length 3) 3)) (0+1)))),(.v (.int .i64 (Z9 (cI (tI (s6 (R5 (Y0 X) (cI Y) (Y7 (cI M) (cI K) L.length)) L.length 3) 3)) (0+1+1))))])) (ys:=[(a8y X Y u ul),(a1E E K L M q0 q1 y yl z zk)]) (by (rw [a8U];rfl)) (by rfl) (J4 (by kernel_rfl) (by kernel_rfl) rfl (.inr rfl)))
theorem c3e(y:Value)(E:List (Value×List (Int×Int)))(yl:Value)(L:List (Int×Int))(u:Value)(X:List (Value×List Int))(ul:Value)(Y:List Int)(q0 z:Value)(M:List Int)(q1 zk:Value)(K:List Int)(hn8:L.length≤8)(hx3:X.length=3)(hxr:∀ i,i<3→U5 (Y0 X) (i*1)=L.length)(hy:Y.length=L.length)(hm:M.length=L.length)(hk:K.length=L.length)(hx1:∀ i,i<3→∀ b,b<L.length→0≤Z9 (X7 (Y0 X) (i*1)) (b*1)∧Z9 (X7 (Y0 X) (i*1)) (b*1)≤100)(hy1:∀ b,b<L.length→0≤Z9 (cI Y) (b*1)∧Z9 (cI Y) (b*1)≤100)(hm1:∀ b,b<L.length → -1000≤Z9 (cI M) (b*1) - Z9 (cI K) (b*1)∧Z9 (cI M) (b*1) - Z9 (cI K) (b*1)≤1000)(i:Nat)(hi1:i≤3)(hi2:True)(v:BaseW)(eb:Nat→Option Nat)(ec:Nat→Nat)(hs:List Nat):Y4 Try.prog 25 b8j ((b97 E K L M X Y i q0 q1 u ul y yl z zk)) (BaseW.H (bw v 2 eb ec) hs) (Hd.StepC Try.prog 25 0 (fun i:{i:Nat // i≤3∧True}=>⟨[(2,(.ptr 2 0)),(3,(.ptr 3 0)),(4,(.ptr 4 0)),(5,(.ptr 5 0)),(8,(.v (.int .i64 i.1)))],[],6,[(S5 X Y u ul),(S7 E K L M q0 q1 y yl z zk),(S0 E K L M q0 q1 y yl z zk),S1,S3,(5,(.cells (cI (tI (s6 (R5 (Y0 X) (cI Y) (Y7 (cI M) (cI K) L.length)) L.length i.1) 3)) 82))]⟩) (fun i:{i:Nat // i≤3∧True}=>3 - i.1) a1Q (bw v 2 eb ec) (R7 Try.prog Try.f79 25 ((.agg [.v (.int .i64 (T6 (R5 (Y0 X) (cI Y) (Y7 (cI M) (cI K) L.length) 0) L.length)),.v (.int .i64 (T6 (R5 (Y0 X) (cI Y) (Y7 (cI M) (cI K) L.length) 1) L.length)),.v (.int .i64 (T6 (R5 (Y0 X) (cI Y) (Y7 (cI M) (cI K) L.length) 2) L.length))])) [(J8 X Y u ul),(K0 E K L M q0 q1 y yl z zk)] (bw v 2 eb ec)) (⟨i,hi1,hi2⟩:{i:Nat // i≤3∧True})):=by
 have hcl_L:=Y6 L
 have hcl_Y:=Z3 Y
 have hcl_M:=Z3 M
 have hcl_K:=Z3 K
 refine Hd.goes_seqA (by kernel_rfl) ?_
 rcases Bool.eq_false_or_eq_true (X8 i 3) with hqsd23_1|hqsd23_1
 ·have ghqsd23_1:=Y1 hqsd23_1
  exact Z8 V0 (Z7 Try.checked.mixed (J3) 200 (T':=(b2M E K L M X Y i q0 q1 u ul y yl z zk)) (e:=.normal) (ps:=[X8 i 3=true]) [.b true] (by kernel_rfl) (by kernel_rfl) ⟨hqsd23_1,trivial⟩ rfl) (Hd.en_n (c3U y E yl L u X ul Y q0 z M q1 zk K hn8 hx3 hxr hy hm hk hx1 hy1 hm1 i hi1 hi2 hqsd23_1 v eb ec hs))
 ·have ghqsd23_1:=Z6 hqsd23_1
  obtain rfl:3=i:=by omega
  exact Z8 E7 (Z7 Try.checked.mixed (J3) 200 (T':=(b5L E K L M X Y q0 q1 u ul y yl z zk)) (e:=.exit 0) (ps:=[X8 3 3=false]) [.b false] (by kernel_rfl) (by kernel_rfl) ⟨hqsd23_1,trivial⟩ rfl) (Hd.en_o (by intro h;cases h) (Hd.en_sx (c6g y E yl L u X ul Y q0 z M q1 zk K hn8 hx3 hxr hy hm hk hx1 hy1 hm1 hi2  hqsd23_1 v eb ec hs)))
theorem c57(y:Value)(E:List (Value×List (Int×Int)))(yl:Value)(L:List (Int×Int))(u:Value)(X:List (Value×List Int))(ul:Value)(Y:List Int)(q0 z:Value)(M:List Int)(q1 zk:Value)(K:List Int)(hn8:L.length≤8)(hx3:X.length=3)(hxr:∀ i,i<3→U5 (Y0 X) (i*1)=L.length)(hy:Y.length=L.length)(hm:M.length=L.length)(hk:K.length=L.length)(hx1:∀ i,i<3→∀ b,b<L.length→0≤Z9 (X7 (Y0 X) (i*1)) (b*1)∧Z9 (X7 (Y0 X) (i*1)) (b*1)≤100)(hy1:∀ b,b<L.length→0≤Z9 (cI Y) (b*1)∧Z9 (cI Y) (b*1)≤100)(hm1:∀ b,b<L.length → -1000≤Z9 (cI M) (b*1) - Z9 (cI K) (b*1)∧Z9 (cI M) (b*1) - Z9 (cI K) (b*1)≤1000)(i:Nat)(hi1:i≤3)(hi2:True)(v:BaseW)(eb:Nat→Option Nat)(ec:Nat→Nat)(hs:List Nat):Y4 Try.prog 25 b9c (⟨[(2,(.ptr 2 0)),(3,(.ptr 3 0)),(4,(.ptr 4 0)),(5,(.ptr 5 0)),(8,(.v (.int .i64 i)))],[],6,[(S5 X Y u ul),(S7 E K L M q0 q1 y yl z zk),(S0 E K L M q0 q1 y yl z zk),S1,S3,(t9 K L M X Y i)]⟩) (BaseW.H (bw v 2 eb ec) hs) (Hd.StepC Try.prog 25 0 (fun i:{i:Nat // i≤3∧True}=>⟨[(2,(.ptr 2 0)),(3,(.ptr 3 0)),(4,(.ptr 4 0)),(5,(.ptr 5 0)),(8,(.v (.int .i64 i.1)))],[],6,[(S5 X Y u ul),(S7 E K L M q0 q1 y yl z zk),(S0 E K L M q0 q1 y yl z zk),S1,S3,(5,(.cells (cI (tI (s6 (R5 (Y0 X) (cI Y) (Y7 (cI M) (cI K) L.length)) L.length i.1) 3)) 82))]⟩) (fun i:{i:Nat // i≤3∧True}=>3 - i.1) a1Q (bw v 2 eb ec) (R7 Try.prog Try.f79 25 ((.agg [.v (.int .i64 (T6 (R5 (Y0 X) (cI Y) (Y7 (cI M) (cI K) L.length) 0) L.length)),.v (.int .i64 (T6 (R5 (Y0 X) (cI Y) (Y7 (cI M) (cI K) L.length) 1) L.length)),.v (.int .i64 (T6 (R5 (Y0 X) (cI Y) (Y7 (cI M) (cI K) L.length) 2) L.length))])) [(J8 X Y u ul),(K0 E K L M q0 q1 y yl z zk)] (bw v 2 eb ec)) (⟨i,hi1,hi2⟩:{i:Nat // i≤3∧True})):=by
 have hcl_L:=Y6 L
 have hcl_Y:=Z3 Y
 have hcl_M:=Z3 M
 have hcl_K:=Z3 K
 refine Hd.goes_seqA (by kernel_rfl) ?_
 exact Z8 V0 (Z7 Try.checked.mixed (J3) 200 (T':=(b97 E K L M X Y i q0 q1 u ul y yl z zk)) (e:=.normal) (ps:=[]) [.go] (by kernel_rfl) (by kernel_rfl) trivial rfl) (Hd.en_n (c3e y E yl L u X ul Y q0 z M q1 zk K hn8 hx3 hxr hy hm hk hx1 hy1 hm1 i hi1 hi2 v eb ec hs))
theorem c3L(y:Value)(E:List (Value×List (Int×Int)))(yl:Value)(L:List (Int×Int))(u:Value)(X:List (Value×List Int))(ul:Value)(Y:List Int)(q0 z:Value)(M:List Int)(q1 zk:Value)(K:List Int)(hn8:L.length≤8)(hx3:X.length=3)(hxr:∀ i,i<3→U5 (Y0 X) (i*1)=L.length)(hy:Y.length=L.length)(hm:M.length=L.length)(hk:K.length=L.length)(hx1:∀ i,i<3→∀ b,b<L.length→0≤Z9 (X7 (Y0 X) (i*1)) (b*1)∧Z9 (X7 (Y0 X) (i*1)) (b*1)≤100)(hy1:∀ b,b<L.length→0≤Z9 (cI Y) (b*1)∧Z9 (cI Y) (b*1)≤100)(hm1:∀ b,b<L.length → -1000≤Z9 (cI M) (b*1) - Z9 (cI K) (b*1)∧Z9 (cI M) (b*1) - Z9 (cI K) (b*1)≤1000)(v:BaseW)(eb:Nat→Option Nat)(ec:Nat→Nat)(hs:List Nat):Y4 Try.prog 25 b6m ((b33 E K L M X Y q0 q1 u ul y yl z zk)) (BaseW.H (bw v 2 eb ec) hs) (Hd.AfterN Try.prog 25 a1Q (bw v 2 eb ec) (R7 Try.prog Try.f79 25 ((.agg [.v (.int .i64 (T6 (R5 (Y0 X) (cI Y) (Y7 (cI M) (cI K) L.length) 0) L.length)),.v (.int .i64 (T6 (R5 (Y0 X) (cI Y) (Y7 (cI M) (cI K) L.length) 1) L.length)),.v (.int .i64 (T6 (R5 (Y0 X) (cI Y) (Y7 (cI M) (cI K) L.length) 2) L.length))])) [(J8 X Y u ul),(K0 E K L M q0 q1 y yl z zk)] (bw v 2 eb ec))):=by
 have hcl_L:=Y6 L
 have hcl_Y:=Z3 Y
 have hcl_M:=Z3 M
 have hcl_K:=Z3 K
 rw [show ((b33 E K L M X Y q0 q1 u ul y yl z zk):Ev.Lit)=⟨[(2,(.ptr 2 0)),(3,(.ptr 3 0)),(4,(.ptr 4 0)),(5,(.ptr 5 0)),(8,(.v (.int .i64 0)))],[],6,[(S5 X Y u ul),(S7 E K L M q0 q1 y yl z zk),(S0 E K L M q0 q1 y yl z zk),S1,S3,(5,(.cells (cI (tI (s6 (R5 (Y0 X) (cI Y) (Y7 (cI M) (cI K) L.length)) L.length 0) 3)) 82))]⟩ from by (rw [a9a];rfl)]
 exact Hd.goes_loopA (id:=0) (by kernel_rfl) (by kernel_rfl) (fun i:{i:Nat // i≤3∧True}=>⟨[(2,(.ptr 2 0)),(3,(.ptr 3 0)),(4,(.ptr 4 0)),(5,(.ptr 5 0)),(8,(.v (.int .i64 i.1)))],[],6,[(S5 X Y u ul),(S7 E K L M q0 q1 y yl z zk),(S0 E K L M q0 q1 y yl z zk),S1,S3,(5,(.cells (cI (tI (s6 (R5 (Y0 X) (cI Y) (Y7 (cI M) (cI K) L.length)) L.length i.1) 3)) 82))]⟩) (fun i:{i:Nat // i≤3∧True}=>3 - i.1) (fun ix_ hs=>c57 y E yl L u X ul Y q0 z M q1 zk K hn8 hx3 hxr hy hm hk hx1 hy1 hm1 ix_.1 ix_.2.1 ix_.2.2 v eb ec hs) ⟨0,Nat.zero_le _,trivial⟩ hs
theorem c3f(y:Value)(E:List (Value×List (Int×Int)))(yl:Value)(L:List (Int×Int))(u:Value)(X:List (Value×List Int))(ul:Value)(Y:List Int)(q0 z:Value)(M:List Int)(q1 zk:Value)(K:List Int)(hn8:L.length≤8)(hx3:X.length=3)(hxr:∀ i,i<3→U5 (Y0 X) (i*1)=L.length)(hy:Y.length=L.length)(hm:M.length=L.length)(hk:K.length=L.length)(hx1:∀ i,i<3→∀ b,b<L.length→0≤Z9 (X7 (Y0 X) (i*1)) (b*1)∧Z9 (X7 (Y0 X) (i*1)) (b*1)≤100)(hy1:∀ b,b<L.length→0≤Z9 (cI Y) (b*1)∧Z9 (cI Y) (b*1)≤100)(hm1:∀ b,b<L.length → -1000≤Z9 (cI M) (b*1) - Z9 (cI K) (b*1)∧Z9 (cI M) (b*1) - Z9 (cI K) (b*1)≤1000)(v:BaseW)(eb:Nat→Option Nat)(ec:Nat→Nat)(hs:List Nat):Y4 Try.prog 25 b6m ((b33 E K L M X Y q0 q1 u ul y yl z zk)) (BaseW.H (bw v 2 eb ec) hs) (Hd.AfterN Try.prog 25 a1Q (bw v 2 eb ec) (R7 Try.prog Try.f79 25 ((.agg [.v (.int .i64 (T6 (R5 (Y0 X) (cI Y) (Y7 (cI M) (cI K) L.length) 0) L.length)),.v (.int .i64 (T6 (R5 (Y0 X) (cI Y) (Y7 (cI M) (cI K) L.length) 1) L.length)),.v (.int .i64 (T6 (R5 (Y0 X) (cI Y) (Y7 (cI M) (cI K) L.length) 2) L.length))])) [(J8 X Y u ul),(K0 E K L M q0 q1 y yl z zk)] (bw v 2 eb ec))):=by
 exact c3L y E yl L u X ul Y q0 z M q1 zk K hn8 hx3 hxr hy hm hk hx1 hy1 hm1 v eb ec hs
theorem c2T(y:Value)(E:List (Value×List (Int×Int)))(yl:Value)(L:List (Int×Int))(u:Value)(X:List (Value×List Int))(ul:Value)(Y:List Int)(q0 z:Value)(M:List Int)(q1 zk:Value)(K:List Int)(hn8:L.length≤8)(hx3:X.length=3)(hxr:∀ i,i<3→U5 (Y0 X) (i*1)=L.length)(hy:Y.length=L.length)(hm:M.length=L.length)(hk:K.length=L.length)(hx1:∀ i,i<3→∀ b,b<L.length→0≤Z9 (X7 (Y0 X) (i*1)) (b*1)∧Z9 (X7 (Y0 X) (i*1)) (b*1)≤100)(hy1:∀ b,b<L.length→0≤Z9 (cI Y) (b*1)∧Z9 (cI Y) (b*1)≤100)(hm1:∀ b,b<L.length → -1000≤Z9 (cI M) (b*1) - Z9 (cI K) (b*1)∧Z9 (cI M) (b*1) - Z9 (cI K) (b*1)≤1000)(v:BaseW)(eb:Nat→Option Nat)(ec:Nat→Nat)(hs:List Nat):Y4 Try.prog 25 b8C ((b0U E K L M X Y q0 q1 u ul y yl z zk)) (BaseW.H (bw v 2 eb ec) hs) (Hd.AfterN Try.prog 25 a1Q (bw v 2 eb ec) (R7 Try.prog Try.f79 25 ((.agg [.v (.int .i64 (T6 (R5 (Y0 X) (cI Y) (Y7 (cI M) (cI K) L.length) 0) L.length)),.v (.int .i64 (T6 (R5 (Y0 X) (cI Y) (Y7 (cI M) (cI K) L.length) 1) L.length)),.v (.int .i64 (T6 (R5 (Y0 X) (cI Y) (Y7 (cI M) (cI K) L.length) 2) L.length))])) [(J8 X Y u ul),(K0 E K L M q0 q1 y yl z zk)] (bw v 2 eb ec))):=by
 have hcl_L:=Y6 L
 have hcl_Y:=Z3 Y
 have hcl_M:=Z3 M
 have hcl_K:=Z3 K
 refine Hd.goes_seqA (by kernel_rfl) ?_
 exact Z8 V0 (Z7 Try.checked.mixed (J3) 200 (T':=(b33 E K L M X Y q0 q1 u ul y yl z zk)) (e:=.normal) (ps:=[]) [.go] (by kernel_rfl) (by kernel_rfl) trivial rfl) (Hd.en_n (c3f y E yl L u X ul Y q0 z M q1 zk K hn8 hx3 hxr hy hm hk hx1 hy1 hm1 v eb ec hs))
theorem c7p(y:Value)(E:List (Value×List (Int×Int)))(yl:Value)(L:List (Int×Int))(u:Value)(X:List (Value×List Int))(ul:Value)(Y:List Int)(q0 z:Value)(M:List Int)(q1 zk:Value)(K:List Int)(hn8:L.length≤8)(hx3:X.length=3)(hxr:∀ i,i<3→U5 (Y0 X) (i*1)=L.length)(hy:Y.length=L.length)(hm:M.length=L.length)(hk:K.length=L.length)(hx1:∀ i,i<3→∀ b,b<L.length→0≤Z9 (X7 (Y0 X) (i*1)) (b*1)∧Z9 (X7 (Y0 X) (i*1)) (b*1)≤100)(hy1:∀ b,b<L.length→0≤Z9 (cI Y) (b*1)∧Z9 (cI Y) (b*1)≤100)(hm1:∀ b,b<L.length → -1000≤Z9 (cI M) (b*1) - Z9 (cI K) (b*1)∧Z9 (cI M) (b*1) - Z9 (cI K) (b*1)≤1000)(v:BaseW)(eb:Nat→Option Nat)(ec:Nat→Nat)(hs:List Nat):Y4 Try.prog 25 c1P ((b0U E K L M X Y q0 q1 u ul y yl z zk)) (BaseW.H (bw v 2 eb ec) hs) (R7 Try.prog Try.f79 25 ((.agg [.v (.int .i64 (T6 (R5 (Y0 X) (cI Y) (Y7 (cI M) (cI K) L.length) 0) L.length)),.v (.int .i64 (T6 (R5 (Y0 X) (cI Y) (Y7 (cI M) (cI K) L.length) 1) L.length)),.v (.int .i64 (T6 (R5 (Y0 X) (cI Y) (Y7 (cI M) (cI K) L.length) 2) L.length))])) [(J8 X Y u ul),(K0 E K L M q0 q1 y yl z zk)] (bw v 2 eb ec)):=by
 exact Hd.goes_seqA (by kernel_rfl) (c2T y E yl L u X ul Y q0 z M q1 zk K hn8 hx3 hxr hy hm hk hx1 hy1 hm1 v eb ec hs)
theorem c7o(y:Value)(E:List (Value×List (Int×Int)))(yl:Value)(L:List (Int×Int))(u:Value)(X:List (Value×List Int))(ul:Value)(Y:List Int)(q0 z:Value)(M:List Int)(q1 zk:Value)(K:List Int)(hn8:L.length≤8)(hx3:X.length=3)(hxr:∀ i,i<3→U5 (Y0 X) (i*1)=L.length)(hy:Y.length=L.length)(hm:M.length=L.length)(hk:K.length=L.length)(hx1:∀ i,i<3→∀ b,b<L.length→0≤Z9 (X7 (Y0 X) (i*1)) (b*1)∧Z9 (X7 (Y0 X) (i*1)) (b*1)≤100)(hy1:∀ b,b<L.length→0≤Z9 (cI Y) (b*1)∧Z9 (cI Y) (b*1)≤100)(hm1:∀ b,b<L.length → -1000≤Z9 (cI M) (b*1) - Z9 (cI K) (b*1)∧Z9 (cI M) (b*1) - Z9 (cI K) (b*1)≤1000)(v:BaseW)(eb:Nat→Option Nat)(ec:Nat→Nat)(hs:List Nat):Y4 Try.prog 25 c4l ((b6f E K L M X Y q0 q1 u ul y yl z zk)) (BaseW.H (bw v 2 eb ec) hs) (R7 Try.prog Try.f79 25 ((.agg [.v (.int .i64 (T6 (R5 (Y0 X) (cI Y) (Y7 (cI M) (cI K) L.length) 0) L.length)),.v (.int .i64 (T6 (R5 (Y0 X) (cI Y) (Y7 (cI M) (cI K) L.length) 1) L.length)),.v (.int .i64 (T6 (R5 (Y0 X) (cI Y) (Y7 (cI M) (cI K) L.length) 2) L.length))])) [(J8 X Y u ul),(K0 E K L M q0 q1 y yl z zk)] (bw v 2 eb ec)):=by
 have hcl_L:=Y6 L
 have hcl_Y:=Z3 Y
 have hcl_M:=Z3 M
 have hcl_K:=Z3 K
 refine Hd.goes_seqA (by kernel_rfl) ?_
 exact Z8 V0 (Z7 Try.checked.mixed (J3) 200 (T':=(b0U E K L M X Y q0 q1 u ul y yl z zk)) (e:=.normal) (ps:=[]) [.go] (by kernel_rfl) (by kernel_rfl) trivial rfl) (Hd.en_n (c7p y E yl L u X ul Y q0 z M q1 zk K hn8 hx3 hxr hy hm hk hx1 hy1 hm1 v eb ec hs))
theorem c7H(y:Value)(E:List (Value×List (Int×Int)))(yl:Value)(L:List (Int×Int))(u:Value)(X:List (Value×List Int))(ul:Value)(Y:List Int)(q0 z:Value)(M:List Int)(q1 zk:Value)(K:List Int)(hn8:L.length≤8)(hx3:X.length=3)(hxr:∀ i,i<3→U5 (Y0 X) (i*1)=L.length)(hy:Y.length=L.length)(hm:M.length=L.length)(hk:K.length=L.length)(hx1:∀ i,i<3→∀ b,b<L.length→0≤Z9 (X7 (Y0 X) (i*1)) (b*1)∧Z9 (X7 (Y0 X) (i*1)) (b*1)≤100)(hy1:∀ b,b<L.length→0≤Z9 (cI Y) (b*1)∧Z9 (cI Y) (b*1)≤100)(hm1:∀ b,b<L.length → -1000≤Z9 (cI M) (b*1) - Z9 (cI K) (b*1)∧Z9 (cI M) (b*1) - Z9 (cI K) (b*1)≤1000)(v:BaseW)(eb:Nat→Option Nat)(ec:Nat→Nat)(hs:List Nat):Y4 Try.prog 25 c3a (⟨[(0,(b7b E K L M q0 q1 y yl z zk)),(1,(.fn (.func 80) [] [.ptr 0 0,.ptr 1 0]))],[],2,[(0,(J8 X Y u ul)),(1,(K0 E K L M q0 q1 y yl z zk))]⟩) (BaseW.H (bw v 2 eb ec) hs) (R7 Try.prog Try.f79 25 ((.agg [.v (.int .i64 (T6 (R5 (Y0 X) (cI Y) (Y7 (cI M) (cI K) L.length) 0) L.length)),.v (.int .i64 (T6 (R5 (Y0 X) (cI Y) (Y7 (cI M) (cI K) L.length) 1) L.length)),.v (.int .i64 (T6 (R5 (Y0 X) (cI Y) (Y7 (cI M) (cI K) L.length) 2) L.length))])) [(J8 X Y u ul),(K0 E K L M q0 q1 y yl z zk)] (bw v 2 eb ec)):=by
 have hcl_L:=Y6 L
 have hcl_Y:=Z3 Y
 have hcl_M:=Z3 M
 have hcl_K:=Z3 K
 refine Hd.goes_seqA (by kernel_rfl) ?_
 exact Z8 V0 (Z7 Try.checked.mixed (J3) 200 (T':=(b6f E K L M X Y q0 q1 u ul y yl z zk)) (e:=.normal) (ps:=[]) [.go,.go,.go] (by kernel_rfl) (by kernel_rfl) trivial rfl) (Hd.en_n (c7o y E yl L u X ul Y q0 z M q1 zk K hn8 hx3 hxr hy hm hk hx1 hy1 hm1 v eb ec hs))
theorem c6y(y:Value)(E:List (Value×List (Int×Int)))(yl:Value)(L:List (Int×Int))(u:Value)(X:List (Value×List Int))(ul:Value)(Y:List Int)(q0 z:Value)(M:List Int)(q1 zk:Value)(K:List Int)(hn8:L.length≤8)(hx3:X.length=3)(hxr:∀ i,i<3→U5 (Y0 X) (i*1)=L.length)(hy:Y.length=L.length)(hm:M.length=L.length)(hk:K.length=L.length)(hx1:∀ i,i<3→∀ b,b<L.length→0≤Z9 (X7 (Y0 X) (i*1)) (b*1)∧Z9 (X7 (Y0 X) (i*1)) (b*1)≤100)(hy1:∀ b,b<L.length→0≤Z9 (cI Y) (b*1)∧Z9 (cI Y) (b*1)≤100)(hm1:∀ b,b<L.length → -1000≤Z9 (cI M) (b*1) - Z9 (cI K) (b*1)∧Z9 (cI M) (b*1) - Z9 (cI K) (b*1)≤1000):G7 Try.prog 79 [(b7b E K L M q0 q1 y yl z zk),(.fn (.func 80) [] [.ptr 0 0,.ptr 1 0])] [(J8 X Y u ul),(K0 E K L M q0 q1 y yl z zk)] ((.agg [.v (.int .i64 (T6 (R5 (Y0 X) (cI Y) (Y7 (cI M) (cI K) L.length) 0) L.length)),.v (.int .i64 (T6 (R5 (Y0 X) (cI Y) (Y7 (cI M) (cI K) L.length) 1) L.length)),.v (.int .i64 (T6 (R5 (Y0 X) (cI Y) (Y7 (cI M) (cI K) L.length) 2) L.length))])) [(J8 X Y u ul),(K0 E K L M q0 q1 y yl z zk)] :=
 R0 25 (by kernel_rfl) Try.func79 (by kernel_rfl) (by kernel_rfl) (by kernel_rfl) (fun v eb ec=>W2 (by kernel_rfl) (by kernel_rfl) (by kernel_rfl) (by kernel_rfl) (c7H y E yl L u X ul Y q0 z M q1 zk K hn8 hx3 hxr hy hm hk hx1 hy1 hm1 v eb ec []))
end
end Go.Proofs.Ytegmogadbnfbgaa
set_option linter.all false
/- What is known of sums of two chips. -/
namespace Go.Proofs.Ytegmogadbnfbgaa
open Go Ev
noncomputable section
def sdS:List AV→List AB→Option ((AV×List AB)×List Prop):=fun args xs =>
 match args,xs with
 |[.agg [.xl y me k1 cE,.xl yl n k2 cL,.fn (.func f) lz lc],.fn (.func g) gl gc],[.cells l1 t1,.cells l2 t2]=>match l1,lz,lc,gl,gc with
  |[.xl u m k3 cX,.xl ul j k4 cY],[],[.xp q0 a1 a2 d0 a3,.xp q1 b1 b2 d1 b3],[],[p,q]=>match Nat.beq f 82,Nat.beq g 80,b3b p 0,b3b q 1,d0,d1 with
   |true,true,true,true,[.xl z r k5 cM],[.xl zk s k6 cK]=>some ((.agg [.v (.int .i64 (T6 (R5 cX cY (Y7 cM cK n) 0) n)),.v (.int .i64 (T6 (R5 cX cY (Y7 cM cK n) 1) n)),.v (.int .i64 (T6 (R5 cX cY (Y7 cM cK n) 2) n))],[.cells l1 t1,.cells l2 t2]),[b2d t1,b27 t2,V5 k1 cE me,Y5 k2 n cL,b7Z k3 m k4 j k5 r k6 s cX cY cM cK n,a4m a1 a2 a3,a4m b1 b2 b3,n≤8,l2=[.xl y me k1 cE,.xl yl n k2 cL,.fn (.func f) lz lc]])
   |_,_,_,_,_,_=>none
  |_,_,_,_,_=>none
 |_,_=>none
def sdO:R6:=a2W 79 sdS
theorem b6p:Known Try.prog (clsO sdO):=A5 (fun args xs r ys ps h hp=>by
 unfold sdS at h
 split at h
 ·split at h
  ·split at h
   ·rename_i e1 e2 e3 e4
    cases h
    obtain ⟨rfl,rfl,⟨rfl,E,rfl,rfl⟩,⟨rfl,L,rfl,rfl⟩,⟨X,Y,M,K,⟨rfl,rfl,rfl⟩,⟨rfl,rfl,rfl⟩,⟨rfl,rfl,rfl⟩,⟨rfl,rfl,rfl⟩,h1,h2,h3,h4,h4',h5,h6,h7⟩,⟨rfl,rfl,rfl⟩,⟨rfl,rfl,rfl⟩,h8,rfl,-⟩:=hp
    rw [a4D e3,a4D e4,Nat.eq_of_beq_eq_true e1,Nat.eq_of_beq_eq_true e2]
    exact ⟨a3L X Y E L M K,a3L X Y E L M K,c6y _ E _ L _ X _ Y _ _ M _ _ K h8 h1 h2 h3 h4 h4' h5 h6 h7⟩
   ·cases h
  ·cases h
 ·cases h)
noncomputable def c7a:Code:=R8 Try.f54
set_option maxHeartbeats 2000000 in
theorem c7I(y:Value)(E:List (Value×List (Int×Int)))(yl:Value)(L:List (Int×Int))(u:Value)(X:List (Value×List Int))(ul:Value)(Y:List Int)(q0 z:Value)(M:List Int)(q1 zk:Value)(K:List Int)(hn8:L.length≤8)(hx3:X.length=3)(hxr:∀ i,i<3→U5 (Y0 X) (i*1)=L.length)(hy:Y.length=L.length)(hm:M.length=L.length)(hk:K.length=L.length)(hx1:∀ i,i<3→∀ b,b<L.length→0≤Z9 (X7 (Y0 X) (i*1)) (b*1)∧Z9 (X7 (Y0 X) (i*1)) (b*1)≤100)(hy1:∀ b,b<L.length→0≤Z9 (cI Y) (b*1)∧Z9 (cI Y) (b*1)≤100)(hm1:∀ b,b<L.length → -1000≤Z9 (cI M) (b*1) - Z9 (cI K) (b*1)∧Z9 (cI M) (b*1) - Z9 (cI K) (b*1)≤1000)(w:World)(hs:List Nat):Y4 Try.prog 8 c7a (⟨[(0,(.agg [.xl y E.length 1 (Z1 E),.xl yl L.length 2 (cR L),(.fn (.func 82) [] [.xp q0 1 1 [.xl z M.length 1 (cI M)] 0,.xp q1 1 1 [.xl zk K.length 1 (cI K)] 0])])),(1,(.agg [.xl u X.length 1 (Y0 X),.xl ul Y.length 1 (cI Y)]))],[],0,[]⟩) (BaseW.H w hs) (V3 Try.prog Try.f54 8 (.agg #[.int .i64 (T6 (R5 (Y0 X) (cI Y) (Y7 (cI M) (cI K) L.length) 0) L.length),.int .i64 (T6 (R5 (Y0 X) (cI Y) (Y7 (cI M) (cI K) L.length) 1) L.length),.int .i64 (T6 (R5 (Y0 X) (cI Y) (Y7 (cI M) (cI K) L.length) 2) L.length)]) w):=by
 have hcl_L:=Y6 L
 have hcl_Y:=Z3 Y
 have hcl_M:=Z3 M
 have hcl_K:=Z3 K
 exact Z8 W1 (Z7 Try.checked.mixed (b6p) 200 (T':=⟨[(4,(.ptr 2 0))],[],3,[(2,(.cells [(.v (.int .i64 (T6 (R5 (Y0 X) (cI Y) (Y7 (cI M) (cI K) L.length) 0) L.length))),(.v (.int .i64 (T6 (R5 (Y0 X) (cI Y) (Y7 (cI M) (cI K) L.length) 1) L.length))),(.v (.int .i64 (T6 (R5 (Y0 X) (cI Y) (Y7 (cI M) (cI K) L.length) 2) L.length)))] 82))]⟩) (e:=.ret) (ps:=[W9 (Z1 E),W9 (cR L),W9 [AV.xl z M.length 1 (cI M)],W9 [AV.xl zk K.length 1 (cI K)],b2d 29,b27 85,V5 1 (Z1 E) E.length,Y5 2 L.length (cR L),b7Z 1 X.length 1 Y.length 1 M.length 1 K.length (Y0 X) (cI Y) (cI M) (cI K) L.length,a4m 1 1 0,a4m 1 1 0,L.length≤8,(AV.agg [AV.xl y E.length 1 (Z1 E),AV.xl yl L.length 2 (cR L),AV.fn (Fn.func 82) [] [AV.xp q0 1 1 [AV.xl z M.length 1 (cI M)] 0,AV.xp q1 1 1 [AV.xl zk K.length 1 (cI K)] 0]]).cells=[AV.xl y E.length 1 (Z1 E),AV.xl yl L.length 2 (cR L),AV.fn (Fn.func 82) [] [AV.xp q0 1 1 [AV.xl z M.length 1 (cI M)] 0,AV.xp q1 1 1 [AV.xl zk K.length 1 (cI K)] 0]]]) [.go,.go,.go,.go,.go,.go] (by kernel_rfl) (by kernel_rfl) ⟨(X6 E),(Z4 (X4 _)),(V4 (Z4 (Z2 _))),(V4 (Z4 (Z2 _))),rfl,rfl,⟨rfl,E,rfl,rfl⟩,⟨rfl,L,rfl,rfl⟩,⟨X,Y,M,K,⟨rfl,rfl,rfl⟩,⟨rfl,rfl,rfl⟩,⟨rfl,rfl,rfl⟩,⟨rfl,rfl,rfl⟩,hx3,hxr,hy,hm,hk,hx1,hy1,hm1⟩,⟨rfl,rfl,rfl⟩,⟨rfl,rfl,rfl⟩,hn8,rfl,trivial⟩ rfl) (Hd.en_eq (r:=.agg #[(.int .i64 (T6 (R5 (Y0 X) (cI Y) (Y7 (cI M) (cI K) L.length) 0) L.length)),(.int .i64 (T6 (R5 (Y0 X) (cI Y) (Y7 (cI M) (cI K) L.length) 1) L.length)),(.int .i64 (T6 (R5 (Y0 X) (cI Y) (Y7 (cI M) (cI K) L.length) 2) L.length))]) (by rfl) (Hd.en_ret (v:=(.agg [(.v (.int .i64 (T6 (R5 (Y0 X) (cI Y) (Y7 (cI M) (cI K) L.length) 0) L.length))),(.v (.int .i64 (T6 (R5 (Y0 X) (cI Y) (Y7 (cI M) (cI K) L.length) 1) L.length))),(.v (.int .i64 (T6 (R5 (Y0 X) (cI Y) (Y7 (cI M) (cI K) L.length) 2) L.length)))])) (by kernel_rfl) rfl))
theorem c79(y:Value)(E:List (Value×List (Int×Int)))(yl:Value)(L:List (Int×Int))(u:Value)(X:List (Value×List Int))(ul:Value)(Y:List Int)(q0 z:Value)(M:List Int)(q1 zk:Value)(K:List Int)(hn8:L.length≤8)(hx3:X.length=3)(hxr:∀ i,i<3→U5 (Y0 X) (i*1)=L.length)(hy:Y.length=L.length)(hm:M.length=L.length)(hk:K.length=L.length)(hx1:∀ i,i<3→∀ b,b<L.length→0≤Z9 (X7 (Y0 X) (i*1)) (b*1)∧Z9 (X7 (Y0 X) (i*1)) (b*1)≤100)(hy1:∀ b,b<L.length→0≤Z9 (cI Y) (b*1)∧Z9 (cI Y) (b*1)≤100)(hm1:∀ b,b<L.length → -1000≤Z9 (cI M) (b*1) - Z9 (cI K) (b*1)∧Z9 (cI M) (b*1) - Z9 (cI K) (b*1)≤1000):GivesA Try.prog 54 [(.agg [.xl y E.length 1 (Z1 E),.xl yl L.length 2 (cR L),(.fn (.func 82) [] [.xp q0 1 1 [.xl z M.length 1 (cI M)] 0,.xp q1 1 1 [.xl zk K.length 1 (cI K)] 0])]),(.agg [.xl u X.length 1 (Y0 X),.xl ul Y.length 1 (cI Y)])] (.agg #[.int .i64 (T6 (R5 (Y0 X) (cI Y) (Y7 (cI M) (cI K) L.length) 0) L.length),.int .i64 (T6 (R5 (Y0 X) (cI Y) (Y7 (cI M) (cI K) L.length) 1) L.length),.int .i64 (T6 (R5 (Y0 X) (cI Y) (Y7 (cI M) (cI K) L.length) 2) L.length)]) :=
 W0 8 Try.func54 (by kernel_rfl) (by kernel_rfl) (by kernel_rfl) (fun w=>W2 (by kernel_rfl) (by kernel_rfl) (by kernel_rfl) (by kernel_rfl) (c7I y E yl L u X ul Y q0 z M q1 zk K hn8 hx3 hxr hy hm hk hx1 hy1 hm1 w []))
end
end Go.Proofs.Ytegmogadbnfbgaa
set_option maxHeartbeats 4000000
set_option linter.all false
/- Two chips, looked at. -/
namespace Go.Proofs.Ytegmogadbnfbgaa
open Go Ev
noncomputable section
theorem b7H{a:Int}(h : -9223372036854775808≤a)(k:a≤9223372036854775807):O8 .i64 a:=⟨h,k⟩
section
variable (E : List (Value × List (Int × Int))) (K : List Int) (L : List (Int × Int)) (M : List Int) (P : List (Int × Int)) (g : Bool) (q0 q1 y yl yr z zk : Value)
@[reducible] def b8R:Ev.AB:=(.cells [(.xl (y) (E.length) 1 (Z1 E)),(.xl (yl) (L.length) 2 (cR L)),(.fn (.func 82) [] [(AV.xp q0 1 1 [AV.xl z M.length 1 (cI M)] 0),(AV.xp q1 1 1 [AV.xl zk K.length 1 (cI K)] 0)])] 85)
@[reducible] def a2z:Nat×Ev.AB:=(0,(b8R E K L M q0 q1 y yl z zk))
@[reducible] def a0h:Nat×Ev.AB:=(1,(.cells [(.xl (yr) (P.length) 2 (cR P))] 23))
@[reducible] def a02:Nat×Ev.AB:=(2,(.cells [(.v (.bool (g)))] 4))
@[reducible] def a3t:Nat×Ev.AB:=(3,(.cells [(.v (Value.slice none 0 0))] 27))
@[reducible] def b6J:Nat×Ev.AB:=(4,(b8R E K L M q0 q1 y yl z zk))
@[reducible] def a78:Ev.Lit:=⟨[(3,(.ptr 0 0)),(4,(.ptr 1 0)),(5,(.ptr 2 0)),(7,(.ptr 3 0)),(11,(.fn (.func 93) [] [(.ptr 4 0)]))],[],5,[(a2z E K L M q0 q1 y yl z zk),(a0h P yr),(a02 g),a3t,(b6J E K L M q0 q1 y yl z zk)]⟩
@[reducible] def b3U:Ev.Lit:=⟨[(3,(.ptr 0 0)),(4,(.ptr 1 0)),(5,(.ptr 2 0)),(7,(.ptr 3 0))],[],4,[(a2z E K L M q0 q1 y yl z zk),(a0h P yr),(a02 g),a3t]⟩
@[reducible] def b8h:Ev.Lit:=⟨[(3,(.ptr 0 0)),(4,(.ptr 1 0)),(5,(.ptr 2 0))],[],3,[(a2z E K L M q0 q1 y yl z zk),(a0h P yr),(a02 g)]⟩
@[reducible] def a3E:=(tI (W8 (cR P) (Y7 (cI M) (cI K) L.length) g) L.length)
@[reducible] def b4U:Ev.AB:=(.cells [(.slu 8 0 (a3E K L M P g).length 0)] 27)
@[reducible] def b1m:Nat×Ev.AB:=(3,(b4U K L M P g))
@[reducible] def E6:Ev.AB:=(.row (cI (a3E K L M P g)) 2 1)
@[reducible] def b0O:Nat×Ev.AB:=(8,(E6 K L M P g))
@[reducible] def b91:Ev.Lit:=⟨[(7,(.ptr 3 0))],[5],9,[(b1m K L M P g),(5,(.defd .true)),(b0O K L M P g)]⟩
@[reducible] def b8k:Ev.Lit:=⟨[(7,(.ptr 3 0))],[],6,[(3,(.cells [(.slu 5 0 (a3E K L M P g).length 0)] 27)),(5,(E6 K L M P g))]⟩
@[reducible] def b8g:Ev.AV:=(.agg [.xl y E.length 1 (Z1 E),.xl yl L.length 2 (cR L),(.fn (.func 82) [] [.xp q0 1 1 [.xl z M.length 1 (cI M)] 0,.xp q1 1 1 [.xl zk K.length 1 (cI K)] 0])])
end
noncomputable def c7t:Code:=R8 Try.f64
theorem c6s(y:Value)(E:List (Value×List (Int×Int)))(yl:Value)(L:List (Int×Int))(z:Value)(M:List Int)(zk:Value)(K:List Int)(v:BaseW)(eb:Nat→Option Nat)(ec:Nat→Nat)(hs:List Nat):Y4 Try.prog 10 c7t (⟨[(0,(.agg [.xl y E.length 1 (Z1 E),.xl yl L.length 2 (cR L)])),(1,(.xl z M.length 1 (cI M))),(2,(.xl zk K.length 1 (cI K)))],[],0,[]⟩) (BaseW.H (bw v 0 eb ec) hs) (R7 Try.prog Try.f64 10 ((.agg [.xl y E.length 1 (Z1 E),.xl yl L.length 2 (cR L),.fn (.func 82) [] [.ptr 0 0,.ptr 1 0]])) [(.cells [.xl z M.length 1 (cI M)] 114),(.cells [.xl zk K.length 1 (cI K)] 114)] (bw v 0 eb ec)):=by
 have hcl_L:=Y6 L
 have hcl_M:=Z3 M
 have hcl_K:=Z3 K
 exact Z8 W1 (L6 Try.checked.mixed (Z5) 200 (T':=⟨[(6,(.ptr 2 0))],[],3,[(0,(.cells [(.xl (z) (M.length) 1 (cI M))] 114)),(1,(.cells [(.xl (zk) (K.length) 1 (cI K))] 114)),(2,(.cells [(.xl (y) (E.length) 1 (Z1 E)),(.xl (yl) (L.length) 2 (cR L)),(.fn (.func 82) [] [(.ptr 0 0),(.ptr 1 0)])] 85))]⟩) (e:=.ret) (m:=4) (ps:=[]) [.go,.go,.go,.go,.go,.go,.go,.go] [1,2,3] [(.ptr 3 0)] [(.cells [(.xl (z) (M.length) 1 (cI M))] 114),(.cells [(.xl (zk) (K.length) 1 (cI K))] 114),(.cells [(.xl (y) (E.length) 1 (Z1 E)),(.xl (yl) (L.length) 2 (cR L)),(.fn (.func 82) [] [(.ptr 1 0),(.ptr 2 0)])] 85)] (by kernel_rfl) (by kernel_rfl) trivial rfl rfl (by decide) rfl ⟨P7 rfl,trivial⟩ ⟨⟨by show 0<3;decide,U8 (X9 (C4 (U6 (Z2 M))) (V1))⟩,⟨by show 1<3;decide,U8 (X9 (C4 (U6 (Z2 K))) (V1))⟩,⟨by show 2<3;decide,U8 (X9 (P4 (V4 (X6 _))) (X9 (C4 (U6 (X4 L))) (X9 (a2m (V1) (X9 (P7 rfl) (X9 (P7 rfl) (V1)))) (V1))))⟩,trivial⟩) (E3 (r:=(.agg [(.xl (y) (E.length) 1 (Z1 E)),(.xl (yl) (L.length) 2 (cR L)),(.fn (.func 82) [] [(.ptr 0 0),(.ptr 1 0)])])) (ys:=[(.cells [(.xl (z) (M.length) 1 (cI M))] 114),(.cells [(.xl (zk) (K.length) 1 (cI K))] 114)]) (by rfl) (by rfl) (J4 (by kernel_rfl) (by kernel_rfl) rfl (.inr rfl)))
theorem c7r(y:Value)(E:List (Value×List (Int×Int)))(yl:Value)(L:List (Int×Int))(z:Value)(M:List Int)(zk:Value)(K:List Int):G7 Try.prog 64 [(.agg [.xl y E.length 1 (Z1 E),.xl yl L.length 2 (cR L)]),(.xl z M.length 1 (cI M)),(.xl zk K.length 1 (cI K))] [] ((.agg [.xl y E.length 1 (Z1 E),.xl yl L.length 2 (cR L),.fn (.func 82) [] [.ptr 0 0,.ptr 1 0]])) [(.cells [.xl z M.length 1 (cI M)] 114),(.cells [.xl zk K.length 1 (cI K)] 114)] :=
 R0 10 (by kernel_rfl) Try.func64 (by kernel_rfl) (by kernel_rfl) (by kernel_rfl) (fun v eb ec=>W2 (by kernel_rfl) (by kernel_rfl) (by kernel_rfl) (by kernel_rfl) (c6s y E yl L z M zk K v eb ec []))
noncomputable def c5y:Code:=R8 Try.f90
noncomputable def c69:Code:=N4 c5y
noncomputable def b9w:Code:=N4 c69
noncomputable def b39:Code:=N4 b9w
noncomputable def b86:Code:=(m9 b9w)
noncomputable def b4f:Code:=N4 b86
noncomputable def W5:Code:=a6I b4f
noncomputable def b6R:Code:=R8 Try.f93
noncomputable def b6H:Code:=N4 b6R
noncomputable def b0C:Code:=L2 b6H
theorem c0c(y:Value)(E:List (Value×List (Int×Int)))(yl:Value)(L:List (Int×Int))(q0 z:Value)(M:List Int)(q1 zk:Value)(K:List Int)(yr:Value)(P:List (Int×Int))(g:Bool)(hn:1≤L.length∧L.length≤8)(hP:P.length=L.length)(hm:M.length=L.length)(hk:K.length=L.length)(hm1:∀ b,b<L.length → -1000≤Z9 (cI M) (b*1) - Z9 (cI K) (b*1)∧Z9 (cI M) (b*1) - Z9 (cI K) (b*1)≤1000)(v:BaseW)(eb:Nat→Option Nat)(ec:Nat→Nat):Y4 Try.prog 16 b6H ((⟨[(0,(.yld 6)),(7,(.v (.int .i64 L.length))),(8,(.v (.int .i64 (.ofNat 0))))],[],7,6,[(3,(.ptr 0 0)),(4,(.ptr 1 0)),(5,(.ptr 2 0)),(7,(.ptr 3 0))],[(0,(.cells [(.xl (y) (E.length) 1 (Z1 E)),(.xl (yl) (L.length) 2 (cR L)),(.fn (.func 82) [] [(AV.xp q0 1 1 [AV.xl z M.length 1 (cI M)] 0),(AV.xp q1 1 1 [AV.xl zk K.length 1 (cI K)] 0)])] 85)),(1,(.cells [(.xl (yr) (P.length) 2 (cR P))] 23)),(2,(.cells [(.v (.bool (g)))] 4)),(3,(.cells [(.v (Value.slice none 0 0))] 27)),(5,(.defd .true))],.ready,none,35,z7 W5,z9 W5,z8 W5,5⟩:Ev.Lit1).lit) (bw v 7 eb ec) (a55 16 (fun _:Unit=>((⟨[],[],9,6,[(3,(.ptr 0 0)),(4,(.ptr 1 0)),(5,(.ptr 2 0)),(7,(.ptr 3 0))],[(0,(.cells [(.xl (y) (E.length) 1 (Z1 E)),(.xl (yl) (L.length) 2 (cR L)),(.fn (.func 82) [] [(AV.xp q0 1 1 [AV.xl z M.length 1 (cI M)] 0),(AV.xp q1 1 1 [AV.xl zk K.length 1 (cI K)] 0)])] 85)),(1,(.cells [(.xl (yr) (P.length) 2 (cR P))] 23)),(2,(.cells [(.v (.bool (g)))] 4)),(3,(.cells [(.slu 8 0 (tI (W8 (cR P) (Y7 (cI M) (cI K) L.length) g) L.length).length 0)] 27)),(5,(.defd .true)),(8,(.row (cI (tI (W8 (cR P) (Y7 (cI M) (cI K) L.length) g) L.length)) 2 1))],.ready,none,35,z7 W5,z9 W5,z8 W5,5⟩:Ev.Lit1)).lit) (fun _:Unit=>True) (bw v 7 eb ec)):=by
 have hcl_L:=Y6 L
 have hcl_M:=Z3 M
 have hcl_K:=Z3 K
 have hcl_P:=Y6 P
 refine W2 (T':=(⟨[(0,(.yld 6)),(7,(.v (.int .i64 L.length))),(8,(.v (.int .i64 (.ofNat 0))))],[],7,6,[(3,(.ptr 0 0)),(4,(.ptr 1 0)),(5,(.ptr 2 0)),(7,(.ptr 3 0))],[(0,(.cells [(.xl (y) (E.length) 1 (Z1 E)),(.xl (yl) (L.length) 2 (cR L)),(.fn (.func 82) [] [(AV.xp q0 1 1 [AV.xl z M.length 1 (cI M)] 0),(AV.xp q1 1 1 [AV.xl zk K.length 1 (cI K)] 0)])] 85)),(1,(.cells [(.xl (yr) (P.length) 2 (cR P))] 23)),(2,(.cells [(.v (.bool (g)))] 4)),(3,(.cells [(.v (Value.slice none 0 0))] 27)),(5,(.defd .true))],.ready,none,35,z7 W5,z9 W5,z8 W5,5⟩:Ev.Lit1).lit) (by kernel_rfl) (by kernel_rfl) (by kernel_rfl) (by kernel_rfl) (a6f (ι:={i:Nat // i≤L.length∧True}) (T:=(fun i:{i:Nat // i≤L.length∧True}=>((Ev.fam0 (⟨[(0,(.yld 6)),(7,(.v (.int .i64 L.length))),(8,(.v (.int .i64 i.1)))],[],7,6,[(3,(.ptr 0 0)),(4,(.ptr 1 0)),(5,(.ptr 2 0)),(7,(.ptr 3 0))],[(0,(.cells [(.xl (y) (E.length) 1 (Z1 E)),(.xl (yl) (L.length) 2 (cR L)),(.fn (.func 82) [] [(AV.xp q0 1 1 [AV.xl z M.length 1 (cI M)] 0),(AV.xp q1 1 1 [AV.xl zk K.length 1 (cI K)] 0)])] 85)),(1,(.cells [(.xl (yr) (P.length) 2 (cR P))] 23)),(2,(.cells [(.v (.bool (g)))] 4)),(3,(.cells [(.v (Value.slice none 0 0))] 27)),(5,(.defd .true))],.ready,none,35,z7 W5,z9 W5,z8 W5,5⟩:Ev.Lit1).lit (fun k=>(⟨[(0,(.yld 6)),(7,(.v (.int .i64 L.length))),(8,(.v (.int .i64 i.1)))],[],9,6,[(3,(.ptr 0 0)),(4,(.ptr 1 0)),(5,(.ptr 2 0)),(7,(.ptr 3 0))],[(0,(.cells [(.xl (y) (E.length) 1 (Z1 E)),(.xl (yl) (L.length) 2 (cR L)),(.fn (.func 82) [] [(AV.xp q0 1 1 [AV.xl z M.length 1 (cI M)] 0),(AV.xp q1 1 1 [AV.xl zk K.length 1 (cI K)] 0)])] 85)),(1,(.cells [(.xl (yr) (P.length) 2 (cR P))] 23)),(2,(.cells [(.v (.bool (g)))] 4)),(3,(.cells [(.slu 8 0 (k+1) 0)] 27)),(5,(.defd .true)),(8,(.row (cI (tI (W8 (cR P) (Y7 (cI M) (cI K) L.length) g) i.1)) 2 1))],.ready,none,35,z7 W5,z9 W5,z8 W5,5⟩:Ev.Lit1).lit) (tI (W8 (cR P) (Y7 (cI M) (cI K) L.length) g) i.1).length):Ev.Lit))) (R:=(fun i:{i:Nat // i≤L.length∧True}=>L.length≤i.1)) (by kernel_rfl) (b0m (show ((⟨[(0,(.yld 6)),(7,(.v (.int .i64 L.length))),(8,(.v (.int .i64 (.ofNat 0))))],[],7,6,[(3,(.ptr 0 0)),(4,(.ptr 1 0)),(5,(.ptr 2 0)),(7,(.ptr 3 0))],[(0,(.cells [(.xl (y) (E.length) 1 (Z1 E)),(.xl (yl) (L.length) 2 (cR L)),(.fn (.func 82) [] [(AV.xp q0 1 1 [AV.xl z M.length 1 (cI M)] 0),(AV.xp q1 1 1 [AV.xl zk K.length 1 (cI K)] 0)])] 85)),(1,(.cells [(.xl (yr) (P.length) 2 (cR P))] 23)),(2,(.cells [(.v (.bool (g)))] 4)),(3,(.cells [(.v (Value.slice none 0 0))] 27)),(5,(.defd .true))],.ready,none,35,z7 W5,z9 W5,z8 W5,5⟩:Ev.Lit1).lit:Ev.Lit)=(Ev.fam0 (⟨[(0,(.yld 6)),(7,(.v (.int .i64 L.length))),(8,(.v (.int .i64 0)))],[],7,6,[(3,(.ptr 0 0)),(4,(.ptr 1 0)),(5,(.ptr 2 0)),(7,(.ptr 3 0))],[(0,(.cells [(.xl (y) (E.length) 1 (Z1 E)),(.xl (yl) (L.length) 2 (cR L)),(.fn (.func 82) [] [(AV.xp q0 1 1 [AV.xl z M.length 1 (cI M)] 0),(AV.xp q1 1 1 [AV.xl zk K.length 1 (cI K)] 0)])] 85)),(1,(.cells [(.xl (yr) (P.length) 2 (cR P))] 23)),(2,(.cells [(.v (.bool (g)))] 4)),(3,(.cells [(.v (Value.slice none 0 0))] 27)),(5,(.defd .true))],.ready,none,35,z7 W5,z9 W5,z8 W5,5⟩:Ev.Lit1).lit (fun k=>(⟨[(0,(.yld 6)),(7,(.v (.int .i64 L.length))),(8,(.v (.int .i64 0)))],[],9,6,[(3,(.ptr 0 0)),(4,(.ptr 1 0)),(5,(.ptr 2 0)),(7,(.ptr 3 0))],[(0,(.cells [(.xl (y) (E.length) 1 (Z1 E)),(.xl (yl) (L.length) 2 (cR L)),(.fn (.func 82) [] [(AV.xp q0 1 1 [AV.xl z M.length 1 (cI M)] 0),(AV.xp q1 1 1 [AV.xl zk K.length 1 (cI K)] 0)])] 85)),(1,(.cells [(.xl (yr) (P.length) 2 (cR P))] 23)),(2,(.cells [(.v (.bool (g)))] 4)),(3,(.cells [(.slu 8 0 (k+1) 0)] 27)),(5,(.defd .true)),(8,(.row (cI (tI (W8 (cR P) (Y7 (cI M) (cI K) L.length) g) 0)) 2 1))],.ready,none,35,z7 W5,z9 W5,z8 W5,5⟩:Ev.Lit1).lit) (tI (W8 (cR P) (Y7 (cI M) (cI K) L.length) g) 0).length) from by (rw [show (tI (W8 (cR P) (Y7 (cI M) (cI K) L.length) g) 0).length=0 from Y9 _ _];rfl)) (a0H (by kernel_rfl) (fun i:{i:Nat // i≤L.length∧True}=>((Ev.fam0 (⟨[(0,(.yld 6)),(7,(.v (.int .i64 L.length))),(8,(.v (.int .i64 i.1)))],[],7,6,[(3,(.ptr 0 0)),(4,(.ptr 1 0)),(5,(.ptr 2 0)),(7,(.ptr 3 0))],[(0,(.cells [(.xl (y) (E.length) 1 (Z1 E)),(.xl (yl) (L.length) 2 (cR L)),(.fn (.func 82) [] [(AV.xp q0 1 1 [AV.xl z M.length 1 (cI M)] 0),(AV.xp q1 1 1 [AV.xl zk K.length 1 (cI K)] 0)])] 85)),(1,(.cells [(.xl (yr) (P.length) 2 (cR P))] 23)),(2,(.cells [(.v (.bool (g)))] 4)),(3,(.cells [(.v (Value.slice none 0 0))] 27)),(5,(.defd .true))],.ready,none,35,z7 W5,z9 W5,z8 W5,5⟩:Ev.Lit1).lit (fun k=>(⟨[(0,(.yld 6)),(7,(.v (.int .i64 L.length))),(8,(.v (.int .i64 i.1)))],[],9,6,[(3,(.ptr 0 0)),(4,(.ptr 1 0)),(5,(.ptr 2 0)),(7,(.ptr 3 0))],[(0,(.cells [(.xl (y) (E.length) 1 (Z1 E)),(.xl (yl) (L.length) 2 (cR L)),(.fn (.func 82) [] [(AV.xp q0 1 1 [AV.xl z M.length 1 (cI M)] 0),(AV.xp q1 1 1 [AV.xl zk K.length 1 (cI K)] 0)])] 85)),(1,(.cells [(.xl (yr) (P.length) 2 (cR P))] 23)),(2,(.cells [(.v (.bool (g)))] 4)),(3,(.cells [(.slu 8 0 (k+1) 0)] 27)),(5,(.defd .true)),(8,(.row (cI (tI (W8 (cR P) (Y7 (cI M) (cI K) L.length) g) i.1)) 2 1))],.ready,none,35,z7 W5,z9 W5,z8 W5,5⟩:Ev.Lit1).lit) (tI (W8 (cR P) (Y7 (cI M) (cI K) L.length) g) i.1).length):Ev.Lit)) (fun i:{i:Nat // i≤L.length∧True}=>L.length - i.1) (fun i=>?_) ⟨0,Nat.zero_le _,trivial⟩)) (fun ixR hxR=>(fun (i0r:Nat) (h0ra:i0r≤L.length) (h0rb:True) (h0rc:L.length≤i0r)=>⟨(),show True from trivial,(by obtain ⟨i9,q1,q2⟩:=ixR;have h9:L.length≤i9:=hxR;have e:i9=L.length:=(by omega);subst e;obtain ⟨k,hk⟩:∃ k,(tI (W8 (cR P) (Y7 (cI M) (cI K) L.length) g) L.length).length=k+1:=⟨L.length - 1,by rw [Y9];omega⟩;show a4U (Ev.Lit.fs (Ev.fam0 _ _ (tI (W8 (cR P) (Y7 (cI M) (cI K) L.length) g) L.length).length)) _;rw [hk];exact o0 (by kernel_rfl) (by kernel_rfl) (by kernel_rfl) (by kernel_rfl))⟩) ixR.1 ixR.2.1 ixR.2.2 hxR))
 obtain ⟨i,hi1,hi2⟩:=i
 show Y4 Try.prog 16 b0C ((Ev.fam0 (⟨[(0,(.yld 6)),(7,(.v (.int .i64 L.length))),(8,(.v (.int .i64 i)))],[],7,6,[(3,(.ptr 0 0)),(4,(.ptr 1 0)),(5,(.ptr 2 0)),(7,(.ptr 3 0))],[(0,(.cells [(.xl (y) (E.length) 1 (Z1 E)),(.xl (yl) (L.length) 2 (cR L)),(.fn (.func 82) [] [(AV.xp q0 1 1 [AV.xl z M.length 1 (cI M)] 0),(AV.xp q1 1 1 [AV.xl zk K.length 1 (cI K)] 0)])] 85)),(1,(.cells [(.xl (yr) (P.length) 2 (cR P))] 23)),(2,(.cells [(.v (.bool (g)))] 4)),(3,(.cells [(.v (Value.slice none 0 0))] 27)),(5,(.defd .true))],.ready,none,35,z7 W5,z9 W5,z8 W5,5⟩:Ev.Lit1).lit (fun k=>(⟨[(0,(.yld 6)),(7,(.v (.int .i64 L.length))),(8,(.v (.int .i64 i)))],[],9,6,[(3,(.ptr 0 0)),(4,(.ptr 1 0)),(5,(.ptr 2 0)),(7,(.ptr 3 0))],[(0,(.cells [(.xl (y) (E.length) 1 (Z1 E)),(.xl (yl) (L.length) 2 (cR L)),(.fn (.func 82) [] [(AV.xp q0 1 1 [AV.xl z M.length 1 (cI M)] 0),(AV.xp q1 1 1 [AV.xl zk K.length 1 (cI K)] 0)])] 85)),(1,(.cells [(.xl (yr) (P.length) 2 (cR P))] 23)),(2,(.cells [(.v (.bool (g)))] 4)),(3,(.cells [(.slu 8 0 (k+1) 0)] 27)),(5,(.defd .true)),(8,(.row (cI (tI (W8 (cR P) (Y7 (cI M) (cI K) L.length) g) i)) 2 1))],.ready,none,35,z7 W5,z9 W5,z8 W5,5⟩:Ev.Lit1).lit) (tI (W8 (cR P) (Y7 (cI M) (cI K) L.length) g) i).length)) (bw v 7 eb ec) (a5R _ _ _ _ _ _ _ _)
 cases hc:(tI (W8 (cR P) (Y7 (cI M) (cI K) L.length) g) i).length with
 |zero =>
  show Y4 Try.prog 16 b0C ((⟨[(0,(.yld 6)),(7,(.v (.int .i64 L.length))),(8,(.v (.int .i64 i)))],[],7,6,[(3,(.ptr 0 0)),(4,(.ptr 1 0)),(5,(.ptr 2 0)),(7,(.ptr 3 0))],[(0,(.cells [(.xl (y) (E.length) 1 (Z1 E)),(.xl (yl) (L.length) 2 (cR L)),(.fn (.func 82) [] [(AV.xp q0 1 1 [AV.xl z M.length 1 (cI M)] 0),(AV.xp q1 1 1 [AV.xl zk K.length 1 (cI K)] 0)])] 85)),(1,(.cells [(.xl (yr) (P.length) 2 (cR P))] 23)),(2,(.cells [(.v (.bool (g)))] 4)),(3,(.cells [(.v (Value.slice none 0 0))] 27)),(5,(.defd .true))],.ready,none,35,z7 W5,z9 W5,z8 W5,5⟩:Ev.Lit1).lit) (bw v 7 eb ec) (a5R _ _ _ _ _ _ _ _)
  rcases Bool.eq_false_or_eq_true (X8 i L.length) with hz0_1|hz0_1
  ·have ghz0_1:=Y1 hz0_1
   rcases Bool.eq_false_or_eq_true (g == X8 0 (Z9 (cI M) (i*1) - Z9 (cI K) (i*1))) with hz0_2|hz0_2
   ·refine Ev.step_on ⟨i+1,by omega,trivial⟩ (by show L.length - (i+1)<L.length - i;omega) ?_
    have hcn:(tI (W8 (cR P) (Y7 (cI M) (cI K) L.length) g) (i+1)).length=0+1:=by (have h9:=Y9 (W8 (cR P) (Y7 (cI M) (cI K) L.length) g) i;rw [Y9];omega)
    show Y4 _ _ _ _ _ (G0 _ isN (Ev.fam0 (⟨[(0,(.yld 6)),(7,(.v (.int .i64 L.length))),(8,(.v (.int .i64 (((i+1):Nat):Int))))],[],7,6,[(3,(.ptr 0 0)),(4,(.ptr 1 0)),(5,(.ptr 2 0)),(7,(.ptr 3 0))],[(0,(.cells [(.xl (y) (E.length) 1 (Z1 E)),(.xl (yl) (L.length) 2 (cR L)),(.fn (.func 82) [] [(AV.xp q0 1 1 [AV.xl z M.length 1 (cI M)] 0),(AV.xp q1 1 1 [AV.xl zk K.length 1 (cI K)] 0)])] 85)),(1,(.cells [(.xl (yr) (P.length) 2 (cR P))] 23)),(2,(.cells [(.v (.bool (g)))] 4)),(3,(.cells [(.v (Value.slice none 0 0))] 27)),(5,(.defd .true))],.ready,none,35,z7 W5,z9 W5,z8 W5,5⟩:Ev.Lit1).lit (fun k=>(⟨[(0,(.yld 6)),(7,(.v (.int .i64 L.length))),(8,(.v (.int .i64 (((i+1):Nat):Int))))],[],9,6,[(3,(.ptr 0 0)),(4,(.ptr 1 0)),(5,(.ptr 2 0)),(7,(.ptr 3 0))],[(0,(.cells [(.xl (y) (E.length) 1 (Z1 E)),(.xl (yl) (L.length) 2 (cR L)),(.fn (.func 82) [] [(AV.xp q0 1 1 [AV.xl z M.length 1 (cI M)] 0),(AV.xp q1 1 1 [AV.xl zk K.length 1 (cI K)] 0)])] 85)),(1,(.cells [(.xl (yr) (P.length) 2 (cR P))] 23)),(2,(.cells [(.v (.bool (g)))] 4)),(3,(.cells [(.slu 8 0 (k+1) 0)] 27)),(5,(.defd .true)),(8,(.row (cI (tI (W8 (cR P) (Y7 (cI M) (cI K) L.length) g) (i+1))) 2 1))],.ready,none,35,z7 W5,z9 W5,z8 W5,5⟩:Ev.Lit1).lit) (tI (W8 (cR P) (Y7 (cI M) (cI K) L.length) g) (i+1)).length) _)
    rw [hcn]
    show Y4 _ _ _ _ _ (G0 _ isN ((⟨[(0,(.yld 6)),(7,(.v (.int .i64 L.length))),(8,(.v (.int .i64 (((i+1):Nat):Int))))],[],9,6,[(3,(.ptr 0 0)),(4,(.ptr 1 0)),(5,(.ptr 2 0)),(7,(.ptr 3 0))],[(0,(.cells [(.xl (y) (E.length) 1 (Z1 E)),(.xl (yl) (L.length) 2 (cR L)),(.fn (.func 82) [] [(AV.xp q0 1 1 [AV.xl z M.length 1 (cI M)] 0),(AV.xp q1 1 1 [AV.xl zk K.length 1 (cI K)] 0)])] 85)),(1,(.cells [(.xl (yr) (P.length) 2 (cR P))] 23)),(2,(.cells [(.v (.bool (g)))] 4)),(3,(.cells [(.slu 8 0 (0+1) 0)] 27)),(5,(.defd .true)),(8,(.row (cI (tI (W8 (cR P) (Y7 (cI M) (cI K) L.length) g) (i+1))) 2 1))],.ready,none,35,z7 W5,z9 W5,z8 W5,5⟩:Ev.Lit1).lit) _)
    exact a0e Try.checked.mixed (Z5) 200 (T':=(⟨[(0,(.yld 6)),(7,(.v (.int .i64 L.length))),(8,(.v (.int .i64 (((i+1):Nat):Int))))],[],9,6,[(3,(.ptr 0 0)),(4,(.ptr 1 0)),(5,(.ptr 2 0)),(7,(.ptr 3 0))],[(0,(.cells [(.xl (y) (E.length) 1 (Z1 E)),(.xl (yl) (L.length) 2 (cR L)),(.fn (.func 82) [] [(AV.xp q0 1 1 [AV.xl z M.length 1 (cI M)] 0),(AV.xp q1 1 1 [AV.xl zk K.length 1 (cI K)] 0)])] 85)),(1,(.cells [(.xl (yr) (P.length) 2 (cR P))] 23)),(2,(.cells [(.v (.bool (g)))] 4)),(3,(.cells [(.slu 8 0 (0+1) 0)] 27)),(5,(.defd .true)),(8,(.row (cI (tI (W8 (cR P) (Y7 (cI M) (cI K) L.length) g) (i+1))) 2 1))],.ready,none,35,z7 W5,z9 W5,z8 W5,5⟩:Ev.Lit1)) (e:=.normal) (m:=9) (ps:=[X8 i L.length=true,i<P.length,i*2+0<((cR P):List AV).length,W7 Try.prog (cR P) (i*2+0) 2=some (AV.v (Value.int IntKind.i64 (Z9 (cR P) (i*2+0)))),i<M.length,W7 Try.prog (cI M) (i*1) 2=some (AV.v (Value.int IntKind.i64 (Z9 (cI M) (i*1)))),i<K.length,W7 Try.prog (cI K) (i*1) 2=some (AV.v (Value.int IntKind.i64 (Z9 (cI K) (i*1)))),O8 IntKind.i64 (Z9 (cI M) (i*1) - Z9 (cI K) (i*1)),(g == X8 0 (Z9 (cI M) (i*1) - Z9 (cI K) (i*1)))=true,i<P.length,i*2+1<((cR P):List AV).length,W7 Try.prog (cR P) (i*2+1) 2=some (AV.v (Value.int IntKind.i64 (Z9 (cR P) (i*2+1)))),(!true)=false,O8 IntKind.i64 (((i:Nat):Int)+1)]) [.go,.b true,.go,.go,.go,.go,.go,.go,.go,.sym,.sym,.sym,.go,.go,.go,.go,.go,.go,.go,.go,.go,.go,.go,.sym,.sym,.go,.go,.go,.go,.go,.go,.sym,.sym,.go,.go,.go,.go,.go,.b true,.go,.go,.sym,.sym,.sym,.go,.go,.go,.go,.go,.go,.go,.b false,.go,.go] [0,1,2,3,4,5,6,7,8] [(.yld 6),(.v (.int .i64 L.length)),(.v (.int .i64 (((i:Nat):Int)+1)))] [(.ptr 0 0),(.ptr 1 0),(.ptr 2 0),(.ptr 3 0)] [(.cells [(.xl (y) (E.length) 1 (Z1 E)),(.xl (yl) (L.length) 2 (cR L)),(.fn (.func 82) [] [(AV.xp q0 1 1 [AV.xl z M.length 1 (cI M)] 0),(AV.xp q1 1 1 [AV.xl zk K.length 1 (cI K)] 0)])] 85),(.cells [(.xl (yr) (P.length) 2 (cR P))] 23),(.cells [(.v (.bool (g)))] 4),(.cells [(.slu 8 0 1 0)] 27),(.defd .true),(.row [(.v (.int .i64 (Z9 (cR P) (i*2+1))))] 2 1)] (by kernel_rfl) (by kernel_rfl) ⟨hz0_1,(by omega),(by rw [Y6];omega),(C0 (i:=i) (by omega) (by omega) 2 (Try.underlying2) rfl),(by omega),(by rw [Nat.mul_one];exact U4 (show _<M.length by omega) 2 (Try.underlying2) rfl),(by omega),(by rw [Nat.mul_one];exact U4 (show _<K.length by omega) 2 (Try.underlying2) rfl),(by have h9:=hm1 i (by omega);show -9223372036854775808≤_∧_≤9223372036854775807;constructor<;>omega),hz0_2,(by omega),(by rw [Y6];omega),(C0 (i:=i) (by omega) (by omega) 2 (Try.underlying2) rfl),rfl,(b7H (by omega) (by omega)),trivial⟩ rfl rfl (by decide) rfl ⟨a8i rfl,E2 _,a38 (show ((((i:Nat):Int)+1):Int)=(((i+1):Nat):Int) from by omega),trivial⟩ ⟨P7 rfl,P7 rfl,P7 rfl,P7 rfl,trivial⟩ ⟨⟨by show 0<9;decide,U8 (X9 (P4 (V4 (X6 _))) (X9 (C4 (U6 (X4 L))) (X9 (a2m (V1) (X9 (P4 (P6 (V4 (Z4 (Z2 _))))) (X9 (P4 (P6 (V4 (Z4 (Z2 _))))) (V1)))) (V1))))⟩,⟨by show 1<9;decide,U8 (X9 (C4 (U6 (X4 P))) (V1))⟩,⟨by show 2<9;decide,U8 (X9 (E2 _) (V1))⟩,⟨by show 3<9;decide,U8 (X9 (I1 rfl) (V1))⟩,⟨by show 5<9;decide,a2B⟩,⟨by show 8<9;decide,M4 (a3R (show ((cI (tI (W8 (cR P) (Y7 (cI M) (cI K) L.length) g) (i+1))):List AV)=[(.v (.int .i64 (Z9 (cR P) (i*2+1))))] from by (exact (b5B (by have h9:=Y9 (W8 (cR P) (Y7 (cI M) (cI K) L.length) g) i;omega) (a5x (c:=cR P) (n:=L.length) (by omega) hz0_2)).symm)) (Z2 _))⟩,trivial⟩ (by show 6<9;decide) (by show 5<9;decide) (by show 7≤9;decide) (fun b hb=>(by have hb2:b<7:=hb;match b,hb2 with|0,_=>rfl|1,_=>rfl|2,_=>rfl|3,_=>rfl|4,_=>rfl|5,_=>rfl|6,_=>rfl))
   ·refine Ev.step_on ⟨i+1,by omega,trivial⟩ (by show L.length - (i+1)<L.length - i;omega) ?_
    have hcn:(tI (W8 (cR P) (Y7 (cI M) (cI K) L.length) g) (i+1)).length=0+1:=by (have h9:=Y9 (W8 (cR P) (Y7 (cI M) (cI K) L.length) g) i;rw [Y9];omega)
    show Y4 _ _ _ _ _ (G0 _ isN (Ev.fam0 (⟨[(0,(.yld 6)),(7,(.v (.int .i64 L.length))),(8,(.v (.int .i64 (((i+1):Nat):Int))))],[],7,6,[(3,(.ptr 0 0)),(4,(.ptr 1 0)),(5,(.ptr 2 0)),(7,(.ptr 3 0))],[(0,(.cells [(.xl (y) (E.length) 1 (Z1 E)),(.xl (yl) (L.length) 2 (cR L)),(.fn (.func 82) [] [(AV.xp q0 1 1 [AV.xl z M.length 1 (cI M)] 0),(AV.xp q1 1 1 [AV.xl zk K.length 1 (cI K)] 0)])] 85)),(1,(.cells [(.xl (yr) (P.length) 2 (cR P))] 23)),(2,(.cells [(.v (.bool (g)))] 4)),(3,(.cells [(.v (Value.slice none 0 0))] 27)),(5,(.defd .true))],.ready,none,35,z7 W5,z9 W5,z8 W5,5⟩:Ev.Lit1).lit (fun k=>(⟨[(0,(.yld 6)),(7,(.v (.int .i64 L.length))),(8,(.v (.int .i64 (((i+1):Nat):Int))))],[],9,6,[(3,(.ptr 0 0)),(4,(.ptr 1 0)),(5,(.ptr 2 0)),(7,(.ptr 3 0))],[(0,(.cells [(.xl (y) (E.length) 1 (Z1 E)),(.xl (yl) (L.length) 2 (cR L)),(.fn (.func 82) [] [(AV.xp q0 1 1 [AV.xl z M.length 1 (cI M)] 0),(AV.xp q1 1 1 [AV.xl zk K.length 1 (cI K)] 0)])] 85)),(1,(.cells [(.xl (yr) (P.length) 2 (cR P))] 23)),(2,(.cells [(.v (.bool (g)))] 4)),(3,(.cells [(.slu 8 0 (k+1) 0)] 27)),(5,(.defd .true)),(8,(.row (cI (tI (W8 (cR P) (Y7 (cI M) (cI K) L.length) g) (i+1))) 2 1))],.ready,none,35,z7 W5,z9 W5,z8 W5,5⟩:Ev.Lit1).lit) (tI (W8 (cR P) (Y7 (cI M) (cI K) L.length) g) (i+1)).length) _)
    rw [hcn]
    show Y4 _ _ _ _ _ (G0 _ isN ((⟨[(0,(.yld 6)),(7,(.v (.int .i64 L.length))),(8,(.v (.int .i64 (((i+1):Nat):Int))))],[],9,6,[(3,(.ptr 0 0)),(4,(.ptr 1 0)),(5,(.ptr 2 0)),(7,(.ptr 3 0))],[(0,(.cells [(.xl (y) (E.length) 1 (Z1 E)),(.xl (yl) (L.length) 2 (cR L)),(.fn (.func 82) [] [(AV.xp q0 1 1 [AV.xl z M.length 1 (cI M)] 0),(AV.xp q1 1 1 [AV.xl zk K.length 1 (cI K)] 0)])] 85)),(1,(.cells [(.xl (yr) (P.length) 2 (cR P))] 23)),(2,(.cells [(.v (.bool (g)))] 4)),(3,(.cells [(.slu 8 0 (0+1) 0)] 27)),(5,(.defd .true)),(8,(.row (cI (tI (W8 (cR P) (Y7 (cI M) (cI K) L.length) g) (i+1))) 2 1))],.ready,none,35,z7 W5,z9 W5,z8 W5,5⟩:Ev.Lit1).lit) _)
    exact a0e Try.checked.mixed (Z5) 200 (T':=(⟨[(0,(.yld 6)),(7,(.v (.int .i64 L.length))),(8,(.v (.int .i64 (((i+1):Nat):Int))))],[],9,6,[(3,(.ptr 0 0)),(4,(.ptr 1 0)),(5,(.ptr 2 0)),(7,(.ptr 3 0))],[(0,(.cells [(.xl (y) (E.length) 1 (Z1 E)),(.xl (yl) (L.length) 2 (cR L)),(.fn (.func 82) [] [(AV.xp q0 1 1 [AV.xl z M.length 1 (cI M)] 0),(AV.xp q1 1 1 [AV.xl zk K.length 1 (cI K)] 0)])] 85)),(1,(.cells [(.xl (yr) (P.length) 2 (cR P))] 23)),(2,(.cells [(.v (.bool (g)))] 4)),(3,(.cells [(.slu 8 0 (0+1) 0)] 27)),(5,(.defd .true)),(8,(.row (cI (tI (W8 (cR P) (Y7 (cI M) (cI K) L.length) g) (i+1))) 2 1))],.ready,none,35,z7 W5,z9 W5,z8 W5,5⟩:Ev.Lit1)) (e:=.normal) (m:=9) (ps:=[X8 i L.length=true,i<P.length,i*2+0<((cR P):List AV).length,W7 Try.prog (cR P) (i*2+0) 2=some (AV.v (Value.int IntKind.i64 (Z9 (cR P) (i*2+0)))),i<M.length,W7 Try.prog (cI M) (i*1) 2=some (AV.v (Value.int IntKind.i64 (Z9 (cI M) (i*1)))),i<K.length,W7 Try.prog (cI K) (i*1) 2=some (AV.v (Value.int IntKind.i64 (Z9 (cI K) (i*1)))),O8 IntKind.i64 (Z9 (cI M) (i*1) - Z9 (cI K) (i*1)),(g == X8 0 (Z9 (cI M) (i*1) - Z9 (cI K) (i*1)))=false,(!true)=false,O8 IntKind.i64 (((i:Nat):Int)+1)]) [.go,.b true,.go,.go,.go,.go,.go,.go,.go,.sym,.sym,.sym,.go,.go,.go,.go,.go,.go,.go,.go,.go,.go,.go,.sym,.sym,.go,.go,.go,.go,.go,.go,.sym,.sym,.go,.go,.go,.go,.go,.b false,.go,.go,.go,.go,.go,.go,.b false,.go,.go] [0,1,2,3,4,5,6,7,8] [(.yld 6),(.v (.int .i64 L.length)),(.v (.int .i64 (((i:Nat):Int)+1)))] [(.ptr 0 0),(.ptr 1 0),(.ptr 2 0),(.ptr 3 0)] [(.cells [(.xl (y) (E.length) 1 (Z1 E)),(.xl (yl) (L.length) 2 (cR L)),(.fn (.func 82) [] [(AV.xp q0 1 1 [AV.xl z M.length 1 (cI M)] 0),(AV.xp q1 1 1 [AV.xl zk K.length 1 (cI K)] 0)])] 85),(.cells [(.xl (yr) (P.length) 2 (cR P))] 23),(.cells [(.v (.bool (g)))] 4),(.cells [(.slu 8 0 1 0)] 27),(.defd .true),(.row [(.v (.int .i64 (Z9 (cR P) (i*2+0))))] 2 1)] (by kernel_rfl) (by kernel_rfl) ⟨hz0_1,(by omega),(by rw [Y6];omega),(C0 (i:=i) (by omega) (by omega) 2 (Try.underlying2) rfl),(by omega),(by rw [Nat.mul_one];exact U4 (show _<M.length by omega) 2 (Try.underlying2) rfl),(by omega),(by rw [Nat.mul_one];exact U4 (show _<K.length by omega) 2 (Try.underlying2) rfl),(by have h9:=hm1 i (by omega);show -9223372036854775808≤_∧_≤9223372036854775807;constructor<;>omega),hz0_2,rfl,(b7H (by omega) (by omega)),trivial⟩ rfl rfl (by decide) rfl ⟨a8i rfl,E2 _,a38 (show ((((i:Nat):Int)+1):Int)=(((i+1):Nat):Int) from by omega),trivial⟩ ⟨P7 rfl,P7 rfl,P7 rfl,P7 rfl,trivial⟩ ⟨⟨by show 0<9;decide,U8 (X9 (P4 (V4 (X6 _))) (X9 (C4 (U6 (X4 L))) (X9 (a2m (V1) (X9 (P4 (P6 (V4 (Z4 (Z2 _))))) (X9 (P4 (P6 (V4 (Z4 (Z2 _))))) (V1)))) (V1))))⟩,⟨by show 1<9;decide,U8 (X9 (C4 (U6 (X4 P))) (V1))⟩,⟨by show 2<9;decide,U8 (X9 (E2 _) (V1))⟩,⟨by show 3<9;decide,U8 (X9 (I1 rfl) (V1))⟩,⟨by show 5<9;decide,a2B⟩,⟨by show 8<9;decide,M4 (a3R (show ((cI (tI (W8 (cR P) (Y7 (cI M) (cI K) L.length) g) (i+1))):List AV)=[(.v (.int .i64 (Z9 (cR P) (i*2+0))))] from by (exact (b5B (by have h9:=Y9 (W8 (cR P) (Y7 (cI M) (cI K) L.length) g) i;omega) (a8W (c:=cR P) (m:=cI M) (k:=cI K) (g:=g) (b:=i) (n:=L.length) (by omega) (by rw [hz0_2];decide))).symm)) (Z2 _))⟩,trivial⟩ (by show 6<9;decide) (by show 5<9;decide) (by show 7≤9;decide) (fun b hb=>(by have hb2:b<7:=hb;match b,hb2 with|0,_=>rfl|1,_=>rfl|2,_=>rfl|3,_=>rfl|4,_=>rfl|5,_=>rfl|6,_=>rfl))
  ·have ghz0_1:=Z6 hz0_1
   exfalso
   have h9:=Y9 (W8 (cR P) (Y7 (cI M) (cI K) L.length) g) i
   omega
 |succ k =>
  show Y4 Try.prog 16 b0C ((⟨[(0,(.yld 6)),(7,(.v (.int .i64 L.length))),(8,(.v (.int .i64 i)))],[],9,6,[(3,(.ptr 0 0)),(4,(.ptr 1 0)),(5,(.ptr 2 0)),(7,(.ptr 3 0))],[(0,(.cells [(.xl (y) (E.length) 1 (Z1 E)),(.xl (yl) (L.length) 2 (cR L)),(.fn (.func 82) [] [(AV.xp q0 1 1 [AV.xl z M.length 1 (cI M)] 0),(AV.xp q1 1 1 [AV.xl zk K.length 1 (cI K)] 0)])] 85)),(1,(.cells [(.xl (yr) (P.length) 2 (cR P))] 23)),(2,(.cells [(.v (.bool (g)))] 4)),(3,(.cells [(.slu 8 0 (k+1) 0)] 27)),(5,(.defd .true)),(8,(.row (cI (tI (W8 (cR P) (Y7 (cI M) (cI K) L.length) g) i)) 2 1))],.ready,none,35,z7 W5,z9 W5,z8 W5,5⟩:Ev.Lit1).lit) (bw v 7 eb ec) (a5R _ _ _ _ _ _ _ _)
  rcases Bool.eq_false_or_eq_true (X8 i L.length) with hs0_1|hs0_1
  ·have ghs0_1:=Y1 hs0_1
   rcases Bool.eq_false_or_eq_true (g == X8 0 (Z9 (cI M) (i*1) - Z9 (cI K) (i*1))) with hs0_2|hs0_2
   ·refine Ev.step_on ⟨i+1,by omega,trivial⟩ (by show L.length - (i+1)<L.length - i;omega) ?_
    have hcn:(tI (W8 (cR P) (Y7 (cI M) (cI K) L.length) g) (i+1)).length=k+1+1:=by (have h9:=Y9 (W8 (cR P) (Y7 (cI M) (cI K) L.length) g) i;rw [Y9];omega)
    show Y4 _ _ _ _ _ (G0 _ isN (Ev.fam0 (⟨[(0,(.yld 6)),(7,(.v (.int .i64 L.length))),(8,(.v (.int .i64 (((i+1):Nat):Int))))],[],7,6,[(3,(.ptr 0 0)),(4,(.ptr 1 0)),(5,(.ptr 2 0)),(7,(.ptr 3 0))],[(0,(.cells [(.xl (y) (E.length) 1 (Z1 E)),(.xl (yl) (L.length) 2 (cR L)),(.fn (.func 82) [] [(AV.xp q0 1 1 [AV.xl z M.length 1 (cI M)] 0),(AV.xp q1 1 1 [AV.xl zk K.length 1 (cI K)] 0)])] 85)),(1,(.cells [(.xl (yr) (P.length) 2 (cR P))] 23)),(2,(.cells [(.v (.bool (g)))] 4)),(3,(.cells [(.v (Value.slice none 0 0))] 27)),(5,(.defd .true))],.ready,none,35,z7 W5,z9 W5,z8 W5,5⟩:Ev.Lit1).lit (fun k=>(⟨[(0,(.yld 6)),(7,(.v (.int .i64 L.length))),(8,(.v (.int .i64 (((i+1):Nat):Int))))],[],9,6,[(3,(.ptr 0 0)),(4,(.ptr 1 0)),(5,(.ptr 2 0)),(7,(.ptr 3 0))],[(0,(.cells [(.xl (y) (E.length) 1 (Z1 E)),(.xl (yl) (L.length) 2 (cR L)),(.fn (.func 82) [] [(AV.xp q0 1 1 [AV.xl z M.length 1 (cI M)] 0),(AV.xp q1 1 1 [AV.xl zk K.length 1 (cI K)] 0)])] 85)),(1,(.cells [(.xl (yr) (P.length) 2 (cR P))] 23)),(2,(.cells [(.v (.bool (g)))] 4)),(3,(.cells [(.slu 8 0 (k+1) 0)] 27)),(5,(.defd .true)),(8,(.row (cI (tI (W8 (cR P) (Y7 (cI M) (cI K) L.length) g) (i+1))) 2 1))],.ready,none,35,z7 W5,z9 W5,z8 W5,5⟩:Ev.Lit1).lit) (tI (W8 (cR P) (Y7 (cI M) (cI K) L.length) g) (i+1)).length) _)
    rw [hcn]
    show Y4 _ _ _ _ _ (G0 _ isN ((⟨[(0,(.yld 6)),(7,(.v (.int .i64 L.length))),(8,(.v (.int .i64 (((i+1):Nat):Int))))],[],9,6,[(3,(.ptr 0 0)),(4,(.ptr 1 0)),(5,(.ptr 2 0)),(7,(.ptr 3 0))],[(0,(.cells [(.xl (y) (E.length) 1 (Z1 E)),(.xl (yl) (L.length) 2 (cR L)),(.fn (.func 82) [] [(AV.xp q0 1 1 [AV.xl z M.length 1 (cI M)] 0),(AV.xp q1 1 1 [AV.xl zk K.length 1 (cI K)] 0)])] 85)),(1,(.cells [(.xl (yr) (P.length) 2 (cR P))] 23)),(2,(.cells [(.v (.bool (g)))] 4)),(3,(.cells [(.slu 8 0 (k+1+1) 0)] 27)),(5,(.defd .true)),(8,(.row (cI (tI (W8 (cR P) (Y7 (cI M) (cI K) L.length) g) (i+1))) 2 1))],.ready,none,35,z7 W5,z9 W5,z8 W5,5⟩:Ev.Lit1).lit) _)
    exact a0e Try.checked.mixed (Z5) 200 (T':=(⟨[(0,(.yld 6)),(7,(.v (.int .i64 L.length))),(8,(.v (.int .i64 (((i+1):Nat):Int))))],[],9,6,[(3,(.ptr 0 0)),(4,(.ptr 1 0)),(5,(.ptr 2 0)),(7,(.ptr 3 0))],[(0,(.cells [(.xl (y) (E.length) 1 (Z1 E)),(.xl (yl) (L.length) 2 (cR L)),(.fn (.func 82) [] [(AV.xp q0 1 1 [AV.xl z M.length 1 (cI M)] 0),(AV.xp q1 1 1 [AV.xl zk K.length 1 (cI K)] 0)])] 85)),(1,(.cells [(.xl (yr) (P.length) 2 (cR P))] 23)),(2,(.cells [(.v (.bool (g)))] 4)),(3,(.cells [(.slu 8 0 (k+1+1) 0)] 27)),(5,(.defd .true)),(8,(.row (cI (tI (W8 (cR P) (Y7 (cI M) (cI K) L.length) g) (i+1))) 2 1))],.ready,none,35,z7 W5,z9 W5,z8 W5,5⟩:Ev.Lit1)) (e:=.normal) (m:=11) (ps:=[X8 i L.length=true,i<P.length,i*2+0<((cR P):List AV).length,W7 Try.prog (cR P) (i*2+0) 2=some (AV.v (Value.int IntKind.i64 (Z9 (cR P) (i*2+0)))),i<M.length,W7 Try.prog (cI M) (i*1) 2=some (AV.v (Value.int IntKind.i64 (Z9 (cI M) (i*1)))),i<K.length,W7 Try.prog (cI K) (i*1) 2=some (AV.v (Value.int IntKind.i64 (Z9 (cI K) (i*1)))),O8 IntKind.i64 (Z9 (cI M) (i*1) - Z9 (cI K) (i*1)),(g == X8 0 (Z9 (cI M) (i*1) - Z9 (cI K) (i*1)))=true,i<P.length,i*2+1<((cR P):List AV).length,W7 Try.prog (cR P) (i*2+1) 2=some (AV.v (Value.int IntKind.i64 (Z9 (cR P) (i*2+1)))),((cI (tI (W8 (cR P) (Y7 (cI M) (cI K) L.length) g) i)):List AV).length=(k+1)*1,k+1+1≤1000000,(!true)=false,O8 IntKind.i64 (((i:Nat):Int)+1)]) [.go,.b true,.go,.go,.go,.go,.go,.go,.go,.sym,.sym,.sym,.go,.go,.go,.go,.go,.go,.go,.go,.go,.go,.go,.sym,.sym,.go,.go,.go,.go,.go,.go,.sym,.sym,.go,.go,.go,.go,.go,.b true,.go,.go,.sym,.sym,.sym,.go,.go,.go,.go,.sym,.go,.go,.b false,.go,.go] [0,1,2,3,4,5,6,7,10] [(.yld 6),(.v (.int .i64 L.length)),(.v (.int .i64 (((i:Nat):Int)+1)))] [(.ptr 0 0),(.ptr 1 0),(.ptr 2 0),(.ptr 3 0)] [(.cells [(.xl (y) (E.length) 1 (Z1 E)),(.xl (yl) (L.length) 2 (cR L)),(.fn (.func 82) [] [(AV.xp q0 1 1 [AV.xl z M.length 1 (cI M)] 0),(AV.xp q1 1 1 [AV.xl zk K.length 1 (cI K)] 0)])] 85),(.cells [(.xl (yr) (P.length) 2 (cR P))] 23),(.cells [(.v (.bool (g)))] 4),(.cells [(.slu 10 0 (k+1+1) 0)] 27),(.defd .true),(.row ((cI (tI (W8 (cR P) (Y7 (cI M) (cI K) L.length) g) i))++[(.v (.int .i64 (Z9 (cR P) (i*2+1))))]) 2 1)] (by kernel_rfl) (by kernel_rfl) ⟨hs0_1,(by omega),(by rw [Y6];omega),(C0 (i:=i) (by omega) (by omega) 2 (Try.underlying2) rfl),(by omega),(by rw [Nat.mul_one];exact U4 (show _<M.length by omega) 2 (Try.underlying2) rfl),(by omega),(by rw [Nat.mul_one];exact U4 (show _<K.length by omega) 2 (Try.underlying2) rfl),(by have h9:=hm1 i (by omega);show -9223372036854775808≤_∧_≤9223372036854775807;constructor<;>omega),hs0_2,(by omega),(by rw [Y6];omega),(C0 (i:=i) (by omega) (by omega) 2 (Try.underlying2) rfl),(by have h9:=Y9 (W8 (cR P) (Y7 (cI M) (cI K) L.length) g) i;show (cI _).length=_;rw [Z3,Y9];omega),(by have h9:=Y9 (W8 (cR P) (Y7 (cI M) (cI K) L.length) g) i;have h8:=Y9 (W8 (cR P) (Y7 (cI M) (cI K) L.length) g) (i+1);omega),rfl,(b7H (by omega) (by omega)),trivial⟩ rfl rfl (by decide) rfl ⟨a8i rfl,E2 _,a38 (show ((((i:Nat):Int)+1):Int)=(((i+1):Nat):Int) from by omega),trivial⟩ ⟨P7 rfl,P7 rfl,P7 rfl,P7 rfl,trivial⟩ ⟨⟨by show 0<9;decide,U8 (X9 (P4 (V4 (X6 _))) (X9 (C4 (U6 (X4 L))) (X9 (a2m (V1) (X9 (P4 (P6 (V4 (Z4 (Z2 _))))) (X9 (P4 (P6 (V4 (Z4 (Z2 _))))) (V1)))) (V1))))⟩,⟨by show 1<9;decide,U8 (X9 (C4 (U6 (X4 P))) (V1))⟩,⟨by show 2<9;decide,U8 (X9 (E2 _) (V1))⟩,⟨by show 3<9;decide,U8 (X9 (I1 rfl) (V1))⟩,⟨by show 5<9;decide,a2B⟩,⟨by show 8<9;decide,M4 (a3R (show ((cI (tI (W8 (cR P) (Y7 (cI M) (cI K) L.length) g) (i+1))):List AV)=((cI (tI (W8 (cR P) (Y7 (cI M) (cI K) L.length) g) i))++[(.v (.int .i64 (Z9 (cR P) (i*2+1))))]) from by first|exact (a8G (a5x (c:=cR P) (n:=L.length) (by omega) hs0_2)).symm|(rw [List.take_of_length_le (by have h9:=Y9 (W8 (cR P) (Y7 (cI M) (cI K) L.length) g) i;rw [List.length_drop,Z3,Y9];omega),List.drop_zero];exact (a8G (a5x (c:=cR P) (n:=L.length) (by omega) hs0_2)).symm)) (Z2 _))⟩,trivial⟩ (by show 6<9;decide) (by show 5<9;decide) (by show 7≤9;decide) (fun b hb=>(by have hb2:b<7:=hb;match b,hb2 with|0,_=>rfl|1,_=>rfl|2,_=>rfl|3,_=>rfl|4,_=>rfl|5,_=>rfl|6,_=>rfl))
   ·refine Ev.step_on ⟨i+1,by omega,trivial⟩ (by show L.length - (i+1)<L.length - i;omega) ?_
    have hcn:(tI (W8 (cR P) (Y7 (cI M) (cI K) L.length) g) (i+1)).length=k+1+1:=by (have h9:=Y9 (W8 (cR P) (Y7 (cI M) (cI K) L.length) g) i;rw [Y9];omega)
    show Y4 _ _ _ _ _ (G0 _ isN (Ev.fam0 (⟨[(0,(.yld 6)),(7,(.v (.int .i64 L.length))),(8,(.v (.int .i64 (((i+1):Nat):Int))))],[],7,6,[(3,(.ptr 0 0)),(4,(.ptr 1 0)),(5,(.ptr 2 0)),(7,(.ptr 3 0))],[(0,(.cells [(.xl (y) (E.length) 1 (Z1 E)),(.xl (yl) (L.length) 2 (cR L)),(.fn (.func 82) [] [(AV.xp q0 1 1 [AV.xl z M.length 1 (cI M)] 0),(AV.xp q1 1 1 [AV.xl zk K.length 1 (cI K)] 0)])] 85)),(1,(.cells [(.xl (yr) (P.length) 2 (cR P))] 23)),(2,(.cells [(.v (.bool (g)))] 4)),(3,(.cells [(.v (Value.slice none 0 0))] 27)),(5,(.defd .true))],.ready,none,35,z7 W5,z9 W5,z8 W5,5⟩:Ev.Lit1).lit (fun k=>(⟨[(0,(.yld 6)),(7,(.v (.int .i64 L.length))),(8,(.v (.int .i64 (((i+1):Nat):Int))))],[],9,6,[(3,(.ptr 0 0)),(4,(.ptr 1 0)),(5,(.ptr 2 0)),(7,(.ptr 3 0))],[(0,(.cells [(.xl (y) (E.length) 1 (Z1 E)),(.xl (yl) (L.length) 2 (cR L)),(.fn (.func 82) [] [(AV.xp q0 1 1 [AV.xl z M.length 1 (cI M)] 0),(AV.xp q1 1 1 [AV.xl zk K.length 1 (cI K)] 0)])] 85)),(1,(.cells [(.xl (yr) (P.length) 2 (cR P))] 23)),(2,(.cells [(.v (.bool (g)))] 4)),(3,(.cells [(.slu 8 0 (k+1) 0)] 27)),(5,(.defd .true)),(8,(.row (cI (tI (W8 (cR P) (Y7 (cI M) (cI K) L.length) g) (i+1))) 2 1))],.ready,none,35,z7 W5,z9 W5,z8 W5,5⟩:Ev.Lit1).lit) (tI (W8 (cR P) (Y7 (cI M) (cI K) L.length) g) (i+1)).length) _)
    rw [hcn]
    show Y4 _ _ _ _ _ (G0 _ isN ((⟨[(0,(.yld 6)),(7,(.v (.int .i64 L.length))),(8,(.v (.int .i64 (((i+1):Nat):Int))))],[],9,6,[(3,(.ptr 0 0)),(4,(.ptr 1 0)),(5,(.ptr 2 0)),(7,(.ptr 3 0))],[(0,(.cells [(.xl (y) (E.length) 1 (Z1 E)),(.xl (yl) (L.length) 2 (cR L)),(.fn (.func 82) [] [(AV.xp q0 1 1 [AV.xl z M.length 1 (cI M)] 0),(AV.xp q1 1 1 [AV.xl zk K.length 1 (cI K)] 0)])] 85)),(1,(.cells [(.xl (yr) (P.length) 2 (cR P))] 23)),(2,(.cells [(.v (.bool (g)))] 4)),(3,(.cells [(.slu 8 0 (k+1+1) 0)] 27)),(5,(.defd .true)),(8,(.row (cI (tI (W8 (cR P) (Y7 (cI M) (cI K) L.length) g) (i+1))) 2 1))],.ready,none,35,z7 W5,z9 W5,z8 W5,5⟩:Ev.Lit1).lit) _)
    exact a0e Try.checked.mixed (Z5) 200 (T':=(⟨[(0,(.yld 6)),(7,(.v (.int .i64 L.length))),(8,(.v (.int .i64 (((i+1):Nat):Int))))],[],9,6,[(3,(.ptr 0 0)),(4,(.ptr 1 0)),(5,(.ptr 2 0)),(7,(.ptr 3 0))],[(0,(.cells [(.xl (y) (E.length) 1 (Z1 E)),(.xl (yl) (L.length) 2 (cR L)),(.fn (.func 82) [] [(AV.xp q0 1 1 [AV.xl z M.length 1 (cI M)] 0),(AV.xp q1 1 1 [AV.xl zk K.length 1 (cI K)] 0)])] 85)),(1,(.cells [(.xl (yr) (P.length) 2 (cR P))] 23)),(2,(.cells [(.v (.bool (g)))] 4)),(3,(.cells [(.slu 8 0 (k+1+1) 0)] 27)),(5,(.defd .true)),(8,(.row (cI (tI (W8 (cR P) (Y7 (cI M) (cI K) L.length) g) (i+1))) 2 1))],.ready,none,35,z7 W5,z9 W5,z8 W5,5⟩:Ev.Lit1)) (e:=.normal) (m:=11) (ps:=[X8 i L.length=true,i<P.length,i*2+0<((cR P):List AV).length,W7 Try.prog (cR P) (i*2+0) 2=some (AV.v (Value.int IntKind.i64 (Z9 (cR P) (i*2+0)))),i<M.length,W7 Try.prog (cI M) (i*1) 2=some (AV.v (Value.int IntKind.i64 (Z9 (cI M) (i*1)))),i<K.length,W7 Try.prog (cI K) (i*1) 2=some (AV.v (Value.int IntKind.i64 (Z9 (cI K) (i*1)))),O8 IntKind.i64 (Z9 (cI M) (i*1) - Z9 (cI K) (i*1)),(g == X8 0 (Z9 (cI M) (i*1) - Z9 (cI K) (i*1)))=false,((cI (tI (W8 (cR P) (Y7 (cI M) (cI K) L.length) g) i)):List AV).length=(k+1)*1,k+1+1≤1000000,(!true)=false,O8 IntKind.i64 (((i:Nat):Int)+1)]) [.go,.b true,.go,.go,.go,.go,.go,.go,.go,.sym,.sym,.sym,.go,.go,.go,.go,.go,.go,.go,.go,.go,.go,.go,.sym,.sym,.go,.go,.go,.go,.go,.go,.sym,.sym,.go,.go,.go,.go,.go,.b false,.go,.go,.go,.sym,.go,.go,.b false,.go,.go] [0,1,2,3,4,5,6,7,10] [(.yld 6),(.v (.int .i64 L.length)),(.v (.int .i64 (((i:Nat):Int)+1)))] [(.ptr 0 0),(.ptr 1 0),(.ptr 2 0),(.ptr 3 0)] [(.cells [(.xl (y) (E.length) 1 (Z1 E)),(.xl (yl) (L.length) 2 (cR L)),(.fn (.func 82) [] [(AV.xp q0 1 1 [AV.xl z M.length 1 (cI M)] 0),(AV.xp q1 1 1 [AV.xl zk K.length 1 (cI K)] 0)])] 85),(.cells [(.xl (yr) (P.length) 2 (cR P))] 23),(.cells [(.v (.bool (g)))] 4),(.cells [(.slu 10 0 (k+1+1) 0)] 27),(.defd .true),(.row ((cI (tI (W8 (cR P) (Y7 (cI M) (cI K) L.length) g) i))++[(.v (.int .i64 (Z9 (cR P) (i*2+0))))]) 2 1)] (by kernel_rfl) (by kernel_rfl) ⟨hs0_1,(by omega),(by rw [Y6];omega),(C0 (i:=i) (by omega) (by omega) 2 (Try.underlying2) rfl),(by omega),(by rw [Nat.mul_one];exact U4 (show _<M.length by omega) 2 (Try.underlying2) rfl),(by omega),(by rw [Nat.mul_one];exact U4 (show _<K.length by omega) 2 (Try.underlying2) rfl),(by have h9:=hm1 i (by omega);show -9223372036854775808≤_∧_≤9223372036854775807;constructor<;>omega),hs0_2,(by have h9:=Y9 (W8 (cR P) (Y7 (cI M) (cI K) L.length) g) i;show (cI _).length=_;rw [Z3,Y9];omega),(by have h9:=Y9 (W8 (cR P) (Y7 (cI M) (cI K) L.length) g) i;have h8:=Y9 (W8 (cR P) (Y7 (cI M) (cI K) L.length) g) (i+1);omega),rfl,(b7H (by omega) (by omega)),trivial⟩ rfl rfl (by decide) rfl ⟨a8i rfl,E2 _,a38 (show ((((i:Nat):Int)+1):Int)=(((i+1):Nat):Int) from by omega),trivial⟩ ⟨P7 rfl,P7 rfl,P7 rfl,P7 rfl,trivial⟩ ⟨⟨by show 0<9;decide,U8 (X9 (P4 (V4 (X6 _))) (X9 (C4 (U6 (X4 L))) (X9 (a2m (V1) (X9 (P4 (P6 (V4 (Z4 (Z2 _))))) (X9 (P4 (P6 (V4 (Z4 (Z2 _))))) (V1)))) (V1))))⟩,⟨by show 1<9;decide,U8 (X9 (C4 (U6 (X4 P))) (V1))⟩,⟨by show 2<9;decide,U8 (X9 (E2 _) (V1))⟩,⟨by show 3<9;decide,U8 (X9 (I1 rfl) (V1))⟩,⟨by show 5<9;decide,a2B⟩,⟨by show 8<9;decide,M4 (a3R (show ((cI (tI (W8 (cR P) (Y7 (cI M) (cI K) L.length) g) (i+1))):List AV)=((cI (tI (W8 (cR P) (Y7 (cI M) (cI K) L.length) g) i))++[(.v (.int .i64 (Z9 (cR P) (i*2+0))))]) from by first|exact (a8G (a8W (c:=cR P) (m:=cI M) (k:=cI K) (g:=g) (b:=i) (n:=L.length) (by omega) (by rw [hs0_2];decide))).symm|(rw [List.take_of_length_le (by have h9:=Y9 (W8 (cR P) (Y7 (cI M) (cI K) L.length) g) i;rw [List.length_drop,Z3,Y9];omega),List.drop_zero];exact (a8G (a8W (c:=cR P) (m:=cI M) (k:=cI K) (g:=g) (b:=i) (n:=L.length) (by omega) (by rw [hs0_2];decide))).symm)) (Z2 _))⟩,trivial⟩ (by show 6<9;decide) (by show 5<9;decide) (by show 7≤9;decide) (fun b hb=>(by have hb2:b<7:=hb;match b,hb2 with|0,_=>rfl|1,_=>rfl|2,_=>rfl|3,_=>rfl|4,_=>rfl|5,_=>rfl|6,_=>rfl))
  ·have ghs0_1:=Z6 hs0_1
   refine Ev.step_out (by show L.length≤i;omega) ?_
   show Y4 _ _ _ _ _ (G0 _ (isX 0) (Ev.fam0 (⟨[(0,(.yld 6)),(7,(.v (.int .i64 L.length))),(8,(.v (.int .i64 i)))],[],7,6,[(3,(.ptr 0 0)),(4,(.ptr 1 0)),(5,(.ptr 2 0)),(7,(.ptr 3 0))],[(0,(.cells [(.xl (y) (E.length) 1 (Z1 E)),(.xl (yl) (L.length) 2 (cR L)),(.fn (.func 82) [] [(AV.xp q0 1 1 [AV.xl z M.length 1 (cI M)] 0),(AV.xp q1 1 1 [AV.xl zk K.length 1 (cI K)] 0)])] 85)),(1,(.cells [(.xl (yr) (P.length) 2 (cR P))] 23)),(2,(.cells [(.v (.bool (g)))] 4)),(3,(.cells [(.v (Value.slice none 0 0))] 27)),(5,(.defd .true))],.ready,none,35,z7 W5,z9 W5,z8 W5,5⟩:Ev.Lit1).lit (fun k=>(⟨[(0,(.yld 6)),(7,(.v (.int .i64 L.length))),(8,(.v (.int .i64 i)))],[],9,6,[(3,(.ptr 0 0)),(4,(.ptr 1 0)),(5,(.ptr 2 0)),(7,(.ptr 3 0))],[(0,(.cells [(.xl (y) (E.length) 1 (Z1 E)),(.xl (yl) (L.length) 2 (cR L)),(.fn (.func 82) [] [(AV.xp q0 1 1 [AV.xl z M.length 1 (cI M)] 0),(AV.xp q1 1 1 [AV.xl zk K.length 1 (cI K)] 0)])] 85)),(1,(.cells [(.xl (yr) (P.length) 2 (cR P))] 23)),(2,(.cells [(.v (.bool (g)))] 4)),(3,(.cells [(.slu 8 0 (k+1) 0)] 27)),(5,(.defd .true)),(8,(.row (cI (tI (W8 (cR P) (Y7 (cI M) (cI K) L.length) g) i)) 2 1))],.ready,none,35,z7 W5,z9 W5,z8 W5,5⟩:Ev.Lit1).lit) (tI (W8 (cR P) (Y7 (cI M) (cI K) L.length) g) i).length) _)
   rw [hc]
   exact n7 Try.checked.mixed (Z5) 200 (T':=(⟨[(0,(.yld 6)),(7,(.v (.int .i64 L.length))),(8,(.v (.int .i64 i)))],[],9,6,[(3,(.ptr 0 0)),(4,(.ptr 1 0)),(5,(.ptr 2 0)),(7,(.ptr 3 0))],[(0,(.cells [(.xl (y) (E.length) 1 (Z1 E)),(.xl (yl) (L.length) 2 (cR L)),(.fn (.func 82) [] [(AV.xp q0 1 1 [AV.xl z M.length 1 (cI M)] 0),(AV.xp q1 1 1 [AV.xl zk K.length 1 (cI K)] 0)])] 85)),(1,(.cells [(.xl (yr) (P.length) 2 (cR P))] 23)),(2,(.cells [(.v (.bool (g)))] 4)),(3,(.cells [(.slu 8 0 (k+1) 0)] 27)),(5,(.defd .true)),(8,(.row (cI (tI (W8 (cR P) (Y7 (cI M) (cI K) L.length) g) i)) 2 1))],.ready,none,35,z7 W5,z9 W5,z8 W5,5⟩:Ev.Lit1)) (e:=.exit 0) (ps:=[X8 i L.length=false]) [.go,.b false] (by kernel_rfl) (by kernel_rfl) ⟨hs0_1,trivial⟩ rfl
theorem c19(y:Value)(E:List (Value×List (Int×Int)))(yl:Value)(L:List (Int×Int))(q0 z:Value)(M:List Int)(q1 zk:Value)(K:List Int)(yr:Value)(P:List (Int×Int))(g:Bool)(hn:1≤L.length∧L.length≤8)(hP:P.length=L.length)(hm:M.length=L.length)(hk:K.length=L.length)(hm1:∀ b,b<L.length → -1000≤Z9 (cI M) (b*1) - Z9 (cI K) (b*1)∧Z9 (cI M) (b*1) - Z9 (cI K) (b*1)≤1000)(v:BaseW)(eb:Nat→Option Nat)(ec:Nat→Nat):Y4 Try.prog 16 b6R ((⟨[(0,(.yld 6)),(1,(.ptr 4 0))],[],7,6,[(3,(.ptr 0 0)),(4,(.ptr 1 0)),(5,(.ptr 2 0)),(7,(.ptr 3 0))],[(a2z E K L M q0 q1 y yl z zk),(a0h P yr),(a02 g),a3t,(b6J E K L M q0 q1 y yl z zk),(5,(.defd .true))],.ready,none,35,z7 W5,z9 W5,z8 W5,5⟩:Ev.Lit1).lit) (bw v 7 eb ec) (a55 16 (fun _:Unit=>((⟨[],[],9,6,[(3,(.ptr 0 0)),(4,(.ptr 1 0)),(5,(.ptr 2 0)),(7,(.ptr 3 0))],[(a2z E K L M q0 q1 y yl z zk),(a0h P yr),(a02 g),(b1m K L M P g),(5,(.defd .true)),(b0O K L M P g)],.ready,none,35,z7 W5,z9 W5,z8 W5,5⟩:Ev.Lit1)).lit) (fun _:Unit=>True) (bw v 7 eb ec)):=by
 have hcl_L:=Y6 L
 have hcl_M:=Z3 M
 have hcl_K:=Z3 K
 have hcl_P:=Y6 P
 exact Q2 (T':=(⟨[(0,(.yld 6)),(7,(.v (.int .i64 L.length))),(8,(.v (.int .i64 (.ofNat 0))))],[],7,6,[(3,(.ptr 0 0)),(4,(.ptr 1 0)),(5,(.ptr 2 0)),(7,(.ptr 3 0))],[(a2z E K L M q0 q1 y yl z zk),(a0h P yr),(a02 g),a3t,(5,(.defd .true))],.ready,none,35,z7 W5,z9 W5,z8 W5,5⟩:Ev.Lit1).lit) (by kernel_rfl) (n7 Try.checked.mixed (Z5) 200 (T':=(⟨[(0,(.yld 6)),(7,(.v (.int .i64 L.length))),(8,(.v (.int .i64 (.ofNat 0))))],[],7,6,[(3,(.ptr 0 0)),(4,(.ptr 1 0)),(5,(.ptr 2 0)),(7,(.ptr 3 0))],[(a2z E K L M q0 q1 y yl z zk),(a0h P yr),(a02 g),a3t,(5,(.defd .true))],.ready,none,35,z7 W5,z9 W5,z8 W5,5⟩:Ev.Lit1)) (e:=.normal) (ps:=[]) [.go,.go,.go,.go,.go] (by kernel_rfl) (by kernel_rfl) trivial rfl) (c0c y E yl L q0 z M q1 zk K yr P g hn hP hm hk hm1 v eb ec)
theorem c2s(y:Value)(E:List (Value×List (Int×Int)))(yl:Value)(L:List (Int×Int))(q0 z:Value)(M:List Int)(q1 zk:Value)(K:List Int)(yr:Value)(P:List (Int×Int))(g:Bool)(hn:1≤L.length∧L.length≤8)(hP:P.length=L.length)(hm:M.length=L.length)(hk:K.length=L.length)(hm1:∀ b,b<L.length → -1000≤Z9 (cI M) (b*1) - Z9 (cI K) (b*1)∧Z9 (cI M) (b*1) - Z9 (cI K) (b*1)≤1000)(v:BaseW)(eb:Nat→Option Nat)(ec:Nat→Nat)(hs:List Nat):Y4 Try.prog 35 b39 ((b8k K L M P g)) (BaseW.H (bw v 0 eb ec) hs) (R7 Try.prog Try.f90 35 ((.slu 0 0 L.length 0)) [(E6 K L M P g)] (bw v 0 eb ec)):=by
 have hcl_L:=Y6 L
 have hcl_M:=Z3 M
 have hcl_K:=Z3 K
 have hcl_P:=Y6 P
 exact Z8 W1 (L6 Try.checked.mixed (Z5) 200 (T':=⟨[(6,(.slu 0 0 ((a3E K L M P g).length) 0))],[],1,[(0,(E6 K L M P g))]⟩) (e:=.ret) (m:=6) (ps:=[]) [.go,.go] [5] [(.slu 5 0 ((a3E K L M P g).length) 0)] [(E6 K L M P g)] (by kernel_rfl) (by kernel_rfl) trivial rfl rfl (by decide) rfl ⟨I1 rfl,trivial⟩ ⟨⟨by show 0<1;decide,M4 (U6 (Z2 _))⟩,trivial⟩) (E3 (r:=(.slu 0 0 ((a3E K L M P g).length) 0)) (ys:=[(E6 K L M P g)]) (by (rw [Y9])) (by rfl) (J4 (by kernel_rfl) (by kernel_rfl) rfl (.inr rfl)))
theorem c2J(y:Value)(E:List (Value×List (Int×Int)))(yl:Value)(L:List (Int×Int))(q0 z:Value)(M:List Int)(q1 zk:Value)(K:List Int)(yr:Value)(P:List (Int×Int))(g:Bool)(hn:1≤L.length∧L.length≤8)(hP:P.length=L.length)(hm:M.length=L.length)(hk:K.length=L.length)(hm1:∀ b,b<L.length → -1000≤Z9 (cI M) (b*1) - Z9 (cI K) (b*1)∧Z9 (cI M) (b*1) - Z9 (cI K) (b*1)≤1000)(v:BaseW)(eb:Nat→Option Nat)(ec:Nat→Nat)(hs:List Nat):Y4 Try.prog 35 W5 ((a78 E K L M P g q0 q1 y yl yr z zk)) (BaseW.H (bw v 0 eb ec) hs) (Hd.AfterB Try.prog 35 0 b39 (bw v 0 eb ec) (R7 Try.prog Try.f90 35 ((.slu 0 0 L.length 0)) [(E6 K L M P g)] (bw v 0 eb ec))):=by
 have hcl_L:=Y6 L
 have hcl_M:=Z3 M
 have hcl_K:=Z3 K
 have hcl_P:=Y6 P
 refine W2 (T':=(a78 E K L M P g q0 q1 y yl yr z zk)) (by kernel_rfl) (by kernel_rfl) (by kernel_rfl) (by kernel_rfl) ?_
 exact a4q (T1:=(⟨[(0,(.yld 6)),(1,(.ptr 4 0))],[],7,6,[(3,(.ptr 0 0)),(4,(.ptr 1 0)),(5,(.ptr 2 0)),(7,(.ptr 3 0))],[(a2z E K L M q0 q1 y yl z zk),(a0h P yr),(a02 g),a3t,(b6J E K L M q0 q1 y yl z zk),(5,(.defd .true))],.ready,none,35,z7 W5,z9 W5,z8 W5,5⟩:Ev.Lit1)) (T2:=(fun _:Unit=>(⟨[],[],9,6,[(3,(.ptr 0 0)),(4,(.ptr 1 0)),(5,(.ptr 2 0)),(7,(.ptr 3 0))],[(a2z E K L M q0 q1 y yl z zk),(a0h P yr),(a02 g),(b1m K L M P g),(5,(.defd .true)),(b0O K L M P g)],.ready,none,35,z7 W5,z9 W5,z8 W5,5⟩:Ev.Lit1))) (T3:=fun _:Unit=>(b91 K L M P g)) (R:=(fun _:Unit=>True)) (k:=93) (l:=6) (szk:=16) (K:=7) (e:=fun _=>.normal) rfl (by kernel_rfl) Try.func93 (by kernel_rfl) (by kernel_rfl) (by kernel_rfl) (by kernel_rfl) (by kernel_rfl) (fun _ _=>rfl) (fun v eb ec=>c19 y E yl L q0 z M q1 zk K yr P g hn hP hm hk hm1 v eb ec) (fun _ _=>by kernel_rfl) (fun _ _=>b30 (T:=(b91 K L M P g)) (T':=(b8k K L M P g)) (m:=5) [0,1,2,3,4,8] [(.ptr 3 0)] [(b4U K L M P g),(E6 K L M P g)] rfl (by kernel_rfl) rfl rfl (by decide) (by kernel_rfl) (by kernel_rfl) ⟨P7 rfl,trivial⟩ ⟨⟨by show 3<6;decide,U8 (X9 (I1 rfl) (V1))⟩,⟨by show 5<6;decide,M4 (U6 (Z2 _))⟩,trivial⟩ ⟨(by show 3≠5;decide),(by show 8≠5;decide),trivial⟩ (Nat.zero_le _) (fun b h=>absurd h (Nat.not_lt_zero b)) (fun hs=>Hd.en_bn (c2s y E yl L q0 z M q1 zk K yr P g hn hP hm hk hm1 v eb ec hs)))
theorem c5b(y:Value)(E:List (Value×List (Int×Int)))(yl:Value)(L:List (Int×Int))(q0 z:Value)(M:List Int)(q1 zk:Value)(K:List Int)(yr:Value)(P:List (Int×Int))(g:Bool)(hn:1≤L.length∧L.length≤8)(hP:P.length=L.length)(hm:M.length=L.length)(hk:K.length=L.length)(hm1:∀ b,b<L.length → -1000≤Z9 (cI M) (b*1) - Z9 (cI K) (b*1)∧Z9 (cI M) (b*1) - Z9 (cI K) (b*1)≤1000)(v:BaseW)(eb:Nat→Option Nat)(ec:Nat→Nat)(hs:List Nat):Y4 Try.prog 35 W5 ((a78 E K L M P g q0 q1 y yl yr z zk)) (BaseW.H (bw v 0 eb ec) hs) (Hd.AfterB Try.prog 35 0 b39 (bw v 0 eb ec) (R7 Try.prog Try.f90 35 ((.slu 0 0 L.length 0)) [(E6 K L M P g)] (bw v 0 eb ec))):=by
 exact c2J y E yl L q0 z M q1 zk K yr P g hn hP hm hk hm1 v eb ec hs
theorem c5J(y:Value)(E:List (Value×List (Int×Int)))(yl:Value)(L:List (Int×Int))(q0 z:Value)(M:List Int)(q1 zk:Value)(K:List Int)(yr:Value)(P:List (Int×Int))(g:Bool)(hn:1≤L.length∧L.length≤8)(hP:P.length=L.length)(hm:M.length=L.length)(hk:K.length=L.length)(hm1:∀ b,b<L.length → -1000≤Z9 (cI M) (b*1) - Z9 (cI K) (b*1)∧Z9 (cI M) (b*1) - Z9 (cI K) (b*1)≤1000)(v:BaseW)(eb:Nat→Option Nat)(ec:Nat→Nat)(hs:List Nat):Y4 Try.prog 35 b4f ((a78 E K L M P g q0 q1 y yl yr z zk)) (BaseW.H (bw v 0 eb ec) hs) (Hd.AfterN Try.prog 35 b39 (bw v 0 eb ec) (R7 Try.prog Try.f90 35 ((.slu 0 0 L.length 0)) [(E6 K L M P g)] (bw v 0 eb ec))):=by
 exact Hd.goes_blkA (id:=0) (by kernel_rfl) (by kernel_rfl) (c5b y E yl L q0 z M q1 zk K yr P g hn hP hm hk hm1 v eb ec hs)
theorem c2i(y:Value)(E:List (Value×List (Int×Int)))(yl:Value)(L:List (Int×Int))(q0 z:Value)(M:List Int)(q1 zk:Value)(K:List Int)(yr:Value)(P:List (Int×Int))(g:Bool)(hn:1≤L.length∧L.length≤8)(hP:P.length=L.length)(hm:M.length=L.length)(hk:K.length=L.length)(hm1:∀ b,b<L.length → -1000≤Z9 (cI M) (b*1) - Z9 (cI K) (b*1)∧Z9 (cI M) (b*1) - Z9 (cI K) (b*1)≤1000)(v:BaseW)(eb:Nat→Option Nat)(ec:Nat→Nat)(hs:List Nat):Y4 Try.prog 35 b4f ((a78 E K L M P g q0 q1 y yl yr z zk)) (BaseW.H (bw v 0 eb ec) hs) (Hd.AfterN Try.prog 35 b39 (bw v 0 eb ec) (R7 Try.prog Try.f90 35 ((.slu 0 0 L.length 0)) [(E6 K L M P g)] (bw v 0 eb ec))):=by
 exact c5J y E yl L q0 z M q1 zk K yr P g hn hP hm hk hm1 v eb ec hs
theorem c5w(y:Value)(E:List (Value×List (Int×Int)))(yl:Value)(L:List (Int×Int))(q0 z:Value)(M:List Int)(q1 zk:Value)(K:List Int)(yr:Value)(P:List (Int×Int))(g:Bool)(hn:1≤L.length∧L.length≤8)(hP:P.length=L.length)(hm:M.length=L.length)(hk:K.length=L.length)(hm1:∀ b,b<L.length → -1000≤Z9 (cI M) (b*1) - Z9 (cI K) (b*1)∧Z9 (cI M) (b*1) - Z9 (cI K) (b*1)≤1000)(v:BaseW)(eb:Nat→Option Nat)(ec:Nat→Nat)(hs:List Nat):Y4 Try.prog 35 b86 ((b3U E K L M P g q0 q1 y yl yr z zk)) (BaseW.H (bw v 0 eb ec) hs) (Hd.AfterN Try.prog 35 b39 (bw v 0 eb ec) (R7 Try.prog Try.f90 35 ((.slu 0 0 L.length 0)) [(E6 K L M P g)] (bw v 0 eb ec))):=by
 have hcl_L:=Y6 L
 have hcl_M:=Z3 M
 have hcl_K:=Z3 K
 have hcl_P:=Y6 P
 refine Hd.goes_seqA (by kernel_rfl) ?_
 exact Z8 V0 (Z7 Try.checked.mixed (Z5) 200 (T':=(a78 E K L M P g q0 q1 y yl yr z zk)) (e:=.normal) (ps:=[]) [.go,.go,.go,.go,.go] (by kernel_rfl) (by kernel_rfl) trivial rfl) (Hd.en_n (c2i y E yl L q0 z M q1 zk K yr P g hn hP hm hk hm1 v eb ec hs))
theorem c7c(y:Value)(E:List (Value×List (Int×Int)))(yl:Value)(L:List (Int×Int))(q0 z:Value)(M:List Int)(q1 zk:Value)(K:List Int)(yr:Value)(P:List (Int×Int))(g:Bool)(hn:1≤L.length∧L.length≤8)(hP:P.length=L.length)(hm:M.length=L.length)(hk:K.length=L.length)(hm1:∀ b,b<L.length → -1000≤Z9 (cI M) (b*1) - Z9 (cI K) (b*1)∧Z9 (cI M) (b*1) - Z9 (cI K) (b*1)≤1000)(v:BaseW)(eb:Nat→Option Nat)(ec:Nat→Nat)(hs:List Nat):Y4 Try.prog 35 b9w ((b3U E K L M P g q0 q1 y yl yr z zk)) (BaseW.H (bw v 0 eb ec) hs) (R7 Try.prog Try.f90 35 ((.slu 0 0 L.length 0)) [(E6 K L M P g)] (bw v 0 eb ec)):=by
 exact Hd.goes_seqA (by kernel_rfl) (c5w y E yl L q0 z M q1 zk K yr P g hn hP hm hk hm1 v eb ec hs)
theorem c7k(y:Value)(E:List (Value×List (Int×Int)))(yl:Value)(L:List (Int×Int))(q0 z:Value)(M:List Int)(q1 zk:Value)(K:List Int)(yr:Value)(P:List (Int×Int))(g:Bool)(hn:1≤L.length∧L.length≤8)(hP:P.length=L.length)(hm:M.length=L.length)(hk:K.length=L.length)(hm1:∀ b,b<L.length → -1000≤Z9 (cI M) (b*1) - Z9 (cI K) (b*1)∧Z9 (cI M) (b*1) - Z9 (cI K) (b*1)≤1000)(v:BaseW)(eb:Nat→Option Nat)(ec:Nat→Nat)(hs:List Nat):Y4 Try.prog 35 c69 ((b8h E K L M P g q0 q1 y yl yr z zk)) (BaseW.H (bw v 0 eb ec) hs) (R7 Try.prog Try.f90 35 ((.slu 0 0 L.length 0)) [(E6 K L M P g)] (bw v 0 eb ec)):=by
 have hcl_L:=Y6 L
 have hcl_M:=Z3 M
 have hcl_K:=Z3 K
 have hcl_P:=Y6 P
 refine Hd.goes_seqA (by kernel_rfl) ?_
 exact Z8 V0 (Z7 Try.checked.mixed (Z5) 200 (T':=(b3U E K L M P g q0 q1 y yl yr z zk)) (e:=.normal) (ps:=[]) [.go] (by kernel_rfl) (by kernel_rfl) trivial rfl) (Hd.en_n (c7c y E yl L q0 z M q1 zk K yr P g hn hP hm hk hm1 v eb ec hs))
theorem c6A(y:Value)(E:List (Value×List (Int×Int)))(yl:Value)(L:List (Int×Int))(q0 z:Value)(M:List Int)(q1 zk:Value)(K:List Int)(yr:Value)(P:List (Int×Int))(g:Bool)(hn:1≤L.length∧L.length≤8)(hP:P.length=L.length)(hm:M.length=L.length)(hk:K.length=L.length)(hm1:∀ b,b<L.length → -1000≤Z9 (cI M) (b*1) - Z9 (cI K) (b*1)∧Z9 (cI M) (b*1) - Z9 (cI K) (b*1)≤1000)(v:BaseW)(eb:Nat→Option Nat)(ec:Nat→Nat)(hs:List Nat):Y4 Try.prog 35 c5y (⟨[(0,(b8g E K L M q0 q1 y yl z zk)),(1,(.xl yr P.length 2 (cR P))),(2,(.v (.bool g)))],[],0,[]⟩) (BaseW.H (bw v 0 eb ec) hs) (R7 Try.prog Try.f90 35 ((.slu 0 0 L.length 0)) [(E6 K L M P g)] (bw v 0 eb ec)):=by
 have hcl_L:=Y6 L
 have hcl_M:=Z3 M
 have hcl_K:=Z3 K
 have hcl_P:=Y6 P
 refine Hd.goes_seqA (by kernel_rfl) ?_
 exact Z8 V0 (Z7 Try.checked.mixed (Z5) 200 (T':=(b8h E K L M P g q0 q1 y yl yr z zk)) (e:=.normal) (ps:=[]) [.go,.go,.go,.go] (by kernel_rfl) (by kernel_rfl) trivial rfl) (Hd.en_n (c7k y E yl L q0 z M q1 zk K yr P g hn hP hm hk hm1 v eb ec hs))
theorem c7A(y:Value)(E:List (Value×List (Int×Int)))(yl:Value)(L:List (Int×Int))(q0 z:Value)(M:List Int)(q1 zk:Value)(K:List Int)(yr:Value)(P:List (Int×Int))(g:Bool)(hn:1≤L.length∧L.length≤8)(hP:P.length=L.length)(hm:M.length=L.length)(hk:K.length=L.length)(hm1:∀ b,b<L.length → -1000≤Z9 (cI M) (b*1) - Z9 (cI K) (b*1)∧Z9 (cI M) (b*1) - Z9 (cI K) (b*1)≤1000):G7 Try.prog 90 [(b8g E K L M q0 q1 y yl z zk),(.xl yr P.length 2 (cR P)),(.v (.bool g))] [] ((.slu 0 0 L.length 0)) [(E6 K L M P g)] :=
 R0 35 (by kernel_rfl) Try.func90 (by kernel_rfl) (by kernel_rfl) (by kernel_rfl) (fun v eb ec=>W2 (by kernel_rfl) (by kernel_rfl) (by kernel_rfl) (by kernel_rfl) (c6A y E yl L q0 z M q1 zk K yr P g hn hP hm hk hm1 v eb ec []))
end
end Go.Proofs.Ytegmogadbnfbgaa
