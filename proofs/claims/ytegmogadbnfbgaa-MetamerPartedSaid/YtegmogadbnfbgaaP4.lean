/- Texts of this proof, put together. -/
import Derived.Test.YtegmogadbnfbgaaP3
import Derived.Test.YtegmogadbnfbgaaP2
set_option linter.all false
set_option maxHeartbeats 4000000
namespace Go.Proofs.Ytegmogadbnfbgaa
open Go Ev
noncomputable section
theorem b7d{a:Int}(h : -9223372036854775808≤a)(k:a≤9223372036854775807):N3 .i64 a:=⟨h,k⟩
section
variable (E : List (Value × List (Int × Int))) (L : List (Int × Int)) (M : List Int) (X : List (Value × List Int)) (Y : List Int) (b : Nat) (u ul y yl z : Value)
@[reducible] def J5:Nat×Ev.AV:=(5,(nI0 L.length))
@[reducible] def a2r:Nat×Ev.AV:=(7,(nI0 b))
@[reducible] def a4B:Nat×Ev.AV:=(54,(.xl (ul) (Y.length) 1 (cI Y)))
@[reducible] def a4P:Nat×Ev.AV:=(55,(nI0 b))
@[reducible] def a4m:Nat×Ev.AV:=(57,(nI0 (Z9 (cI Y) (b*1))))
@[reducible] def a4E:Nat×Ev.AV:=(59,(.xl (yl) (L.length) 2 (cR L)))
@[reducible] def a4H:Nat×Ev.AV:=(60,(nI0 b))
@[reducible] def a44:Nat×Ev.AV:=(63,(nI0 (Z9 (cR L) (b*2+1))))
@[reducible] def a4Q:Nat×Ev.AV:=(64,(.v (.bool (Y2 (Z9 (cR L) (b*2+1)) (Z9 (cI Y) (b*1))))))
@[reducible] def K5:Nat×Ev.AB:=(0,(.cells [(.xl (y) (E.length) 1 (Y5 E)),(.xl (yl) (L.length) 2 (cR L))] 25))
@[reducible] def N2:Nat×Ev.AB:=(1,(.cells [(.xl (u) (X.length) 1 (Y6 X)),(.xl (ul) (Y.length) 1 (cI Y))] 29))
@[reducible] def b8J:Ev.Lit:=⟨[(2,(.ptr 0 0)),(3,(.ptr 1 0)),(J5 L),(a2r b),(8,(nI0 (.ofNat 0))),(53,(.ptr 1 1)),(a4B Y ul),(a4P b),(56,(AV.xp ul Y.length 1 (cI Y) (b*1))),(a4m Y b),(58,(.ptr 0 1)),(a4E L yl),(a4H b),(61,(AV.xp yl L.length 2 (cR L) (b*2))),(62,(AV.xp yl L.length 2 (cR L) (b*2+1))),(a44 L b),(a4Q L Y b)],[],2,[(K5 E L y yl),(N2 X Y u ul)]⟩
@[reducible] def b3e:Ev.Lit:=⟨[(2,(.ptr 0 0)),(3,(.ptr 1 0)),(J5 L),(a2r b),(53,(.ptr 1 1)),(a4B Y ul),(a4P b),(56,(AV.xp ul Y.length 1 (cI Y) (b*1))),(a4m Y b),(58,(.ptr 0 1)),(a4E L yl),(a4H b),(61,(AV.xp yl L.length 2 (cR L) (b*2))),(62,(AV.xp yl L.length 2 (cR L) (b*2+1))),(a44 L b),(a4Q L Y b)],[],2,[(K5 E L y yl),(N2 X Y u ul)]⟩
@[reducible] def b3N:Ev.Lit:=⟨[(2,(.ptr 0 0)),(3,(.ptr 1 0)),(J5 L),(a2r b)],[],2,[(K5 E L y yl),(N2 X Y u ul)]⟩
@[reducible] def b5t:Ev.Lit:=⟨[(2,(.ptr 0 0)),(3,(.ptr 1 0)),(J5 L),(7,(nI0 (.ofNat 0)))],[],2,[(K5 E L y yl),(N2 X Y u ul)]⟩
@[reducible] def b81:Ev.Lit:=⟨[(2,(.ptr 0 0)),(3,(.ptr 1 0)),(J5 L),(6,(nI0 (.ofNat 0)))],[],2,[(K5 E L y yl),(N2 X Y u ul)]⟩
@[reducible] def a5i:Ev.Lit:=⟨[(2,(.ptr 0 0)),(3,(.ptr 1 0)),(J5 L)],[],2,[(K5 E L y yl),(N2 X Y u ul)]⟩
@[reducible] def a6p:Nat×Ev.AV:=(30,(.xl (y) (E.length) 1 (Y5 E)))
@[reducible] def a6f:Nat×Ev.AV:=(31,(nI0 E.length))
@[reducible] def b72:Ev.Lit:=⟨[(3,(.ptr 1 0)),(a6p E y),(a6f E),(32,(nI0 (.ofNat 0)))],[],2,[(N2 X Y u ul)]⟩
@[reducible] def a3V:Ev.Lit:=⟨[(2,(.ptr 0 0)),(3,(.ptr 1 0))],[],2,[(K5 E L y yl),(N2 X Y u ul)]⟩
@[reducible] def a0U:Nat×Ev.AV:=(1,(.xl (z) (M.length) 1 (cI M)))
@[reducible] def c0q:Ev.Lit:=⟨[(a0U M z),(2,(.ptr 0 0))],[],1,[(K5 E L y yl)]⟩
@[reducible] def b2z:Ev.AV:=(.agg [.xl y E.length 1 (Y5 E),.xl yl L.length 2 (cR L)])
@[reducible] def b56:Nat×Ev.AV:=(0,(b2z E L y yl))
@[reducible] def b8h:Ev.Lit:=⟨[(b56 E L y yl),(1,(.agg [.xl u X.length 1 (Y6 X),.xl ul Y.length 1 (cI Y)]))],[],0,[]⟩
@[reducible] def b1C:Ev.Lit:=⟨[(a0U M z),(5,(nI0 (.ofNat 0)))],[],1,[]⟩
@[reducible] def J4:=(R3 Y.length L.length)
@[reducible] def a43:=(R3 M.length L.length)
@[reducible] def b5G:Nat×Ev.AV:=(4,(nI0 (.ofNat 15)))
@[reducible] def a6i:Ev.Lit:=⟨[b5G],[],2,[]⟩
@[reducible] def a4N:Ev.Lit:=⟨[(4,(nI0 (.ofNat 3)))],[],2,[]⟩
@[reducible] def E2:=(R3 X.length 3)
end
noncomputable def b9N:Code:=O4 Try.f52
noncomputable def c0K:Code:=M5 b9N
noncomputable def b9X:Code:=M5 c0K
noncomputable def b6Y:Code:=M5 b9X
noncomputable def a6Z:Code:=M5 b6Y
noncomputable def b5Y:Code:=(f9 b6Y)
noncomputable def b30:Code:=M5 b5Y
noncomputable def c2F:Code:=H3 b30
section
variable {E:List (Value×List (Int×Int))} {L:List (Int×Int)} {M Y:List Int} {X:List (Value×List Int)} {b i:Nat} {hs:List Nat} {u ul y yl z:Value} {w:World}
theorem c3H(hC:T6 (Y5 E) E.length (cR L) L.length=0)(hX:X.length≤1000)(hqcto7_1:(J4 L Y)=true)(hqcto7_2:(o4 (Y6 X) X.length L.length)=true)(hqcto10_1:(O0 (V9 (cR L) (cI Y)) L.length)=true)(h0b:∀ k,k<(E.length)→O0 (V9 (W9 (Y5 E) (k*1)) (W9 (Y6 X) (k*1))) L.length=true)(hqcto21_1:(Y2 E.length E.length)=false):Y7 zP0q 46 a6Z (⟨[],[],2,[]⟩) (BaseW.H w hs) (V8 zP0q Try.f52 46 (.int .i64 (o0 (Y5 E) (cR L) L.length (Y6 X) X.length (cI Y) Y.length)) w):=by
 have hcl_L:=Z7 L
 have hcl_Y:=Z4 Y
 obtain ⟨hn,hm3,hrow,hlam,hcur⟩:=W3 hC
 have ghqcto7_1:=X8 hqcto7_1
 have hxr:=(eyB_true.1 hqcto7_2).2
 have hx3:=(eyB_true.1 hqcto7_2).1
 have ghqcto21_1:=Z5 hqcto21_1
 exact Z8 U9 (Z6 zC0q (Y1 B8 F2) 200 (T':=⟨[(4,(nI0 (.ofNat 0)))],[],2,[]⟩) (e:=.ret) (ps:=[]) [.go] (by kernel_rfl) (by kernel_rfl) trivial rfl) (Hd.en_eq (r:=(.int .i64 0)) (by rw [a9i (cE:=Y5 E) (cL:=cR L) (n:=L.length) (cX:=Y6 X) (m:=X.length) (cY:=cI Y) (k:=Y.length) (by omega) hqcto7_2 hqcto10_1 (fun i hi=>h0b i (by omega))]) (Hd.en_ret (v:=(nI0 (.ofNat 0))) (by kernel_rfl) rfl))
theorem c1L(yl:Value)(hC:T6 (Y5 E) E.length (cR L) L.length=0)(hX:X.length≤1000)(hqcto7_1:(J4 L Y)=true)(hqcto7_2:(o4 (Y6 X) X.length L.length)=true)(hqcto10_1:(O0 (V9 (cR L) (cI Y)) L.length)=true)(hi1:i≤E.length)(hi2:∀ k,k<i→O0 (V9 (W9 (Y5 E) (k*1)) (W9 (Y6 X) (k*1))) L.length=true):Y7 zP0q 46 c2F (⟨[(3,(.ptr 1 0)),(a6p E y),(a6f E),(32,(nI0 i))],[],2,[(N2 X Y u ul)]⟩) (BaseW.H w hs) (Hd.StepC zP0q 46 0 (fun i:{i:Nat // i≤E.length∧∀ k,k<i→O0 (V9 (W9 (Y5 E) (k*1)) (W9 (Y6 X) (k*1))) L.length=true}=>⟨[(3,(.ptr 1 0)),(a6p E y),(a6f E),(32,(nI0 i.1))],[],2,[(N2 X Y u ul)]⟩) (fun i:{i:Nat // i≤E.length∧∀ k,k<i→O0 (V9 (W9 (Y5 E) (k*1)) (W9 (Y6 X) (k*1))) L.length=true}=>E.length - i.1) a6Z w (V8 zP0q Try.f52 46 (.int .i64 (o0 (Y5 E) (cR L) L.length (Y6 X) X.length (cI Y) Y.length)) w) (⟨i,hi1,hi2⟩:{i:Nat // i≤E.length∧∀ k,k<i→O0 (V9 (W9 (Y5 E) (k*1)) (W9 (Y6 X) (k*1))) L.length=true})):=by
 have hcl_L:=Z7 L
 have hcl_Y:=Z4 Y
 obtain ⟨hn,hm3,hrow,hlam,hcur⟩:=W3 hC
 have ghqcto7_1:=X8 hqcto7_1
 have hxr:=(eyB_true.1 hqcto7_2).2
 have hx3:=(eyB_true.1 hqcto7_2).1
 rcases zB0q (Y2 i E.length) with hqcto21_1|hqcto21_1
 ·have ghqcto21_1:=X5 hqcto21_1
  rcases zB0q (O0 (V9 (W9 (Y5 E) (i*1)) (W9 (Y6 X) (i*1))) (T5 (Y5 E) (i*1))) with hqcto21_2|hqcto21_2
  ·exact Z8 W4 (Z6 zC0q (Y1 B8 F2) 200 (T':=⟨[(3,(.ptr 1 0)),(a6p E y),(a6f E),(32,(nI0 (((i+1):Nat):Int)))],[],2,[(N2 X Y u ul)]⟩) (e:=.normal) (ps:=[Y2 i E.length=true,i<E.length,W7 zP0q (Y5 E) (i*1) 23=some (AV.xl (xlY (Y5 E) (i*1)) (T5 (Y5 E) (i*1)) 2 (W9 (Y5 E) (i*1))),i<X.length,W7 zP0q (Y6 X) (i*1) 27=some (AV.xl (xlY (Y6 X) (i*1)) (T5 (Y6 X) (i*1)) 1 (W9 (Y6 X) (i*1))),Y3 2 (T5 (Y5 E) (i*1)) (W9 (Y5 E) (i*1)),T7 1 (T5 (Y6 X) (i*1)) (W9 (Y6 X) (i*1)),T5 (Y5 E) (i*1)≤1000,T5 (Y5 E) (i*1)≤T5 (Y6 X) (i*1),(!O0 (V9 (W9 (Y5 E) (i*1)) (W9 (Y6 X) (i*1))) (T5 (Y5 E) (i*1)))=false,N3 IntKind.i64 (((i:Nat):Int)+1)]) ([.go,.b true,.go,.sym,.sym]++gH 6 [.sym,.sym,.go,.b false,.go,.go]) (by kernel_rfl) (by kernel_rfl) ⟨hqcto21_1,(by omega),(by rw [Nat.mul_one];exact L0 (by omega) 23 (Try.underlying23) rfl),(by omega),(by rw [Nat.mul_one];exact F9 (by omega) 27 (Try.underlying27) rfl),(H9 (by omega)),(g9 (by omega)),(by have h9:=hrow i (by omega);have h8:=hxr i (by omega);omega),(by have h9:=hrow i (by omega);have h8:=hxr i (by omega);omega),(by rw [hqcto21_2];rfl),(b7d (by omega) (by omega)),trivial⟩ rfl) (Hd.en_on (⟨i+1,by omega,(E6 (q:=fun k=>O0 (V9 (W9 (Y5 E) (k*1)) (W9 (Y6 X) (k*1))) L.length=true) hi2 (by have h9:=hrow i (by omega);rw [← h9];exact hqcto21_2))⟩) (by show E.length - (i+1)<E.length - i;omega) rfl)
  ·exact Z8 U9 (Z6 zC0q (Y1 B8 F2) 200 (T':=a4N) (e:=.ret) (ps:=[Y2 i E.length=true,i<E.length,W7 zP0q (Y5 E) (i*1) 23=some (AV.xl (xlY (Y5 E) (i*1)) (T5 (Y5 E) (i*1)) 2 (W9 (Y5 E) (i*1))),i<X.length,W7 zP0q (Y6 X) (i*1) 27=some (AV.xl (xlY (Y6 X) (i*1)) (T5 (Y6 X) (i*1)) 1 (W9 (Y6 X) (i*1))),Y3 2 (T5 (Y5 E) (i*1)) (W9 (Y5 E) (i*1)),T7 1 (T5 (Y6 X) (i*1)) (W9 (Y6 X) (i*1)),T5 (Y5 E) (i*1)≤1000,T5 (Y5 E) (i*1)≤T5 (Y6 X) (i*1),(!O0 (V9 (W9 (Y5 E) (i*1)) (W9 (Y6 X) (i*1))) (T5 (Y5 E) (i*1)))=true]) ([.go,.b true,.go,.sym,.sym]++gH 6 [.sym,.sym,.go,.b true,.go]) (by kernel_rfl) (by kernel_rfl) ⟨hqcto21_1,(by omega),(by rw [Nat.mul_one];exact L0 (by omega) 23 (Try.underlying23) rfl),(by omega),(by rw [Nat.mul_one];exact F9 (by omega) 27 (Try.underlying27) rfl),(H9 (by omega)),(g9 (by omega)),(by have h9:=hrow i (by omega);have h8:=hxr i (by omega);omega),(by have h9:=hrow i (by omega);have h8:=hxr i (by omega);omega),(by rw [hqcto21_2];rfl),trivial⟩ rfl) (Hd.en_so (by intro h;cases h) (by intro h;cases h) (Hd.en_eq (r:=(.int .i64 3)) (by rw [a4K (cE:=Y5 E) (cL:=cR L) (n:=L.length) (cX:=Y6 X) (m:=X.length) (cY:=cI Y) (k:=Y.length) (by omega) hqcto7_2 (i:=i) (by omega) (by have h9:=hrow i (by omega);rw [← h9,hqcto21_2];decide)]) (Hd.en_ret (v:=(nI0 (.ofNat 3))) (by kernel_rfl) rfl)))
 ·have ghqcto21_1:=Z5 hqcto21_1
  obtain rfl:i=E.length:=by omega
  exact Z8 A8 (Z6 zC0q (Y1 B8 F2) 200 (T':=⟨[],[],2,[]⟩) (e:=.exit 0) (ps:=[Y2 E.length E.length=false]) [.go,.b false] (by kernel_rfl) (by kernel_rfl) ⟨hqcto21_1,trivial⟩ rfl) (Hd.en_sx (c3H hC hX hqcto7_1 hqcto7_2 hqcto10_1 hi2 hqcto21_1))
theorem c22(yl:Value)(hC:T6 (Y5 E) E.length (cR L) L.length=0)(hX:X.length≤1000)(hqcto7_1:(J4 L Y)=true)(hqcto7_2:(o4 (Y6 X) X.length L.length)=true)(hqcto10_1:(O0 (V9 (cR L) (cI Y)) L.length)=true):Y7 zP0q 46 b30 ((b72 E X Y u ul y)) (BaseW.H w hs) (Hd.AfterN zP0q 46 a6Z w (V8 zP0q Try.f52 46 (.int .i64 (o0 (Y5 E) (cR L) L.length (Y6 X) X.length (cI Y) Y.length)) w)):=by
 have hcl_L:=Z7 L
 have hcl_Y:=Z4 Y
 obtain ⟨hn,hm3,hrow,hlam,hcur⟩:=W3 hC
 have ghqcto7_1:=X8 hqcto7_1
 have hxr:=(eyB_true.1 hqcto7_2).2
 have hx3:=(eyB_true.1 hqcto7_2).1
 exact Hd.goes_loopA (id:=0) (by kernel_rfl) (by kernel_rfl) (fun i:{i:Nat // i≤E.length∧∀ k,k<i→O0 (V9 (W9 (Y5 E) (k*1)) (W9 (Y6 X) (k*1))) L.length=true}=>⟨[(3,(.ptr 1 0)),(a6p E y),(a6f E),(32,(nI0 i.1))],[],2,[(N2 X Y u ul)]⟩) (fun i:{i:Nat // i≤E.length∧∀ k,k<i→O0 (V9 (W9 (Y5 E) (k*1)) (W9 (Y6 X) (k*1))) L.length=true}=>E.length - i.1) (fun ix_ hs=>c1L yl hC hX hqcto7_1 hqcto7_2 hqcto10_1 ix_.2.1 ix_.2.2) ⟨0,Nat.zero_le _,(fun j hj=>by omega)⟩ hs
theorem c3t(yl:Value)(hC:T6 (Y5 E) E.length (cR L) L.length=0)(hX:X.length≤1000)(hqcto7_1:(J4 L Y)=true)(hqcto7_2:(o4 (Y6 X) X.length L.length)=true)(hqcto10_1:(O0 (V9 (cR L) (cI Y)) L.length)=true):Y7 zP0q 46 b30 ((b72 E X Y u ul y)) (BaseW.H w hs) (Hd.AfterN zP0q 46 a6Z w (V8 zP0q Try.f52 46 (.int .i64 (o0 (Y5 E) (cR L) L.length (Y6 X) X.length (cI Y) Y.length)) w)):=by
 exact c22 yl hC hX hqcto7_1 hqcto7_2 hqcto10_1
theorem c1e(hC:T6 (Y5 E) E.length (cR L) L.length=0)(hX:X.length≤1000)(hqcto7_1:(J4 L Y)=true)(hqcto7_2:(o4 (Y6 X) X.length L.length)=true)(hqcto10_1:(O0 (V9 (cR L) (cI Y)) L.length)=true):Y7 zP0q 46 b5Y ((a3V E L X Y u ul y yl)) (BaseW.H w hs) (Hd.AfterN zP0q 46 a6Z w (V8 zP0q Try.f52 46 (.int .i64 (o0 (Y5 E) (cR L) L.length (Y6 X) X.length (cI Y) Y.length)) w)):=by
 have hcl_L:=Z7 L
 have hcl_Y:=Z4 Y
 obtain ⟨hn,hm3,hrow,hlam,hcur⟩:=W3 hC
 have ghqcto7_1:=X8 hqcto7_1
 have hxr:=(eyB_true.1 hqcto7_2).2
 have hx3:=(eyB_true.1 hqcto7_2).1
 refine Hd.goes_seqA (by kernel_rfl) ?_
 exact Z8 W4 (Z6 zC0q (Y1 B8 F2) 200 (T':=(b72 E X Y u ul y)) (e:=.normal) (ps:=[]) (gH 4 []) (by kernel_rfl) (by kernel_rfl) trivial rfl) (Hd.en_n (c3t yl hC hX hqcto7_1 hqcto7_2 hqcto10_1))
theorem c3y(hC:T6 (Y5 E) E.length (cR L) L.length=0)(hX:X.length≤1000)(hqcto7_1:(J4 L Y)=true)(hqcto7_2:(o4 (Y6 X) X.length L.length)=true)(hqcto10_1:(O0 (V9 (cR L) (cI Y)) L.length)=true):Y7 zP0q 46 b6Y ((a3V E L X Y u ul y yl)) (BaseW.H w hs) (V8 zP0q Try.f52 46 (.int .i64 (o0 (Y5 E) (cR L) L.length (Y6 X) X.length (cI Y) Y.length)) w):=by
 exact Hd.goes_seqA (by kernel_rfl) (c1e hC hX hqcto7_1 hqcto7_2 hqcto10_1)
theorem c4V(hC:T6 (Y5 E) E.length (cR L) L.length=0)(hX:X.length≤1000)(hqcto7_1:(J4 L Y)=true)(hqcto7_2:(o4 (Y6 X) X.length L.length)=true):Y7 zP0q 46 b9X ((a3V E L X Y u ul y yl)) (BaseW.H w hs) (V8 zP0q Try.f52 46 (.int .i64 (o0 (Y5 E) (cR L) L.length (Y6 X) X.length (cI Y) Y.length)) w):=by
 have hcl_L:=Z7 L
 have hcl_Y:=Z4 Y
 obtain ⟨hn,hm3,hrow,hlam,hcur⟩:=W3 hC
 have ghqcto7_1:=X8 hqcto7_1
 have hxr:=(eyB_true.1 hqcto7_2).2
 have hx3:=(eyB_true.1 hqcto7_2).1
 refine Hd.goes_seqA (by kernel_rfl) ?_
 rcases zB0q (O0 (V9 (cR L) (cI Y)) L.length) with hqcto10_1|hqcto10_1
 ·exact Z8 W4 (Z6 zC0q (Y1 B8 F2) 200 (T':=(a3V E L X Y u ul y yl)) (e:=.normal) (ps:=[Y3 2 L.length (cR L),T7 1 Y.length (cI Y),L.length≤1000,L.length≤Y.length,(!O0 (V9 (cR L) (cI Y)) L.length)=false]) (gH 5 [.b false]) (by kernel_rfl) (by kernel_rfl) ⟨⟨rfl,L,rfl,rfl⟩,⟨rfl,Y,rfl,rfl⟩,(by omega),(by omega),(by rw [hqcto10_1];rfl),trivial⟩ rfl) (Hd.en_n (c3y hC hX hqcto7_1 hqcto7_2 hqcto10_1))
 ·exact Z8 U9 (Z6 zC0q (Y1 B8 F2) 200 (T':=a4N) (e:=.ret) (ps:=[Y3 2 L.length (cR L),T7 1 Y.length (cI Y),L.length≤1000,L.length≤Y.length,(!O0 (V9 (cR L) (cI Y)) L.length)=true]) (gH 5 [.b true,.go]) (by kernel_rfl) (by kernel_rfl) ⟨⟨rfl,L,rfl,rfl⟩,⟨rfl,Y,rfl,rfl⟩,(by omega),(by omega),(by rw [hqcto10_1];rfl),trivial⟩ rfl) (Hd.en_o (by intro h;cases h) (Hd.en_eq (r:=(.int .i64 3)) (by rw [a5K (cE:=Y5 E) (cL:=cR L) (n:=L.length) (cX:=Y6 X) (m:=X.length) (cY:=cI Y) (k:=Y.length) (by omega) hqcto7_2 (by rw [hqcto10_1];decide)]) (Hd.en_ret (v:=(nI0 (.ofNat 3))) (by kernel_rfl) rfl)))
theorem c6z(hC:T6 (Y5 E) E.length (cR L) L.length=0)(hX:X.length≤1000):Y7 zP0q 46 c0K ((a3V E L X Y u ul y yl)) (BaseW.H w hs) (V8 zP0q Try.f52 46 (.int .i64 (o0 (Y5 E) (cR L) L.length (Y6 X) X.length (cI Y) Y.length)) w):=by
 have hcl_L:=Z7 L
 have hcl_Y:=Z4 Y
 obtain ⟨hn,hm3,hrow,hlam,hcur⟩:=W3 hC
 refine Hd.goes_seqA (by kernel_rfl) ?_
 rcases zB0q (R3 Y.length L.length) with hqcto7_1|hqcto7_1
 ·have ghqcto7_1:=X8 hqcto7_1
  rcases zB0q (o4 (Y6 X) X.length L.length) with hqcto7_2|hqcto7_2
  ·have hxr:=(eyB_true.1 hqcto7_2).2
   have hx3:=(eyB_true.1 hqcto7_2).1
   exact Z8 W4 (Z6 zC0q (Y1 B8 F2) 200 (T':=(a3V E L X Y u ul y yl)) (e:=.normal) (ps:=[(!R3 Y.length L.length)=false,false=false,false=false,false=false,false=false,false=false,b4R 1 (Y6 X) X.length,(0:Int)≤((L.length:Nat):Int),X.length≤1000,false=false,(!o4 (Y6 X) X.length L.length)=false]) (gH 8 [.b false,.go,.b false,.go,.b false,.go,.b false,.go,.b false,.go,.b false,.b false,.go,.go,.b false]) (by kernel_rfl) (by kernel_rfl) ⟨(by rw [hqcto7_1];rfl),rfl,rfl,rfl,rfl,rfl,⟨rfl,X,rfl,rfl⟩,(by omega),hX,rfl,(by rw [hqcto7_2];rfl),trivial⟩ rfl) (Hd.en_n (c4V hC hX hqcto7_1 hqcto7_2))
  ·exact Z8 U9 (Z6 zC0q (Y1 B8 F2) 200 (T':=a6i) (e:=.ret) (ps:=[(!R3 Y.length L.length)=false,false=false,false=false,false=false,false=false,false=false,b4R 1 (Y6 X) X.length,(0:Int)≤((L.length:Nat):Int),X.length≤1000,false=false,(!o4 (Y6 X) X.length L.length)=true]) (gH 8 [.b false,.go,.b false,.go,.b false,.go,.b false,.go,.b false,.go,.b false,.b false,.go,.go,.b true,.go]) (by kernel_rfl) (by kernel_rfl) ⟨(by rw [hqcto7_1];rfl),rfl,rfl,rfl,rfl,rfl,⟨rfl,X,rfl,rfl⟩,(by omega),hX,rfl,(by rw [hqcto7_2];rfl),trivial⟩ rfl) (Hd.en_o (by intro h;cases h) (Hd.en_eq (r:=(.int .i64 15)) (by rw [a39 (cE:=Y5 E) (cL:=cR L) (n:=L.length) (cX:=Y6 X) (m:=X.length) (cY:=cI Y) (k:=Y.length) (fun h9=>by first|omega|(rw [h9.2] at hqcto7_2;cases hqcto7_2))]) (Hd.en_ret (v:=(nI0 (.ofNat 15))) (by kernel_rfl) rfl)))
 ·have ghqcto7_1:=V7 hqcto7_1
  exact Z8 U9 (Z6 zC0q (Y1 B8 F2) 200 (T':=a6i) (e:=.ret) (ps:=[(!R3 Y.length L.length)=true,true=true,true=true,true=true,true=true,true=true,true=true,true=true]) (gH 8 [.b true,.b true,.b true,.b true,.b true,.b true,.b true,.go,.b true,.go]) (by kernel_rfl) (by kernel_rfl) ⟨(by rw [hqcto7_1];rfl),rfl,rfl,rfl,rfl,rfl,rfl,rfl,trivial⟩ rfl) (Hd.en_o (by intro h;cases h) (Hd.en_eq (r:=(.int .i64 15)) (by rw [a39 (cE:=Y5 E) (cL:=cR L) (n:=L.length) (cX:=Y6 X) (m:=X.length) (cY:=cI Y) (k:=Y.length) (by omega)]) (Hd.en_ret (v:=(nI0 (.ofNat 15))) (by kernel_rfl) rfl)))
theorem c4N(y:Value)(E:List (Value×List (Int×Int)))(yl:Value)(L:List (Int×Int))(u:Value)(X:List (Value×List Int))(ul:Value)(Y:List Int)(hC:T6 (Y5 E) E.length (cR L) L.length=0)(hX:X.length≤1000)(w:World)(hs:List Nat):Y7 zP0q 46 b9N ((b8h E L X Y u ul y yl)) (BaseW.H w hs) (V8 zP0q Try.f52 46 (.int .i64 (o0 (Y5 E) (cR L) L.length (Y6 X) X.length (cI Y) Y.length)) w):=by
 have hcl_L:=Z7 L
 have hcl_Y:=Z4 Y
 obtain ⟨hn,hm3,hrow,hlam,hcur⟩:=W3 hC
 refine Hd.goes_seqA (by kernel_rfl) ?_
 exact Z8 W4 (Z6 zC0q (Y1 B8 F2) 200 (T':=(a3V E L X Y u ul y yl)) (e:=.normal) (ps:=[]) [.go,.go,.go] (by kernel_rfl) (by kernel_rfl) trivial rfl) (Hd.en_n (c6z hC hX))
theorem c7v(y:Value)(E:List (Value×List (Int×Int)))(yl:Value)(L:List (Int×Int))(u:Value)(X:List (Value×List Int))(ul:Value)(Y:List Int)(hC:T6 (Y5 E) E.length (cR L) L.length=0)(hX:X.length≤1000):GivesA zP0q 52 [(b2z E L y yl),(.agg [.xl u X.length 1 (Y6 X),.xl ul Y.length 1 (cI Y)])] (.int .i64 (o0 (Y5 E) (cR L) L.length (Y6 X) X.length (cI Y) Y.length)) :=
 U5 46 Try.func52 (by kernel_rfl) (by kernel_rfl) (by kernel_rfl) (fun w=>V6 (by kernel_rfl) (by kernel_rfl) (by kernel_rfl) (by kernel_rfl) (c4N y E yl L u X ul Y hC hX w []))
noncomputable def c0u:Code:=O4 Try.f30
noncomputable def b9B:Code:=M5 c0u
noncomputable def c0H:Code:=M5 b9B
noncomputable def b8K:Code:=M5 c0H
noncomputable def a2S:Code:=M5 b8K
noncomputable def b8e:Code:=(f9 b8K)
noncomputable def b2D:Code:=M5 b8e
noncomputable def c2a:Code:=H3 b2D
noncomputable def r8:Code:=M5 a2S
noncomputable def b5N:Code:=(f9 a2S)
noncomputable def b2w:Code:=M5 b5N
noncomputable def b6G:Code:=H3 b2w
noncomputable def a9j:Code:=M5 b6G
noncomputable def a2L:Code:=M5 a9j
noncomputable def b7C:Code:=a72 (f9 a9j)
noncomputable def b6D:Code:=M5 b7C
noncomputable def b2q:Code:=M5 b6D
noncomputable def c1T:Code:=H3 b2q
theorem c31(hC:T6 (Y5 E) E.length (cR L) L.length=0)(hX:X.length≤1000)(hqctr10_1:(J4 L Y)=true)(hqctr10_2:(E2 X)=true)(h0b:∀ k,k<(3)→T5 (Y6 X) (k*1)=L.length)(hqctr21_1:(Y2 3 3)=false)(hb1:b≤L.length)(hb2:∀ k,k<b→V9 (cR L) (cI Y) k∧∀ i,i<3→V9 (W9 (Y5 E) (i*1)) (W9 (Y6 X) (i*1)) k)(hqctr34_1:(Y2 b L.length)=true)(hqctr41_1:(Y2 (Z9 (cI Y) (b*1)) (Z9 (cR L) (b*2+0)))=false)(hqctr41_2:(Y2 (Z9 (cR L) (b*2+1)) (Z9 (cI Y) (b*1)))=false)(hi2:∀ k,k<(3)→V9 (W9 (Y5 E) (k*1)) (W9 (Y6 X) (k*1)) b)(hqctr49_1:(Y2 3 3)=false):Y7 zP0q 108 a2L ((b3e E L X Y b u ul y yl)) (BaseW.H w hs) (Hd.StepC zP0q 108 2 (fun b:{b:Nat // b≤L.length∧∀ k,k<b→V9 (cR L) (cI Y) k∧∀ i,i<3→V9 (W9 (Y5 E) (i*1)) (W9 (Y6 X) (i*1)) k}=>⟨[(2,(.ptr 0 0)),(3,(.ptr 1 0)),(J5 L),(7,(nI0 b.1))],[],2,[(K5 E L y yl),(N2 X Y u ul)]⟩) (fun b:{b:Nat // b≤L.length∧∀ k,k<b→V9 (cR L) (cI Y) k∧∀ i,i<3→V9 (W9 (Y5 E) (i*1)) (W9 (Y6 X) (i*1)) k}=>L.length - b.1) r8 w (V8 zP0q Try.f30 108 (.int .i64 (o0 (Y5 E) (cR L) L.length (Y6 X) X.length (cI Y) Y.length)) w) (⟨b,hb1,hb2⟩:{b:Nat // b≤L.length∧∀ k,k<b→V9 (cR L) (cI Y) k∧∀ i,i<3→V9 (W9 (Y5 E) (i*1)) (W9 (Y6 X) (i*1)) k})):=by
 have hcl_L:=Z7 L
 have hcl_Y:=Z4 Y
 obtain ⟨hn,hm3,hrow,hlam,hcur⟩:=W3 hC
 have ghqctr10_1:=X8 hqctr10_1
 have ghqctr10_2:=X8 hqctr10_2
 have ghqctr49_1:=Z5 hqctr49_1
 have ghqctr34_1:=X5 hqctr34_1
 have hxr:∀ i,i<3→T5 (Y6 X) (i*1)=L.length:=h0b
 have ghqctr41_1:=Z5 hqctr41_1
 have ghqctr41_2:=Z5 hqctr41_2
 exact Z8 W4 (Z6 zC0q (Z0) 200 (T':=⟨[(2,(.ptr 0 0)),(3,(.ptr 1 0)),(J5 L),(7,(nI0 (((b+1):Nat):Int)))],[],2,[(K5 E L y yl),(N2 X Y u ul)]⟩) (e:=.normal) (ps:=[N3 IntKind.i64 (((b:Nat):Int)+1)]) [.go,.go,.go] (by kernel_rfl) (by kernel_rfl) ⟨(b7d (by omega) (by omega)),trivial⟩ rfl) (Hd.en_on (⟨b+1,by omega,(E6 (q:=fun k=>V9 (cR L) (cI Y) k∧∀ i,i<3→V9 (W9 (Y5 E) (i*1)) (W9 (Y6 X) (i*1)) k) hb2 ⟨by unfold V9;omega,hi2⟩)⟩) (by show L.length - (b+1)<L.length - b;omega) rfl)
theorem c3k(hC:T6 (Y5 E) E.length (cR L) L.length=0)(hX:X.length≤1000)(hqctr10_1:(J4 L Y)=true)(hqctr10_2:(E2 X)=true)(h0b:∀ k,k<(3)→T5 (Y6 X) (k*1)=L.length)(hqctr21_1:(Y2 3 3)=false)(hb1:b≤L.length)(hb2:∀ k,k<b→V9 (cR L) (cI Y) k∧∀ i,i<3→V9 (W9 (Y5 E) (i*1)) (W9 (Y6 X) (i*1)) k)(hqctr34_1:(Y2 b L.length)=true)(hqctr41_1:(Y2 (Z9 (cI Y) (b*1)) (Z9 (cR L) (b*2+0)))=false)(hqctr41_2:(Y2 (Z9 (cR L) (b*2+1)) (Z9 (cI Y) (b*1)))=false)(hi1:i≤3)(hi2:∀ k,k<i→V9 (W9 (Y5 E) (k*1)) (W9 (Y6 X) (k*1)) b):Y7 zP0q 108 c1T (⟨[(2,(.ptr 0 0)),(3,(.ptr 1 0)),(J5 L),(a2r b),(8,(nI0 i)),(53,(.ptr 1 1)),(a4B Y ul),(a4P b),(56,(AV.xp ul Y.length 1 (cI Y) (b*1))),(a4m Y b),(58,(.ptr 0 1)),(a4E L yl),(a4H b),(61,(AV.xp yl L.length 2 (cR L) (b*2))),(62,(AV.xp yl L.length 2 (cR L) (b*2+1))),(a44 L b),(a4Q L Y b)],[],2,[(K5 E L y yl),(N2 X Y u ul)]⟩) (BaseW.H w hs) (Hd.StepL 108 4 (fun i:{i:Nat // i≤3∧∀ k,k<i→V9 (W9 (Y5 E) (k*1)) (W9 (Y6 X) (k*1)) b}=>⟨[(2,(.ptr 0 0)),(3,(.ptr 1 0)),(J5 L),(a2r b),(8,(nI0 i.1)),(53,(.ptr 1 1)),(a4B Y ul),(a4P b),(56,(AV.xp ul Y.length 1 (cI Y) (b*1))),(a4m Y b),(58,(.ptr 0 1)),(a4E L yl),(a4H b),(61,(AV.xp yl L.length 2 (cR L) (b*2))),(62,(AV.xp yl L.length 2 (cR L) (b*2+1))),(a44 L b),(a4Q L Y b)],[],2,[(K5 E L y yl),(N2 X Y u ul)]⟩) (fun i:{i:Nat // i≤3∧∀ k,k<i→V9 (W9 (Y5 E) (k*1)) (W9 (Y6 X) (k*1)) b}=>3 - i.1) w (Hd.AfterB zP0q 108 3 a2L w (Hd.StepC zP0q 108 2 (fun b:{b:Nat // b≤L.length∧∀ k,k<b→V9 (cR L) (cI Y) k∧∀ i,i<3→V9 (W9 (Y5 E) (i*1)) (W9 (Y6 X) (i*1)) k}=>⟨[(2,(.ptr 0 0)),(3,(.ptr 1 0)),(J5 L),(7,(nI0 b.1))],[],2,[(K5 E L y yl),(N2 X Y u ul)]⟩) (fun b:{b:Nat // b≤L.length∧∀ k,k<b→V9 (cR L) (cI Y) k∧∀ i,i<3→V9 (W9 (Y5 E) (i*1)) (W9 (Y6 X) (i*1)) k}=>L.length - b.1) r8 w (V8 zP0q Try.f30 108 (.int .i64 (o0 (Y5 E) (cR L) L.length (Y6 X) X.length (cI Y) Y.length)) w) (⟨b,hb1,hb2⟩:{b:Nat // b≤L.length∧∀ k,k<b→V9 (cR L) (cI Y) k∧∀ i,i<3→V9 (W9 (Y5 E) (i*1)) (W9 (Y6 X) (i*1)) k}))) (⟨i,hi1,hi2⟩:{i:Nat // i≤3∧∀ k,k<i→V9 (W9 (Y5 E) (k*1)) (W9 (Y6 X) (k*1)) b})):=by
 have hcl_L:=Z7 L
 have hcl_Y:=Z4 Y
 obtain ⟨hn,hm3,hrow,hlam,hcur⟩:=W3 hC
 have ghqctr10_1:=X8 hqctr10_1
 have ghqctr10_2:=X8 hqctr10_2
 have ghqctr21_1:=Z5 hqctr21_1
 have ghqctr34_1:=X5 hqctr34_1
 have hxr:∀ i,i<3→T5 (Y6 X) (i*1)=L.length:=h0b
 have ghqctr41_1:=Z5 hqctr41_1
 have ghqctr41_2:=Z5 hqctr41_2
 rcases zB0q (Y2 i 3) with hqctr49_1|hqctr49_1
 ·have ghqctr49_1:=X5 hqctr49_1
  rcases zB0q (Y2 (Z9 (W9 (Y6 X) (i*1)) (b*1)) (Z9 (W9 (Y5 E) (i*1)) (b*2+0))) with hqctr49_2|hqctr49_2
  ·have ghqctr49_2:=X5 hqctr49_2
   exact Z8 U9 (Z6 zC0q (Z0) 200 (T':=a4N) (e:=.ret) (ps:=[Y2 i 3=true,i<X.length,W7 zP0q (Y6 X) (i*1) 27=some (AV.xl (xlY (Y6 X) (i*1)) (T5 (Y6 X) (i*1)) 1 (W9 (Y6 X) (i*1))),b<T5 (Y6 X) (i*1),W7 zP0q (W9 (Y6 X) (i*1)) (b*1) 2=some (AV.v (Value.int IntKind.i64 (Z9 (W9 (Y6 X) (i*1)) (b*1)))),i<E.length,W7 zP0q (Y5 E) (i*1) 23=some (AV.xl (xlY (Y5 E) (i*1)) (T5 (Y5 E) (i*1)) 2 (W9 (Y5 E) (i*1))),b<T5 (Y5 E) (i*1),b*2+0<((W9 (Y5 E) (i*1)):List AV).length,W7 zP0q (W9 (Y5 E) (i*1)) (b*2+0) 2=some (AV.v (Value.int IntKind.i64 (Z9 (W9 (Y5 E) (i*1)) (b*2+0)))),Y2 (Z9 (W9 (Y6 X) (i*1)) (b*1)) (Z9 (W9 (Y5 E) (i*1)) (b*2+0))=true,true=true,true=true,true=true,true=true,true=true,true=true,true=true,true=true,true=true,true=true,true=true,true=true,true=true,true=true,true=true,true=true,true=true,true=true]) [.go,.go,.b true,.go,.go,.go,.sym,.sym,.go,.sym,.sym,.go,.go,.go,.sym,.sym,.go,.sym,.sym,.sym,.go,.go,.b true,.b true,.b true,.b true,.b true,.b true,.b true,.b true,.b true,.b true,.b true,.b true,.b true,.b true,.b true,.b true,.b true,.b true,.go,.b true,.go] (by kernel_rfl) (by kernel_rfl) ⟨hqctr49_1,(by omega),(by rw [Nat.mul_one];exact F9 (by omega) 27 (Try.underlying27) rfl),(by have h9:=hrow i (by omega);have h8:=hxr i (by omega);omega),(by have h8:=hxr i (by omega);obtain ⟨-,L9,e9,n9⟩:=g9 (R:=X) (i:=i) (by omega);rw [e9,Nat.mul_one];exact R7 (by omega) 2 (Try.underlying2) rfl),(by omega),(by rw [Nat.mul_one];exact L0 (by omega) 23 (Try.underlying23) rfl),(by have h9:=hrow i (by omega);have h8:=hxr i (by omega);omega),(by have h8:=hrow i (by omega);obtain ⟨-,P9,e9,n9⟩:=H9 (R:=E) (i:=i) (by omega);rw [e9,Z7];omega),(by have h8:=hrow i (by omega);obtain ⟨-,P9,e9,n9⟩:=H9 (R:=E) (i:=i) (by omega);rw [e9];exact i7 (i:=b) (by omega) (by omega) 2 (Try.underlying2) rfl),hqctr49_2,rfl,rfl,rfl,rfl,rfl,rfl,rfl,rfl,rfl,rfl,rfl,rfl,rfl,rfl,rfl,rfl,rfl,rfl,trivial⟩ rfl) (Hd.en_to (by intro h;cases h) (by intro h;cases h) (Hd.en_bo (by intro h;cases h) (by intro h;cases h) (Hd.en_so (by intro h;cases h) (by intro h;cases h) (Hd.en_eq (r:=(.int .i64 3)) (by rw [a4K (cE:=Y5 E) (cL:=cR L) (n:=L.length) (cX:=Y6 X) (m:=X.length) (cY:=cI Y) (k:=Y.length) (by omega) (eyB_true.2 ⟨by omega,fun i hi=>h0b i (by omega)⟩) (i:=i) (by omega) (fun h9=>by have h8:=allB_true.1 h9 b (by omega);unfold V9 at h8;omega)]) (Hd.en_ret (v:=(nI0 (.ofNat 3))) (by kernel_rfl) rfl)))))
  ·have ghqctr49_2:=Z5 hqctr49_2
   rcases zB0q (Y2 (Z9 (W9 (Y5 E) (i*1)) (b*2+1)) (Z9 (W9 (Y6 X) (i*1)) (b*1))) with hqctr49_3|hqctr49_3
   ·have ghqctr49_3:=X5 hqctr49_3
    exact Z8 U9 (Z6 zC0q (Z0) 200 (T':=a4N) (e:=.ret) (ps:=[Y2 i 3=true,i<X.length,W7 zP0q (Y6 X) (i*1) 27=some (AV.xl (xlY (Y6 X) (i*1)) (T5 (Y6 X) (i*1)) 1 (W9 (Y6 X) (i*1))),b<T5 (Y6 X) (i*1),W7 zP0q (W9 (Y6 X) (i*1)) (b*1) 2=some (AV.v (Value.int IntKind.i64 (Z9 (W9 (Y6 X) (i*1)) (b*1)))),i<E.length,W7 zP0q (Y5 E) (i*1) 23=some (AV.xl (xlY (Y5 E) (i*1)) (T5 (Y5 E) (i*1)) 2 (W9 (Y5 E) (i*1))),b<T5 (Y5 E) (i*1),b*2+0<((W9 (Y5 E) (i*1)):List AV).length,W7 zP0q (W9 (Y5 E) (i*1)) (b*2+0) 2=some (AV.v (Value.int IntKind.i64 (Z9 (W9 (Y5 E) (i*1)) (b*2+0)))),Y2 (Z9 (W9 (Y6 X) (i*1)) (b*1)) (Z9 (W9 (Y5 E) (i*1)) (b*2+0))=false,false=false,false=false,false=false,i<X.length,false=false,W7 zP0q (Y6 X) (i*1) 27=some (AV.xl (xlY (Y6 X) (i*1)) (T5 (Y6 X) (i*1)) 1 (W9 (Y6 X) (i*1))),false=false,false=false,b<T5 (Y6 X) (i*1),false=false,W7 zP0q (W9 (Y6 X) (i*1)) (b*1) 2=some (AV.v (Value.int IntKind.i64 (Z9 (W9 (Y6 X) (i*1)) (b*1)))),false=false,false=false,false=false,false=false,i<E.length,false=false,W7 zP0q (Y5 E) (i*1) 23=some (AV.xl (xlY (Y5 E) (i*1)) (T5 (Y5 E) (i*1)) 2 (W9 (Y5 E) (i*1))),false=false,false=false,b<T5 (Y5 E) (i*1),false=false,b*2+1<((W9 (Y5 E) (i*1)):List AV).length,false=false,W7 zP0q (W9 (Y5 E) (i*1)) (b*2+1) 2=some (AV.v (Value.int IntKind.i64 (Z9 (W9 (Y5 E) (i*1)) (b*2+1)))),false=false,Y2 (Z9 (W9 (Y5 E) (i*1)) (b*2+1)) (Z9 (W9 (Y6 X) (i*1)) (b*1))=true]) [.go,.go,.b true,.go,.go,.go,.sym,.sym,.go,.sym,.sym,.go,.go,.go,.sym,.sym,.go,.sym,.sym,.sym,.go,.go,.b false,.go,.b false,.go,.b false,.go,.b false,.sym,.b false,.sym,.b false,.go,.b false,.sym,.b false,.sym,.b false,.go,.b false,.go,.b false,.go,.b false,.sym,.b false,.sym,.b false,.go,.b false,.sym,.b false,.sym,.b false,.sym,.b false,.go,.go,.b true,.go] (by kernel_rfl) (by kernel_rfl) ⟨hqctr49_1,(by omega),(by rw [Nat.mul_one];exact F9 (by omega) 27 (Try.underlying27) rfl),(by have h9:=hrow i (by omega);have h8:=hxr i (by omega);omega),(by have h8:=hxr i (by omega);obtain ⟨-,L9,e9,n9⟩:=g9 (R:=X) (i:=i) (by omega);rw [e9,Nat.mul_one];exact R7 (by omega) 2 (Try.underlying2) rfl),(by omega),(by rw [Nat.mul_one];exact L0 (by omega) 23 (Try.underlying23) rfl),(by have h9:=hrow i (by omega);have h8:=hxr i (by omega);omega),(by have h8:=hrow i (by omega);obtain ⟨-,P9,e9,n9⟩:=H9 (R:=E) (i:=i) (by omega);rw [e9,Z7];omega),(by have h8:=hrow i (by omega);obtain ⟨-,P9,e9,n9⟩:=H9 (R:=E) (i:=i) (by omega);rw [e9];exact i7 (i:=b) (by omega) (by omega) 2 (Try.underlying2) rfl),hqctr49_2,rfl,rfl,rfl,(by omega),rfl,(by rw [Nat.mul_one];exact F9 (by omega) 27 (Try.underlying27) rfl),rfl,rfl,(by have h9:=hrow i (by omega);have h8:=hxr i (by omega);omega),rfl,(by have h8:=hxr i (by omega);obtain ⟨-,L9,e9,n9⟩:=g9 (R:=X) (i:=i) (by omega);rw [e9,Nat.mul_one];exact R7 (by omega) 2 (Try.underlying2) rfl),rfl,rfl,rfl,rfl,(by omega),rfl,(by rw [Nat.mul_one];exact L0 (by omega) 23 (Try.underlying23) rfl),rfl,rfl,(by have h9:=hrow i (by omega);have h8:=hxr i (by omega);omega),rfl,(by have h8:=hrow i (by omega);obtain ⟨-,P9,e9,n9⟩:=H9 (R:=E) (i:=i) (by omega);rw [e9,Z7];omega),rfl,(by have h8:=hrow i (by omega);obtain ⟨-,P9,e9,n9⟩:=H9 (R:=E) (i:=i) (by omega);rw [e9];exact i7 (i:=b) (by omega) (by omega) 2 (Try.underlying2) rfl),rfl,hqctr49_3,trivial⟩ rfl) (Hd.en_to (by intro h;cases h) (by intro h;cases h) (Hd.en_bo (by intro h;cases h) (by intro h;cases h) (Hd.en_so (by intro h;cases h) (by intro h;cases h) (Hd.en_eq (r:=(.int .i64 3)) (by rw [a4K (cE:=Y5 E) (cL:=cR L) (n:=L.length) (cX:=Y6 X) (m:=X.length) (cY:=cI Y) (k:=Y.length) (by omega) (eyB_true.2 ⟨by omega,fun i hi=>h0b i (by omega)⟩) (i:=i) (by omega) (fun h9=>by have h8:=allB_true.1 h9 b (by omega);unfold V9 at h8;omega)]) (Hd.en_ret (v:=(nI0 (.ofNat 3))) (by kernel_rfl) rfl)))))
   ·have ghqctr49_3:=Z5 hqctr49_3
    exact Z8 W4 (Z6 zC0q (Z0) 200 (T':=⟨[(2,(.ptr 0 0)),(3,(.ptr 1 0)),(J5 L),(a2r b),(8,(nI0 (((i+1):Nat):Int))),(53,(.ptr 1 1)),(a4B Y ul),(a4P b),(56,(AV.xp ul Y.length 1 (cI Y) (b*1))),(a4m Y b),(58,(.ptr 0 1)),(a4E L yl),(a4H b),(61,(AV.xp yl L.length 2 (cR L) (b*2))),(62,(AV.xp yl L.length 2 (cR L) (b*2+1))),(a44 L b),(a4Q L Y b)],[],2,[(K5 E L y yl),(N2 X Y u ul)]⟩) (e:=.normal) (ps:=[Y2 i 3=true,i<X.length,W7 zP0q (Y6 X) (i*1) 27=some (AV.xl (xlY (Y6 X) (i*1)) (T5 (Y6 X) (i*1)) 1 (W9 (Y6 X) (i*1))),b<T5 (Y6 X) (i*1),W7 zP0q (W9 (Y6 X) (i*1)) (b*1) 2=some (AV.v (Value.int IntKind.i64 (Z9 (W9 (Y6 X) (i*1)) (b*1)))),i<E.length,W7 zP0q (Y5 E) (i*1) 23=some (AV.xl (xlY (Y5 E) (i*1)) (T5 (Y5 E) (i*1)) 2 (W9 (Y5 E) (i*1))),b<T5 (Y5 E) (i*1),b*2+0<((W9 (Y5 E) (i*1)):List AV).length,W7 zP0q (W9 (Y5 E) (i*1)) (b*2+0) 2=some (AV.v (Value.int IntKind.i64 (Z9 (W9 (Y5 E) (i*1)) (b*2+0)))),Y2 (Z9 (W9 (Y6 X) (i*1)) (b*1)) (Z9 (W9 (Y5 E) (i*1)) (b*2+0))=false,false=false,false=false,false=false,i<X.length,false=false,W7 zP0q (Y6 X) (i*1) 27=some (AV.xl (xlY (Y6 X) (i*1)) (T5 (Y6 X) (i*1)) 1 (W9 (Y6 X) (i*1))),false=false,false=false,b<T5 (Y6 X) (i*1),false=false,W7 zP0q (W9 (Y6 X) (i*1)) (b*1) 2=some (AV.v (Value.int IntKind.i64 (Z9 (W9 (Y6 X) (i*1)) (b*1)))),false=false,false=false,false=false,false=false,i<E.length,false=false,W7 zP0q (Y5 E) (i*1) 23=some (AV.xl (xlY (Y5 E) (i*1)) (T5 (Y5 E) (i*1)) 2 (W9 (Y5 E) (i*1))),false=false,false=false,b<T5 (Y5 E) (i*1),false=false,b*2+1<((W9 (Y5 E) (i*1)):List AV).length,false=false,W7 zP0q (W9 (Y5 E) (i*1)) (b*2+1) 2=some (AV.v (Value.int IntKind.i64 (Z9 (W9 (Y5 E) (i*1)) (b*2+1)))),false=false,Y2 (Z9 (W9 (Y5 E) (i*1)) (b*2+1)) (Z9 (W9 (Y6 X) (i*1)) (b*1))=false,N3 IntKind.i64 (((i:Nat):Int)+1)]) [.go,.go,.b true,.go,.go,.go,.sym,.sym,.go,.sym,.sym,.go,.go,.go,.sym,.sym,.go,.sym,.sym,.sym,.go,.go,.b false,.go,.b false,.go,.b false,.go,.b false,.sym,.b false,.sym,.b false,.go,.b false,.sym,.b false,.sym,.b false,.go,.b false,.go,.b false,.go,.b false,.sym,.b false,.sym,.b false,.go,.b false,.sym,.b false,.sym,.b false,.sym,.b false,.go,.go,.b false,.go,.go,.go] (by kernel_rfl) (by kernel_rfl) ⟨hqctr49_1,(by omega),(by rw [Nat.mul_one];exact F9 (by omega) 27 (Try.underlying27) rfl),(by have h9:=hrow i (by omega);have h8:=hxr i (by omega);omega),(by have h8:=hxr i (by omega);obtain ⟨-,L9,e9,n9⟩:=g9 (R:=X) (i:=i) (by omega);rw [e9,Nat.mul_one];exact R7 (by omega) 2 (Try.underlying2) rfl),(by omega),(by rw [Nat.mul_one];exact L0 (by omega) 23 (Try.underlying23) rfl),(by have h9:=hrow i (by omega);have h8:=hxr i (by omega);omega),(by have h8:=hrow i (by omega);obtain ⟨-,P9,e9,n9⟩:=H9 (R:=E) (i:=i) (by omega);rw [e9,Z7];omega),(by have h8:=hrow i (by omega);obtain ⟨-,P9,e9,n9⟩:=H9 (R:=E) (i:=i) (by omega);rw [e9];exact i7 (i:=b) (by omega) (by omega) 2 (Try.underlying2) rfl),hqctr49_2,rfl,rfl,rfl,(by omega),rfl,(by rw [Nat.mul_one];exact F9 (by omega) 27 (Try.underlying27) rfl),rfl,rfl,(by have h9:=hrow i (by omega);have h8:=hxr i (by omega);omega),rfl,(by have h8:=hxr i (by omega);obtain ⟨-,L9,e9,n9⟩:=g9 (R:=X) (i:=i) (by omega);rw [e9,Nat.mul_one];exact R7 (by omega) 2 (Try.underlying2) rfl),rfl,rfl,rfl,rfl,(by omega),rfl,(by rw [Nat.mul_one];exact L0 (by omega) 23 (Try.underlying23) rfl),rfl,rfl,(by have h9:=hrow i (by omega);have h8:=hxr i (by omega);omega),rfl,(by have h8:=hrow i (by omega);obtain ⟨-,P9,e9,n9⟩:=H9 (R:=E) (i:=i) (by omega);rw [e9,Z7];omega),rfl,(by have h8:=hrow i (by omega);obtain ⟨-,P9,e9,n9⟩:=H9 (R:=E) (i:=i) (by omega);rw [e9];exact i7 (i:=b) (by omega) (by omega) 2 (Try.underlying2) rfl),rfl,hqctr49_3,(b7d (by omega) (by omega)),trivial⟩ rfl) (Hd.en_tn (⟨i+1,by omega,(E6 (q:=fun k=>V9 (W9 (Y5 E) (k*1)) (W9 (Y6 X) (k*1)) b) hi2 (by unfold V9;omega))⟩) (by show 3 - (i+1)<3 - i;omega) rfl)
 ·have ghqctr49_1:=Z5 hqctr49_1
  obtain rfl:3=i:=by omega
  exact Z8 A8 (Z6 zC0q (Z0) 200 (T':=(b3e E L X Y b u ul y yl)) (e:=.exit 4) (ps:=[Y2 3 3=false]) [.go,.go,.b false] (by kernel_rfl) (by kernel_rfl) ⟨hqctr49_1,trivial⟩ rfl) (Hd.en_tx (Hd.en_bn (c31 hC hX hqctr10_1 hqctr10_2 h0b hqctr21_1 hb1 hb2 hqctr34_1 hqctr41_1 hqctr41_2 hi2 hqctr49_1)))
theorem c2W(hC:T6 (Y5 E) E.length (cR L) L.length=0)(hX:X.length≤1000)(hqctr10_1:(J4 L Y)=true)(hqctr10_2:(E2 X)=true)(h0b:∀ k,k<(3)→T5 (Y6 X) (k*1)=L.length)(hqctr21_1:(Y2 3 3)=false)(hb1:b≤L.length)(hb2:∀ k,k<b→V9 (cR L) (cI Y) k∧∀ i,i<3→V9 (W9 (Y5 E) (i*1)) (W9 (Y6 X) (i*1)) k)(hqctr34_1:(Y2 b L.length)=true)(hqctr41_1:(Y2 (Z9 (cI Y) (b*1)) (Z9 (cR L) (b*2+0)))=false)(hqctr41_2:(Y2 (Z9 (cR L) (b*2+1)) (Z9 (cI Y) (b*1)))=false):Y7 zP0q 108 b2q ((b8J E L X Y b u ul y yl)) (BaseW.H w hs) (Hd.AfterB zP0q 108 3 a2L w (Hd.StepC zP0q 108 2 (fun b:{b:Nat // b≤L.length∧∀ k,k<b→V9 (cR L) (cI Y) k∧∀ i,i<3→V9 (W9 (Y5 E) (i*1)) (W9 (Y6 X) (i*1)) k}=>⟨[(2,(.ptr 0 0)),(3,(.ptr 1 0)),(J5 L),(7,(nI0 b.1))],[],2,[(K5 E L y yl),(N2 X Y u ul)]⟩) (fun b:{b:Nat // b≤L.length∧∀ k,k<b→V9 (cR L) (cI Y) k∧∀ i,i<3→V9 (W9 (Y5 E) (i*1)) (W9 (Y6 X) (i*1)) k}=>L.length - b.1) r8 w (V8 zP0q Try.f30 108 (.int .i64 (o0 (Y5 E) (cR L) L.length (Y6 X) X.length (cI Y) Y.length)) w) (⟨b,hb1,hb2⟩:{b:Nat // b≤L.length∧∀ k,k<b→V9 (cR L) (cI Y) k∧∀ i,i<3→V9 (W9 (Y5 E) (i*1)) (W9 (Y6 X) (i*1)) k}))):=by
 have hcl_L:=Z7 L
 have hcl_Y:=Z4 Y
 obtain ⟨hn,hm3,hrow,hlam,hcur⟩:=W3 hC
 have ghqctr10_1:=X8 hqctr10_1
 have ghqctr10_2:=X8 hqctr10_2
 have ghqctr21_1:=Z5 hqctr21_1
 have ghqctr34_1:=X5 hqctr34_1
 have hxr:∀ i,i<3→T5 (Y6 X) (i*1)=L.length:=h0b
 have ghqctr41_1:=Z5 hqctr41_1
 have ghqctr41_2:=Z5 hqctr41_2
 exact Hd.goes_loopL (id:=4) (by kernel_rfl) (by kernel_rfl) (fun i:{i:Nat // i≤3∧∀ k,k<i→V9 (W9 (Y5 E) (k*1)) (W9 (Y6 X) (k*1)) b}=>⟨[(2,(.ptr 0 0)),(3,(.ptr 1 0)),(J5 L),(a2r b),(8,(nI0 i.1)),(53,(.ptr 1 1)),(a4B Y ul),(a4P b),(56,(AV.xp ul Y.length 1 (cI Y) (b*1))),(a4m Y b),(58,(.ptr 0 1)),(a4E L yl),(a4H b),(61,(AV.xp yl L.length 2 (cR L) (b*2))),(62,(AV.xp yl L.length 2 (cR L) (b*2+1))),(a44 L b),(a4Q L Y b)],[],2,[(K5 E L y yl),(N2 X Y u ul)]⟩) (fun i:{i:Nat // i≤3∧∀ k,k<i→V9 (W9 (Y5 E) (k*1)) (W9 (Y6 X) (k*1)) b}=>3 - i.1) (fun ix_ hs=>c3k hC hX hqctr10_1 hqctr10_2 h0b hqctr21_1 hb1 hb2 hqctr34_1 hqctr41_1 hqctr41_2 ix_.2.1 ix_.2.2) ⟨0,Nat.zero_le _,(fun j hj=>by omega)⟩ hs
theorem c2g(hC:T6 (Y5 E) E.length (cR L) L.length=0)(hX:X.length≤1000)(hqctr10_1:(J4 L Y)=true)(hqctr10_2:(E2 X)=true)(h0b:∀ k,k<(3)→T5 (Y6 X) (k*1)=L.length)(hqctr21_1:(Y2 3 3)=false)(hb1:b≤L.length)(hb2:∀ k,k<b→V9 (cR L) (cI Y) k∧∀ i,i<3→V9 (W9 (Y5 E) (i*1)) (W9 (Y6 X) (i*1)) k)(hqctr34_1:(Y2 b L.length)=true)(hqctr41_1:(Y2 (Z9 (cI Y) (b*1)) (Z9 (cR L) (b*2+0)))=false)(hqctr41_2:(Y2 (Z9 (cR L) (b*2+1)) (Z9 (cI Y) (b*1)))=false):Y7 zP0q 108 b2q ((b8J E L X Y b u ul y yl)) (BaseW.H w hs) (Hd.AfterB zP0q 108 3 a2L w (Hd.StepC zP0q 108 2 (fun b:{b:Nat // b≤L.length∧∀ k,k<b→V9 (cR L) (cI Y) k∧∀ i,i<3→V9 (W9 (Y5 E) (i*1)) (W9 (Y6 X) (i*1)) k}=>⟨[(2,(.ptr 0 0)),(3,(.ptr 1 0)),(J5 L),(7,(nI0 b.1))],[],2,[(K5 E L y yl),(N2 X Y u ul)]⟩) (fun b:{b:Nat // b≤L.length∧∀ k,k<b→V9 (cR L) (cI Y) k∧∀ i,i<3→V9 (W9 (Y5 E) (i*1)) (W9 (Y6 X) (i*1)) k}=>L.length - b.1) r8 w (V8 zP0q Try.f30 108 (.int .i64 (o0 (Y5 E) (cR L) L.length (Y6 X) X.length (cI Y) Y.length)) w) (⟨b,hb1,hb2⟩:{b:Nat // b≤L.length∧∀ k,k<b→V9 (cR L) (cI Y) k∧∀ i,i<3→V9 (W9 (Y5 E) (i*1)) (W9 (Y6 X) (i*1)) k}))):=by
 exact c2W hC hX hqctr10_1 hqctr10_2 h0b hqctr21_1 hb1 hb2 hqctr34_1 hqctr41_1 hqctr41_2
theorem c3O(hC:T6 (Y5 E) E.length (cR L) L.length=0)(hX:X.length≤1000)(hqctr10_1:(J4 L Y)=true)(hqctr10_2:(E2 X)=true)(h0b:∀ k,k<(3)→T5 (Y6 X) (k*1)=L.length)(hqctr21_1:(Y2 3 3)=false)(hb1:b≤L.length)(hb2:∀ k,k<b→V9 (cR L) (cI Y) k∧∀ i,i<3→V9 (W9 (Y5 E) (i*1)) (W9 (Y6 X) (i*1)) k)(hqctr34_1:(Y2 b L.length)=true)(hqctr41_1:(Y2 (Z9 (cI Y) (b*1)) (Z9 (cR L) (b*2+0)))=false)(hqctr41_2:(Y2 (Z9 (cR L) (b*2+1)) (Z9 (cI Y) (b*1)))=false):Y7 zP0q 108 b6D ((b3e E L X Y b u ul y yl)) (BaseW.H w hs) (Hd.AfterB zP0q 108 3 a2L w (Hd.StepC zP0q 108 2 (fun b:{b:Nat // b≤L.length∧∀ k,k<b→V9 (cR L) (cI Y) k∧∀ i,i<3→V9 (W9 (Y5 E) (i*1)) (W9 (Y6 X) (i*1)) k}=>⟨[(2,(.ptr 0 0)),(3,(.ptr 1 0)),(J5 L),(7,(nI0 b.1))],[],2,[(K5 E L y yl),(N2 X Y u ul)]⟩) (fun b:{b:Nat // b≤L.length∧∀ k,k<b→V9 (cR L) (cI Y) k∧∀ i,i<3→V9 (W9 (Y5 E) (i*1)) (W9 (Y6 X) (i*1)) k}=>L.length - b.1) r8 w (V8 zP0q Try.f30 108 (.int .i64 (o0 (Y5 E) (cR L) L.length (Y6 X) X.length (cI Y) Y.length)) w) (⟨b,hb1,hb2⟩:{b:Nat // b≤L.length∧∀ k,k<b→V9 (cR L) (cI Y) k∧∀ i,i<3→V9 (W9 (Y5 E) (i*1)) (W9 (Y6 X) (i*1)) k}))):=by
 have hcl_L:=Z7 L
 have hcl_Y:=Z4 Y
 obtain ⟨hn,hm3,hrow,hlam,hcur⟩:=W3 hC
 have ghqctr10_1:=X8 hqctr10_1
 have ghqctr10_2:=X8 hqctr10_2
 have ghqctr21_1:=Z5 hqctr21_1
 have ghqctr34_1:=X5 hqctr34_1
 have hxr:∀ i,i<3→T5 (Y6 X) (i*1)=L.length:=h0b
 have ghqctr41_1:=Z5 hqctr41_1
 have ghqctr41_2:=Z5 hqctr41_2
 refine Hd.goes_seqA (by kernel_rfl) ?_
 exact Z8 W4 (Z6 zC0q (Z0) 200 (T':=(b8J E L X Y b u ul y yl)) (e:=.normal) (ps:=[]) [.go] (by kernel_rfl) (by kernel_rfl) trivial rfl) (Hd.en_n (c2g hC hX hqctr10_1 hqctr10_2 h0b hqctr21_1 hb1 hb2 hqctr34_1 hqctr41_1 hqctr41_2))
theorem c2D(hC:T6 (Y5 E) E.length (cR L) L.length=0)(hX:X.length≤1000)(hqctr10_1:(J4 L Y)=true)(hqctr10_2:(E2 X)=true)(h0b:∀ k,k<(3)→T5 (Y6 X) (k*1)=L.length)(hqctr21_1:(Y2 3 3)=false)(hb1:b≤L.length)(hb2:∀ k,k<b→V9 (cR L) (cI Y) k∧∀ i,i<3→V9 (W9 (Y5 E) (i*1)) (W9 (Y6 X) (i*1)) k)(hqctr34_1:(Y2 b L.length)=true):Y7 zP0q 108 b7C ((b3N E L X Y b u ul y yl)) (BaseW.H w hs) (Hd.AfterB zP0q 108 3 a2L w (Hd.StepC zP0q 108 2 (fun b:{b:Nat // b≤L.length∧∀ k,k<b→V9 (cR L) (cI Y) k∧∀ i,i<3→V9 (W9 (Y5 E) (i*1)) (W9 (Y6 X) (i*1)) k}=>⟨[(2,(.ptr 0 0)),(3,(.ptr 1 0)),(J5 L),(7,(nI0 b.1))],[],2,[(K5 E L y yl),(N2 X Y u ul)]⟩) (fun b:{b:Nat // b≤L.length∧∀ k,k<b→V9 (cR L) (cI Y) k∧∀ i,i<3→V9 (W9 (Y5 E) (i*1)) (W9 (Y6 X) (i*1)) k}=>L.length - b.1) r8 w (V8 zP0q Try.f30 108 (.int .i64 (o0 (Y5 E) (cR L) L.length (Y6 X) X.length (cI Y) Y.length)) w) (⟨b,hb1,hb2⟩:{b:Nat // b≤L.length∧∀ k,k<b→V9 (cR L) (cI Y) k∧∀ i,i<3→V9 (W9 (Y5 E) (i*1)) (W9 (Y6 X) (i*1)) k}))):=by
 have hcl_L:=Z7 L
 have hcl_Y:=Z4 Y
 obtain ⟨hn,hm3,hrow,hlam,hcur⟩:=W3 hC
 have ghqctr10_1:=X8 hqctr10_1
 have ghqctr10_2:=X8 hqctr10_2
 have ghqctr21_1:=Z5 hqctr21_1
 have ghqctr34_1:=X5 hqctr34_1
 have hxr:∀ i,i<3→T5 (Y6 X) (i*1)=L.length:=h0b
 refine Hd.goes_seqA (by kernel_rfl) ?_
 rcases zB0q (Y2 (Z9 (cI Y) (b*1)) (Z9 (cR L) (b*2+0))) with hqctr41_1|hqctr41_1
 ·have ghqctr41_1:=X5 hqctr41_1
  exact Z8 U9 (Z6 zC0q (Z0) 200 (T':=a4N) (e:=.ret) (ps:=[b<Y.length,W7 zP0q (cI Y) (b*1) 2=some (AV.v (Value.int IntKind.i64 (Z9 (cI Y) (b*1)))),b<L.length,b*2+0<((cR L):List AV).length,W7 zP0q (cR L) (b*2+0) 2=some (AV.v (Value.int IntKind.i64 (Z9 (cR L) (b*2+0)))),Y2 (Z9 (cI Y) (b*1)) (Z9 (cR L) (b*2+0))=true,true=true,true=true,true=true,true=true,true=true,true=true,true=true,true=true,true=true,true=true,true=true,true=true]) [.go,.go,.go,.sym,.sym,.go,.go,.go,.sym,.sym,.sym,.go,.go,.b true,.b true,.b true,.b true,.b true,.b true,.b true,.b true,.b true,.b true,.b true,.b true,.go,.b true,.go] (by kernel_rfl) (by kernel_rfl) ⟨(by omega),(by rw [Nat.mul_one];exact R7 (show _<Y.length by omega) 2 (Try.underlying2) rfl),(by omega),(by rw [Z7];omega),(i7 (i:=b) (by omega) (by omega) 2 (Try.underlying2) rfl),hqctr41_1,rfl,rfl,rfl,rfl,rfl,rfl,rfl,rfl,rfl,rfl,rfl,rfl,trivial⟩ rfl) (Hd.en_o (by intro h;cases h) (Hd.en_bo (by intro h;cases h) (by intro h;cases h) (Hd.en_so (by intro h;cases h) (by intro h;cases h) (Hd.en_eq (r:=(.int .i64 3)) (by rw [a5K (cE:=Y5 E) (cL:=cR L) (n:=L.length) (cX:=Y6 X) (m:=X.length) (cY:=cI Y) (k:=Y.length) (by omega) (eyB_true.2 ⟨by omega,fun i hi=>h0b i (by omega)⟩) (fun h9=>by have h8:=allB_true.1 h9 b (by omega);unfold V9 at h8;omega)]) (Hd.en_ret (v:=(nI0 (.ofNat 3))) (by kernel_rfl) rfl)))))
 ·have ghqctr41_1:=Z5 hqctr41_1
  rcases zB0q (Y2 (Z9 (cR L) (b*2+1)) (Z9 (cI Y) (b*1))) with hqctr41_2|hqctr41_2
  ·have ghqctr41_2:=X5 hqctr41_2
   exact Z8 U9 (Z6 zC0q (Z0) 200 (T':=a4N) (e:=.ret) (ps:=[b<Y.length,W7 zP0q (cI Y) (b*1) 2=some (AV.v (Value.int IntKind.i64 (Z9 (cI Y) (b*1)))),b<L.length,b*2+0<((cR L):List AV).length,W7 zP0q (cR L) (b*2+0) 2=some (AV.v (Value.int IntKind.i64 (Z9 (cR L) (b*2+0)))),Y2 (Z9 (cI Y) (b*1)) (Z9 (cR L) (b*2+0))=false,false=false,false=false,false=false,b<Y.length,false=false,W7 zP0q (cI Y) (b*1) 2=some (AV.v (Value.int IntKind.i64 (Z9 (cI Y) (b*1)))),false=false,false=false,false=false,false=false,b<L.length,false=false,b*2+1<((cR L):List AV).length,false=false,W7 zP0q (cR L) (b*2+1) 2=some (AV.v (Value.int IntKind.i64 (Z9 (cR L) (b*2+1)))),false=false,Y2 (Z9 (cR L) (b*2+1)) (Z9 (cI Y) (b*1))=true]) [.go,.go,.go,.sym,.sym,.go,.go,.go,.sym,.sym,.sym,.go,.go,.b false,.go,.b false,.go,.b false,.go,.b false,.sym,.b false,.sym,.b false,.go,.b false,.go,.b false,.go,.b false,.sym,.b false,.sym,.b false,.sym,.b false,.go,.go,.b true,.go] (by kernel_rfl) (by kernel_rfl) ⟨(by omega),(by rw [Nat.mul_one];exact R7 (show _<Y.length by omega) 2 (Try.underlying2) rfl),(by omega),(by rw [Z7];omega),(i7 (i:=b) (by omega) (by omega) 2 (Try.underlying2) rfl),hqctr41_1,rfl,rfl,rfl,(by omega),rfl,(by rw [Nat.mul_one];exact R7 (show _<Y.length by omega) 2 (Try.underlying2) rfl),rfl,rfl,rfl,rfl,(by omega),rfl,(by rw [Z7];omega),rfl,(i7 (i:=b) (by omega) (by omega) 2 (Try.underlying2) rfl),rfl,hqctr41_2,trivial⟩ rfl) (Hd.en_o (by intro h;cases h) (Hd.en_bo (by intro h;cases h) (by intro h;cases h) (Hd.en_so (by intro h;cases h) (by intro h;cases h) (Hd.en_eq (r:=(.int .i64 3)) (by rw [a5K (cE:=Y5 E) (cL:=cR L) (n:=L.length) (cX:=Y6 X) (m:=X.length) (cY:=cI Y) (k:=Y.length) (by omega) (eyB_true.2 ⟨by omega,fun i hi=>h0b i (by omega)⟩) (fun h9=>by have h8:=allB_true.1 h9 b (by omega);unfold V9 at h8;omega)]) (Hd.en_ret (v:=(nI0 (.ofNat 3))) (by kernel_rfl) rfl)))))
  ·have ghqctr41_2:=Z5 hqctr41_2
   exact Z8 W4 (Z6 zC0q (Z0) 200 (T':=(b3e E L X Y b u ul y yl)) (e:=.normal) (ps:=[b<Y.length,W7 zP0q (cI Y) (b*1) 2=some (AV.v (Value.int IntKind.i64 (Z9 (cI Y) (b*1)))),b<L.length,b*2+0<((cR L):List AV).length,W7 zP0q (cR L) (b*2+0) 2=some (AV.v (Value.int IntKind.i64 (Z9 (cR L) (b*2+0)))),Y2 (Z9 (cI Y) (b*1)) (Z9 (cR L) (b*2+0))=false,false=false,false=false,false=false,b<Y.length,false=false,W7 zP0q (cI Y) (b*1) 2=some (AV.v (Value.int IntKind.i64 (Z9 (cI Y) (b*1)))),false=false,false=false,false=false,false=false,b<L.length,false=false,b*2+1<((cR L):List AV).length,false=false,W7 zP0q (cR L) (b*2+1) 2=some (AV.v (Value.int IntKind.i64 (Z9 (cR L) (b*2+1)))),false=false,Y2 (Z9 (cR L) (b*2+1)) (Z9 (cI Y) (b*1))=false]) [.go,.go,.go,.sym,.sym,.go,.go,.go,.sym,.sym,.sym,.go,.go,.b false,.go,.b false,.go,.b false,.go,.b false,.sym,.b false,.sym,.b false,.go,.b false,.go,.b false,.go,.b false,.sym,.b false,.sym,.b false,.sym,.b false,.go,.go,.b false] (by kernel_rfl) (by kernel_rfl) ⟨(by omega),(by rw [Nat.mul_one];exact R7 (show _<Y.length by omega) 2 (Try.underlying2) rfl),(by omega),(by rw [Z7];omega),(i7 (i:=b) (by omega) (by omega) 2 (Try.underlying2) rfl),hqctr41_1,rfl,rfl,rfl,(by omega),rfl,(by rw [Nat.mul_one];exact R7 (show _<Y.length by omega) 2 (Try.underlying2) rfl),rfl,rfl,rfl,rfl,(by omega),rfl,(by rw [Z7];omega),rfl,(i7 (i:=b) (by omega) (by omega) 2 (Try.underlying2) rfl),rfl,hqctr41_2,trivial⟩ rfl) (Hd.en_n (c3O hC hX hqctr10_1 hqctr10_2 h0b hqctr21_1 hb1 hb2 hqctr34_1 hqctr41_1 hqctr41_2))
theorem c3R(hC:T6 (Y5 E) E.length (cR L) L.length=0)(hX:X.length≤1000)(hqctr10_1:(J4 L Y)=true)(hqctr10_2:(E2 X)=true)(h0b:∀ k,k<(3)→T5 (Y6 X) (k*1)=L.length)(hqctr21_1:(Y2 3 3)=false)(hb1:b≤L.length)(hb2:∀ k,k<b→V9 (cR L) (cI Y) k∧∀ i,i<3→V9 (W9 (Y5 E) (i*1)) (W9 (Y6 X) (i*1)) k)(hqctr34_1:(Y2 b L.length)=true):Y7 zP0q 108 (f9 a9j) ((b3N E L X Y b u ul y yl)) (BaseW.H w hs) (Hd.AfterN zP0q 108 a2L w (Hd.StepC zP0q 108 2 (fun b:{b:Nat // b≤L.length∧∀ k,k<b→V9 (cR L) (cI Y) k∧∀ i,i<3→V9 (W9 (Y5 E) (i*1)) (W9 (Y6 X) (i*1)) k}=>⟨[(2,(.ptr 0 0)),(3,(.ptr 1 0)),(J5 L),(7,(nI0 b.1))],[],2,[(K5 E L y yl),(N2 X Y u ul)]⟩) (fun b:{b:Nat // b≤L.length∧∀ k,k<b→V9 (cR L) (cI Y) k∧∀ i,i<3→V9 (W9 (Y5 E) (i*1)) (W9 (Y6 X) (i*1)) k}=>L.length - b.1) r8 w (V8 zP0q Try.f30 108 (.int .i64 (o0 (Y5 E) (cR L) L.length (Y6 X) X.length (cI Y) Y.length)) w) (⟨b,hb1,hb2⟩:{b:Nat // b≤L.length∧∀ k,k<b→V9 (cR L) (cI Y) k∧∀ i,i<3→V9 (W9 (Y5 E) (i*1)) (W9 (Y6 X) (i*1)) k}))):=by
 exact Hd.goes_blkA (id:=3) (by kernel_rfl) (by kernel_rfl) (c2D hC hX hqctr10_1 hqctr10_2 h0b hqctr21_1 hb1 hb2 hqctr34_1)
theorem c2C(hC:T6 (Y5 E) E.length (cR L) L.length=0)(hX:X.length≤1000)(hqctr10_1:(J4 L Y)=true)(hqctr10_2:(E2 X)=true)(h0b:∀ k,k<(3)→T5 (Y6 X) (k*1)=L.length)(hqctr21_1:(Y2 3 3)=false)(hb1:b≤L.length)(hb2:∀ k,k<b→V9 (cR L) (cI Y) k∧∀ i,i<3→V9 (W9 (Y5 E) (i*1)) (W9 (Y6 X) (i*1)) k)(hqctr34_1:(Y2 b L.length)=true):Y7 zP0q 108 a9j ((b3N E L X Y b u ul y yl)) (BaseW.H w hs) (Hd.StepC zP0q 108 2 (fun b:{b:Nat // b≤L.length∧∀ k,k<b→V9 (cR L) (cI Y) k∧∀ i,i<3→V9 (W9 (Y5 E) (i*1)) (W9 (Y6 X) (i*1)) k}=>⟨[(2,(.ptr 0 0)),(3,(.ptr 1 0)),(J5 L),(7,(nI0 b.1))],[],2,[(K5 E L y yl),(N2 X Y u ul)]⟩) (fun b:{b:Nat // b≤L.length∧∀ k,k<b→V9 (cR L) (cI Y) k∧∀ i,i<3→V9 (W9 (Y5 E) (i*1)) (W9 (Y6 X) (i*1)) k}=>L.length - b.1) r8 w (V8 zP0q Try.f30 108 (.int .i64 (o0 (Y5 E) (cR L) L.length (Y6 X) X.length (cI Y) Y.length)) w) (⟨b,hb1,hb2⟩:{b:Nat // b≤L.length∧∀ k,k<b→V9 (cR L) (cI Y) k∧∀ i,i<3→V9 (W9 (Y5 E) (i*1)) (W9 (Y6 X) (i*1)) k})):=by
 exact Hd.goes_seqA (by kernel_rfl) (c3R hC hX hqctr10_1 hqctr10_2 h0b hqctr21_1 hb1 hb2 hqctr34_1)
theorem c1b(hC:T6 (Y5 E) E.length (cR L) L.length=0)(hX:X.length≤1000)(hqctr10_1:(J4 L Y)=true)(hqctr10_2:(E2 X)=true)(h0b:∀ k,k<(3)→T5 (Y6 X) (k*1)=L.length)(hqctr21_1:(Y2 3 3)=false)(h2b:∀ k,k<(L.length)→V9 (cR L) (cI Y) k∧∀ i,i<3→V9 (W9 (Y5 E) (i*1)) (W9 (Y6 X) (i*1)) k)(hqctr34_1:(Y2 L.length L.length)=false):Y7 zP0q 108 r8 (⟨[],[],2,[]⟩) (BaseW.H w hs) (V8 zP0q Try.f30 108 (.int .i64 (o0 (Y5 E) (cR L) L.length (Y6 X) X.length (cI Y) Y.length)) w):=by
 have hcl_L:=Z7 L
 have hcl_Y:=Z4 Y
 obtain ⟨hn,hm3,hrow,hlam,hcur⟩:=W3 hC
 have ghqctr10_1:=X8 hqctr10_1
 have ghqctr10_2:=X8 hqctr10_2
 have ghqctr21_1:=Z5 hqctr21_1
 have ghqctr34_1:=Z5 hqctr34_1
 exact Z8 U9 (Z6 zC0q (Z0) 200 (T':=⟨[(4,(nI0 (.ofNat 0)))],[],2,[]⟩) (e:=.ret) (ps:=[]) [.go] (by kernel_rfl) (by kernel_rfl) trivial rfl) (Hd.en_eq (r:=(.int .i64 0)) (by rw [a9i (cE:=Y5 E) (cL:=cR L) (n:=L.length) (cX:=Y6 X) (m:=X.length) (cY:=cI Y) (k:=Y.length) (by omega) (eyB_true.2 ⟨by omega,fun i hi=>h0b i (by omega)⟩) (allB_true.2 fun b hb=>(h2b b (by omega)).1) (fun i hi=>allB_true.2 fun b hb=>(h2b b (by omega)).2 i (by omega))]) (Hd.en_ret (v:=(nI0 (.ofNat 0))) (by kernel_rfl) rfl))
theorem c1i(hC:T6 (Y5 E) E.length (cR L) L.length=0)(hX:X.length≤1000)(hqctr10_1:(J4 L Y)=true)(hqctr10_2:(E2 X)=true)(h0b:∀ k,k<(3)→T5 (Y6 X) (k*1)=L.length)(hqctr21_1:(Y2 3 3)=false)(hb1:b≤L.length)(hb2:∀ k,k<b→V9 (cR L) (cI Y) k∧∀ i,i<3→V9 (W9 (Y5 E) (i*1)) (W9 (Y6 X) (i*1)) k):Y7 zP0q 108 b6G (⟨[(2,(.ptr 0 0)),(3,(.ptr 1 0)),(J5 L),(7,(nI0 b))],[],2,[(K5 E L y yl),(N2 X Y u ul)]⟩) (BaseW.H w hs) (Hd.StepC zP0q 108 2 (fun b:{b:Nat // b≤L.length∧∀ k,k<b→V9 (cR L) (cI Y) k∧∀ i,i<3→V9 (W9 (Y5 E) (i*1)) (W9 (Y6 X) (i*1)) k}=>⟨[(2,(.ptr 0 0)),(3,(.ptr 1 0)),(J5 L),(7,(nI0 b.1))],[],2,[(K5 E L y yl),(N2 X Y u ul)]⟩) (fun b:{b:Nat // b≤L.length∧∀ k,k<b→V9 (cR L) (cI Y) k∧∀ i,i<3→V9 (W9 (Y5 E) (i*1)) (W9 (Y6 X) (i*1)) k}=>L.length - b.1) r8 w (V8 zP0q Try.f30 108 (.int .i64 (o0 (Y5 E) (cR L) L.length (Y6 X) X.length (cI Y) Y.length)) w) (⟨b,hb1,hb2⟩:{b:Nat // b≤L.length∧∀ k,k<b→V9 (cR L) (cI Y) k∧∀ i,i<3→V9 (W9 (Y5 E) (i*1)) (W9 (Y6 X) (i*1)) k})):=by
 have hcl_L:=Z7 L
 have hcl_Y:=Z4 Y
 obtain ⟨hn,hm3,hrow,hlam,hcur⟩:=W3 hC
 have ghqctr10_1:=X8 hqctr10_1
 have ghqctr10_2:=X8 hqctr10_2
 have ghqctr21_1:=Z5 hqctr21_1
 refine Hd.goes_seqA (by kernel_rfl) ?_
 rcases zB0q (Y2 b L.length) with hqctr34_1|hqctr34_1
 ·have ghqctr34_1:=X5 hqctr34_1
  have hxr:∀ i,i<3→T5 (Y6 X) (i*1)=L.length:=h0b
  exact Z8 W4 (Z6 zC0q (Z0) 200 (T':=(b3N E L X Y b u ul y yl)) (e:=.normal) (ps:=[Y2 b L.length=true]) [.go,.go,.go,.b true] (by kernel_rfl) (by kernel_rfl) ⟨hqctr34_1,trivial⟩ rfl) (Hd.en_n (c2C hC hX hqctr10_1 hqctr10_2 h0b hqctr21_1 hb1 hb2 hqctr34_1))
 ·have ghqctr34_1:=Z5 hqctr34_1
  obtain rfl:b=L.length:=by omega
  exact Z8 A8 (Z6 zC0q (Z0) 200 (T':=⟨[],[],2,[]⟩) (e:=.exit 2) (ps:=[Y2 L.length L.length=false]) [.go,.go,.go,.b false] (by kernel_rfl) (by kernel_rfl) ⟨hqctr34_1,trivial⟩ rfl) (Hd.en_o (by intro h;cases h) (Hd.en_sx (c1b hC hX hqctr10_1 hqctr10_2 h0b hqctr21_1 hb2 hqctr34_1)))
theorem c2E(hC:T6 (Y5 E) E.length (cR L) L.length=0)(hX:X.length≤1000)(hqctr10_1:(J4 L Y)=true)(hqctr10_2:(E2 X)=true)(h0b:∀ k,k<(3)→T5 (Y6 X) (k*1)=L.length)(hqctr21_1:(Y2 3 3)=false):Y7 zP0q 108 b2w ((b5t E L X Y u ul y yl)) (BaseW.H w hs) (Hd.AfterN zP0q 108 r8 w (V8 zP0q Try.f30 108 (.int .i64 (o0 (Y5 E) (cR L) L.length (Y6 X) X.length (cI Y) Y.length)) w)):=by
 have hcl_L:=Z7 L
 have hcl_Y:=Z4 Y
 obtain ⟨hn,hm3,hrow,hlam,hcur⟩:=W3 hC
 have ghqctr10_1:=X8 hqctr10_1
 have ghqctr10_2:=X8 hqctr10_2
 have ghqctr21_1:=Z5 hqctr21_1
 exact Hd.goes_loopA (id:=2) (by kernel_rfl) (by kernel_rfl) (fun b:{b:Nat // b≤L.length∧∀ k,k<b→V9 (cR L) (cI Y) k∧∀ i,i<3→V9 (W9 (Y5 E) (i*1)) (W9 (Y6 X) (i*1)) k}=>⟨[(2,(.ptr 0 0)),(3,(.ptr 1 0)),(J5 L),(7,(nI0 b.1))],[],2,[(K5 E L y yl),(N2 X Y u ul)]⟩) (fun b:{b:Nat // b≤L.length∧∀ k,k<b→V9 (cR L) (cI Y) k∧∀ i,i<3→V9 (W9 (Y5 E) (i*1)) (W9 (Y6 X) (i*1)) k}=>L.length - b.1) (fun ix_ hs=>c1i hC hX hqctr10_1 hqctr10_2 h0b hqctr21_1 ix_.2.1 ix_.2.2) ⟨0,Nat.zero_le _,(fun j hj=>by omega)⟩ hs
theorem c1x(hC:T6 (Y5 E) E.length (cR L) L.length=0)(hX:X.length≤1000)(hqctr10_1:(J4 L Y)=true)(hqctr10_2:(E2 X)=true)(h0b:∀ k,k<(3)→T5 (Y6 X) (k*1)=L.length)(hqctr21_1:(Y2 3 3)=false):Y7 zP0q 108 b2w ((b5t E L X Y u ul y yl)) (BaseW.H w hs) (Hd.AfterN zP0q 108 r8 w (V8 zP0q Try.f30 108 (.int .i64 (o0 (Y5 E) (cR L) L.length (Y6 X) X.length (cI Y) Y.length)) w)):=by
 exact c2E hC hX hqctr10_1 hqctr10_2 h0b hqctr21_1
theorem c3f(hC:T6 (Y5 E) E.length (cR L) L.length=0)(hX:X.length≤1000)(hqctr10_1:(J4 L Y)=true)(hqctr10_2:(E2 X)=true)(h0b:∀ k,k<(3)→T5 (Y6 X) (k*1)=L.length)(hqctr21_1:(Y2 3 3)=false):Y7 zP0q 108 b5N ((a5i E L X Y u ul y yl)) (BaseW.H w hs) (Hd.AfterN zP0q 108 r8 w (V8 zP0q Try.f30 108 (.int .i64 (o0 (Y5 E) (cR L) L.length (Y6 X) X.length (cI Y) Y.length)) w)):=by
 have hcl_L:=Z7 L
 have hcl_Y:=Z4 Y
 obtain ⟨hn,hm3,hrow,hlam,hcur⟩:=W3 hC
 have ghqctr10_1:=X8 hqctr10_1
 have ghqctr10_2:=X8 hqctr10_2
 have ghqctr21_1:=Z5 hqctr21_1
 refine Hd.goes_seqA (by kernel_rfl) ?_
 exact Z8 W4 (Z6 zC0q (Z0) 200 (T':=(b5t E L X Y u ul y yl)) (e:=.normal) (ps:=[]) [.go] (by kernel_rfl) (by kernel_rfl) trivial rfl) (Hd.en_n (c1x hC hX hqctr10_1 hqctr10_2 h0b hqctr21_1))
theorem c3E(hC:T6 (Y5 E) E.length (cR L) L.length=0)(hX:X.length≤1000)(hqctr10_1:(J4 L Y)=true)(hqctr10_2:(E2 X)=true)(h0b:∀ k,k<(3)→T5 (Y6 X) (k*1)=L.length)(hqctr21_1:(Y2 3 3)=false):Y7 zP0q 108 a2S ((a5i E L X Y u ul y yl)) (BaseW.H w hs) (V8 zP0q Try.f30 108 (.int .i64 (o0 (Y5 E) (cR L) L.length (Y6 X) X.length (cI Y) Y.length)) w):=by
 exact Hd.goes_seqA (by kernel_rfl) (c3f hC hX hqctr10_1 hqctr10_2 h0b hqctr21_1)
theorem c1B(hC:T6 (Y5 E) E.length (cR L) L.length=0)(hX:X.length≤1000)(hqctr10_1:(J4 L Y)=true)(hqctr10_2:(E2 X)=true)(hi1:i≤3)(hi2:∀ k,k<i→T5 (Y6 X) (k*1)=L.length):Y7 zP0q 108 c2a (⟨[(2,(.ptr 0 0)),(3,(.ptr 1 0)),(J5 L),(6,(nI0 i))],[],2,[(K5 E L y yl),(N2 X Y u ul)]⟩) (BaseW.H w hs) (Hd.StepC zP0q 108 0 (fun i:{i:Nat // i≤3∧∀ k,k<i→T5 (Y6 X) (k*1)=L.length}=>⟨[(2,(.ptr 0 0)),(3,(.ptr 1 0)),(J5 L),(6,(nI0 i.1))],[],2,[(K5 E L y yl),(N2 X Y u ul)]⟩) (fun i:{i:Nat // i≤3∧∀ k,k<i→T5 (Y6 X) (k*1)=L.length}=>3 - i.1) a2S w (V8 zP0q Try.f30 108 (.int .i64 (o0 (Y5 E) (cR L) L.length (Y6 X) X.length (cI Y) Y.length)) w) (⟨i,hi1,hi2⟩:{i:Nat // i≤3∧∀ k,k<i→T5 (Y6 X) (k*1)=L.length})):=by
 have hcl_L:=Z7 L
 have hcl_Y:=Z4 Y
 obtain ⟨hn,hm3,hrow,hlam,hcur⟩:=W3 hC
 have ghqctr10_1:=X8 hqctr10_1
 have ghqctr10_2:=X8 hqctr10_2
 rcases zB0q (Y2 i 3) with hqctr21_1|hqctr21_1
 ·have ghqctr21_1:=X5 hqctr21_1
  rcases zB0q (R3 ((T5 (Y6 X) (i*1):Nat):Int) L.length) with hqctr21_2|hqctr21_2
  ·have ghqctr21_2:=X8 hqctr21_2
   exact Z8 W4 (Z6 zC0q (Z0) 200 (T':=⟨[(2,(.ptr 0 0)),(3,(.ptr 1 0)),(J5 L),(6,(nI0 (((i+1):Nat):Int)))],[],2,[(K5 E L y yl),(N2 X Y u ul)]⟩) (e:=.normal) (ps:=[Y2 i 3=true,i<X.length,W7 zP0q (Y6 X) (i*1) 27=some (AV.xl (xlY (Y6 X) (i*1)) (T5 (Y6 X) (i*1)) 1 (W9 (Y6 X) (i*1))),(!R3 ((T5 (Y6 X) (i*1):Nat):Int) L.length)=false,N3 IntKind.i64 (((i:Nat):Int)+1)]) [.go,.go,.b true,.go,.go,.go,.sym,.sym,.go,.go,.go,.b false,.go,.go,.go] (by kernel_rfl) (by kernel_rfl) ⟨hqctr21_1,(by omega),(by rw [Nat.mul_one];exact F9 (by omega) 27 (Try.underlying27) rfl),(by rw [hqctr21_2];rfl),(b7d (by omega) (by omega)),trivial⟩ rfl) (Hd.en_on (⟨i+1,by omega,(E6 (q:=fun k=>T5 (Y6 X) (k*1)=L.length) hi2 (by omega))⟩) (by show 3 - (i+1)<3 - i;omega) rfl)
  ·have ghqctr21_2:=V7 hqctr21_2
   exact Z8 U9 (Z6 zC0q (Z0) 200 (T':=a6i) (e:=.ret) (ps:=[Y2 i 3=true,i<X.length,W7 zP0q (Y6 X) (i*1) 27=some (AV.xl (xlY (Y6 X) (i*1)) (T5 (Y6 X) (i*1)) 1 (W9 (Y6 X) (i*1))),(!R3 ((T5 (Y6 X) (i*1):Nat):Int) L.length)=true]) [.go,.go,.b true,.go,.go,.go,.sym,.sym,.go,.go,.go,.b true,.go] (by kernel_rfl) (by kernel_rfl) ⟨hqctr21_1,(by omega),(by rw [Nat.mul_one];exact F9 (by omega) 27 (Try.underlying27) rfl),(by rw [hqctr21_2];rfl),trivial⟩ rfl) (Hd.en_so (by intro h;cases h) (by intro h;cases h) (Hd.en_eq (r:=(.int .i64 15)) (by rw [a39 (cE:=Y5 E) (cL:=cR L) (n:=L.length) (cX:=Y6 X) (m:=X.length) (cY:=cI Y) (k:=Y.length) (fun h9=>by have h8:=(eyB_true.1 h9.2).2 i (by omega);omega)]) (Hd.en_ret (v:=(nI0 (.ofNat 15))) (by kernel_rfl) rfl)))
 ·have ghqctr21_1:=Z5 hqctr21_1
  obtain rfl:3=i:=by omega
  exact Z8 A8 (Z6 zC0q (Z0) 200 (T':=(a5i E L X Y u ul y yl)) (e:=.exit 0) (ps:=[Y2 3 3=false]) [.go,.go,.b false] (by kernel_rfl) (by kernel_rfl) ⟨hqctr21_1,trivial⟩ rfl) (Hd.en_sx (c3E hC hX hqctr10_1 hqctr10_2 hi2 hqctr21_1))
theorem c47(hC:T6 (Y5 E) E.length (cR L) L.length=0)(hX:X.length≤1000)(hqctr10_1:(J4 L Y)=true)(hqctr10_2:(E2 X)=true):Y7 zP0q 108 b2D ((b81 E L X Y u ul y yl)) (BaseW.H w hs) (Hd.AfterN zP0q 108 a2S w (V8 zP0q Try.f30 108 (.int .i64 (o0 (Y5 E) (cR L) L.length (Y6 X) X.length (cI Y) Y.length)) w)):=by
 have hcl_L:=Z7 L
 have hcl_Y:=Z4 Y
 obtain ⟨hn,hm3,hrow,hlam,hcur⟩:=W3 hC
 have ghqctr10_1:=X8 hqctr10_1
 have ghqctr10_2:=X8 hqctr10_2
 exact Hd.goes_loopA (id:=0) (by kernel_rfl) (by kernel_rfl) (fun i:{i:Nat // i≤3∧∀ k,k<i→T5 (Y6 X) (k*1)=L.length}=>⟨[(2,(.ptr 0 0)),(3,(.ptr 1 0)),(J5 L),(6,(nI0 i.1))],[],2,[(K5 E L y yl),(N2 X Y u ul)]⟩) (fun i:{i:Nat // i≤3∧∀ k,k<i→T5 (Y6 X) (k*1)=L.length}=>3 - i.1) (fun ix_ hs=>c1B hC hX hqctr10_1 hqctr10_2 ix_.2.1 ix_.2.2) ⟨0,Nat.zero_le _,(fun j hj=>by omega)⟩ hs
theorem c4a(hC:T6 (Y5 E) E.length (cR L) L.length=0)(hX:X.length≤1000)(hqctr10_1:(J4 L Y)=true)(hqctr10_2:(E2 X)=true):Y7 zP0q 108 b2D ((b81 E L X Y u ul y yl)) (BaseW.H w hs) (Hd.AfterN zP0q 108 a2S w (V8 zP0q Try.f30 108 (.int .i64 (o0 (Y5 E) (cR L) L.length (Y6 X) X.length (cI Y) Y.length)) w)):=by
 exact c47 hC hX hqctr10_1 hqctr10_2
theorem c3c(hC:T6 (Y5 E) E.length (cR L) L.length=0)(hX:X.length≤1000)(hqctr10_1:(J4 L Y)=true)(hqctr10_2:(E2 X)=true):Y7 zP0q 108 b8e ((a5i E L X Y u ul y yl)) (BaseW.H w hs) (Hd.AfterN zP0q 108 a2S w (V8 zP0q Try.f30 108 (.int .i64 (o0 (Y5 E) (cR L) L.length (Y6 X) X.length (cI Y) Y.length)) w)):=by
 have hcl_L:=Z7 L
 have hcl_Y:=Z4 Y
 obtain ⟨hn,hm3,hrow,hlam,hcur⟩:=W3 hC
 have ghqctr10_1:=X8 hqctr10_1
 have ghqctr10_2:=X8 hqctr10_2
 refine Hd.goes_seqA (by kernel_rfl) ?_
 exact Z8 W4 (Z6 zC0q (Z0) 200 (T':=(b81 E L X Y u ul y yl)) (e:=.normal) (ps:=[]) [.go] (by kernel_rfl) (by kernel_rfl) trivial rfl) (Hd.en_n (c4a hC hX hqctr10_1 hqctr10_2))
theorem c3o(hC:T6 (Y5 E) E.length (cR L) L.length=0)(hX:X.length≤1000)(hqctr10_1:(J4 L Y)=true)(hqctr10_2:(E2 X)=true):Y7 zP0q 108 b8K ((a5i E L X Y u ul y yl)) (BaseW.H w hs) (V8 zP0q Try.f30 108 (.int .i64 (o0 (Y5 E) (cR L) L.length (Y6 X) X.length (cI Y) Y.length)) w):=by
 exact Hd.goes_seqA (by kernel_rfl) (c3c hC hX hqctr10_1 hqctr10_2)
theorem c7Q(hC:T6 (Y5 E) E.length (cR L) L.length=0)(hX:X.length≤1000):Y7 zP0q 108 c0H ((a5i E L X Y u ul y yl)) (BaseW.H w hs) (V8 zP0q Try.f30 108 (.int .i64 (o0 (Y5 E) (cR L) L.length (Y6 X) X.length (cI Y) Y.length)) w):=by
 have hcl_L:=Z7 L
 have hcl_Y:=Z4 Y
 obtain ⟨hn,hm3,hrow,hlam,hcur⟩:=W3 hC
 refine Hd.goes_seqA (by kernel_rfl) ?_
 rcases zB0q (R3 Y.length L.length) with hqctr10_1|hqctr10_1
 ·have ghqctr10_1:=X8 hqctr10_1
  rcases zB0q (R3 X.length 3) with hqctr10_2|hqctr10_2
  ·have ghqctr10_2:=X8 hqctr10_2
   exact Z8 W4 (Z6 zC0q (Z0) 200 (T':=(a5i E L X Y u ul y yl)) (e:=.normal) (ps:=[(!R3 Y.length L.length)=false,false=false,false=false,false=false,(!R3 X.length 3)=false]) (gH 6 [.b false,.go,.b false,.go,.b false,.go,.b false,.go,.go,.b false]) (by kernel_rfl) (by kernel_rfl) ⟨(by rw [hqctr10_1];rfl),rfl,rfl,rfl,(by rw [hqctr10_2];rfl),trivial⟩ rfl) (Hd.en_n (c3o hC hX hqctr10_1 hqctr10_2))
  ·have ghqctr10_2:=V7 hqctr10_2
   exact Z8 U9 (Z6 zC0q (Z0) 200 (T':=a6i) (e:=.ret) (ps:=[(!R3 Y.length L.length)=false,false=false,false=false,false=false,(!R3 X.length 3)=true]) (gH 6 [.b false,.go,.b false,.go,.b false,.go,.b false,.go,.go,.b true,.go]) (by kernel_rfl) (by kernel_rfl) ⟨(by rw [hqctr10_1];rfl),rfl,rfl,rfl,(by rw [hqctr10_2];rfl),trivial⟩ rfl) (Hd.en_o (by intro h;cases h) (Hd.en_eq (r:=(.int .i64 15)) (by rw [a39 (cE:=Y5 E) (cL:=cR L) (n:=L.length) (cX:=Y6 X) (m:=X.length) (cY:=cI Y) (k:=Y.length) (fun h9=>by have h8:=(eyB_true.1 h9.2).1;have h7:=h9.1;omega)]) (Hd.en_ret (v:=(nI0 (.ofNat 15))) (by kernel_rfl) rfl)))
 ·have ghqctr10_1:=V7 hqctr10_1
  exact Z8 U9 (Z6 zC0q (Z0) 200 (T':=a6i) (e:=.ret) (ps:=[(!R3 Y.length L.length)=true,true=true,true=true,true=true,true=true]) (gH 6 [.b true,.b true,.b true,.b true,.go,.b true,.go]) (by kernel_rfl) (by kernel_rfl) ⟨(by rw [hqctr10_1];rfl),rfl,rfl,rfl,rfl,trivial⟩ rfl) (Hd.en_o (by intro h;cases h) (Hd.en_eq (r:=(.int .i64 15)) (by rw [a39 (cE:=Y5 E) (cL:=cR L) (n:=L.length) (cX:=Y6 X) (m:=X.length) (cY:=cI Y) (k:=Y.length) (fun h9=>by have h8:=(eyB_true.1 h9.2).1;have h7:=h9.1;omega)]) (Hd.en_ret (v:=(nI0 (.ofNat 15))) (by kernel_rfl) rfl)))
theorem c7I(hC:T6 (Y5 E) E.length (cR L) L.length=0)(hX:X.length≤1000):Y7 zP0q 108 b9B ((a3V E L X Y u ul y yl)) (BaseW.H w hs) (V8 zP0q Try.f30 108 (.int .i64 (o0 (Y5 E) (cR L) L.length (Y6 X) X.length (cI Y) Y.length)) w):=by
 have hcl_L:=Z7 L
 have hcl_Y:=Z4 Y
 obtain ⟨hn,hm3,hrow,hlam,hcur⟩:=W3 hC
 refine Hd.goes_seqA (by kernel_rfl) ?_
 exact Z8 W4 (Z6 zC0q (Z0) 200 (T':=(a5i E L X Y u ul y yl)) (e:=.normal) (ps:=[]) (gH 4 []) (by kernel_rfl) (by kernel_rfl) trivial rfl) (Hd.en_n (c7Q hC hX))
theorem c5M(y:Value)(E:List (Value×List (Int×Int)))(yl:Value)(L:List (Int×Int))(u:Value)(X:List (Value×List Int))(ul:Value)(Y:List Int)(hC:T6 (Y5 E) E.length (cR L) L.length=0)(hX:X.length≤1000)(w:World)(hs:List Nat):Y7 zP0q 108 c0u ((b8h E L X Y u ul y yl)) (BaseW.H w hs) (V8 zP0q Try.f30 108 (.int .i64 (o0 (Y5 E) (cR L) L.length (Y6 X) X.length (cI Y) Y.length)) w):=by
 have hcl_L:=Z7 L
 have hcl_Y:=Z4 Y
 obtain ⟨hn,hm3,hrow,hlam,hcur⟩:=W3 hC
 refine Hd.goes_seqA (by kernel_rfl) ?_
 exact Z8 W4 (Z6 zC0q (Z0) 200 (T':=(a3V E L X Y u ul y yl)) (e:=.normal) (ps:=[]) [.go,.go,.go] (by kernel_rfl) (by kernel_rfl) trivial rfl) (Hd.en_n (c7I hC hX))
theorem c8f(y:Value)(E:List (Value×List (Int×Int)))(yl:Value)(L:List (Int×Int))(u:Value)(X:List (Value×List Int))(ul:Value)(Y:List Int)(hC:T6 (Y5 E) E.length (cR L) L.length=0)(hX:X.length≤1000):GivesA zP0q 30 [(.agg [.xl y E.length 1 (Y5 E),.xl yl L.length 2 (cR L)]),(.agg [.xl u X.length 1 (Y6 X),.xl ul Y.length 1 (cI Y)])] (.int .i64 (o0 (Y5 E) (cR L) L.length (Y6 X) X.length (cI Y) Y.length)) :=
 U5 108 Try.func30 (by kernel_rfl) (by kernel_rfl) (by kernel_rfl) (fun w=>V6 (by kernel_rfl) (by kernel_rfl) (by kernel_rfl) (by kernel_rfl) (c5M y E yl L u X ul Y hC hX w []))
noncomputable def c72:Code:=O4 Try.f56
noncomputable def c5Q:Code:=M5 c72
noncomputable def c3z:Code:=M5 c5Q
noncomputable def b61:Code:=M5 c3z
noncomputable def c11:Code:=(f9 c3z)
noncomputable def b53:Code:=M5 c11
noncomputable def c61:Code:=H3 b53
theorem c5h(hL:L.length≤1000)(hqcp7_1:(a43 L M)=true)(h0b:∀ j,j<(M.length)→0≤Z9 (cI M) (j*1)∧Z9 (cI M) (j*1)≤1000)(hqcp18_1:(Y2 M.length M.length)=false):Y7 zP0q 30 b61 (⟨[],[],1,[]⟩) (BaseW.H w hs) (V8 zP0q Try.f56 30 (.int .i64 (U0 L.length (cI M) M.length)) w):=by
 have hcl_L:=Z7 L
 have hcl_M:=Z4 M
 have ghqcp7_1:=X8 hqcp7_1
 have ghqcp18_1:=Z5 hqcp18_1
 exact Z8 U9 (Z6 zC0q (Z0) 200 (T':=⟨[(4,(nI0 (.ofNat 0)))],[],1,[]⟩) (e:=.ret) (ps:=[]) [.go] (by kernel_rfl) (by kernel_rfl) trivial rfl) (Hd.en_eq (r:=(.int .i64 0)) (by rw [a5U (n:=L.length) (d:=cI M) (k:=M.length) (by omega) (afB_true.2 h0b)]) (Hd.en_ret (v:=(nI0 (.ofNat 0))) (by kernel_rfl) rfl))
theorem c5f(y:Value)(E:List (Value×List (Int×Int)))(yl:Value)(hL:L.length≤1000)(hqcp7_1:(a43 L M)=true)(hi1:i≤M.length)(hi2:∀ j,j<i→0≤Z9 (cI M) (j*1)∧Z9 (cI M) (j*1)≤1000):Y7 zP0q 30 c61 (⟨[(a0U M z),(5,(nI0 i))],[],1,[]⟩) (BaseW.H w hs) (Hd.StepC zP0q 30 0 (fun i:{i:Nat // i≤M.length∧∀ j,j<i→0≤Z9 (cI M) (j*1)∧Z9 (cI M) (j*1)≤1000}=>⟨[(a0U M z),(5,(nI0 i.1))],[],1,[]⟩) (fun i:{i:Nat // i≤M.length∧∀ j,j<i→0≤Z9 (cI M) (j*1)∧Z9 (cI M) (j*1)≤1000}=>M.length - i.1) b61 w (V8 zP0q Try.f56 30 (.int .i64 (U0 L.length (cI M) M.length)) w) (⟨i,hi1,hi2⟩:{i:Nat // i≤M.length∧∀ j,j<i→0≤Z9 (cI M) (j*1)∧Z9 (cI M) (j*1)≤1000})):=by
 have hcl_L:=Z7 L
 have hcl_M:=Z4 M
 have ghqcp7_1:=X8 hqcp7_1
 rcases zB0q (Y2 i M.length) with hqcp18_1|hqcp18_1
 ·have ghqcp18_1:=X5 hqcp18_1
  rcases zB0q (Y2 (Z9 (cI M) (i*1)) 0) with hqcp18_2|hqcp18_2
  ·have ghqcp18_2:=X5 hqcp18_2
   exact Z8 U9 (Z6 zC0q (Z0) 200 (T':=⟨[(4,(nI0 (.ofNat 2)))],[],1,[]⟩) (e:=.ret) (ps:=[Y2 i M.length=true,i<M.length,W7 zP0q (cI M) (i*1) 2=some (AV.v (Value.int IntKind.i64 (Z9 (cI M) (i*1)))),Y2 (Z9 (cI M) (i*1)) 0=true,true=true,true=true,true=true,true=true,true=true]) (gH 4 [.b true,.go,.go,.sym,.sym,.go,.go,.b true,.b true,.b true,.b true,.b true,.go,.b true,.go]) (by kernel_rfl) (by kernel_rfl) ⟨hqcp18_1,(by omega),(by rw [Nat.mul_one];exact R7 (show _<M.length by omega) 2 (Try.underlying2) rfl),hqcp18_2,rfl,rfl,rfl,rfl,rfl,trivial⟩ rfl) (Hd.en_so (by intro h;cases h) (by intro h;cases h) (Hd.en_eq (r:=(.int .i64 2)) (by rw [a37 (n:=L.length) (d:=cI M) (k:=M.length) (by omega) (by rw [a9A (c:=cI M) (lo:=0) (hi:=1000) (n:=M.length) (i:=i) (by omega) (by omega)];decide)]) (Hd.en_ret (v:=(nI0 (.ofNat 2))) (by kernel_rfl) rfl)))
  ·have ghqcp18_2:=Z5 hqcp18_2
   rcases zB0q (Y2 1000 (Z9 (cI M) (i*1))) with hqcp18_3|hqcp18_3
   ·have ghqcp18_3:=X5 hqcp18_3
    exact Z8 U9 (Z6 zC0q (Z0) 200 (T':=⟨[(4,(nI0 (.ofNat 2)))],[],1,[]⟩) (e:=.ret) (ps:=[Y2 i M.length=true,i<M.length,W7 zP0q (cI M) (i*1) 2=some (AV.v (Value.int IntKind.i64 (Z9 (cI M) (i*1)))),Y2 (Z9 (cI M) (i*1)) 0=false,false=false,false=false,i<M.length,false=false,W7 zP0q (cI M) (i*1) 2=some (AV.v (Value.int IntKind.i64 (Z9 (cI M) (i*1)))),false=false,Y2 1000 (Z9 (cI M) (i*1))=true]) (gH 4 [.b true,.go,.go,.sym,.sym,.go,.go,.b false,.go,.b false,.go,.b false,.sym,.b false,.sym,.b false,.go,.go,.b true,.go]) (by kernel_rfl) (by kernel_rfl) ⟨hqcp18_1,(by omega),(by rw [Nat.mul_one];exact R7 (show _<M.length by omega) 2 (Try.underlying2) rfl),hqcp18_2,rfl,rfl,(by omega),rfl,(by rw [Nat.mul_one];exact R7 (show _<M.length by omega) 2 (Try.underlying2) rfl),rfl,hqcp18_3,trivial⟩ rfl) (Hd.en_so (by intro h;cases h) (by intro h;cases h) (Hd.en_eq (r:=(.int .i64 2)) (by rw [a37 (n:=L.length) (d:=cI M) (k:=M.length) (by omega) (by rw [a9A (c:=cI M) (lo:=0) (hi:=1000) (n:=M.length) (i:=i) (by omega) (by omega)];decide)]) (Hd.en_ret (v:=(nI0 (.ofNat 2))) (by kernel_rfl) rfl)))
   ·have ghqcp18_3:=Z5 hqcp18_3
    exact Z8 W4 (Z6 zC0q (Z0) 200 (T':=⟨[(a0U M z),(5,(nI0 (((i+1):Nat):Int)))],[],1,[]⟩) (e:=.normal) (ps:=[Y2 i M.length=true,i<M.length,W7 zP0q (cI M) (i*1) 2=some (AV.v (Value.int IntKind.i64 (Z9 (cI M) (i*1)))),Y2 (Z9 (cI M) (i*1)) 0=false,false=false,false=false,i<M.length,false=false,W7 zP0q (cI M) (i*1) 2=some (AV.v (Value.int IntKind.i64 (Z9 (cI M) (i*1)))),false=false,Y2 1000 (Z9 (cI M) (i*1))=false,N3 IntKind.i64 (((i:Nat):Int)+1)]) (gH 4 [.b true,.go,.go,.sym,.sym,.go,.go,.b false,.go,.b false,.go,.b false,.sym,.b false,.sym,.b false,.go,.go,.b false,.go,.go,.go]) (by kernel_rfl) (by kernel_rfl) ⟨hqcp18_1,(by omega),(by rw [Nat.mul_one];exact R7 (show _<M.length by omega) 2 (Try.underlying2) rfl),hqcp18_2,rfl,rfl,(by omega),rfl,(by rw [Nat.mul_one];exact R7 (show _<M.length by omega) 2 (Try.underlying2) rfl),rfl,hqcp18_3,(b7d (by omega) (by omega)),trivial⟩ rfl) (Hd.en_on (⟨i+1,by omega,(E6 (q:=fun j=>0≤Z9 (cI M) (j*1)∧Z9 (cI M) (j*1)≤1000) hi2 (by constructor<;>omega))⟩) (by show M.length - (i+1)<M.length - i;omega) rfl)
 ·have ghqcp18_1:=Z5 hqcp18_1
  obtain rfl:i=M.length:=by omega
  exact Z8 A8 (Z6 zC0q (Z0) 200 (T':=⟨[],[],1,[]⟩) (e:=.exit 0) (ps:=[Y2 M.length M.length=false]) (gH 4 [.b false]) (by kernel_rfl) (by kernel_rfl) ⟨hqcp18_1,trivial⟩ rfl) (Hd.en_sx (c5h hL hqcp7_1 hi2 hqcp18_1))
theorem c8t(y:Value)(E:List (Value×List (Int×Int)))(yl:Value)(hL:L.length≤1000)(hqcp7_1:(a43 L M)=true):Y7 zP0q 30 b53 ((b1C M z)) (BaseW.H w hs) (Hd.AfterN zP0q 30 b61 w (V8 zP0q Try.f56 30 (.int .i64 (U0 L.length (cI M) M.length)) w)):=by
 have hcl_L:=Z7 L
 have hcl_M:=Z4 M
 have ghqcp7_1:=X8 hqcp7_1
 exact Hd.goes_loopA (id:=0) (by kernel_rfl) (by kernel_rfl) (fun i:{i:Nat // i≤M.length∧∀ j,j<i→0≤Z9 (cI M) (j*1)∧Z9 (cI M) (j*1)≤1000}=>⟨[(a0U M z),(5,(nI0 i.1))],[],1,[]⟩) (fun i:{i:Nat // i≤M.length∧∀ j,j<i→0≤Z9 (cI M) (j*1)∧Z9 (cI M) (j*1)≤1000}=>M.length - i.1) (fun ix_ hs=>c5f y E yl hL hqcp7_1 ix_.2.1 ix_.2.2) ⟨0,Nat.zero_le _,(fun j hj=>by omega)⟩ hs
theorem c5T(y:Value)(E:List (Value×List (Int×Int)))(yl:Value)(hL:L.length≤1000)(hqcp7_1:(a43 L M)=true):Y7 zP0q 30 b53 ((b1C M z)) (BaseW.H w hs) (Hd.AfterN zP0q 30 b61 w (V8 zP0q Try.f56 30 (.int .i64 (U0 L.length (cI M) M.length)) w)):=by
 exact c8t y E yl hL hqcp7_1
theorem c7a(y:Value)(E:List (Value×List (Int×Int)))(yl:Value)(hL:L.length≤1000)(hqcp7_1:(a43 L M)=true):Y7 zP0q 30 c11 (⟨[(a0U M z)],[],1,[]⟩) (BaseW.H w hs) (Hd.AfterN zP0q 30 b61 w (V8 zP0q Try.f56 30 (.int .i64 (U0 L.length (cI M) M.length)) w)):=by
 have hcl_L:=Z7 L
 have hcl_M:=Z4 M
 have ghqcp7_1:=X8 hqcp7_1
 refine Hd.goes_seqA (by kernel_rfl) ?_
 exact Z8 W4 (Z6 zC0q (Z0) 200 (T':=(b1C M z)) (e:=.normal) (ps:=[]) [.go] (by kernel_rfl) (by kernel_rfl) trivial rfl) (Hd.en_n (c5T y E yl hL hqcp7_1))
theorem c8A(y:Value)(E:List (Value×List (Int×Int)))(yl:Value)(hL:L.length≤1000)(hqcp7_1:(a43 L M)=true):Y7 zP0q 30 c3z (⟨[(a0U M z)],[],1,[]⟩) (BaseW.H w hs) (V8 zP0q Try.f56 30 (.int .i64 (U0 L.length (cI M) M.length)) w):=by
 exact Hd.goes_seqA (by kernel_rfl) (c7a y E yl hL hqcp7_1)
theorem c9B(hL:L.length≤1000):Y7 zP0q 30 c5Q ((c0q E L M y yl z)) (BaseW.H w hs) (V8 zP0q Try.f56 30 (.int .i64 (U0 L.length (cI M) M.length)) w):=by
 have hcl_L:=Z7 L
 have hcl_M:=Z4 M
 refine Hd.goes_seqA (by kernel_rfl) ?_
 rcases zB0q (R3 M.length L.length) with hqcp7_1|hqcp7_1
 ·have ghqcp7_1:=X8 hqcp7_1
  exact Z8 W4 (Z6 zC0q (Z0) 200 (T':=⟨[(a0U M z)],[],1,[]⟩) (e:=.normal) (ps:=[(!R3 M.length L.length)=false]) (gH 6 [.b false]) (by kernel_rfl) (by kernel_rfl) ⟨(by rw [hqcp7_1];rfl),trivial⟩ rfl) (Hd.en_n (c8A y E yl hL hqcp7_1))
 ·have ghqcp7_1:=V7 hqcp7_1
  exact Z8 U9 (Z6 zC0q (Z0) 200 (T':=⟨[b5G],[],1,[]⟩) (e:=.ret) (ps:=[(!R3 M.length L.length)=true]) (gH 6 [.b true,.go]) (by kernel_rfl) (by kernel_rfl) ⟨(by rw [hqcp7_1];rfl),trivial⟩ rfl) (Hd.en_o (by intro h;cases h) (Hd.en_eq (r:=(.int .i64 15)) (by rw [a5C (n:=L.length) (d:=cI M) (k:=M.length) (by omega)]) (Hd.en_ret (v:=(nI0 (.ofNat 15))) (by kernel_rfl) rfl)))
end
theorem c8N(y:Value)(E:List (Value×List (Int×Int)))(yl:Value)(L:List (Int×Int))(z:Value)(M:List Int)(hL:L.length≤1000)(w:World)(hs:List Nat):Y7 zP0q 30 c72 (⟨[(b56 E L y yl),(1,(.xl z M.length 1 (cI M)))],[],0,[]⟩) (BaseW.H w hs) (V8 zP0q Try.f56 30 (.int .i64 (U0 L.length (cI M) M.length)) w):=by
 have hcl_L:=Z7 L
 have hcl_M:=Z4 M
 refine Hd.goes_seqA (by kernel_rfl) ?_
 exact Z8 W4 (Z6 zC0q (Z0) 200 (T':=(c0q E L M y yl z)) (e:=.normal) (ps:=[]) [.go,.go] (by kernel_rfl) (by kernel_rfl) trivial rfl) (Hd.en_n (c9B hL))
theorem c9H(y:Value)(E:List (Value×List (Int×Int)))(yl:Value)(L:List (Int×Int))(z:Value)(M:List Int)(hL:L.length≤1000):GivesA zP0q 56 [(b2z E L y yl),(.xl z M.length 1 (cI M))] (.int .i64 (U0 L.length (cI M) M.length)) :=
 U5 30 Try.func56 (by kernel_rfl) (by kernel_rfl) (by kernel_rfl) (fun w=>V6 (by kernel_rfl) (by kernel_rfl) (by kernel_rfl) (by kernel_rfl) (c8N y E yl L z M hL w []))
end
end Go.Proofs.Ytegmogadbnfbgaa
namespace Go.Proofs.Ytegmogadbnfbgaa
open Go Ev
noncomputable section
section
variable (E : List (Value × List (Int × Int))) (L : List (Int × Int)) (M : List Int) (X : List (Value × List Int)) (Y : List Int) (u ul y yl z : Value)
@[reducible] def b5w:Ev.AB:=(.cells [.xl y E.length 1 (Y5 E),.xl yl L.length 2 (cR L),(.fn (.func 78) [.xl z M.length 1 (cI M)] [])] 85)
@[reducible] def b5r:Ev.AB:=(.cells [.xl u X.length 1 (Y6 X),.xl ul Y.length 1 (cI Y)] 29)
end
def V5(p:Nat→Int):Nat→Int
 |0=>0
 |b+1=>V5 p b+p b
theorem b3D{p q:Nat→Int}:∀ {n:Nat},(∀ b,b<n→p b=q b)→V5 p n=V5 q n
 |0,_=>rfl
 |n+1,h=>by simp only [V5];rw [b3D (fun b hb=>h b (by omega)),h n (by omega)]
theorem b1P{p:Nat→Int}{m:Nat}:∀ {n:Nat},(∀ b,b<n → -((m:Nat):Int)≤p b∧p b≤((m:Nat):Int)) → -((n:Int)*m)≤V5 p n∧V5 p n≤(n:Int)*m
 |0,_=>by simp [V5]
 |n+1,h=>by
  have h1:=b1P (n:=n) (fun b hb=>h b (by omega))
  have h2:=h n (by omega)
  simp only [V5]
  have h3:(((n+1:Nat):Int))*(m:Int)=(n:Int)*m+m:=by rw [Int.natCast_add,Int.add_mul];simp
  omega
def w8(p:Nat→Nat→Int)(n i:Nat):Nat→Int:=fun k=>if k<i then V5 (p k) n else 0
def thB(p:Nat→Nat→Int)(n i j:Nat):Nat→Int:=fun k=>if k<i then V5 (p k) n else if k=i then V5 (p i) j else 0
theorem a8y{p:Nat→Nat→Int}{n i:Nat}:tI (thB p n i 0) 3=tI (w8 p n i) 3:=b2N (fun k hk=>by
 unfold w8 thB
 split
 ·rfl
 ·split<;>rfl)
theorem b3U{p:Nat→Nat→Int}{n i:Nat}:tI (thB p n i n) 3=tI (w8 p n (i+1)) 3:=b2N (fun k hk=>by
 unfold w8 thB
 by_cases h:k<i
 ·rw [if_pos h,if_pos (by omega)]
 ·rw [if_neg h]
  by_cases e:k=i
  ·subst e;rw [if_pos rfl,if_pos (by omega)]
  ·rw [if_neg e,if_neg (by omega)])
theorem a9q{p:Nat→Nat→Int}{n i j:Nat}(hi:i<3):Z9 (cI (tI (thB p n i j) 3)) (0+i*1)=V5 (p i) j:=by
 rw [Nat.zero_add,Nat.mul_one,a0h hi]
 unfold thB
 rw [if_neg (by omega),if_pos rfl]
theorem b0M{p:Nat→Nat→Int}{n i j:Nat}(hi:i<3){v:Int}(hv:v=V5 (p i) j+p i j):R1 (cI (tI (thB p n i j) 3)) (0+i*1) (AV.v (.int .i64 v)).cells=cI (tI (thB p n i (j+1)) 3):=by
 rw [Nat.zero_add,Nat.mul_one]
 show R1 _ i [AV.v (.int .i64 v)]=_
 rw [c1t hi]
 congr 1
 refine b2N (fun k hk=>?_)
 unfold b8R thB
 by_cases e:k=i
 ·subst e;rw [if_pos rfl,if_neg (by omega),if_pos rfl,hv];rfl
 ·rw [if_neg e]
  by_cases h:k<i
  ·rw [if_pos h,if_pos h]
  ·rw [if_neg h,if_neg h,if_neg e,if_neg e]
theorem b0T{p:Nat→Nat→Int}{n:Nat}:cI (tI (w8 p n 0) 3)=[nI0 0,nI0 0,nI0 0]:=by rw [a4Z];rfl
theorem a27{p:Nat→Nat→Int}{n:Nat}:cI (tI (w8 p n 3) 3)=[nI0 (V5 (p 0) n),nI0 (V5 (p 1) n),nI0 (V5 (p 2) n)]:=by rw [a4Z];rfl
def U6(cX cY cM:List AV)(c b:Nat):Int:=Z9 (W9 cX (c*1)) (b*1)*Z9 cY (b*1)*Z9 cM (b*1)
theorem g7{x y z:Int}(hx:0≤x∧x≤100)(hy:0≤y∧y≤100)(hz : -1000≤z∧z≤1000):(0≤x*y∧x*y≤10000) ∧ -10000000≤x*y*z∧x*y*z≤10000000:=by
 have h1:0≤x*y:=Int.mul_nonneg hx.1 hy.1
 have h2:x*y≤100*100:=Int.mul_le_mul hx.2 hy.2 hy.1 (by decide)
 refine ⟨⟨h1,by omega⟩,?_⟩
 rcases Int.le_total 0 z with hz0|hz0
 ·have h3:0≤x*y*z:=Int.mul_nonneg h1 hz0
  have h4:x*y*z≤10000*1000:=Int.mul_le_mul (by omega) hz.2 hz0 (by decide)
  omega
 ·have h3:0≤x*y*(-z):=Int.mul_nonneg h1 (by omega)
  have h4:x*y*(-z)≤10000*1000:=Int.mul_le_mul (by omega) (by omega) (by omega) (by decide)
  rw [Int.mul_neg] at h3 h4
  omega
noncomputable def c9w:Code:=O4 Try.f80
set_option maxHeartbeats 2000000 in
theorem c8Y(y:Value)(E:List (Value×List (Int×Int)))(yl:Value)(L:List (Int×Int))(u:Value)(X:List (Value×List Int))(ul:Value)(Y:List Int)(z:Value)(M:List Int)(n c b:Nat)(hx3:X.length=3)(hxr:∀ i,i<3→T5 (Y6 X) (i*1)=n)(hy:Y.length=n)(hm:M.length=n)(hx1:∀ i,i<3→∀ b,b<n→0≤Z9 (W9 (Y6 X) (i*1)) (b*1)∧Z9 (W9 (Y6 X) (i*1)) (b*1)≤100)(hy1:∀ b,b<n→0≤Z9 (cI Y) (b*1)∧Z9 (cI Y) (b*1)≤100)(hm1:∀ b,b<n→0≤Z9 (cI M) (b*1)∧Z9 (cI M) (b*1)≤1000)(hc:c<3)(hb:b<n)(v:BaseW)(eb:Nat→Option Nat)(ec:Nat→Nat)(hs:List Nat):Y7 zP0q 26 c9w (⟨[(0,(nI0 c)),(1,(nI0 b)),(2,(.ptr 0 0)),(3,(.ptr 1 0))],[],2,[(0,(b5r X Y u ul)),(1,(b5w E L M y yl z))]⟩) (BaseW.H (bw v 2 eb ec) hs) (b1D zP0q Try.f80 26 (.int .i64 (U6 (Y6 X) (cI Y) (cI M) c b)) [(b5r X Y u ul),(b5w E L M y yl z)] (bw v 2 eb ec)):=by
 have hcl_L:=Z7 L
 have hcl_Y:=Z4 Y
 have hcl_M:=Z4 M
 exact Z8 U9 (Z6 zC0q (Z0) 200 (T':=⟨[(6,(nI0 (Z9 (W9 (Y6 X) (c*1)) (b*1)*Z9 (cI Y) (b*1)*Z9 (cI M) (b*1))))],[],2,[(0,(.cells [(.xl (u) (X.length) 1 (Y6 X)),(.xl (ul) (Y.length) 1 (cI Y))] 29)),(1,(.cells [(.xl (y) (E.length) 1 (Y5 E)),(.xl (yl) (L.length) 2 (cR L)),(.fn (.func 78) [(.xl (z) (M.length) 1 (cI M))] [])] 85))]⟩) (e:=.ret) (ps:=[c<X.length,W7 zP0q (Y6 X) (c*1) 27=some (AV.xl (xlY (Y6 X) (c*1)) (T5 (Y6 X) (c*1)) 1 (W9 (Y6 X) (c*1))),b<T5 (Y6 X) (c*1),W7 zP0q (W9 (Y6 X) (c*1)) (b*1) 2=some (AV.v (Value.int IntKind.i64 (Z9 (W9 (Y6 X) (c*1)) (b*1)))),b<Y.length,W7 zP0q (cI Y) (b*1) 2=some (AV.v (Value.int IntKind.i64 (Z9 (cI Y) (b*1)))),N3 IntKind.i64 (Z9 (W9 (Y6 X) (c*1)) (b*1)*Z9 (cI Y) (b*1)),b<M.length,W7 zP0q (cI M) (b*1) 2=some (AV.v (Value.int IntKind.i64 (Z9 (cI M) (b*1)))),N3 IntKind.i64 (Z9 (W9 (Y6 X) (c*1)) (b*1)*Z9 (cI Y) (b*1)*Z9 (cI M) (b*1))]) (gH 4 ([.sym,.sym,.go,.sym,.sym,.go,.go,.go,.sym,.sym]++gH 7 [.sym,.sym,.go,.go,.go])) (by kernel_rfl) (by kernel_rfl) ⟨(by omega),(by rw [Nat.mul_one];exact F9 (by omega) 27 (Try.underlying27) rfl),(by rw [hxr c hc];exact hb),(by have h8:=hxr c hc;obtain ⟨-,L9,e9,n9⟩:=g9 (R:=X) (i:=c) (by omega);rw [e9,Nat.mul_one];exact R7 (by omega) 2 (Try.underlying2) rfl),(by omega),(by rw [Nat.mul_one];exact R7 (show _<Y.length by omega) 2 (Try.underlying2) rfl),(by have h9:=g7 (hx1 c hc b hb) (hy1 b hb) ⟨by have:=(hm1 b hb).1;omega,(hm1 b hb).2⟩;show -9223372036854775808≤_∧_≤9223372036854775807;constructor<;>omega),(by omega),(by rw [Nat.mul_one];exact R7 (show _<M.length by omega) 2 (Try.underlying2) rfl),(by have h9:=g7 (hx1 c hc b hb) (hy1 b hb) ⟨by have:=(hm1 b hb).1;omega,(hm1 b hb).2⟩;show -9223372036854775808≤_∧_≤9223372036854775807;constructor<;>omega),trivial⟩ rfl) (b7g (r:=(.int .i64 (Z9 (W9 (Y6 X) (c*1)) (b*1)*Z9 (cI Y) (b*1)*Z9 (cI M) (b*1)))) (by rfl) (b32 (v:=(nI0 (Z9 (W9 (Y6 X) (c*1)) (b*1)*Z9 (cI Y) (b*1)*Z9 (cI M) (b*1)))) (by kernel_rfl) (by kernel_rfl) rfl (.inr rfl)))
theorem c9t(y:Value)(E:List (Value×List (Int×Int)))(yl:Value)(L:List (Int×Int))(u:Value)(X:List (Value×List Int))(ul:Value)(Y:List Int)(z:Value)(M:List Int)(n c b:Nat)(hx3:X.length=3)(hxr:∀ i,i<3→T5 (Y6 X) (i*1)=n)(hy:Y.length=n)(hm:M.length=n)(hx1:∀ i,i<3→∀ b,b<n→0≤Z9 (W9 (Y6 X) (i*1)) (b*1)∧Z9 (W9 (Y6 X) (i*1)) (b*1)≤100)(hy1:∀ b,b<n→0≤Z9 (cI Y) (b*1)∧Z9 (cI Y) (b*1)≤100)(hm1:∀ b,b<n→0≤Z9 (cI M) (b*1)∧Z9 (cI M) (b*1)≤1000)(hc:c<3)(hb:b<n):a9s zP0q 80 [(nI0 c),(nI0 b),(.ptr 0 0),(.ptr 1 0)] [(b5r X Y u ul),(b5w E L M y yl z)] (.int .i64 (U6 (Y6 X) (cI Y) (cI M) c b)) :=
 a3y 26 Try.func80 (by kernel_rfl) (by kernel_rfl) (by kernel_rfl) (fun v eb ec=>V6 (by kernel_rfl) (by kernel_rfl) (by kernel_rfl) (by kernel_rfl) (c8Y y E yl L u X ul Y z M n c b hx3 hxr hy hm hx1 hy1 hm1 hc hb v eb ec []))
end
end Go.Proofs.Ytegmogadbnfbgaa
set_option maxHeartbeats 4000000
namespace Go.Proofs.Ytegmogadbnfbgaa
open Go Ev
noncomputable section
section
variable (E : List (Value × List (Int × Int))) (L : List (Int × Int)) (M : List Int) (X : List (Value × List Int)) (Y : List Int) (i : Nat) (u ul y yl z : Value)
@[reducible] def a8I:Ev.AB:=(.cells [(.xl (u) (X.length) 1 (Y6 X)),(.xl (ul) (Y.length) 1 (cI Y))] 29)
@[reducible] def Q5:Nat×Ev.AB:=(0,(a8I X Y u ul))
@[reducible] def a2R:Ev.AB:=(.cells [(.xl (y) (E.length) 1 (Y5 E)),(.xl (yl) (L.length) 2 (cR L)),(.fn (.func 78) [(.xl (z) (M.length) 1 (cI M))] [])] 85)
@[reducible] def Q3:Nat×Ev.AB:=(1,(a2R E L M y yl z))
@[reducible] def P5:Nat×Ev.AB:=(2,(a2R E L M y yl z))
@[reducible] def b71:Ev.AB:=(.cells [(.fn (.func 80) [] [(.ptr 0 0),(.ptr 1 0)])] 116)
@[reducible] def P4:Nat×Ev.AB:=(3,b71)
@[reducible] def b1t:Ev.AB:=(.cells [(nI0 (.ofNat 0)),(nI0 (.ofNat 0)),(nI0 (.ofNat 0))] 82)
@[reducible] def Q1:Nat×Ev.AB:=(4,b1t)
@[reducible] def j8:Nat×Ev.AB:=(5,(.cells (cI (tI (w8 (U6 (Y6 X) (cI Y) (cI M)) L.length i) 3)) 82))
@[reducible] def D8:Nat×Ev.AB:=(6,(.cells [(nI0 i)] 3))
@[reducible] def b1n:Nat×Ev.AB:=(7,(a2R E L M y yl z))
@[reducible] def a7U:Ev.Lit:=⟨[(2,(.ptr 2 0)),(3,(.ptr 3 0)),(4,(.ptr 4 0)),(5,(.ptr 5 0)),(6,(.ptr 6 0)),(8,(nI0 i)),(12,(.fn (.func 93) [] [(.ptr 7 0)]))],[],8,[(Q5 X Y u ul),(Q3 E L M y yl z),(P5 E L M y yl z),P4,Q1,(j8 L M X Y i),(D8 i),(b1n E L M y yl z)]⟩
@[reducible] def b5v:Ev.AB:=(.cells (cI (tI (thB (U6 (Y6 X) (cI Y) (cI M)) L.length i L.length) 3)) 82)
@[reducible] def a7k:Nat×Ev.AB:=(5,(b5v L M X Y i))
@[reducible] def c0l:Ev.Lit:=⟨[(2,(.ptr 2 0)),(3,(.ptr 3 0)),(4,(.ptr 4 0)),(5,(.ptr 5 0)),(6,(.ptr 6 0)),(8,(nI0 i))],[],7,[(Q5 X Y u ul),(Q3 E L M y yl z),(P5 E L M y yl z),P4,Q1,(j8 L M X Y i),(D8 i)]⟩
@[reducible] def b9E:Ev.Lit:=⟨[(2,(.ptr 2 0)),(3,(.ptr 3 0)),(4,(.ptr 4 0)),(5,(.ptr 5 0)),(8,(nI0 i)),(9,(.v (.bool (Y2 i 3))))],[],6,[(Q5 X Y u ul),(Q3 E L M y yl z),(P5 E L M y yl z),P4,Q1,(j8 L M X Y i)]⟩
@[reducible] def c10:Ev.Lit:=⟨[(2,(.ptr 2 0)),(3,(.ptr 3 0)),(4,(.ptr 4 0)),(5,(.ptr 5 0)),(8,(nI0 i))],[8],10,[(Q5 X Y u ul),(Q3 E L M y yl z),(P5 E L M y yl z),P4,Q1,(a7k L M X Y i),(8,(.defd .true))]⟩
@[reducible] def a4c:Nat×Ev.AV:=(8,(nI0 (.ofNat 0)))
@[reducible] def b7f:Nat×Ev.AB:=(5,b1t)
@[reducible] def b3Z:Ev.Lit:=⟨[(2,(.ptr 2 0)),(3,(.ptr 3 0)),(4,(.ptr 4 0)),(5,(.ptr 5 0)),a4c],[],6,[(Q5 X Y u ul),(Q3 E L M y yl z),(P5 E L M y yl z),P4,Q1,b7f]⟩
@[reducible] def c0B:Ev.Lit:=⟨[(2,(.ptr 2 0)),(3,(.ptr 3 0)),(4,(.ptr 4 0)),(5,(.ptr 5 0)),(8,(nI0 (((i+1):Nat):Int)))],[],6,[(Q5 X Y u ul),(Q3 E L M y yl z),(P5 E L M y yl z),P4,Q1,(a7k L M X Y i)]⟩
@[reducible] def c0O:Ev.Lit:=⟨[(2,(.ptr 2 0)),(3,(.ptr 3 0)),(4,(.ptr 4 0)),(5,(.ptr 5 0)),(8,(nI0 i))],[],8,[(Q5 X Y u ul),(Q3 E L M y yl z),(P5 E L M y yl z),P4,Q1,(a7k L M X Y i)]⟩
@[reducible] def b3Q:Ev.Lit:=⟨[(2,(.ptr 2 0)),(3,(.ptr 3 0)),(4,(.ptr 4 0)),(5,(.ptr 5 0)),(8,(nI0 i))],[],6,[(Q5 X Y u ul),(Q3 E L M y yl z),(P5 E L M y yl z),P4,Q1,(j8 L M X Y i)]⟩
@[reducible] def b2a:Ev.Lit:=⟨[(2,(.ptr 2 0)),(3,(.ptr 3 0)),(4,(.ptr 4 0)),(5,(.ptr 5 0))],[],6,[(Q5 X Y u ul),(Q3 E L M y yl z),(P5 E L M y yl z),P4,Q1,b7f]⟩
@[reducible] def b7X:Ev.Lit:=⟨[(2,(.ptr 2 0)),(3,(.ptr 3 0)),(4,(.ptr 4 0))],[],5,[(Q5 X Y u ul),(Q3 E L M y yl z),(P5 E L M y yl z),P4,Q1]⟩
@[reducible] def b88:Ev.Lit:=⟨[(4,(.ptr 4 0)),(5,(.ptr 5 0))],[],6,[(Q5 X Y u ul),(Q3 E L M y yl z),Q1,(5,(.cells (cI (tI (w8 (U6 (Y6 X) (cI Y) (cI M)) L.length (3)) 3)) 82))]⟩
@[reducible] def b5d:Ev.AB:=(.cells [(nI0 (Z9 (cI (tI (w8 (U6 (Y6 X) (cI Y) (cI M)) L.length 3) 3)) 0)),(nI0 (Z9 (cI (tI (w8 (U6 (Y6 X) (cI Y) (cI M)) L.length 3) 3)) (0+1))),(nI0 (Z9 (cI (tI (w8 (U6 (Y6 X) (cI Y) (cI M)) L.length 3) 3)) (0+1+1)))] 82)
@[reducible] def b28:List Ev.AV:=[.xl y E.length 1 (Y5 E),.xl yl L.length 2 (cR L),(.fn (.func 78) [.xl z M.length 1 (cI M)] [])]
@[reducible] def G4:Ev.AB:=(.cells (b28 E L M y yl z) 85)
@[reducible] def b7b:List Ev.AV:=[.xl u X.length 1 (Y6 X),.xl ul Y.length 1 (cI Y)]
@[reducible] def G3:Ev.AB:=(.cells (b7b X Y u ul) 29)
@[reducible] def k9:Nat×Ev.AV:=(7,(nI0 L.length))
end
theorem b98{g:Fn}{l:List AV}(h:V4 l):V4 [.fn g l []]:=fun σ τ hb x e=>by
 simp only [denL,den] at e ⊢
 cases h1:denL σ l with
 |none=>rw [h1] at e;cases e
 |some us =>
  rw [h1] at e
  rw [h σ τ hb us h1]
  exact e
def a4S(t:TypeId):Prop:=t=29
def a4V(t:TypeId):Prop:=t=85
def b2c(k3 m k4 q k5 r:Nat)(cX cY cM:List AV)(n:Nat):Prop:=∃ (X:List (Value×List Int)) (Y M:List Int),(k3=1∧cX=Y6 X∧m=X.length)∧(k4=1∧cY=cI Y∧q=Y.length)∧(k5=1∧cM=cI M∧r=M.length)∧X.length=3∧(∀ i,i<3→T5 (Y6 X) (i*1)=n)∧Y.length=n∧M.length=n∧(∀ i,i<3→∀ b,b<n→0≤Z9 (W9 (Y6 X) (i*1)) (b*1)∧Z9 (W9 (Y6 X) (i*1)) (b*1)≤100)∧(∀ b,b<n→0≤Z9 (cI Y) (b*1)∧Z9 (cI Y) (b*1)≤100)∧(∀ b,b<n→0≤Z9 (cI M) (b*1)∧Z9 (cI M) (b*1)≤1000)
def a7u:AV→Nat→Bool
 |.ptr b o,k=>Nat.beq b k&&Nat.beq o 0
 |_,_=>false
theorem a08{v:AV}{k:Nat}(h:a7u v k=true):v = .ptr k 0:=by
 cases v with
 |ptr b o =>
  simp only [a7u,Bool.and_eq_true] at h
  rw [Nat.eq_of_beq_eq_true h.1,Nat.eq_of_beq_eq_true h.2]
 |_=>cases h
theorem a71{u ul y yl z:Value}{f:FuncId}{t1 t2:TypeId}(X:List (Value×List Int))(Y:List Int)(E:List (Value×List (Int×Int)))(L:List (Int×Int))(M:List Int):∀ x,x∈[AB.cells (b7b X Y u ul) t1,AB.cells [.xl y E.length 1 (Y5 E),.xl yl L.length 2 (cR L),.fn (.func f) [.xl z M.length 1 (cI M)] []] t2]→a2o x:=fun x hx=>by
 rcases List.mem_cons.1 hx with rfl|hx
 ·exact w6 (E4 (W8 (I8 X)) (W8 (Y8 (Z2 Y))))
 ·rw [List.mem_singleton.1 hx]
  exact w6 (E4 (W8 (X9 E)) (E4 (W8 (Y8 (X4 L))) (b98 (W8 (Y8 (Z2 M))))))
def peS:List AV→List AB→Option (Value×List Prop):=fun args xs =>
 match args with
 |[.v vc,.v vb,p,q]=>match a38 vc,a38 vb,a7u p 0,a7u q 1,xs with
  |some c,some b,true,true,[.cells l1 t1,.cells l2 t2]=>match l1,l2 with
   |[.xl u m k3 cX,.xl ul j k4 cY],[.xl y me k1 cE,.xl yl n k2 cL,.fn (.func f) lz lc]=>match lz,lc,Nat.beq f 78 with
    |[.xl z r k5 cM],[],true=>some (.int .i64 (U6 cX cY cM c.toNat b.toNat),[a4S t1,a4V t2,U4 k1 cE me,Y3 k2 n cL,b2c k3 m k4 j k5 r cX cY cM n,0≤c∧c<3,0≤b∧b.toNat<n])
    |_,_,_=>none
   |_,_=>none
  |_,_,_,_,_=>none
 |_=>none
def peO:O8:=b8v 80 peS
theorem F5:Known zP0q (clsO peO):=b3A (fun args xs r ps h hp=>by
 unfold peS at h
 split at h
 ·split at h
  ·rename_i c b l1 t1 l2 t2 e1 e2 e3 e4
   split at h
   ·split at h
    ·rename_i e5
     cases h
     obtain ⟨rfl,rfl,⟨rfl,E,rfl,rfl⟩,⟨rfl,L,rfl,rfl⟩,⟨X,Y,M,⟨rfl,rfl,rfl⟩,⟨rfl,rfl,rfl⟩,⟨rfl,rfl,rfl⟩,h1,h2,h3,h4,h5,h6,h7⟩,hc,hb,-⟩:=hp
     rw [y8 e1,y8 e2,a08 e3,a08 e4,Nat.eq_of_beq_eq_true e5]
     obtain ⟨c,rfl⟩:∃ k:Nat,c=((k:Nat):Int):=⟨c.toNat,by omega⟩
     obtain ⟨b,rfl⟩:∃ k:Nat,b=((k:Nat):Int):=⟨b.toNat,by omega⟩
     exact ⟨fun x hx=>⟨a71 X Y E L M x hx,by rcases List.mem_cons.1 hx with rfl|hx;exact a0Q;rw [List.mem_singleton.1 hx];exact a0Q⟩,c9t _ E _ L _ X _ Y _ M L.length c b h1 h2 h3 h4 h5 h6 h7 (by omega) hb.2⟩
    ·cases h
   ·cases h
  ·cases h
 ·cases h)
noncomputable def c7Y:Code:=O4 Try.f79
noncomputable def c4x:Code:=M5 c7Y
noncomputable def c1M:Code:=M5 c4x
noncomputable def a2Q:Code:=M5 c1M
noncomputable def c08:Code:=(f9 c1M)
noncomputable def b7i:Code:=M5 c08
noncomputable def c0d:Code:=H3 b7i
noncomputable def c0S:Code:=M5 c0d
noncomputable def b3a:Code:=M5 c0S
noncomputable def a59:Code:=M5 b3a
noncomputable def b9U:Code:=a72 (f9 b3a)
noncomputable def b9S:Code:=M5 b9U
noncomputable def b7u:Code:=M5 b9S
noncomputable def O2:Code:=a72 b7u
section
variable (E : List (Value × List (Int × Int))) (L : List (Int × Int)) (M : List Int) (X : List (Value × List Int)) (Y : List Int) (eb : Nat → Option Nat) (ec : Nat → Nat) (i : Nat) (u ul : Value) (v : BaseW) (y yl z : Value)
@[reducible] def c05:=(a5e 16 (fun _:Unit=>((⟨[],[],10,9,[(3,(.ptr 3 0)),(5,(.ptr 5 0)),(6,(.ptr 6 0))],[(Q5 X Y u ul),(Q3 E L M y yl z),(P5 E L M y yl z),P4,Q1,(a7k L M X Y i),(D8 i),(8,(.defd .true))],.ready,none,25,C6 O2,C7 O2,C5 O2,8⟩:Ev.Lit1)).lit) (fun _:Unit=>True) (bw v 10 eb ec))
end
noncomputable def b8H:Code:=O4 Try.f93
noncomputable def b5b:Code:=M5 b8H
noncomputable def c3Z:Code:=H3 b5b
section
variable {E:List (Value×List (Int×Int))} {L:List (Int×Int)} {M Y:List Int} {X:List (Value×List Int)} {eb:Nat→Option Nat} {ec:Nat→Nat} {hs:List Nat} {i:Nat} {u ul y yl z:Value} {v:BaseW}
theorem c1w(hn8:L.length≤8)(hx3:X.length=3)(hxr:∀ i,i<3→T5 (Y6 X) (i*1)=L.length)(hy:Y.length=L.length)(hm:M.length=L.length)(hx1:∀ i,i<3→∀ b,b<L.length→0≤Z9 (W9 (Y6 X) (i*1)) (b*1)∧Z9 (W9 (Y6 X) (i*1)) (b*1)≤100)(hy1:∀ b,b<L.length→0≤Z9 (cI Y) (b*1)∧Z9 (cI Y) (b*1)≤100)(hm1:∀ b,b<L.length→0≤Z9 (cI M) (b*1)∧Z9 (cI M) (b*1)≤1000)(hi1:i≤3)(hi2:True)(hqse23_1:(Y2 i 3)=true):Y7 zP0q 16 b5b ((⟨[(0,(.yld 9)),(k9 L),a4c],[],10,9,[(3,(.ptr 3 0)),(5,(.ptr 5 0)),(6,(.ptr 6 0))],[(Q5 X Y u ul),(Q3 E L M y yl z),(P5 E L M y yl z),P4,Q1,(j8 L M X Y i),(D8 i),(8,(.defd .true))],.ready,none,25,C6 O2,C7 O2,C5 O2,8⟩:Ev.Lit1).lit) (bw v 10 eb ec) (c05 E L M X Y eb ec i u ul v y yl z):=by
 have hcl_L:=Z7 L
 have hcl_Y:=Z4 Y
 have hcl_M:=Z4 M
 have ghqse23_1:=X5 hqse23_1
 refine V6 (T':=(⟨[(0,(.yld 9)),(k9 L),a4c],[],10,9,[(3,(.ptr 3 0)),(5,(.ptr 5 0)),(6,(.ptr 6 0))],[(Q5 X Y u ul),(Q3 E L M y yl z),(P5 E L M y yl z),P4,Q1,(j8 L M X Y i),(D8 i),(8,(.defd .true))],.ready,none,25,C6 O2,C7 O2,C5 O2,8⟩:Ev.Lit1).lit) (by kernel_rfl) (by kernel_rfl) (by kernel_rfl) (by kernel_rfl) (a2F (ι:={j:Nat // j≤L.length∧True}) (T:=(fun j:{j:Nat // j≤L.length∧True}=>(⟨[(0,(.yld 9)),(k9 L),(8,(nI0 j.1))],[],10,9,[(3,(.ptr 3 0)),(5,(.ptr 5 0)),(6,(.ptr 6 0))],[(Q5 X Y u ul),(Q3 E L M y yl z),(P5 E L M y yl z),P4,Q1,(5,(.cells (cI (tI (thB (U6 (Y6 X) (cI Y) (cI M)) L.length i j.1) 3)) 82)),(D8 i),(8,(.defd .true))],.ready,none,25,C6 O2,C7 O2,C5 O2,8⟩:Ev.Lit1).lit)) (R:=(fun j:{j:Nat // j≤L.length∧True}=>L.length≤j.1)) (by kernel_rfl) (a6a (show ((⟨[(0,(.yld 9)),(k9 L),a4c],[],10,9,[(3,(.ptr 3 0)),(5,(.ptr 5 0)),(6,(.ptr 6 0))],[(Q5 X Y u ul),(Q3 E L M y yl z),(P5 E L M y yl z),P4,Q1,(j8 L M X Y i),(D8 i),(8,(.defd .true))],.ready,none,25,C6 O2,C7 O2,C5 O2,8⟩:Ev.Lit1).lit:Ev.Lit)=(⟨[(0,(.yld 9)),(k9 L),(8,(nI0 0))],[],10,9,[(3,(.ptr 3 0)),(5,(.ptr 5 0)),(6,(.ptr 6 0))],[(Q5 X Y u ul),(Q3 E L M y yl z),(P5 E L M y yl z),P4,Q1,(5,(.cells (cI (tI (thB (U6 (Y6 X) (cI Y) (cI M)) L.length i 0) 3)) 82)),(D8 i),(8,(.defd .true))],.ready,none,25,C6 O2,C7 O2,C5 O2,8⟩:Ev.Lit1).lit from by (rw [a8y];rfl)) (a7 (by kernel_rfl) (fun j:{j:Nat // j≤L.length∧True}=>(⟨[(0,(.yld 9)),(k9 L),(8,(nI0 j.1))],[],10,9,[(3,(.ptr 3 0)),(5,(.ptr 5 0)),(6,(.ptr 6 0))],[(Q5 X Y u ul),(Q3 E L M y yl z),(P5 E L M y yl z),P4,Q1,(5,(.cells (cI (tI (thB (U6 (Y6 X) (cI Y) (cI M)) L.length i j.1) 3)) 82)),(D8 i),(8,(.defd .true))],.ready,none,25,C6 O2,C7 O2,C5 O2,8⟩:Ev.Lit1).lit) (fun j:{j:Nat // j≤L.length∧True}=>L.length - j.1) (fun i=>?_) ⟨0,Nat.zero_le _,trivial⟩)) (fun ixR hxR=>(fun (j0r:Nat) (h0ra:j0r≤L.length) (h0rb:True) (h0rc:L.length≤j0r)=>⟨(),show True from trivial,(by obtain ⟨i9,q1,q2⟩:=ixR;have h9:L.length≤i9:=hxR;have e:i9=L.length:=(by omega);subst e;exact o9 (by kernel_rfl) (by kernel_rfl) (by kernel_rfl) (by kernel_rfl))⟩) ixR.1 ixR.2.1 ixR.2.2 hxR))
 obtain ⟨j,hi1,hi2⟩:=i
 show Y7 zP0q 16 c3Z ((⟨[(0,(.yld 9)),(k9 L),(8,(nI0 j))],[],10,9,[(3,(.ptr 3 0)),(5,(.ptr 5 0)),(6,(.ptr 6 0))],[(Q5 X Y u ul),(Q3 E L M y yl z),(P5 E L M y yl z),P4,Q1,(5,(.cells (cI (tI (thB (U6 (Y6 X) (cI Y) (cI M)) L.length i j) 3)) 82)),(D8 i),(8,(.defd .true))],.ready,none,25,C6 O2,C7 O2,C5 O2,8⟩:Ev.Lit1).lit) (bw v 10 eb ec) (a50 _ _ _ _ _ _ _ _)
 rcases zB0q (Y2 j L.length) with hl0_1|hl0_1
 ·have ghl0_1:=X5 hl0_1
  refine Ev.step_on ⟨j+1,by omega,trivial⟩ (by show L.length - (j+1)<L.length - j;omega) ?_
  show Y7 _ _ _ _ _ (D7 _ isN ((⟨[(0,(.yld 9)),(k9 L),(8,(nI0 (((j+1):Nat):Int)))],[],10,9,[(3,(.ptr 3 0)),(5,(.ptr 5 0)),(6,(.ptr 6 0))],[(Q5 X Y u ul),(Q3 E L M y yl z),(P5 E L M y yl z),P4,Q1,(5,(.cells (cI (tI (thB (U6 (Y6 X) (cI Y) (cI M)) L.length i (j+1)) 3)) 82)),(D8 i),(8,(.defd .true))],.ready,none,25,C6 O2,C7 O2,C5 O2,8⟩:Ev.Lit1).lit) _)
  rw [show ((cI (tI (thB (U6 (Y6 X) (cI Y) (cI M)) L.length i (j+1)) 3)):List AV)=(R1 (cI (tI (thB (U6 (Y6 X) (cI Y) (cI M)) L.length i j) 3)) (0+i*1) [(nI0 (Z9 (cI (tI (thB (U6 (Y6 X) (cI Y) (cI M)) L.length i j) 3)) (0+i*1)+U6 (Y6 X) (cI Y) (cI M) i j))]) from by (refine (b0M (i:=i) (j:=j) (by omega) ?_).symm;rw [a9q (i:=i) (by omega)])]
  exact B9 zC0q (F5) 200 (T':=(⟨[(0,(.yld 9)),(k9 L),(8,(nI0 (((j+1):Nat):Int)))],[],10,9,[(3,(.ptr 3 0)),(5,(.ptr 5 0)),(6,(.ptr 6 0))],[(Q5 X Y u ul),(Q3 E L M y yl z),(P5 E L M y yl z),P4,Q1,(5,(.cells (R1 (cI (tI (thB (U6 (Y6 X) (cI Y) (cI M)) L.length i j) 3)) (0+i*1) [(nI0 (Z9 (cI (tI (thB (U6 (Y6 X) (cI Y) (cI M)) L.length i j) 3)) (0+i*1)+U6 (Y6 X) (cI Y) (cI M) i j))]) 82)),(D8 i),(8,(.defd .true))],.ready,none,25,C6 O2,C7 O2,C5 O2,8⟩:Ev.Lit1)) (e:=.normal) (ps:=[Y2 j L.length=true,i<3,W7 zP0q (cI (tI (thB (U6 (Y6 X) (cI Y) (cI M)) L.length i j) 3)) (0+i*1) 2=some (AV.v (Value.int IntKind.i64 (Z9 (cI (tI (thB (U6 (Y6 X) (cI Y) (cI M)) L.length i j) 3)) (0+i*1)))),a4S 29,a4V 85,U4 1 (Y5 E) E.length,Y3 2 L.length (cR L),b2c 1 X.length 1 Y.length 1 M.length (Y6 X) (cI Y) (cI M) L.length,(0:Int)≤((i:Nat):Int)∧((i:Nat):Int)<3,(0:Int)≤((j:Nat):Int)∧j<L.length,N3 IntKind.i64 (Z9 (cI (tI (thB (U6 (Y6 X) (cI Y) (cI M)) L.length i j) 3)) (0+i*1)+U6 (Y6 X) (cI Y) (cI M) i j),i<3,0+i*1+([(nI0 (Z9 (cI (tI (thB (U6 (Y6 X) (cI Y) (cI M)) L.length i j) 3)) (0+i*1)+U6 (Y6 X) (cI Y) (cI M) i j))]:List AV).length≤((cI (tI (thB (U6 (Y6 X) (cI Y) (cI M)) L.length i j) 3)):List AV).length,(!true)=false,N3 IntKind.i64 (((j:Nat):Int)+1)]) ([.go,.b true]++gH 6 ([.sym,.sym]++gH 4 [.sym,.sym,.go,.b false,.go,.go])) (by kernel_rfl) (by kernel_rfl) ⟨hl0_1,(by omega),(R7 (by rw [Y9];omega) 2 (Try.underlying2) rfl),rfl,rfl,⟨rfl,E,rfl,rfl⟩,⟨rfl,L,rfl,rfl⟩,⟨X,Y,M,⟨rfl,rfl,rfl⟩,⟨rfl,rfl,rfl⟩,⟨rfl,rfl,rfl⟩,hx3,hxr,hy,hm,hx1,hy1,hm1⟩,(by omega),(by omega),(by rw [a9q (by omega)];have h9:=b1P (p:=U6 (Y6 X) (cI Y) (cI M) i) (m:=10000000) (n:=j) (fun b hb=>by have:=(g7 (hx1 i (by omega) b (by omega)) (hy1 b (by omega)) ⟨by have:=(hm1 b (by omega)).1;omega,(hm1 b (by omega)).2⟩).2;exact this);have h8:=(g7 (hx1 i (by omega) j (by omega)) (hy1 j (by omega)) ⟨by have:=(hm1 j (by omega)).1;omega,(hm1 j (by omega)).2⟩).2;unfold U6 at *;show -9223372036854775808≤_∧_≤9223372036854775807;constructor<;>omega),(by omega),(by show 0+i*1+1≤_;rw [Z4,Y9];omega),rfl,(by show -9223372036854775808≤_∧_≤9223372036854775807;constructor<;>omega),trivial⟩ rfl
 ·have ghl0_1:=Z5 hl0_1
  exact Ev.step_out (by show L.length≤j;omega) (B9 zC0q (F5) 200 (T':=(⟨[(0,(.yld 9)),(k9 L),(8,(nI0 j))],[],10,9,[(3,(.ptr 3 0)),(5,(.ptr 5 0)),(6,(.ptr 6 0))],[(Q5 X Y u ul),(Q3 E L M y yl z),(P5 E L M y yl z),P4,Q1,(5,(.cells (cI (tI (thB (U6 (Y6 X) (cI Y) (cI M)) L.length i j) 3)) 82)),(D8 i),(8,(.defd .true))],.ready,none,25,C6 O2,C7 O2,C5 O2,8⟩:Ev.Lit1)) (e:=.exit 0) (ps:=[Y2 j L.length=false]) [.go,.b false] (by kernel_rfl) (by kernel_rfl) ⟨hl0_1,trivial⟩ rfl)
theorem c23(hn8:L.length≤8)(hx3:X.length=3)(hxr:∀ i,i<3→T5 (Y6 X) (i*1)=L.length)(hy:Y.length=L.length)(hm:M.length=L.length)(hx1:∀ i,i<3→∀ b,b<L.length→0≤Z9 (W9 (Y6 X) (i*1)) (b*1)∧Z9 (W9 (Y6 X) (i*1)) (b*1)≤100)(hy1:∀ b,b<L.length→0≤Z9 (cI Y) (b*1)∧Z9 (cI Y) (b*1)≤100)(hm1:∀ b,b<L.length→0≤Z9 (cI M) (b*1)∧Z9 (cI M) (b*1)≤1000)(hi1:i≤3)(hi2:True)(hqse23_1:(Y2 i 3)=true):Y7 zP0q 16 b8H ((⟨[(0,(.yld 9)),(1,(.ptr 7 0))],[],10,9,[(3,(.ptr 3 0)),(5,(.ptr 5 0)),(6,(.ptr 6 0))],[(Q5 X Y u ul),(Q3 E L M y yl z),(P5 E L M y yl z),P4,Q1,(j8 L M X Y i),(D8 i),(b1n E L M y yl z),(8,(.defd .true))],.ready,none,25,C6 O2,C7 O2,C5 O2,8⟩:Ev.Lit1).lit) (bw v 10 eb ec) (c05 E L M X Y eb ec i u ul v y yl z):=by
 have hcl_L:=Z7 L
 have hcl_Y:=Z4 Y
 have hcl_M:=Z4 M
 have ghqse23_1:=X5 hqse23_1
 exact N6 (T':=(⟨[(0,(.yld 9)),(k9 L),a4c],[],10,9,[(3,(.ptr 3 0)),(5,(.ptr 5 0)),(6,(.ptr 6 0))],[(Q5 X Y u ul),(Q3 E L M y yl z),(P5 E L M y yl z),P4,Q1,(j8 L M X Y i),(D8 i),(8,(.defd .true))],.ready,none,25,C6 O2,C7 O2,C5 O2,8⟩:Ev.Lit1).lit) (by kernel_rfl) (B9 zC0q (F5) 200 (T':=(⟨[(0,(.yld 9)),(k9 L),a4c],[],10,9,[(3,(.ptr 3 0)),(5,(.ptr 5 0)),(6,(.ptr 6 0))],[(Q5 X Y u ul),(Q3 E L M y yl z),(P5 E L M y yl z),P4,Q1,(j8 L M X Y i),(D8 i),(8,(.defd .true))],.ready,none,25,C6 O2,C7 O2,C5 O2,8⟩:Ev.Lit1)) (e:=.normal) (ps:=[]) (gH 5 []) (by kernel_rfl) (by kernel_rfl) trivial rfl) (c1w hn8 hx3 hxr hy hm hx1 hy1 hm1 hi1 hi2 hqse23_1)
theorem c4w(hn8:L.length≤8)(hx3:X.length=3)(hxr:∀ i,i<3→T5 (Y6 X) (i*1)=L.length)(hy:Y.length=L.length)(hm:M.length=L.length)(hx1:∀ i,i<3→∀ b,b<L.length→0≤Z9 (W9 (Y6 X) (i*1)) (b*1)∧Z9 (W9 (Y6 X) (i*1)) (b*1)≤100)(hy1:∀ b,b<L.length→0≤Z9 (cI Y) (b*1)∧Z9 (cI Y) (b*1)≤100)(hm1:∀ b,b<L.length→0≤Z9 (cI M) (b*1)∧Z9 (cI M) (b*1)≤1000)(hi1:i≤3)(hi2:True)(hqse23_1:(Y2 i 3)=true):Y7 zP0q 25 a59 ((c0O E L M X Y i u ul y yl z)) (BaseW.H (bw v 2 eb ec) hs) (Hd.StepC zP0q 25 0 (fun i:{i:Nat // i≤3∧True}=>⟨[(2,(.ptr 2 0)),(3,(.ptr 3 0)),(4,(.ptr 4 0)),(5,(.ptr 5 0)),(8,(nI0 i.1))],[],6,[(Q5 X Y u ul),(Q3 E L M y yl z),(P5 E L M y yl z),P4,Q1,(5,(.cells (cI (tI (w8 (U6 (Y6 X) (cI Y) (cI M)) L.length i.1) 3)) 82))]⟩) (fun i:{i:Nat // i≤3∧True}=>3 - i.1) a2Q (bw v 2 eb ec) (T4 zP0q Try.f79 25 ((.agg [nI0 (V5 (U6 (Y6 X) (cI Y) (cI M) 0) L.length),nI0 (V5 (U6 (Y6 X) (cI Y) (cI M) 1) L.length),nI0 (V5 (U6 (Y6 X) (cI Y) (cI M) 2) L.length)])) [(G3 X Y u ul),(G4 E L M y yl z)] (bw v 2 eb ec)) (⟨i,hi1,hi2⟩:{i:Nat // i≤3∧True})):=by
 have hcl_L:=Z7 L
 have hcl_Y:=Z4 Y
 have hcl_M:=Z4 M
 have ghqse23_1:=X5 hqse23_1
 exact Z8 W4 (c9 zC0q (F5) 200 (T':=(c0B E L M X Y i u ul y yl z)) (e:=.normal) (m:=8) (ps:=[N3 IntKind.i64 (((i:Nat):Int)+1)]) [.go,.go] (by kernel_rfl) (by kernel_rfl) ⟨(by show -9223372036854775808≤_∧_≤9223372036854775807;constructor<;>omega),trivial⟩ rfl (by show 6≤8;decide) ⟨⟨t9 (by show 2<6;decide),t9 (by show 3<6;decide),t9 (by show 4<6;decide),t9 (by show 5<6;decide),a0A _,trivial⟩,⟨⟨by show 0<6;decide,I3 (R6 (z0 (W8 (I8 _))) (R6 (a0p (Z2 Y)) (fun _ hz=>absurd hz List.not_mem_nil)))⟩,⟨by show 1<6;decide,I3 (R6 (z0 (W8 (X9 _))) (R6 (a0p (X4 L)) (R6 (a8j (R6 (a0p (Z2 M)) (fun _ hz=>absurd hz List.not_mem_nil)) (fun _ hz=>absurd hz List.not_mem_nil)) (fun _ hz=>absurd hz List.not_mem_nil))))⟩,⟨by show 2<6;decide,I3 (R6 (z0 (W8 (X9 _))) (R6 (a0p (X4 L)) (R6 (a8j (R6 (a0p (Z2 M)) (fun _ hz=>absurd hz List.not_mem_nil)) (fun _ hz=>absurd hz List.not_mem_nil)) (fun _ hz=>absurd hz List.not_mem_nil))))⟩,⟨by show 3<6;decide,I3 (R6 (a8j (fun _ hz=>absurd hz List.not_mem_nil) (R6 (t9 (by show 0<6;decide)) (R6 (t9 (by show 1<6;decide)) (fun _ hz=>absurd hz List.not_mem_nil)))) (fun _ hz=>absurd hz List.not_mem_nil))⟩,⟨by show 4<6;decide,I3 (R6 (a0A _) (R6 (a0A _) (R6 (a0A _) (fun _ hz=>absurd hz List.not_mem_nil))))⟩,⟨by show 5<6;decide,a7X (Z2 _)⟩,trivial⟩,rfl⟩ (by show 2≤6;decide)) (Hd.en_on (⟨i+1,by omega,trivial⟩) (by show 3 - (i+1)<3 - i;omega) (show ((c0B E L M X Y i u ul y yl z):Ev.Lit)=⟨[(2,(.ptr 2 0)),(3,(.ptr 3 0)),(4,(.ptr 4 0)),(5,(.ptr 5 0)),(8,(nI0 (((i+1):Nat):Int)))],[],6,[(Q5 X Y u ul),(Q3 E L M y yl z),(P5 E L M y yl z),P4,Q1,(5,(.cells (cI (tI (w8 (U6 (Y6 X) (cI Y) (cI M)) L.length (i+1)) 3)) 82))]⟩ from by have hz_:=congrArg (fun (xq0:Ev.AB)=>(⟨[(2,(.ptr 2 0)),(3,(.ptr 3 0)),(4,(.ptr 4 0)),(5,(.ptr 5 0)),(8,(nI0 (((i+1):Nat):Int)))],[],6,[(Q5 X Y u ul),(Q3 E L M y yl z),(P5 E L M y yl z),P4,Q1,(5,xq0)]⟩:Ev.Lit)) (congrArg (fun z=>Ev.AB.cells z 82) (show ((cI (tI (thB (U6 (Y6 X) (cI Y) (cI M)) L.length i L.length) 3)):List Ev.AV)=(cI (tI (w8 (U6 (Y6 X) (cI Y) (cI M)) L.length (i+1)) 3)) from by rw [b3U]));exact hz_))
theorem c7O(hn8:L.length≤8)(hx3:X.length=3)(hxr:∀ i,i<3→T5 (Y6 X) (i*1)=L.length)(hy:Y.length=L.length)(hm:M.length=L.length)(hx1:∀ i,i<3→∀ b,b<L.length→0≤Z9 (W9 (Y6 X) (i*1)) (b*1)∧Z9 (W9 (Y6 X) (i*1)) (b*1)≤100)(hy1:∀ b,b<L.length→0≤Z9 (cI Y) (b*1)∧Z9 (cI Y) (b*1)≤100)(hm1:∀ b,b<L.length→0≤Z9 (cI M) (b*1)∧Z9 (cI M) (b*1)≤1000)(hi1:i≤3)(hi2:True)(hqse23_1:(Y2 i 3)=true):Y7 zP0q 25 O2 ((a7U E L M X Y i u ul y yl z)) (BaseW.H (bw v 2 eb ec) hs) (a4j 2 (Hd.AfterB zP0q 25 1 a59 (bw v 2 eb ec) (Hd.StepC zP0q 25 0 (fun i:{i:Nat // i≤3∧True}=>⟨[(2,(.ptr 2 0)),(3,(.ptr 3 0)),(4,(.ptr 4 0)),(5,(.ptr 5 0)),(8,(nI0 i.1))],[],6,[(Q5 X Y u ul),(Q3 E L M y yl z),(P5 E L M y yl z),P4,Q1,(5,(.cells (cI (tI (w8 (U6 (Y6 X) (cI Y) (cI M)) L.length i.1) 3)) 82))]⟩) (fun i:{i:Nat // i≤3∧True}=>3 - i.1) a2Q (bw v 2 eb ec) (T4 zP0q Try.f79 25 ((.agg [nI0 (V5 (U6 (Y6 X) (cI Y) (cI M) 0) L.length),nI0 (V5 (U6 (Y6 X) (cI Y) (cI M) 1) L.length),nI0 (V5 (U6 (Y6 X) (cI Y) (cI M) 2) L.length)])) [(G3 X Y u ul),(G4 E L M y yl z)] (bw v 2 eb ec)) (⟨i,hi1,hi2⟩:{i:Nat // i≤3∧True})))):=by
 have hcl_L:=Z7 L
 have hcl_Y:=Z4 Y
 have hcl_M:=Z4 M
 have ghqse23_1:=X5 hqse23_1
 refine V6 (T':=(a7U E L M X Y i u ul y yl z)) (by kernel_rfl) (by kernel_rfl) (by kernel_rfl) (by kernel_rfl) ?_
 exact a1H (T1:=(⟨[(0,(.yld 9)),(1,(.ptr 7 0))],[],10,9,[(3,(.ptr 3 0)),(5,(.ptr 5 0)),(6,(.ptr 6 0))],[(Q5 X Y u ul),(Q3 E L M y yl z),(P5 E L M y yl z),P4,Q1,(j8 L M X Y i),(D8 i),(b1n E L M y yl z),(8,(.defd .true))],.ready,none,25,C6 O2,C7 O2,C5 O2,8⟩:Ev.Lit1)) (T2:=(fun _:Unit=>(⟨[],[],10,9,[(3,(.ptr 3 0)),(5,(.ptr 5 0)),(6,(.ptr 6 0))],[(Q5 X Y u ul),(Q3 E L M y yl z),(P5 E L M y yl z),P4,Q1,(a7k L M X Y i),(D8 i),(8,(.defd .true))],.ready,none,25,C6 O2,C7 O2,C5 O2,8⟩:Ev.Lit1))) (T3:=fun _:Unit=>(c10 E L M X Y i u ul y yl z)) (R:=(fun _:Unit=>True)) (k:=93) (l:=9) (szk:=16) (K:=10) (e:=fun _=>.normal) rfl (by kernel_rfl) Try.func93 (by kernel_rfl) (by kernel_rfl) (by kernel_rfl) (by kernel_rfl) (by kernel_rfl) (fun _ _=>rfl) (fun v eb ec=>c23 hn8 hx3 hxr hy hm hx1 hy1 hm1 hi1 hi2 hqse23_1) (fun _ _=>by kernel_rfl) (fun _ _=>a8N (T:=(c10 E L M X Y i u ul y yl z)) (T':=(c0O E L M X Y i u ul y yl z)) (m:=8) [0,1,2,3,4,5,6,7] [(.ptr 2 0),(.ptr 3 0),(.ptr 4 0),(.ptr 5 0),(nI0 i)] [(a8I X Y u ul),(a2R E L M y yl z),(a2R E L M y yl z),b71,b1t,(b5v L M X Y i)] rfl (by kernel_rfl) rfl rfl (by decide) (by kernel_rfl) (by kernel_rfl) ⟨V0 rfl,V0 rfl,V0 rfl,V0 rfl,N7 _,trivial⟩ ⟨⟨by show 0<8;decide,X6 (Z3 (S5 (W8 (I8 _))) (Z3 (N8 (Y4 (Z2 Y))) (Y0)))⟩,⟨by show 1<8;decide,X6 (Z3 (S5 (W8 (X9 _))) (Z3 (N8 (Y4 (X4 L))) (Z3 (a07 (Z3 (N8 (Y4 (Z2 M))) (Y0)) (Y0)) (Y0))))⟩,⟨by show 2<8;decide,X6 (Z3 (S5 (W8 (X9 _))) (Z3 (N8 (Y4 (X4 L))) (Z3 (a07 (Z3 (N8 (Y4 (Z2 M))) (Y0)) (Y0)) (Y0))))⟩,⟨by show 3<8;decide,X6 (Z3 (a07 (Y0) (Z3 (V0 rfl) (Z3 (V0 rfl) (Y0)))) (Y0))⟩,⟨by show 4<8;decide,X6 (Z3 (N7 _) (Z3 (N7 _) (Z3 (N7 _) (Y0))))⟩,⟨by show 5<8;decide,X6 (Y4 (Z2 _))⟩,trivial⟩ ⟨(by show 0≠8;decide),(by show 1≠8;decide),(by show 2≠8;decide),(by show 3≠8;decide),(by show 4≠8;decide),(by show 5≠8;decide),trivial⟩ (by show 2≤8;decide) (fun b hb=>(by have hb2:b<2:=hb;match b,hb2 with|0,_=>rfl|1,_=>rfl)) (fun hs=>c0W (Hd.en_bn (c4w hn8 hx3 hxr hy hm hx1 hy1 hm1 hi1 hi2 hqse23_1))))
theorem c7u(hn8:L.length≤8)(hx3:X.length=3)(hxr:∀ i,i<3→T5 (Y6 X) (i*1)=L.length)(hy:Y.length=L.length)(hm:M.length=L.length)(hx1:∀ i,i<3→∀ b,b<L.length→0≤Z9 (W9 (Y6 X) (i*1)) (b*1)∧Z9 (W9 (Y6 X) (i*1)) (b*1)≤100)(hy1:∀ b,b<L.length→0≤Z9 (cI Y) (b*1)∧Z9 (cI Y) (b*1)≤100)(hm1:∀ b,b<L.length→0≤Z9 (cI M) (b*1)∧Z9 (cI M) (b*1)≤1000)(hi1:i≤3)(hi2:True)(hqse23_1:(Y2 i 3)=true):Y7 zP0q 25 O2 ((a7U E L M X Y i u ul y yl z)) (BaseW.H (bw v 2 eb ec) hs) (a4j 2 (Hd.AfterB zP0q 25 1 a59 (bw v 2 eb ec) (Hd.StepC zP0q 25 0 (fun i:{i:Nat // i≤3∧True}=>⟨[(2,(.ptr 2 0)),(3,(.ptr 3 0)),(4,(.ptr 4 0)),(5,(.ptr 5 0)),(8,(nI0 i.1))],[],6,[(Q5 X Y u ul),(Q3 E L M y yl z),(P5 E L M y yl z),P4,Q1,(5,(.cells (cI (tI (w8 (U6 (Y6 X) (cI Y) (cI M)) L.length i.1) 3)) 82))]⟩) (fun i:{i:Nat // i≤3∧True}=>3 - i.1) a2Q (bw v 2 eb ec) (T4 zP0q Try.f79 25 ((.agg [nI0 (V5 (U6 (Y6 X) (cI Y) (cI M) 0) L.length),nI0 (V5 (U6 (Y6 X) (cI Y) (cI M) 1) L.length),nI0 (V5 (U6 (Y6 X) (cI Y) (cI M) 2) L.length)])) [(G3 X Y u ul),(G4 E L M y yl z)] (bw v 2 eb ec)) (⟨i,hi1,hi2⟩:{i:Nat // i≤3∧True})))):=by
 exact c7O hn8 hx3 hxr hy hm hx1 hy1 hm1 hi1 hi2 hqse23_1
theorem c6e(hn8:L.length≤8)(hx3:X.length=3)(hxr:∀ i,i<3→T5 (Y6 X) (i*1)=L.length)(hy:Y.length=L.length)(hm:M.length=L.length)(hx1:∀ i,i<3→∀ b,b<L.length→0≤Z9 (W9 (Y6 X) (i*1)) (b*1)∧Z9 (W9 (Y6 X) (i*1)) (b*1)≤100)(hy1:∀ b,b<L.length→0≤Z9 (cI Y) (b*1)∧Z9 (cI Y) (b*1)≤100)(hm1:∀ b,b<L.length→0≤Z9 (cI M) (b*1)∧Z9 (cI M) (b*1)≤1000)(hi1:i≤3)(hi2:True)(hqse23_1:(Y2 i 3)=true):Y7 zP0q 25 b7u ((a7U E L M X Y i u ul y yl z)) (BaseW.H (bw v 2 eb ec) hs) (Hd.AfterB zP0q 25 1 a59 (bw v 2 eb ec) (Hd.StepC zP0q 25 0 (fun i:{i:Nat // i≤3∧True}=>⟨[(2,(.ptr 2 0)),(3,(.ptr 3 0)),(4,(.ptr 4 0)),(5,(.ptr 5 0)),(8,(nI0 i.1))],[],6,[(Q5 X Y u ul),(Q3 E L M y yl z),(P5 E L M y yl z),P4,Q1,(5,(.cells (cI (tI (w8 (U6 (Y6 X) (cI Y) (cI M)) L.length i.1) 3)) 82))]⟩) (fun i:{i:Nat // i≤3∧True}=>3 - i.1) a2Q (bw v 2 eb ec) (T4 zP0q Try.f79 25 ((.agg [nI0 (V5 (U6 (Y6 X) (cI Y) (cI M) 0) L.length),nI0 (V5 (U6 (Y6 X) (cI Y) (cI M) 1) L.length),nI0 (V5 (U6 (Y6 X) (cI Y) (cI M) 2) L.length)])) [(G3 X Y u ul),(G4 E L M y yl z)] (bw v 2 eb ec)) (⟨i,hi1,hi2⟩:{i:Nat // i≤3∧True}))):=by
 exact a87 (id:=2) (by kernel_rfl) (by kernel_rfl) (c7u hn8 hx3 hxr hy hm hx1 hy1 hm1 hi1 hi2 hqse23_1)
theorem c5b(hn8:L.length≤8)(hx3:X.length=3)(hxr:∀ i,i<3→T5 (Y6 X) (i*1)=L.length)(hy:Y.length=L.length)(hm:M.length=L.length)(hx1:∀ i,i<3→∀ b,b<L.length→0≤Z9 (W9 (Y6 X) (i*1)) (b*1)∧Z9 (W9 (Y6 X) (i*1)) (b*1)≤100)(hy1:∀ b,b<L.length→0≤Z9 (cI Y) (b*1)∧Z9 (cI Y) (b*1)≤100)(hm1:∀ b,b<L.length→0≤Z9 (cI M) (b*1)∧Z9 (cI M) (b*1)≤1000)(hi1:i≤3)(hi2:True)(hqse23_1:(Y2 i 3)=true):Y7 zP0q 25 b7u ((a7U E L M X Y i u ul y yl z)) (BaseW.H (bw v 2 eb ec) hs) (Hd.AfterB zP0q 25 1 a59 (bw v 2 eb ec) (Hd.StepC zP0q 25 0 (fun i:{i:Nat // i≤3∧True}=>⟨[(2,(.ptr 2 0)),(3,(.ptr 3 0)),(4,(.ptr 4 0)),(5,(.ptr 5 0)),(8,(nI0 i.1))],[],6,[(Q5 X Y u ul),(Q3 E L M y yl z),(P5 E L M y yl z),P4,Q1,(5,(.cells (cI (tI (w8 (U6 (Y6 X) (cI Y) (cI M)) L.length i.1) 3)) 82))]⟩) (fun i:{i:Nat // i≤3∧True}=>3 - i.1) a2Q (bw v 2 eb ec) (T4 zP0q Try.f79 25 ((.agg [nI0 (V5 (U6 (Y6 X) (cI Y) (cI M) 0) L.length),nI0 (V5 (U6 (Y6 X) (cI Y) (cI M) 1) L.length),nI0 (V5 (U6 (Y6 X) (cI Y) (cI M) 2) L.length)])) [(G3 X Y u ul),(G4 E L M y yl z)] (bw v 2 eb ec)) (⟨i,hi1,hi2⟩:{i:Nat // i≤3∧True}))):=by
 exact c6e hn8 hx3 hxr hy hm hx1 hy1 hm1 hi1 hi2 hqse23_1
theorem c6o(hn8:L.length≤8)(hx3:X.length=3)(hxr:∀ i,i<3→T5 (Y6 X) (i*1)=L.length)(hy:Y.length=L.length)(hm:M.length=L.length)(hx1:∀ i,i<3→∀ b,b<L.length→0≤Z9 (W9 (Y6 X) (i*1)) (b*1)∧Z9 (W9 (Y6 X) (i*1)) (b*1)≤100)(hy1:∀ b,b<L.length→0≤Z9 (cI Y) (b*1)∧Z9 (cI Y) (b*1)≤100)(hm1:∀ b,b<L.length→0≤Z9 (cI M) (b*1)∧Z9 (cI M) (b*1)≤1000)(hi1:i≤3)(hi2:True)(hqse23_1:(Y2 i 3)=true):Y7 zP0q 25 b9S ((c0l E L M X Y i u ul y yl z)) (BaseW.H (bw v 2 eb ec) hs) (Hd.AfterB zP0q 25 1 a59 (bw v 2 eb ec) (Hd.StepC zP0q 25 0 (fun i:{i:Nat // i≤3∧True}=>⟨[(2,(.ptr 2 0)),(3,(.ptr 3 0)),(4,(.ptr 4 0)),(5,(.ptr 5 0)),(8,(nI0 i.1))],[],6,[(Q5 X Y u ul),(Q3 E L M y yl z),(P5 E L M y yl z),P4,Q1,(5,(.cells (cI (tI (w8 (U6 (Y6 X) (cI Y) (cI M)) L.length i.1) 3)) 82))]⟩) (fun i:{i:Nat // i≤3∧True}=>3 - i.1) a2Q (bw v 2 eb ec) (T4 zP0q Try.f79 25 ((.agg [nI0 (V5 (U6 (Y6 X) (cI Y) (cI M) 0) L.length),nI0 (V5 (U6 (Y6 X) (cI Y) (cI M) 1) L.length),nI0 (V5 (U6 (Y6 X) (cI Y) (cI M) 2) L.length)])) [(G3 X Y u ul),(G4 E L M y yl z)] (bw v 2 eb ec)) (⟨i,hi1,hi2⟩:{i:Nat // i≤3∧True}))):=by
 have hcl_L:=Z7 L
 have hcl_Y:=Z4 Y
 have hcl_M:=Z4 M
 have ghqse23_1:=X5 hqse23_1
 refine Hd.goes_seqA (by kernel_rfl) ?_
 exact Z8 W4 (Z6 zC0q (F5) 200 (T':=(a7U E L M X Y i u ul y yl z)) (e:=.normal) (ps:=[]) (gH 5 []) (by kernel_rfl) (by kernel_rfl) trivial rfl) (Hd.en_n (c5b hn8 hx3 hxr hy hm hx1 hy1 hm1 hi1 hi2 hqse23_1))
theorem c6j(hn8:L.length≤8)(hx3:X.length=3)(hxr:∀ i,i<3→T5 (Y6 X) (i*1)=L.length)(hy:Y.length=L.length)(hm:M.length=L.length)(hx1:∀ i,i<3→∀ b,b<L.length→0≤Z9 (W9 (Y6 X) (i*1)) (b*1)∧Z9 (W9 (Y6 X) (i*1)) (b*1)≤100)(hy1:∀ b,b<L.length→0≤Z9 (cI Y) (b*1)∧Z9 (cI Y) (b*1)≤100)(hm1:∀ b,b<L.length→0≤Z9 (cI M) (b*1)∧Z9 (cI M) (b*1)≤1000)(hi1:i≤3)(hi2:True)(hqse23_1:(Y2 i 3)=true):Y7 zP0q 25 b9U ((b3Q E L M X Y i u ul y yl z)) (BaseW.H (bw v 2 eb ec) hs) (Hd.AfterB zP0q 25 1 a59 (bw v 2 eb ec) (Hd.StepC zP0q 25 0 (fun i:{i:Nat // i≤3∧True}=>⟨[(2,(.ptr 2 0)),(3,(.ptr 3 0)),(4,(.ptr 4 0)),(5,(.ptr 5 0)),(8,(nI0 i.1))],[],6,[(Q5 X Y u ul),(Q3 E L M y yl z),(P5 E L M y yl z),P4,Q1,(5,(.cells (cI (tI (w8 (U6 (Y6 X) (cI Y) (cI M)) L.length i.1) 3)) 82))]⟩) (fun i:{i:Nat // i≤3∧True}=>3 - i.1) a2Q (bw v 2 eb ec) (T4 zP0q Try.f79 25 ((.agg [nI0 (V5 (U6 (Y6 X) (cI Y) (cI M) 0) L.length),nI0 (V5 (U6 (Y6 X) (cI Y) (cI M) 1) L.length),nI0 (V5 (U6 (Y6 X) (cI Y) (cI M) 2) L.length)])) [(G3 X Y u ul),(G4 E L M y yl z)] (bw v 2 eb ec)) (⟨i,hi1,hi2⟩:{i:Nat // i≤3∧True}))):=by
 have hcl_L:=Z7 L
 have hcl_Y:=Z4 Y
 have hcl_M:=Z4 M
 have ghqse23_1:=X5 hqse23_1
 refine Hd.goes_seqA (by kernel_rfl) ?_
 exact Z8 W4 (Z6 zC0q (F5) 200 (T':=(c0l E L M X Y i u ul y yl z)) (e:=.normal) (ps:=[]) [.go,.go,.go] (by kernel_rfl) (by kernel_rfl) trivial rfl) (Hd.en_n (c6o hn8 hx3 hxr hy hm hx1 hy1 hm1 hi1 hi2 hqse23_1))
theorem c4m(hn8:L.length≤8)(hx3:X.length=3)(hxr:∀ i,i<3→T5 (Y6 X) (i*1)=L.length)(hy:Y.length=L.length)(hm:M.length=L.length)(hx1:∀ i,i<3→∀ b,b<L.length→0≤Z9 (W9 (Y6 X) (i*1)) (b*1)∧Z9 (W9 (Y6 X) (i*1)) (b*1)≤100)(hy1:∀ b,b<L.length→0≤Z9 (cI Y) (b*1)∧Z9 (cI Y) (b*1)≤100)(hm1:∀ b,b<L.length→0≤Z9 (cI M) (b*1)∧Z9 (cI M) (b*1)≤1000)(hi1:i≤3)(hi2:True)(hqse23_1:(Y2 i 3)=true):Y7 zP0q 25 (f9 b3a) ((b3Q E L M X Y i u ul y yl z)) (BaseW.H (bw v 2 eb ec) hs) (Hd.AfterN zP0q 25 a59 (bw v 2 eb ec) (Hd.StepC zP0q 25 0 (fun i:{i:Nat // i≤3∧True}=>⟨[(2,(.ptr 2 0)),(3,(.ptr 3 0)),(4,(.ptr 4 0)),(5,(.ptr 5 0)),(8,(nI0 i.1))],[],6,[(Q5 X Y u ul),(Q3 E L M y yl z),(P5 E L M y yl z),P4,Q1,(5,(.cells (cI (tI (w8 (U6 (Y6 X) (cI Y) (cI M)) L.length i.1) 3)) 82))]⟩) (fun i:{i:Nat // i≤3∧True}=>3 - i.1) a2Q (bw v 2 eb ec) (T4 zP0q Try.f79 25 ((.agg [nI0 (V5 (U6 (Y6 X) (cI Y) (cI M) 0) L.length),nI0 (V5 (U6 (Y6 X) (cI Y) (cI M) 1) L.length),nI0 (V5 (U6 (Y6 X) (cI Y) (cI M) 2) L.length)])) [(G3 X Y u ul),(G4 E L M y yl z)] (bw v 2 eb ec)) (⟨i,hi1,hi2⟩:{i:Nat // i≤3∧True}))):=by
 exact Hd.goes_blkA (id:=1) (by kernel_rfl) (by kernel_rfl) (c6j hn8 hx3 hxr hy hm hx1 hy1 hm1 hi1 hi2 hqse23_1)
theorem c6K(hn8:L.length≤8)(hx3:X.length=3)(hxr:∀ i,i<3→T5 (Y6 X) (i*1)=L.length)(hy:Y.length=L.length)(hm:M.length=L.length)(hx1:∀ i,i<3→∀ b,b<L.length→0≤Z9 (W9 (Y6 X) (i*1)) (b*1)∧Z9 (W9 (Y6 X) (i*1)) (b*1)≤100)(hy1:∀ b,b<L.length→0≤Z9 (cI Y) (b*1)∧Z9 (cI Y) (b*1)≤100)(hm1:∀ b,b<L.length→0≤Z9 (cI M) (b*1)∧Z9 (cI M) (b*1)≤1000)(hi1:i≤3)(hi2:True)(hqse23_1:(Y2 i 3)=true):Y7 zP0q 25 b3a ((b3Q E L M X Y i u ul y yl z)) (BaseW.H (bw v 2 eb ec) hs) (Hd.StepC zP0q 25 0 (fun i:{i:Nat // i≤3∧True}=>⟨[(2,(.ptr 2 0)),(3,(.ptr 3 0)),(4,(.ptr 4 0)),(5,(.ptr 5 0)),(8,(nI0 i.1))],[],6,[(Q5 X Y u ul),(Q3 E L M y yl z),(P5 E L M y yl z),P4,Q1,(5,(.cells (cI (tI (w8 (U6 (Y6 X) (cI Y) (cI M)) L.length i.1) 3)) 82))]⟩) (fun i:{i:Nat // i≤3∧True}=>3 - i.1) a2Q (bw v 2 eb ec) (T4 zP0q Try.f79 25 ((.agg [nI0 (V5 (U6 (Y6 X) (cI Y) (cI M) 0) L.length),nI0 (V5 (U6 (Y6 X) (cI Y) (cI M) 1) L.length),nI0 (V5 (U6 (Y6 X) (cI Y) (cI M) 2) L.length)])) [(G3 X Y u ul),(G4 E L M y yl z)] (bw v 2 eb ec)) (⟨i,hi1,hi2⟩:{i:Nat // i≤3∧True})):=by
 exact Hd.goes_seqA (by kernel_rfl) (c4m hn8 hx3 hxr hy hm hx1 hy1 hm1 hi1 hi2 hqse23_1)
theorem c5p(hn8:L.length≤8)(hx3:X.length=3)(hxr:∀ i,i<3→T5 (Y6 X) (i*1)=L.length)(hy:Y.length=L.length)(hm:M.length=L.length)(hx1:∀ i,i<3→∀ b,b<L.length→0≤Z9 (W9 (Y6 X) (i*1)) (b*1)∧Z9 (W9 (Y6 X) (i*1)) (b*1)≤100)(hy1:∀ b,b<L.length→0≤Z9 (cI Y) (b*1)∧Z9 (cI Y) (b*1)≤100)(hm1:∀ b,b<L.length→0≤Z9 (cI M) (b*1)∧Z9 (cI M) (b*1)≤1000)(h0b:True)(hqse23_1:(Y2 3 3)=false):Y7 zP0q 25 a2Q ((b88 E L M X Y u ul y yl z)) (BaseW.H (bw v 2 eb ec) hs) (T4 zP0q Try.f79 25 ((.agg [nI0 (V5 (U6 (Y6 X) (cI Y) (cI M) 0) L.length),nI0 (V5 (U6 (Y6 X) (cI Y) (cI M) 1) L.length),nI0 (V5 (U6 (Y6 X) (cI Y) (cI M) 2) L.length)])) [(G3 X Y u ul),(G4 E L M y yl z)] (bw v 2 eb ec)):=by
 have hcl_L:=Z7 L
 have hcl_Y:=Z4 Y
 have hcl_M:=Z4 M
 have ghqse23_1:=Z5 hqse23_1
 exact Z8 U9 (O5 zC0q (F5) 200 (T':=⟨[(4,(.ptr 2 0))],[],3,[(Q5 X Y u ul),(Q3 E L M y yl z),(2,(b5d L M X Y))]⟩) (e:=.ret) (m:=6) (ps:=[W7 zP0q (cI (tI (w8 (U6 (Y6 X) (cI Y) (cI M)) L.length 3) 3)) 0 82=some (AV.agg [AV.v (Value.int IntKind.i64 (Z9 (cI (tI (w8 (U6 (Y6 X) (cI Y) (cI M)) L.length 3) 3)) 0)),AV.v (Value.int IntKind.i64 (Z9 (cI (tI (w8 (U6 (Y6 X) (cI Y) (cI M)) L.length 3) 3)) (0+1))),AV.v (Value.int IntKind.i64 (Z9 (cI (tI (w8 (U6 (Y6 X) (cI Y) (cI M)) L.length 3) 3)) (0+1+1)))])]) [.sym,.go] [0,1,4] [(.ptr 4 0)] [(a8I X Y u ul),(a2R E L M y yl z),(b5d L M X Y)] (by kernel_rfl) (by kernel_rfl) ⟨(by rw [a27];kernel_rfl),trivial⟩ rfl rfl (by decide) rfl ⟨V0 rfl,trivial⟩ ⟨⟨by show 0<3;decide,X6 (Z3 (S5 (W8 (I8 _))) (Z3 (N8 (Y4 (Z2 Y))) (Y0)))⟩,⟨by show 1<3;decide,X6 (Z3 (S5 (W8 (X9 _))) (Z3 (N8 (Y4 (X4 L))) (Z3 (a07 (Z3 (N8 (Y4 (Z2 M))) (Y0)) (Y0)) (Y0))))⟩,⟨by show 2<3;decide,X6 (Z3 (N7 _) (Z3 (N7 _) (Z3 (N7 _) (Y0))))⟩,trivial⟩ (by show 2≤3;decide) (fun b hb=>(by have hb2:b<2:=hb;match b,hb2 with|0,_=>rfl|1,_=>rfl))) (k8 (r:=(.agg [(nI0 (Z9 (cI (tI (w8 (U6 (Y6 X) (cI Y) (cI M)) L.length 3) 3)) 0)),(nI0 (Z9 (cI (tI (w8 (U6 (Y6 X) (cI Y) (cI M)) L.length 3) 3)) (0+1))),(nI0 (Z9 (cI (tI (w8 (U6 (Y6 X) (cI Y) (cI M)) L.length 3) 3)) (0+1+1)))])) (ys:=[(a8I X Y u ul),(a2R E L M y yl z)]) (by (rw [a27];rfl)) (by rfl) (z5 (by kernel_rfl) (by kernel_rfl) rfl (.inr rfl)))
theorem c4p(hn8:L.length≤8)(hx3:X.length=3)(hxr:∀ i,i<3→T5 (Y6 X) (i*1)=L.length)(hy:Y.length=L.length)(hm:M.length=L.length)(hx1:∀ i,i<3→∀ b,b<L.length→0≤Z9 (W9 (Y6 X) (i*1)) (b*1)∧Z9 (W9 (Y6 X) (i*1)) (b*1)≤100)(hy1:∀ b,b<L.length→0≤Z9 (cI Y) (b*1)∧Z9 (cI Y) (b*1)≤100)(hm1:∀ b,b<L.length→0≤Z9 (cI M) (b*1)∧Z9 (cI M) (b*1)≤1000)(hi1:i≤3)(hi2:True):Y7 zP0q 25 c0S ((b9E E L M X Y i u ul y yl z)) (BaseW.H (bw v 2 eb ec) hs) (Hd.StepC zP0q 25 0 (fun i:{i:Nat // i≤3∧True}=>⟨[(2,(.ptr 2 0)),(3,(.ptr 3 0)),(4,(.ptr 4 0)),(5,(.ptr 5 0)),(8,(nI0 i.1))],[],6,[(Q5 X Y u ul),(Q3 E L M y yl z),(P5 E L M y yl z),P4,Q1,(5,(.cells (cI (tI (w8 (U6 (Y6 X) (cI Y) (cI M)) L.length i.1) 3)) 82))]⟩) (fun i:{i:Nat // i≤3∧True}=>3 - i.1) a2Q (bw v 2 eb ec) (T4 zP0q Try.f79 25 ((.agg [nI0 (V5 (U6 (Y6 X) (cI Y) (cI M) 0) L.length),nI0 (V5 (U6 (Y6 X) (cI Y) (cI M) 1) L.length),nI0 (V5 (U6 (Y6 X) (cI Y) (cI M) 2) L.length)])) [(G3 X Y u ul),(G4 E L M y yl z)] (bw v 2 eb ec)) (⟨i,hi1,hi2⟩:{i:Nat // i≤3∧True})):=by
 have hcl_L:=Z7 L
 have hcl_Y:=Z4 Y
 have hcl_M:=Z4 M
 refine Hd.goes_seqA (by kernel_rfl) ?_
 rcases zB0q (Y2 i 3) with hqse23_1|hqse23_1
 ·have ghqse23_1:=X5 hqse23_1
  exact Z8 W4 (Z6 zC0q (F5) 200 (T':=(b3Q E L M X Y i u ul y yl z)) (e:=.normal) (ps:=[Y2 i 3=true]) [.b true] (by kernel_rfl) (by kernel_rfl) ⟨hqse23_1,trivial⟩ rfl) (Hd.en_n (c6K hn8 hx3 hxr hy hm hx1 hy1 hm1 hi1 hi2 hqse23_1))
 ·have ghqse23_1:=Z5 hqse23_1
  obtain rfl:3=i:=by omega
  exact Z8 A8 (Z6 zC0q (F5) 200 (T':=(b88 E L M X Y u ul y yl z)) (e:=.exit 0) (ps:=[Y2 3 3=false]) [.b false] (by kernel_rfl) (by kernel_rfl) ⟨hqse23_1,trivial⟩ rfl) (Hd.en_o (by intro h;cases h) (Hd.en_sx (c5p hn8 hx3 hxr hy hm hx1 hy1 hm1 hi2 hqse23_1)))
theorem c7q(hn8:L.length≤8)(hx3:X.length=3)(hxr:∀ i,i<3→T5 (Y6 X) (i*1)=L.length)(hy:Y.length=L.length)(hm:M.length=L.length)(hx1:∀ i,i<3→∀ b,b<L.length→0≤Z9 (W9 (Y6 X) (i*1)) (b*1)∧Z9 (W9 (Y6 X) (i*1)) (b*1)≤100)(hy1:∀ b,b<L.length→0≤Z9 (cI Y) (b*1)∧Z9 (cI Y) (b*1)≤100)(hm1:∀ b,b<L.length→0≤Z9 (cI M) (b*1)∧Z9 (cI M) (b*1)≤1000)(hi1:i≤3)(hi2:True):Y7 zP0q 25 c0d (⟨[(2,(.ptr 2 0)),(3,(.ptr 3 0)),(4,(.ptr 4 0)),(5,(.ptr 5 0)),(8,(nI0 i))],[],6,[(Q5 X Y u ul),(Q3 E L M y yl z),(P5 E L M y yl z),P4,Q1,(j8 L M X Y i)]⟩) (BaseW.H (bw v 2 eb ec) hs) (Hd.StepC zP0q 25 0 (fun i:{i:Nat // i≤3∧True}=>⟨[(2,(.ptr 2 0)),(3,(.ptr 3 0)),(4,(.ptr 4 0)),(5,(.ptr 5 0)),(8,(nI0 i.1))],[],6,[(Q5 X Y u ul),(Q3 E L M y yl z),(P5 E L M y yl z),P4,Q1,(5,(.cells (cI (tI (w8 (U6 (Y6 X) (cI Y) (cI M)) L.length i.1) 3)) 82))]⟩) (fun i:{i:Nat // i≤3∧True}=>3 - i.1) a2Q (bw v 2 eb ec) (T4 zP0q Try.f79 25 ((.agg [nI0 (V5 (U6 (Y6 X) (cI Y) (cI M) 0) L.length),nI0 (V5 (U6 (Y6 X) (cI Y) (cI M) 1) L.length),nI0 (V5 (U6 (Y6 X) (cI Y) (cI M) 2) L.length)])) [(G3 X Y u ul),(G4 E L M y yl z)] (bw v 2 eb ec)) (⟨i,hi1,hi2⟩:{i:Nat // i≤3∧True})):=by
 have hcl_L:=Z7 L
 have hcl_Y:=Z4 Y
 have hcl_M:=Z4 M
 refine Hd.goes_seqA (by kernel_rfl) ?_
 exact Z8 W4 (Z6 zC0q (F5) 200 (T':=(b9E E L M X Y i u ul y yl z)) (e:=.normal) (ps:=[]) [.go] (by kernel_rfl) (by kernel_rfl) trivial rfl) (Hd.en_n (c4p hn8 hx3 hxr hy hm hx1 hy1 hm1 hi1 hi2))
theorem c4n(hn8:L.length≤8)(hx3:X.length=3)(hxr:∀ i,i<3→T5 (Y6 X) (i*1)=L.length)(hy:Y.length=L.length)(hm:M.length=L.length)(hx1:∀ i,i<3→∀ b,b<L.length→0≤Z9 (W9 (Y6 X) (i*1)) (b*1)∧Z9 (W9 (Y6 X) (i*1)) (b*1)≤100)(hy1:∀ b,b<L.length→0≤Z9 (cI Y) (b*1)∧Z9 (cI Y) (b*1)≤100)(hm1:∀ b,b<L.length→0≤Z9 (cI M) (b*1)∧Z9 (cI M) (b*1)≤1000):Y7 zP0q 25 b7i ((b3Z E L M X Y u ul y yl z)) (BaseW.H (bw v 2 eb ec) hs) (Hd.AfterN zP0q 25 a2Q (bw v 2 eb ec) (T4 zP0q Try.f79 25 ((.agg [nI0 (V5 (U6 (Y6 X) (cI Y) (cI M) 0) L.length),nI0 (V5 (U6 (Y6 X) (cI Y) (cI M) 1) L.length),nI0 (V5 (U6 (Y6 X) (cI Y) (cI M) 2) L.length)])) [(G3 X Y u ul),(G4 E L M y yl z)] (bw v 2 eb ec))):=by
 have hcl_L:=Z7 L
 have hcl_Y:=Z4 Y
 have hcl_M:=Z4 M
 rw [show ((b3Z E L M X Y u ul y yl z):Ev.Lit)=⟨[(2,(.ptr 2 0)),(3,(.ptr 3 0)),(4,(.ptr 4 0)),(5,(.ptr 5 0)),(8,(nI0 0))],[],6,[(Q5 X Y u ul),(Q3 E L M y yl z),(P5 E L M y yl z),P4,Q1,(5,(.cells (cI (tI (w8 (U6 (Y6 X) (cI Y) (cI M)) L.length 0) 3)) 82))]⟩ from by (rw [b0T];rfl)]
 exact Hd.goes_loopA (id:=0) (by kernel_rfl) (by kernel_rfl) (fun i:{i:Nat // i≤3∧True}=>⟨[(2,(.ptr 2 0)),(3,(.ptr 3 0)),(4,(.ptr 4 0)),(5,(.ptr 5 0)),(8,(nI0 i.1))],[],6,[(Q5 X Y u ul),(Q3 E L M y yl z),(P5 E L M y yl z),P4,Q1,(5,(.cells (cI (tI (w8 (U6 (Y6 X) (cI Y) (cI M)) L.length i.1) 3)) 82))]⟩) (fun i:{i:Nat // i≤3∧True}=>3 - i.1) (fun ix_ hs=>c7q hn8 hx3 hxr hy hm hx1 hy1 hm1 ix_.2.1 ix_.2.2) ⟨0,Nat.zero_le _,trivial⟩ hs
theorem c7K(hn8:L.length≤8)(hx3:X.length=3)(hxr:∀ i,i<3→T5 (Y6 X) (i*1)=L.length)(hy:Y.length=L.length)(hm:M.length=L.length)(hx1:∀ i,i<3→∀ b,b<L.length→0≤Z9 (W9 (Y6 X) (i*1)) (b*1)∧Z9 (W9 (Y6 X) (i*1)) (b*1)≤100)(hy1:∀ b,b<L.length→0≤Z9 (cI Y) (b*1)∧Z9 (cI Y) (b*1)≤100)(hm1:∀ b,b<L.length→0≤Z9 (cI M) (b*1)∧Z9 (cI M) (b*1)≤1000):Y7 zP0q 25 b7i ((b3Z E L M X Y u ul y yl z)) (BaseW.H (bw v 2 eb ec) hs) (Hd.AfterN zP0q 25 a2Q (bw v 2 eb ec) (T4 zP0q Try.f79 25 ((.agg [nI0 (V5 (U6 (Y6 X) (cI Y) (cI M) 0) L.length),nI0 (V5 (U6 (Y6 X) (cI Y) (cI M) 1) L.length),nI0 (V5 (U6 (Y6 X) (cI Y) (cI M) 2) L.length)])) [(G3 X Y u ul),(G4 E L M y yl z)] (bw v 2 eb ec))):=by
 exact c4n hn8 hx3 hxr hy hm hx1 hy1 hm1
theorem c8q(hn8:L.length≤8)(hx3:X.length=3)(hxr:∀ i,i<3→T5 (Y6 X) (i*1)=L.length)(hy:Y.length=L.length)(hm:M.length=L.length)(hx1:∀ i,i<3→∀ b,b<L.length→0≤Z9 (W9 (Y6 X) (i*1)) (b*1)∧Z9 (W9 (Y6 X) (i*1)) (b*1)≤100)(hy1:∀ b,b<L.length→0≤Z9 (cI Y) (b*1)∧Z9 (cI Y) (b*1)≤100)(hm1:∀ b,b<L.length→0≤Z9 (cI M) (b*1)∧Z9 (cI M) (b*1)≤1000):Y7 zP0q 25 c08 ((b2a E L M X Y u ul y yl z)) (BaseW.H (bw v 2 eb ec) hs) (Hd.AfterN zP0q 25 a2Q (bw v 2 eb ec) (T4 zP0q Try.f79 25 ((.agg [nI0 (V5 (U6 (Y6 X) (cI Y) (cI M) 0) L.length),nI0 (V5 (U6 (Y6 X) (cI Y) (cI M) 1) L.length),nI0 (V5 (U6 (Y6 X) (cI Y) (cI M) 2) L.length)])) [(G3 X Y u ul),(G4 E L M y yl z)] (bw v 2 eb ec))):=by
 have hcl_L:=Z7 L
 have hcl_Y:=Z4 Y
 have hcl_M:=Z4 M
 refine Hd.goes_seqA (by kernel_rfl) ?_
 exact Z8 W4 (Z6 zC0q (F5) 200 (T':=(b3Z E L M X Y u ul y yl z)) (e:=.normal) (ps:=[]) [.go] (by kernel_rfl) (by kernel_rfl) trivial rfl) (Hd.en_n (c7K hn8 hx3 hxr hy hm hx1 hy1 hm1))
theorem c8V(hn8:L.length≤8)(hx3:X.length=3)(hxr:∀ i,i<3→T5 (Y6 X) (i*1)=L.length)(hy:Y.length=L.length)(hm:M.length=L.length)(hx1:∀ i,i<3→∀ b,b<L.length→0≤Z9 (W9 (Y6 X) (i*1)) (b*1)∧Z9 (W9 (Y6 X) (i*1)) (b*1)≤100)(hy1:∀ b,b<L.length→0≤Z9 (cI Y) (b*1)∧Z9 (cI Y) (b*1)≤100)(hm1:∀ b,b<L.length→0≤Z9 (cI M) (b*1)∧Z9 (cI M) (b*1)≤1000):Y7 zP0q 25 c1M ((b2a E L M X Y u ul y yl z)) (BaseW.H (bw v 2 eb ec) hs) (T4 zP0q Try.f79 25 ((.agg [nI0 (V5 (U6 (Y6 X) (cI Y) (cI M) 0) L.length),nI0 (V5 (U6 (Y6 X) (cI Y) (cI M) 1) L.length),nI0 (V5 (U6 (Y6 X) (cI Y) (cI M) 2) L.length)])) [(G3 X Y u ul),(G4 E L M y yl z)] (bw v 2 eb ec)):=by
 exact Hd.goes_seqA (by kernel_rfl) (c8q hn8 hx3 hxr hy hm hx1 hy1 hm1)
theorem c8K(hn8:L.length≤8)(hx3:X.length=3)(hxr:∀ i,i<3→T5 (Y6 X) (i*1)=L.length)(hy:Y.length=L.length)(hm:M.length=L.length)(hx1:∀ i,i<3→∀ b,b<L.length→0≤Z9 (W9 (Y6 X) (i*1)) (b*1)∧Z9 (W9 (Y6 X) (i*1)) (b*1)≤100)(hy1:∀ b,b<L.length→0≤Z9 (cI Y) (b*1)∧Z9 (cI Y) (b*1)≤100)(hm1:∀ b,b<L.length→0≤Z9 (cI M) (b*1)∧Z9 (cI M) (b*1)≤1000):Y7 zP0q 25 c4x ((b7X E L M X Y u ul y yl z)) (BaseW.H (bw v 2 eb ec) hs) (T4 zP0q Try.f79 25 ((.agg [nI0 (V5 (U6 (Y6 X) (cI Y) (cI M) 0) L.length),nI0 (V5 (U6 (Y6 X) (cI Y) (cI M) 1) L.length),nI0 (V5 (U6 (Y6 X) (cI Y) (cI M) 2) L.length)])) [(G3 X Y u ul),(G4 E L M y yl z)] (bw v 2 eb ec)):=by
 have hcl_L:=Z7 L
 have hcl_Y:=Z4 Y
 have hcl_M:=Z4 M
 refine Hd.goes_seqA (by kernel_rfl) ?_
 exact Z8 W4 (Z6 zC0q (F5) 200 (T':=(b2a E L M X Y u ul y yl z)) (e:=.normal) (ps:=[]) [.go] (by kernel_rfl) (by kernel_rfl) trivial rfl) (Hd.en_n (c8V hn8 hx3 hxr hy hm hx1 hy1 hm1))
end
theorem c9N(y:Value)(E:List (Value×List (Int×Int)))(yl:Value)(L:List (Int×Int))(u:Value)(X:List (Value×List Int))(ul:Value)(Y:List Int)(z:Value)(M:List Int)(hn8:L.length≤8)(hx3:X.length=3)(hxr:∀ i,i<3→T5 (Y6 X) (i*1)=L.length)(hy:Y.length=L.length)(hm:M.length=L.length)(hx1:∀ i,i<3→∀ b,b<L.length→0≤Z9 (W9 (Y6 X) (i*1)) (b*1)∧Z9 (W9 (Y6 X) (i*1)) (b*1)≤100)(hy1:∀ b,b<L.length→0≤Z9 (cI Y) (b*1)∧Z9 (cI Y) (b*1)≤100)(hm1:∀ b,b<L.length→0≤Z9 (cI M) (b*1)∧Z9 (cI M) (b*1)≤1000)(v:BaseW)(eb:Nat→Option Nat)(ec:Nat→Nat)(hs:List Nat):Y7 zP0q 25 c7Y (⟨[(0,(.agg (b28 E L M y yl z))),(1,(.fn (.func 80) [] [.ptr 0 0,.ptr 1 0]))],[],2,[(0,(G3 X Y u ul)),(1,(G4 E L M y yl z))]⟩) (BaseW.H (bw v 2 eb ec) hs) (T4 zP0q Try.f79 25 ((.agg [nI0 (V5 (U6 (Y6 X) (cI Y) (cI M) 0) L.length),nI0 (V5 (U6 (Y6 X) (cI Y) (cI M) 1) L.length),nI0 (V5 (U6 (Y6 X) (cI Y) (cI M) 2) L.length)])) [(G3 X Y u ul),(G4 E L M y yl z)] (bw v 2 eb ec)):=by
 have hcl_L:=Z7 L
 have hcl_Y:=Z4 Y
 have hcl_M:=Z4 M
 refine Hd.goes_seqA (by kernel_rfl) ?_
 exact Z8 W4 (Z6 zC0q (F5) 200 (T':=(b7X E L M X Y u ul y yl z)) (e:=.normal) (ps:=[]) [.go,.go,.go] (by kernel_rfl) (by kernel_rfl) trivial rfl) (Hd.en_n (c8K hn8 hx3 hxr hy hm hx1 hy1 hm1))
theorem c8O(y:Value)(E:List (Value×List (Int×Int)))(yl:Value)(L:List (Int×Int))(u:Value)(X:List (Value×List Int))(ul:Value)(Y:List Int)(z:Value)(M:List Int)(hn8:L.length≤8)(hx3:X.length=3)(hxr:∀ i,i<3→T5 (Y6 X) (i*1)=L.length)(hy:Y.length=L.length)(hm:M.length=L.length)(hx1:∀ i,i<3→∀ b,b<L.length→0≤Z9 (W9 (Y6 X) (i*1)) (b*1)∧Z9 (W9 (Y6 X) (i*1)) (b*1)≤100)(hy1:∀ b,b<L.length→0≤Z9 (cI Y) (b*1)∧Z9 (cI Y) (b*1)≤100)(hm1:∀ b,b<L.length→0≤Z9 (cI M) (b*1)∧Z9 (cI M) (b*1)≤1000):A3 zP0q 79 [(.agg (b28 E L M y yl z)),(.fn (.func 80) [] [.ptr 0 0,.ptr 1 0])] [(G3 X Y u ul),(G4 E L M y yl z)] ((.agg [nI0 (V5 (U6 (Y6 X) (cI Y) (cI M) 0) L.length),nI0 (V5 (U6 (Y6 X) (cI Y) (cI M) 1) L.length),nI0 (V5 (U6 (Y6 X) (cI Y) (cI M) 2) L.length)])) [(G3 X Y u ul),(G4 E L M y yl z)] :=
 L1 25 (by kernel_rfl) Try.func79 (by kernel_rfl) (by kernel_rfl) (by kernel_rfl) (fun v eb ec=>V6 (by kernel_rfl) (by kernel_rfl) (by kernel_rfl) (by kernel_rfl) (c9N y E yl L u X ul Y z M hn8 hx3 hxr hy hm hx1 hy1 hm1 v eb ec []))
end
end Go.Proofs.Ytegmogadbnfbgaa
namespace Go.Proofs.Ytegmogadbnfbgaa
open Go Ev
noncomputable section
def seS:List AV→List AB→Option ((AV×List AB)×List Prop):=fun args xs =>
 match args,xs with
 |[.agg [.xl y me k1 cE,.xl yl n k2 cL,.fn (.func f) lz lc],.fn (.func g) gl gc],[.cells l1 t1,.cells l2 t2]=>match l1,lz,lc,gl,gc with
  |[.xl u m k3 cX,.xl ul j k4 cY],[.xl z r k5 cM],[],[],[p,q]=>match Nat.beq f 78,Nat.beq g 80,a7u p 0,a7u q 1 with
   |true,true,true,true=>some ((.agg [.v (.int .i64 (V5 (U6 cX cY cM 0) n)),.v (.int .i64 (V5 (U6 cX cY cM 1) n)),.v (.int .i64 (V5 (U6 cX cY cM 2) n))],[.cells l1 t1,.cells l2 t2]),[a4S t1,a4V t2,U4 k1 cE me,Y3 k2 n cL,b2c k3 m k4 j k5 r cX cY cM n,n≤8,l2=[.xl y me k1 cE,.xl yl n k2 cL,.fn (.func f) lz lc]])
   |_,_,_,_=>none
  |_,_,_,_,_=>none
 |_,_=>none
def seO:O8:=a3D 79 seS
theorem b75:Known zP0q (clsO seO):=u9 (fun args xs r ys ps h hp=>by
 unfold seS at h
 split at h
 ·split at h
  ·split at h
   ·rename_i e1 e2 e3 e4
    cases h
    obtain ⟨rfl,rfl,⟨rfl,E,rfl,rfl⟩,⟨rfl,L,rfl,rfl⟩,⟨X,Y,M,⟨rfl,rfl,rfl⟩,⟨rfl,rfl,rfl⟩,⟨rfl,rfl,rfl⟩,h1,h2,h3,h4,h5,h6,h7⟩,h8,rfl,-⟩:=hp
    rw [a08 e3,a08 e4,Nat.eq_of_beq_eq_true e1,Nat.eq_of_beq_eq_true e2]
    exact ⟨a71 X Y E L M,a71 X Y E L M,c8O _ E _ L _ X _ Y _ M h8 h1 h2 h3 h4 h5 h6 h7⟩
   ·cases h
  ·cases h
 ·cases h)
noncomputable def c9r:Code:=O4 Try.f54
set_option maxHeartbeats 2000000 in
theorem d02(y:Value)(E:List (Value×List (Int×Int)))(yl:Value)(L:List (Int×Int))(u:Value)(X:List (Value×List Int))(ul:Value)(Y:List Int)(z:Value)(M:List Int)(hn8:L.length≤8)(hx3:X.length=3)(hxr:∀ i,i<3→T5 (Y6 X) (i*1)=L.length)(hy:Y.length=L.length)(hm:M.length=L.length)(hx1:∀ i,i<3→∀ b,b<L.length→0≤Z9 (W9 (Y6 X) (i*1)) (b*1)∧Z9 (W9 (Y6 X) (i*1)) (b*1)≤100)(hy1:∀ b,b<L.length→0≤Z9 (cI Y) (b*1)∧Z9 (cI Y) (b*1)≤100)(hm1:∀ b,b<L.length→0≤Z9 (cI M) (b*1)∧Z9 (cI M) (b*1)≤1000)(w:World)(hs:List Nat):Y7 zP0q 8 c9r (⟨[(0,(.agg [.xl y E.length 1 (Y5 E),.xl yl L.length 2 (cR L),(.fn (.func 78) [.xl z M.length 1 (cI M)] [])])),(1,(.agg [.xl u X.length 1 (Y6 X),.xl ul Y.length 1 (cI Y)]))],[],0,[]⟩) (BaseW.H w hs) (V8 zP0q Try.f54 8 (.agg #[.int .i64 (V5 (U6 (Y6 X) (cI Y) (cI M) 0) L.length),.int .i64 (V5 (U6 (Y6 X) (cI Y) (cI M) 1) L.length),.int .i64 (V5 (U6 (Y6 X) (cI Y) (cI M) 2) L.length)]) w):=by
 have hcl_L:=Z7 L
 have hcl_Y:=Z4 Y
 have hcl_M:=Z4 M
 exact Z8 U9 (Z6 zC0q (b75) 200 (T':=⟨[(4,(.ptr 2 0))],[],3,[(2,(.cells [(nI0 (V5 (U6 (Y6 X) (cI Y) (cI M) 0) L.length)),(nI0 (V5 (U6 (Y6 X) (cI Y) (cI M) 1) L.length)),(nI0 (V5 (U6 (Y6 X) (cI Y) (cI M) 2) L.length))] 82))]⟩) (e:=.ret) (ps:=[V4 (Y5 E),V4 (cR L),V4 (cI M),a4S 29,a4V 85,U4 1 (Y5 E) E.length,Y3 2 L.length (cR L),b2c 1 X.length 1 Y.length 1 M.length (Y6 X) (cI Y) (cI M) L.length,L.length≤8,(AV.agg [AV.xl y E.length 1 (Y5 E),AV.xl yl L.length 2 (cR L),AV.fn (Fn.func 78) [AV.xl z M.length 1 (cI M)] []]).cells=[AV.xl y E.length 1 (Y5 E),AV.xl yl L.length 2 (cR L),AV.fn (Fn.func 78) [AV.xl z M.length 1 (cI M)] []]]) (gH 6 []) (by kernel_rfl) (by kernel_rfl) ⟨(X9 E),(Y8 (X4 _)),(Y8 (Z2 _)),rfl,rfl,⟨rfl,E,rfl,rfl⟩,⟨rfl,L,rfl,rfl⟩,⟨X,Y,M,⟨rfl,rfl,rfl⟩,⟨rfl,rfl,rfl⟩,⟨rfl,rfl,rfl⟩,hx3,hxr,hy,hm,hx1,hy1,hm1⟩,hn8,rfl,trivial⟩ rfl) (Hd.en_eq (r:=.agg #[(.int .i64 (V5 (U6 (Y6 X) (cI Y) (cI M) 0) L.length)),(.int .i64 (V5 (U6 (Y6 X) (cI Y) (cI M) 1) L.length)),(.int .i64 (V5 (U6 (Y6 X) (cI Y) (cI M) 2) L.length))]) (by rfl) (Hd.en_ret (v:=(.agg [(nI0 (V5 (U6 (Y6 X) (cI Y) (cI M) 0) L.length)),(nI0 (V5 (U6 (Y6 X) (cI Y) (cI M) 1) L.length)),(nI0 (V5 (U6 (Y6 X) (cI Y) (cI M) 2) L.length))])) (by kernel_rfl) rfl))
theorem c9h(y:Value)(E:List (Value×List (Int×Int)))(yl:Value)(L:List (Int×Int))(u:Value)(X:List (Value×List Int))(ul:Value)(Y:List Int)(z:Value)(M:List Int)(hn8:L.length≤8)(hx3:X.length=3)(hxr:∀ i,i<3→T5 (Y6 X) (i*1)=L.length)(hy:Y.length=L.length)(hm:M.length=L.length)(hx1:∀ i,i<3→∀ b,b<L.length→0≤Z9 (W9 (Y6 X) (i*1)) (b*1)∧Z9 (W9 (Y6 X) (i*1)) (b*1)≤100)(hy1:∀ b,b<L.length→0≤Z9 (cI Y) (b*1)∧Z9 (cI Y) (b*1)≤100)(hm1:∀ b,b<L.length→0≤Z9 (cI M) (b*1)∧Z9 (cI M) (b*1)≤1000):GivesA zP0q 54 [(.agg [.xl y E.length 1 (Y5 E),.xl yl L.length 2 (cR L),(.fn (.func 78) [.xl z M.length 1 (cI M)] [])]),(.agg [.xl u X.length 1 (Y6 X),.xl ul Y.length 1 (cI Y)])] (.agg #[.int .i64 (V5 (U6 (Y6 X) (cI Y) (cI M) 0) L.length),.int .i64 (V5 (U6 (Y6 X) (cI Y) (cI M) 1) L.length),.int .i64 (V5 (U6 (Y6 X) (cI Y) (cI M) 2) L.length)]) :=
 U5 8 Try.func54 (by kernel_rfl) (by kernel_rfl) (by kernel_rfl) (fun w=>V6 (by kernel_rfl) (by kernel_rfl) (by kernel_rfl) (by kernel_rfl) (d02 y E yl L u X ul Y z M hn8 hx3 hxr hy hm hx1 hy1 hm1 w []))
end
end Go.Proofs.Ytegmogadbnfbgaa
namespace Go.Proofs.Ytegmogadbnfbgaa.Ev
open Go
noncomputable section
variable {P : Program}
theorem a42{σ:Env}{w:World}{s:HS}(hs:Sim s.H σ w){k:Nat}{a:AV}{v:Vw}{ps:List Prop}{x:Value}(h:b2n s k a=some (v,ps))(hp:F1 ps)(hx:den σ a=some x) :
  (v = .val x)∨(∃ n k' c,v = .lst n k' c∧∃ cs,denL σ c=some cs∧XOk w x n k' cs):=by
 have key:∀ {b o n q:Nat} {B:Nat} {l:List AV},σ.blk b=some B→s.cells b=some l→o+n*q≤l.length→∀ cap,n≤cap→∃ cs,denL σ ((l.drop o).take (n*q))=some cs∧XOk w (.slice (some ⟨B,o,none⟩) n cap) n q cs:=by
  intro b o n q B l hB hc hle cap hcap
  obtain ⟨B',vs,rest,t,h1,h2,h3⟩:=a0E hs hc
  rw [hB] at h1
  cases h1
  have hl:=P8 h2
  have e1:=f6 (n*q) (g4 o h2)
  have hlen:((vs.drop o).take (n*q)).length=n*q:=by simp;omega
  refine ⟨_,e1,some ⟨B,o,none⟩,cap,rfl,hcap,hlen,fun _=>⟨B,o,rfl,fun i hi=>?_⟩⟩
  rw [hlen] at hi
  have:w.cell? ⟨B,o+i,none⟩=(vs++rest)[o+i]?:=by simp [World.cell?,h3]
  rw [this,List.getElem?_append_left (by omega),List.getElem?_take_of_lt hi,List.getElem?_drop]
 unfold b2n at h
 split at h
 ·split at h
  ·rename_i y hy
   cases h
   rw [I2 hy] at hx
   cases hx
   exact .inl rfl
  ·cases h
 ·rename_i k
  split at h
  ·rename_i y n k' c
   split at h
   ·rename_i hb
    cases h
    have hb':=Nat.eq_of_beq_eq_true hb
    subst hb'
    obtain ⟨cs,h1,hok,rfl⟩:=a01 hx
    refine .inr ⟨n,_,c,rfl,cs,h1,?_⟩
    obtain ⟨ba,cap,q1,q2,q3,q4⟩:=hok
    refine ⟨ba,cap,q1,q2,q3,fun h0=>?_⟩
    obtain ⟨g,off,e1,e2⟩:=q4 h0
    refine ⟨g,off,e1,fun i hi=>?_⟩
    have:=e2 i hi
    rw [List.getElem?_eq_getElem hi] at this ⊢
    exact hs.cell this
   ·cases h
  ·rename_i b o n cp
   split at h
   ·rename_i l hl
    cases h
    simp only [den,Option.map_eq_some_iff] at hx
    obtain ⟨B,hB,rfl⟩:=hx
    exact .inr ⟨n,_,_,rfl,key hB hl hp.1 cp hp.2.1⟩
   ·cases h
  ·rename_i b o n d
   split at h
   ·rename_i l hl
    cases h
    obtain ⟨B,hB,rfl,hcap⟩:=u7 hx
    exact .inr ⟨n,_,_,rfl,key hB hl hp.1 _ hcap⟩
   ·cases h
  ·split at h
   ·split at h
    ·split at h
     ·cases h
      simp only [den,Option.some.injEq] at hx
      subst hx
      exact .inr ⟨0,_,[],rfl,[],rfl,none,_,rfl,Nat.zero_le _,by simp,fun h0=>absurd h0 (by simp)⟩
     ·cases h
    ·cases h
   ·cases h
  ·cases h
inductive Yv where
 |ext (a:AV)
 |lst (n k:Nat) (c:List AV)
 |lls (n k:Nat) (rows:List (Nat×List AV))
 |fnc (f:Fn) (cs:List AV)
inductive Ky where
 |ext
 |lst (k:Nat)
 |lls (k:Nat)
 |fnc
def a6v(s:HS):List AV→Option (List AV)
 |[]=>some []
 |a::l=>match a with
  |.ptr b o=>match Nat.beq o 0,s.cells b,a6v s l with
   |true,some c,some cs=>match c with
    |[x]=>some (x::cs)
    |_=>none
   |_,_,_=>none
  |_=>none
def mkC:List Value→List AV→List AV
 |z::zs,c::cs=>.xp z 1 1 [c] 0::mkC zs cs
 |_,_=>[]
def okC:List AV→Prop
 |[]=>True
 |c::l=>Ext c∧okC l
theorem a68{σ:Env}{w:World}{s:HS}(hs:Sim s.H σ w):∀ {l cs:List AV} {xs:List Value},a6v s l=some cs→denL σ l=some xs→okC cs→∃ zs,zs.length=cs.length∧denL (bare w) (mkC zs cs)=some xs
 |[],cs,xs,h,hx,hv=>by
  unfold a6v at h
  cases h
  cases hx
  exact ⟨[],rfl,rfl⟩
 |a::l,cs,xs,h,hx,hv=>by
  unfold a6v at h
  split at h
  ·rename_i b o
   split at h
   ·rename_i c cs' e0 e1 e2
    split at h
    ·rename_i x
     cases h
     rw [Nat.eq_of_beq_eq_true e0] at hx
     obtain ⟨B,vs,rest,t,g1,g2,g3⟩:=a0E hs e1
     simp only [denL] at hx g2
     cases d1:den σ x with
     |none=>rw [d1] at g2;cases g2
     |some v =>
      rw [d1] at g2
      cases g2
      cases d2:denL σ l with
      |none=>simp only [den,g1,d2,Option.map_some] at hx;cases hx
      |some us =>
       simp only [den,g1,d2,Option.map_some] at hx
       cases hx
       obtain ⟨zs,q1,q2⟩:=a68 hs e2 d2 hv.2
       have e3:denL (bare w) [x]=some [v]:=by simp only [denL,hv.1 s.H σ w v hs d1]
       refine ⟨.slice (some ⟨B,0,none⟩) 1 1::zs,by simp [q1],?_⟩
       have e4:den (bare w) (.xp (.slice (some ⟨B,0,none⟩) 1 1) 1 1 [x] 0)=some (.pointer (some ⟨B,0,none⟩)):=a1X (i:=0) e3 ⟨some ⟨B,0,none⟩,1,rfl,Nat.le_refl _,rfl,fun _=>⟨B,0,rfl,fun i hi=>by
        have hi0:i=0:=by simp at hi;exact hi
        subst hi0
        simp [World.cell?,bare,g3]⟩⟩ (Nat.zero_lt_succ _)
       simp only [mkC,denL,e4,q2]
    ·cases h
   ·cases h
  ·cases h
def a74(s:HS)(k:Nat):List AV→Option (List (Nat×List AV)×List Prop)
 |[]=>some ([],[])
 |a::l=>match b2n s (k+1) a,a74 s k l with
  |some (v,ps),some (r,qs)=>match v with
   |.lst n k' c=>some ((n,c)::r,apL ps qs)
   |.val _=>none
  |_,_=>none
def b9s(s:HS)(q:Ky)(a:AV):Option (Yv×List Prop) :=
 match q with
 |.ext=>some (.ext a,[])
 |.lst k=>match b2n s (k+1) a with
  |some (v,ps)=>match v with
   |.lst n k' c=>some (.lst n (k+1) c,ps)
   |.val _=>none
  |none=>none
 |.lls k=>match b2n s 1 a with
  |some (v,ps)=>match v with
   |.lst n k' c=>match a74 s k c with
    |some (r,qs)=>some (.lls n (k+1) r,apL ps qs)
    |none=>none
   |.val _=>none
  |none=>none
 |.fnc=>match a with
  |.fn f l c=>match l,a6v s c with
   |[],some cs=>some (.fnc f cs,[])
   |_,_=>none
  |_=>none
def b9o(k:Nat):List Value→List (Nat×List AV)→List AV
 |v::vs,(n,c)::r=>.xl v n k c::b9o k vs r
 |_,_=>[]
def mkY(v:Yv)(zs:List Value):AV :=
 match v with
 |.ext a=>a
 |.lst n k c=>.xl (zs.headD undef) n k c
 |.lls n k r=>.xl (zs.headD undef) n 1 (b9o k zs.tail r)
 |.fnc f cs=>.fn f [] (mkC zs cs)
def okR:List (Nat×List AV)→Prop
 |[]=>True
 |(_,c)::r=>(∃ cs,N4 c=some cs)∧okR r
def okY(v:Yv):Prop :=
 match v with
 |.ext a=>Ext a
 |.lst _ _ c=>∃ cs,N4 c=some cs
 |.lls _ _ r=>okR r
 |.fnc _ cs=>okC cs
def lnY(v:Yv)(zs:List Value):Prop :=
 match v with
 |.lls _ _ r=>zs.length=r.length+1
 |.fnc _ cs=>zs.length=cs.length
 |_=>True
theorem b2E{s:HS}{k:Nat}{a:AV}{n k':Nat}{c:List AV}{ps:List Prop}(h:b2n s (k+1) a=some (.lst n k' c,ps)):k'=k+1:=by
 unfold b2n at h
 simp only at h
 split at h
 ·split at h
  ·cases h;rfl
  ·cases h
 ·split at h
  ·cases h;rfl
  ·cases h
 ·split at h
  ·cases h;rfl
  ·cases h
 ·split at h
  ·split at h
   ·split at h
    ·cases h;rfl
    ·cases h
   ·cases h
  ·cases h
 ·cases h
theorem a6J{σ:Env}{w:World}{s:HS}(hs:Sim s.H σ w){k:Nat}:∀ {c:List AV} {r:List (Nat×List AV)} {ps:List Prop} {cs:List Value},a74 s k c=some (r,ps)→F1 ps→denL σ c=some cs→okR r→cs.length=r.length∧denL (bare w) (b9o (k+1) cs r)=some cs
 |[],r,ps,cs,h,hp,hx,hr=>by
  unfold a74 at h
  cases h
  cases hx
  exact ⟨rfl,rfl⟩
 |a::l,r,ps,cs,h,hp,hx,hr=>by
  unfold a74 at h
  split at h
  ·rename_i v p1 r1 q1 h1 h2
   split at h
   ·rename_i n k' c
    cases h
    rw [H5] at hp
    obtain ⟨a1,a2⟩:=R5 hp
    simp only [denL] at hx
    cases e1:den σ a with
    |none=>rw [e1] at hx;cases hx
    |some x=>cases e2:denL σ l with
     |none=>rw [e1,e2] at hx;cases hx
     |some z =>
      rw [e1,e2] at hx
      cases hx
      obtain ⟨⟨ds,hd⟩,hr2⟩:=hr
      obtain ⟨g1,g2⟩:=a6J hs h2 a2 e2 hr2
      have hk:=b2E h1
      rcases a42 hs h1 a1 e1 with h3|⟨n',k2,c',h3,us,h4,hok⟩
      ·cases h3
      ·cases h3
       rw [plainL_den hd] at h4
       cases h4
       have e3:=den_xl_mk (σ:=bare w) (y:=x) (plainL_den hd) hok
       rw [hk] at e3
       exact ⟨by simp [g1],by simp only [b9o,denL,e3,g2]⟩
   ·cases h
  ·cases h
theorem b0V{σ:Env}{w:World}{s:HS}(hs:Sim s.H σ w){q:Ky}{a:AV}{v:Yv}{ps:List Prop}{x:Value}(h:b9s s q a=some (v,ps))(hp:F1 ps)(hx:den σ a=some x)(hv:okY v):∃ zs,lnY v zs∧den (bare w) (mkY v zs)=some x:=by
 unfold b9s at h
 split at h
 ·cases h
  exact ⟨[],trivial,hv s.H σ w x hs hx⟩
 ·split at h
  ·rename_i v1 ps1 h1
   split at h
   ·rename_i n k' c
    cases h
    obtain ⟨ds,hd⟩:=hv
    have hk:=b2E h1
    rcases a42 hs h1 hp hx with h3|⟨n',k2,c',h3,us,h4,hok⟩
    ·cases h3
    ·cases h3
     rw [plainL_den hd] at h4
     cases h4
     have e3:=den_xl_mk (σ:=bare w) (y:=x) (plainL_den hd) hok
     rw [hk] at e3
     exact ⟨[x],trivial,e3⟩
   ·cases h
  ·cases h
 ·split at h
  ·rename_i v1 ps1 h1
   split at h
   ·rename_i n k' c
    split at h
    ·rename_i r q1 h2
     cases h
     rw [H5] at hp
     obtain ⟨a1,a2⟩:=R5 hp
     have hk:=b2E h1
     rcases a42 hs h1 a1 hx with h3|⟨n',k2,c',h3,us,h4,hok⟩
     ·cases h3
     ·cases h3
      obtain ⟨g1,g2⟩:=a6J hs h2 a2 h4 hv
      have e3:=den_xl_mk (σ:=bare w) (y:=x) g2 hok
      rw [hk] at e3
      exact ⟨x::us,by show _+1=_+1;rw [g1],e3⟩
    ·cases h
   ·cases h
  ·cases h
 ·split at h
  ·rename_i f l c
   split at h
   ·rename_i cs e1
    cases h
    simp only [den,denL] at hx
    cases d1:denL σ c with
    |none=>rw [d1] at hx;cases hx
    |some us =>
     rw [d1] at hx
     cases hx
     obtain ⟨zs,q1,q2⟩:=a68 hs e1 d1 hv
     exact ⟨zs,q1,by show den (bare w) (.fn f [] (mkC zs cs))=_;simp only [den,denL,q2]⟩
   ·cases h
  ·cases h
def a78(s:HS):List Ky→List AV→Option (List Yv×List Prop)
 |[],[]=>some ([],[])
 |k::ks,a::l=>match b9s s k a with
  |some (v,ps)=>match a78 s ks l with
   |some (vs,qs)=>some (v::vs,apL ps qs)
   |none=>none
  |none=>none
 |_,_=>none
def b7s:List Yv→List (List Value)→List AV
 |v::l,zs::ys=>mkY v zs::b7s l ys
 |_,_=>[]
def c1r:List Yv→Prop
 |[]=>True
 |v::l=>okY v∧c1r l
def c2t:List Yv→List (List Value)→Prop
 |[],[]=>True
 |v::l,zs::ys=>lnY v zs∧c2t l ys
 |_,_=>False
theorem a8h{σ:Env}{w:World}{s:HS}(hs:Sim s.H σ w):∀ {ks:List Ky} {l:List AV} {vs:List Yv} {ps:List Prop} {xs:List Value},a78 s ks l=some (vs,ps)→F1 ps→denL σ l=some xs→c1r vs→∃ ys,c2t vs ys∧denL (bare w) (b7s vs ys)=some xs
 |[],[],vs,ps,xs,h,hp,hx,hv=>by
  simp only [a78] at h
  cases h
  cases hx
  exact ⟨[],trivial,rfl⟩
 |[],_::_,vs,ps,xs,h,hp,hx,hv=>by simp [a78] at h
 |_::_,[],vs,ps,xs,h,hp,hx,hv=>by simp [a78] at h
 |k::ks,a::l,vs,ps,xs,h,hp,hx,hv=>by
  simp only [a78] at h
  split at h
  ·rename_i v p1 h1
   split at h
   ·rename_i vs' p2 h2
    cases h
    rw [H5] at hp
    obtain ⟨a1,a2⟩:=R5 hp
    simp only [denL] at hx
    cases e1:den σ a with
    |none=>rw [e1] at hx;cases hx
    |some x=>cases e2:denL σ l with
     |none=>rw [e1,e2] at hx;cases hx
     |some z =>
      rw [e1,e2] at hx
      cases hx
      obtain ⟨zs,q1,q2⟩:=b0V hs h1 a1 e1 hv.1
      obtain ⟨ys,q3,q4⟩:=a8h hs h2 a2 e2 hv.2
      exact ⟨zs::ys,⟨q1,q3⟩,by simp only [b7s,denL,q2,q4]⟩
   ·cases h
  ·cases h
inductive Yw where
 |one (v:Yv)
 |str (l:List Yv)
inductive Kz where
 |one (k:Ky)
 |str (ks:List Ky)
def c2v(s:HS)(q:Kz)(a:AV):Option (Yw×List Prop) :=
 match q with
 |.one k=>match b9s s k a with
  |some (v,ps)=>some (.one v,ps)
  |none=>none
 |.str ks=>match a with
  |.agg l=>match a78 s ks l with
   |some (vs,ps)=>some (.str vs,ps)
   |none=>none
  |_=>none
def mkZ(v:Yw)(zs:List (List Value)):AV :=
 match v with
 |.one v=>mkY v (zs.headD [])
 |.str vs=>.agg (b7s vs zs)
def okZ(v:Yw):Prop :=
 match v with
 |.one v=>okY v
 |.str vs=>c1r vs
def lnZ(v:Yw)(zs:List (List Value)):Prop :=
 match v with
 |.one v=>lnY v (zs.headD [])
 |.str vs=>c2t vs zs
theorem b5z{σ:Env}{w:World}{s:HS}(hs:Sim s.H σ w){q:Kz}{a:AV}{v:Yw}{ps:List Prop}{x:Value}(h:c2v s q a=some (v,ps))(hp:F1 ps)(hx:den σ a=some x)(hv:okZ v):∃ zs,lnZ v zs∧den (bare w) (mkZ v zs)=some x:=by
 unfold c2v at h
 split at h
 ·split at h
  ·rename_i v1 p1 h1
   cases h
   obtain ⟨zs,q1,q2⟩:=b0V hs h1 hp hx hv
   exact ⟨[zs],q1,q2⟩
  ·cases h
 ·split at h
  ·split at h
   ·rename_i vs p1 h1
    cases h
    simp only [den,Option.map_eq_some_iff] at hx
    obtain ⟨xs,e1,rfl⟩:=hx
    obtain ⟨ys,q1,q2⟩:=a8h hs h1 hp e1 hv
    exact ⟨ys,q1,by show den (bare w) (.agg (b7s vs ys))=_;simp only [den,q2,Option.map_some]⟩
   ·cases h
  ·cases h
def a5d(s:HS):List Kz→List AV→Option (List Yw×List Prop)
 |[],[]=>some ([],[])
 |k::ks,a::l=>match c2v s k a with
  |some (v,ps)=>match a5d s ks l with
   |some (vs,qs)=>some (v::vs,apL ps qs)
   |none=>none
  |none=>none
 |_,_=>none
def b8s:List Yw→List (List (List Value))→List AV
 |v::l,zs::ys=>mkZ v zs::b8s l ys
 |_,_=>[]
def c4e:List Yw→Prop
 |[]=>True
 |v::l=>okZ v∧c4e l
def b9k:List Yw→List (List (List Value))→Prop
 |[],[]=>True
 |v::l,zs::ys=>lnZ v zs∧b9k l ys
 |_,_=>False
theorem a4n{σ:Env}{w:World}{s:HS}(hs:Sim s.H σ w):∀ {ks:List Kz} {l:List AV} {vs:List Yw} {ps:List Prop} {xs:List Value},a5d s ks l=some (vs,ps)→F1 ps→denL σ l=some xs→c4e vs→∃ ys,b9k vs ys∧denL (bare w) (b8s vs ys)=some xs
 |[],[],vs,ps,xs,h,hp,hx,hv=>by
  simp only [a5d] at h
  cases h
  cases hx
  exact ⟨[],trivial,rfl⟩
 |[],_::_,vs,ps,xs,h,hp,hx,hv=>by simp [a5d] at h
 |_::_,[],vs,ps,xs,h,hp,hx,hv=>by simp [a5d] at h
 |k::ks,a::l,vs,ps,xs,h,hp,hx,hv=>by
  simp only [a5d] at h
  split at h
  ·rename_i v p1 h1
   split at h
   ·rename_i vs' p2 h2
    cases h
    rw [H5] at hp
    obtain ⟨a1,a2⟩:=R5 hp
    simp only [denL] at hx
    cases e1:den σ a with
    |none=>rw [e1] at hx;cases hx
    |some x=>cases e2:denL σ l with
     |none=>rw [e1,e2] at hx;cases hx
     |some z =>
      rw [e1,e2] at hx
      cases hx
      obtain ⟨zs,q1,q2⟩:=b5z hs h1 a1 e1 hv.1
      obtain ⟨ys,q3,q4⟩:=a4n hs h2 a2 e2 hv.2
      exact ⟨zs::ys,⟨q1,q3⟩,by simp only [b8s,denL,q2,q4]⟩
   ·cases h
  ·cases h
def e7(f:FuncId)(ks:List Kz)(S:List Yw→Option (A0×List Prop)):O8:=fun g args s =>
 match Nat.beq g f with
 |true=>match a5d s ks args with
  |some (vs,qs)=>match S vs with
   |some (r,ps)=>match r with
    |.val v=>some ((v,s),apL qs ps)
    |.blk V x=>match Nat.ble s.n 1000000 with
     |true=>some ((V s.n,s.new x),apL qs ps)
     |false=>none
   |none=>none
  |none=>none
 |false=>none
def c2k(P:Program)(f:FuncId)(vs:List Yw)(r:A0):Prop :=
 (∃ ys,b9k vs ys)∧∀ ys,b9k vs ys→match r with
  |.val v=>∃ x,plain v=some x∧GivesA P f (b8s vs ys) x
  |.blk V x=>b2J P f (b8s vs ys) V x
theorem x6{f:FuncId}{ks:List Kz}{S:List Yw→Option (A0×List Prop)}(h:∀ vs r ps,S vs=some (r,ps)→F1 ps→c4e vs∧c2k P f vs r):Known P (clsO (e7 f ks S)):=by
 have inv:∀ {g:FuncId} {args:List AV} {s:HS} {u:AV} {s':HS},clsO (e7 f ks S) g args s=some (u,s') →
   g=f∧∃ vs qs r ps,a5d s ks args=some (vs,qs)∧F1 qs∧S vs=some (r,ps)∧F1 ps∧((∃ v,r = .val v∧u=v∧s'=s)∨(∃ V x,r = .blk V x∧u=V s.n∧s'=s.new x)):=by
  intro g args s u s' e
  unfold clsO at e
  split at e
  ·rename_i r ps ho
   split at e
   ·rename_i hall
    cases e
    unfold e7 at ho
    split at ho
    ·rename_i hb
     split at ho
     ·rename_i vs qs hv
      split at ho
      ·rename_i r' ps' hS
       cases r' with
       |val v =>
        simp only at ho
        cases ho
        rw [H5] at hall
        obtain ⟨a1,a2⟩:=R5 hall
        exact ⟨Nat.eq_of_beq_eq_true hb,vs,qs,_,_,hv,a1,hS,a2,.inl ⟨_,rfl,rfl,rfl⟩⟩
       |blk V x =>
        simp only at ho
        split at ho
        ·cases ho
         rw [H5] at hall
         obtain ⟨a1,a2⟩:=R5 hall
         exact ⟨Nat.eq_of_beq_eq_true hb,vs,qs,_,_,hv,a1,hS,a2,.inr ⟨V,x,rfl,rfl,rfl⟩⟩
        ·cases ho
      ·cases ho
     ·cases ho
    ·cases ho
   ·cases e
  ·cases e
 refine ⟨fun g args s u s' e=>?_,fun g args s u s' e=>?_⟩
 ·obtain ⟨rfl,vs,qs,r,ps,hv,hq,hS,hps,hr⟩:=inv e
  obtain ⟨hpl,⟨y0,hy0⟩,hg⟩:=h vs r ps hS hps
  rcases hr with ⟨v,rfl,rfl,rfl⟩|⟨V,x,rfl,rfl,rfl⟩
  ·obtain ⟨y,hy,hA⟩:=hg y0 hy0
   refine ⟨hA.1,Nat.le_refl _,fun F n σ w xs hW gd hs hfr hx=>?_⟩
   obtain ⟨ys,hl,hd⟩:=a4n hs hv hq hx hpl
   obtain ⟨y2,hy2,hA2⟩:=hg ys hl
   rw [hy] at hy2
   cases hy2
   refine CallsIn.mono (hA2.2 F n w xs hW hd) (fun e' w' hp=>?_)
   obtain ⟨q1,q2⟩:=hp
   exact ⟨y,σ,q1,I2 hy,a2a gd hs q2.old q2.size q2.os q2.tape q2.output⟩
  ·refine ⟨(hg y0 hy0).1,Nat.le_succ _,fun F n σ w xs hW gd hs hfr hx=>?_⟩
   obtain ⟨ys,hl,hd⟩:=a4n hs hv hq hx hpl
   refine CallsIn.mono ((hg ys hl).2 F n w xs hW hd) (fun e' w' hp=>?_)
   obtain ⟨kp,r,B,o,c,h1,h2,h3,h4⟩:=hp
   obtain ⟨h5,h6⟩:=h4 σ s.n
   exact ⟨r,_,h1,h6,a3S gd hs (hfr s.n (Nat.le_refl _) (Nat.lt_succ_self _)) kp h2 h3 x c h5⟩
 ·obtain ⟨rfl,vs,qs,r,ps,hv,hq,hS,hps,hr⟩:=inv e
  rcases hr with ⟨v,rfl,rfl,rfl⟩|⟨V,x,rfl,rfl,rfl⟩
  ·exact Stat.refl _
  ·exact I0 _ _
end
end Go.Proofs.Ytegmogadbnfbgaa.Ev
namespace Go.Proofs.Ytegmogadbnfbgaa
open Go Ev
noncomputable section
theorem b0z{u ul:Value}(X:List (Value×List Int))(Y:List Int):Ext (.agg [.xl u X.length 1 (Y6 X),.xl ul Y.length 1 (cI Y)]):=y9 (X3 (S3 (a49 X)) (X3 (S3 (V3 (Z2 Y))) R4))
def gcS:List AV→Option (A0×List Prop):=fun vs =>
 match vs with
 |[.agg [.xl y m k1 cE,.xl yl n k2 cL]]=>some (.val (.v (.int .i64 (T6 cE m cL n))),[U4 k1 cE m,Y3 k2 n cL,m≤1000])
 |_=>none
def gcO:O8:=E8 20 gcS
theorem n6:Known zP0q (clsO gcO):=K8 (fun vs r ps h hp=>by
 unfold gcS at h
 split at h
 ·cases h
  obtain ⟨⟨rfl,E,rfl,rfl⟩,⟨rfl,L,rfl,rfl⟩,h1,-⟩:=hp
  exact ⟨X3 (a1q E L) R4,_,rfl,c52 _ E _ L h1⟩
 ·cases h)
def grS:List AV→Option (A0×List Prop):=fun vs =>
 match vs with
 |[.agg [.xl y m k1 cE,.xl yl n k2 cL]]=>some (.val (.v (.int .i64 (T6 cE m cL n))),[U4 k1 cE m,Y3 k2 n cL,m≤1000])
 |_=>none
def grO:O8:=E8 21 grS
theorem d7:Known zP0q (clsO grO):=K8 (fun vs r ps h hp=>by
 unfold grS at h
 split at h
 ·cases h
  obtain ⟨⟨rfl,E,rfl,rfl⟩,⟨rfl,L,rfl,rfl⟩,h1,-⟩:=hp
  exact ⟨X3 (a1q E L) R4,_,rfl,c7D _ E _ L h1⟩
 ·cases h)
def gtS:List AV→Option (A0×List Prop):=fun vs =>
 match vs with
 |[.agg [.xl y m k1 cE,.xl yl n k2 cL],.agg [.xl u mx k3 cX,.xl ul nx k4 cY]]=>some (.val (.v (.int .i64 (o0 cE cL n cX mx cY nx))),[U4 k1 cE m,Y3 k2 n cL,b4R k3 cX mx,T7 k4 nx cY,T6 cE m cL n=0,mx≤1000])
 |_=>none
def gtO:O8:=E8 52 gtS
theorem b0O:Known zP0q (clsO gtO):=K8 (fun vs r ps h hp=>by
 unfold gtS at h
 split at h
 ·cases h
  obtain ⟨⟨rfl,E,rfl,rfl⟩,⟨rfl,L,rfl,rfl⟩,⟨rfl,X,rfl,rfl⟩,⟨rfl,Y,rfl,rfl⟩,h1,h2,-⟩:=hp
  exact ⟨X3 (a1q E L) (X3 (b0z X Y) R4),_,rfl,c7v _ E _ L _ X _ Y h1 h2⟩
 ·cases h)
def gpS:List AV→Option (A0×List Prop):=fun vs =>
 match vs with
 |[.agg [.xl y m k1 cE,.xl yl n k2 cL],.xl z r k5 cM]=>some (.val (.v (.int .i64 (U0 n cM r))),[U4 k1 cE m,Y3 k2 n cL,T7 k5 r cM,n≤1000])
 |_=>none
def gpO:O8:=E8 56 gpS
theorem c5:Known zP0q (clsO gpO):=K8 (fun vs r ps h hp=>by
 unfold gpS at h
 split at h
 ·cases h
  obtain ⟨⟨rfl,E,rfl,rfl⟩,⟨rfl,L,rfl,rfl⟩,⟨rfl,M,rfl,rfl⟩,h1,-⟩:=hp
  exact ⟨X3 (a1q E L) (X3 (S3 (V3 (Z2 M))) R4),_,rfl,c9H _ E _ L _ M h1⟩
 ·cases h)
theorem b8Y{X:List (Value×List Int)}{Y M:List Int}{cE cL:List AV}{m n:Nat}(hC:T6 cE m cL n=0)(hT:o0 cE cL n (Y6 X) X.length (cI Y) Y.length=0)(hH:U0 n (cI M) M.length=0):b2c 1 X.length 1 Y.length 1 M.length (Y6 X) (cI Y) (cI M) n:=by
 obtain ⟨-,-,-,h3,h4⟩:=W3 hC
 obtain ⟨t1,t2,t3,t4,t5⟩:=b6d hT
 obtain ⟨m1,m2⟩:=W6 hH
 rw [m1] at m2
 refine ⟨X,Y,M,⟨rfl,rfl,rfl⟩,⟨rfl,rfl,rfl⟩,⟨rfl,rfl,rfl⟩,t2,t3,t1,m1,fun i hi b hb=>?_,fun b hb=>?_,fun b hb=>afB_true.1 m2 b hb⟩
 ·have q1:=h4 i hi b hb
  have q2:=t5 i hi b hb
  unfold X7 at q1
  unfold V9 at q2
  omega
 ·have q1:=h3 b hb
  have q2:=t4 b hb
  unfold X7 at q1
  unfold V9 at q2
  omega
def gnS:List AV→Option (A0×List Prop):=fun vs =>
 match vs with
 |[.agg [.xl y m k1 cE,.xl yl n k2 cL,.fn (.func f) lz lc],.agg [.xl u mx k3 cX,.xl ul nx k4 cY]]=>match lz,lc,Nat.beq f 78 with
  |[.xl z r k5 cM],[],true=>some (.val (.agg [.v (.int .i64 (V5 (U6 cX cY cM 0) n)),.v (.int .i64 (V5 (U6 cX cY cM 1) n)),.v (.int .i64 (V5 (U6 cX cY cM 2) n))]),[U4 k1 cE m,Y3 k2 n cL,n≤8,b2c k3 mx k4 nx k5 r cX cY cM n])
  |_,_,_=>none
 |_=>none
def gnO:O8:=E8 54 gnS
theorem c1V{g:FuncId}{l:List AV}(h:a7C l):Ext (.fn (.func g) l []):=fun H σ w x hs hx=>by
 simp only [den,denL] at hx ⊢
 cases e:denL σ l with
 |none=>rw [e] at hx;cases hx
 |some us =>
  rw [e] at hx
  rw [h H σ w us hs e]
  exact hx
theorem b0p:Known zP0q (clsO gnO):=K8 (fun vs r ps h hp=>by
 unfold gnS at h
 split at h
 ·split at h
  ·rename_i e1
   cases h
   obtain ⟨⟨rfl,E,rfl,rfl⟩,⟨rfl,L,rfl,rfl⟩,h8,⟨X,Y,M,⟨rfl,rfl,rfl⟩,⟨rfl,rfl,rfl⟩,⟨rfl,rfl,rfl⟩,h1,h2,h3,h4,h5,h6,h7⟩,-⟩:=hp
   rw [Nat.eq_of_beq_eq_true e1]
   exact ⟨X3 (y9 (X3 (S3 (L5 E)) (X3 (S3 (V3 (X4 L))) (X3 (c1V (X3 (S3 (V3 (Z2 M))) R4)) R4)))) (X3 (b0z X Y) R4),_,rfl,c9h _ E _ L _ X _ Y _ M h8 h1 h2 h3 h4 h5 h6 h7⟩
  ·cases h
 ·cases h)
end
end Go.Proofs.Ytegmogadbnfbgaa
namespace Go.Proofs.Ytegmogadbnfbgaa
open Go Ev
noncomputable section
noncomputable def c9T:Code:=O4 Try.f53
set_option maxHeartbeats 2000000 in
theorem d03(y:Value)(E:List (Value×List (Int×Int)))(yl:Value)(L:List (Int×Int))(z:Value)(M:List Int)(v:BaseW)(eb:Nat→Option Nat)(ec:Nat→Nat)(hs:List Nat):Y7 zP0q 9 c9T (⟨[(0,(.agg [.xl y E.length 1 (Y5 E),.xl yl L.length 2 (cR L)])),(1,(.xl z M.length 1 (cI M)))],[],0,[]⟩) (BaseW.H (bw v 0 eb ec) hs) (T4 zP0q Try.f53 9 ((.agg [.xl y E.length 1 (Y5 E),.xl yl L.length 2 (cR L),(.fn (.func 78) [.xl z M.length 1 (cI M)] [])])) [] (bw v 0 eb ec)):=by
 have hcl_L:=Z7 L
 have hcl_M:=Z4 M
 exact Z8 U9 (O5 zC0q (Z0) 200 (T':=⟨[(4,(.ptr 0 0))],[],1,[(0,(.cells [(.xl (y) (E.length) 1 (Y5 E)),(.xl (yl) (L.length) 2 (cR L)),(.fn (.func 78) [(.xl (z) (M.length) 1 (cI M))] [])] 85))]⟩) (e:=.ret) (m:=2) (ps:=[]) (gH 7 []) [1] [(.ptr 1 0)] [(.cells [(.xl (y) (E.length) 1 (Y5 E)),(.xl (yl) (L.length) 2 (cR L)),(.fn (.func 78) [(.xl (z) (M.length) 1 (cI M))] [])] 85)] (by kernel_rfl) (by kernel_rfl) trivial rfl rfl (by decide) rfl ⟨V0 rfl,trivial⟩ ⟨⟨by show 0<1;decide,X6 (Z3 (S5 (W8 (X9 _))) (Z3 (N8 (Y4 (X4 L))) (Z3 (a07 (Z3 (N8 (Y4 (Z2 M))) (Y0)) (Y0)) (Y0))))⟩,trivial⟩) (k8 (r:=(.agg [(.xl (y) (E.length) 1 (Y5 E)),(.xl (yl) (L.length) 2 (cR L)),(.fn (.func 78) [(.xl (z) (M.length) 1 (cI M))] [])])) (ys:=[]) (by rfl) (by rfl) (z5 (by kernel_rfl) (by kernel_rfl) rfl (.inr rfl)))
theorem c8Z(y:Value)(E:List (Value×List (Int×Int)))(yl:Value)(L:List (Int×Int))(z:Value)(M:List Int):A3 zP0q 53 [(.agg [.xl y E.length 1 (Y5 E),.xl yl L.length 2 (cR L)]),(.xl z M.length 1 (cI M))] [] ((.agg [.xl y E.length 1 (Y5 E),.xl yl L.length 2 (cR L),(.fn (.func 78) [.xl z M.length 1 (cI M)] [])])) [] :=
 L1 9 (by kernel_rfl) Try.func53 (by kernel_rfl) (by kernel_rfl) (by kernel_rfl) (fun v eb ec=>V6 (by kernel_rfl) (by kernel_rfl) (by kernel_rfl) (by kernel_rfl) (d03 y E yl L z M v eb ec []))
end
end Go.Proofs.Ytegmogadbnfbgaa
namespace Go.Proofs.Ytegmogadbnfbgaa
open Go Ev
noncomputable section
def laS:List AV→List AB→Option ((AV×List AB)×List Prop):=fun args xs =>
 match args,xs with
 |[.agg [.xl y m k1 cE,.xl yl n k2 cL],.xl z r k5 cM],[]=>some ((.agg [.xl y m k1 cE,.xl yl n k2 cL,.fn (.func 78) [.xl z r k5 cM] []],[]),[U4 k1 cE m,Y3 k2 n cL,T7 k5 r cM])
 |_,_=>none
def laO:O8:=a3D 53 laS
theorem b0L:Known zP0q (clsO laO):=u9 (fun args xs r ys ps h hp=>by
 unfold laS at h
 split at h
 ·cases h
  obtain ⟨⟨rfl,E,rfl,rfl⟩,⟨rfl,L,rfl,rfl⟩,⟨rfl,M,rfl,rfl⟩,-⟩:=hp
  exact ⟨fun x hx=>absurd hx List.not_mem_nil,fun x hx=>absurd hx List.not_mem_nil,c8Z _ E _ L _ M⟩
 ·cases h)
noncomputable def c2T:Code:=O4 Try.f16
section
variable {E:List (Value×List (Int×Int))} {L:List (Int×Int)} {M Y:List Int} {X:List (Value×List Int)} {eb:Nat→Option Nat} {ec:Nat→Nat} {hs:List Nat} {u ul y yl z:Value} {v:BaseW}
set_option maxHeartbeats 2000000 in
theorem c9R(hE3:E.length≤1000)(hX:X.length≤1000)(hM3:M.length≤1000)(hC:T6 (Y5 E) E.length (cR L) L.length=0)(hH:U0 L.length (cI M) M.length=0)(hT:¬ o0 (Y5 E) (cR L) L.length (Y6 X) X.length (cI Y) Y.length=0):Y7 zP0q 31 c2T (⟨[(0,(.agg [.xl y E.length 1 (Y5 E),.xl yl L.length 2 (cR L)])),(1,(.agg [.xl u X.length 1 (Y6 X),.xl ul Y.length 1 (cI Y)])),(2,(.xl z M.length 1 (cI M)))],[],0,[]⟩) (BaseW.H (bw v 0 eb ec) hs) (T4 zP0q Try.f16 31 ((.tup [.v (.slice none 0 0),nI0 (o0 (Y5 E) (cR L) L.length (Y6 X) X.length (cI Y) Y.length)])) [] (bw v 0 eb ec)):=by
 have hcl_L:=Z7 L
 have hcl_Y:=Z4 Y
 have hcl_M:=Z4 M
 obtain ⟨hn,hm3,hrow,hlam,hcur⟩:=W3 hC
 rcases zB0q (R3 (T6 (Y5 E) E.length (cR L) L.length) 0) with hqnuot3_1|hqnuot3_1
 ·have ghqnuot3_1:=X8 hqnuot3_1
  rcases zB0q (R3 M.length L.length) with hqnuot3_2|hqnuot3_2
  ·have ghqnuot3_2:=X8 hqnuot3_2
   rcases zB0q (afB 0 1000 (cI M) M.length) with hqnuot3_3|hqnuot3_3
   ·rcases zB0q (R3 (o0 (Y5 E) (cR L) L.length (Y6 X) X.length (cI Y) Y.length) 0) with hqnuot3_4|hqnuot3_4
    ·have ghqnuot3_4:=X8 hqnuot3_4
     exact absurd (X8 hqnuot3_4) hT
    ·have ghqnuot3_4:=V7 hqnuot3_4
     exact Z8 U9 (c9 zC0q (Y1 (Y1 n6 m8) (Y1 b0O (Y1 b0p b0L))) 200 (T':=⟨[(6,(.v (Value.slice none 0 0))),(7,(nI0 (o0 (Y5 E) (cR L) L.length (Y6 X) X.length (cI Y) Y.length)))],[],0,[]⟩) (e:=.ret) (m:=4) (ps:=[U4 1 (Y5 E) E.length,Y3 2 L.length (cR L),E.length≤1000,(!R3 (T6 (Y5 E) E.length (cR L) L.length) 0)=false,Y2 0 1=true,(!R3 M.length L.length)=false,T7 1 M.length (cI M),M.length≤1000,(!afB 0 1000 (cI M) M.length)=false,N3 IntKind.i64 (0+1),Y2 (0+1) 1=false,(!R3 0 0)=false,U4 1 (Y5 E) E.length,Y3 2 L.length (cR L),b4R 1 (Y6 X) X.length,T7 1 Y.length (cI Y),T6 (Y5 E) E.length (cR L) L.length=0,X.length≤1000,(!R3 (o0 (Y5 E) (cR L) L.length (Y6 X) X.length (cI Y) Y.length) 0)=true]) (gH 13 ([.b false]++gH 4 ([.b true]++gH 9 ([.b false,.go,.go,.b false,.go,.go,.go,.b false]++gH 4 ([.b false]++gH 5 [.b true,.go,.go,.go]))))) (by kernel_rfl) (by kernel_rfl) ⟨⟨rfl,E,rfl,rfl⟩,⟨rfl,L,rfl,rfl⟩,hE3,(by rw [hqnuot3_1];rfl),rfl,(by rw [hqnuot3_2];rfl),⟨rfl,M,rfl,rfl⟩,(by omega),(by rw [hqnuot3_3];rfl),(by show -9223372036854775808≤(_:Int)∧(_:Int)≤9223372036854775807;constructor<;>decide),rfl,rfl,⟨rfl,E,rfl,rfl⟩,⟨rfl,L,rfl,rfl⟩,⟨rfl,X,rfl,rfl⟩,⟨rfl,Y,rfl,rfl⟩,hC,hX,(by rw [hqnuot3_4];rfl),trivial⟩ rfl (by show 0≤4;decide) ⟨⟨a0A _,a0A _,trivial⟩,trivial,rfl⟩ (by show 0≤0;decide)) (k8 (r:=(.tup [(.v (Value.slice none 0 0)),(nI0 (o0 (Y5 E) (cR L) L.length (Y6 X) X.length (cI Y) Y.length))])) (ys:=[]) (by rfl) (by rfl) (z5 (by kernel_rfl) (by kernel_rfl) rfl (.inr rfl)))
   ·exact absurd (W6 hH).2 (by rw [hqnuot3_3];decide)
  ·have ghqnuot3_2:=V7 hqnuot3_2
   exfalso
   have h9:=(W6 hH).1
   have h8:=V7 hqnuot3_2
   omega
 ·have ghqnuot3_1:=V7 hqnuot3_1
  exact absurd hC (V7 hqnuot3_1)
end
noncomputable def c3x:Code:=O4 Try.f16
set_option maxHeartbeats 2000000 in
theorem c2j(y:Value)(E:List (Value×List (Int×Int)))(yl:Value)(L:List (Int×Int))(u:Value)(X:List (Value×List Int))(ul:Value)(Y:List Int)(z:Value)(M:List Int)(hE3:E.length≤1000)(hX:X.length≤1000)(hM3:M.length≤1000)(hC:T6 (Y5 E) E.length (cR L) L.length=0)(hH:U0 L.length (cI M) M.length=0)(hT:o0 (Y5 E) (cR L) L.length (Y6 X) X.length (cI Y) Y.length=0)(v:BaseW)(eb:Nat→Option Nat)(ec:Nat→Nat)(hs:List Nat):Y7 zP0q 31 c3x (⟨[(0,(.agg [.xl y E.length 1 (Y5 E),.xl yl L.length 2 (cR L)])),(1,(.agg [.xl u X.length 1 (Y6 X),.xl ul Y.length 1 (cI Y)])),(2,(.xl z M.length 1 (cI M)))],[],0,[]⟩) (BaseW.H (bw v 0 eb ec) hs) (T4 zP0q Try.f16 31 ((.tup [.sl 0 0 3 3,nI0 0])) [(.cells (cI (tI (w8 (U6 (Y6 X) (cI Y) (cI M)) L.length 3) 3)) 2)] (bw v 0 eb ec)):=by
 have hcl_L:=Z7 L
 have hcl_Y:=Z4 Y
 have hcl_M:=Z4 M
 obtain ⟨hn,hm3,hrow,hlam,hcur⟩:=W3 hC
 rcases zB0q (R3 (T6 (Y5 E) E.length (cR L) L.length) 0) with hqnuoo3_1|hqnuoo3_1
 ·have ghqnuoo3_1:=X8 hqnuoo3_1
  rcases zB0q (R3 M.length L.length) with hqnuoo3_2|hqnuoo3_2
  ·have ghqnuoo3_2:=X8 hqnuoo3_2
   rcases zB0q (afB 0 1000 (cI M) M.length) with hqnuoo3_3|hqnuoo3_3
   ·rcases zB0q (R3 (o0 (Y5 E) (cR L) L.length (Y6 X) X.length (cI Y) Y.length) 0) with hqnuoo3_4|hqnuoo3_4
    ·have ghqnuoo3_4:=X8 hqnuoo3_4
     exact Z8 U9 (O5 zC0q (Y1 (Y1 n6 m8) (Y1 b0O (Y1 b0p b0L))) 200 (T':=⟨[(6,(.sl 0 0 3 3)),(7,(nI0 (.ofNat 0)))],[],1,[(0,(.cells [(nI0 (V5 (U6 (Y6 X) (cI Y) (cI M) 0) L.length)),(nI0 (V5 (U6 (Y6 X) (cI Y) (cI M) 1) L.length)),(nI0 (V5 (U6 (Y6 X) (cI Y) (cI M) 2) L.length))] 2))]⟩) (e:=.ret) (m:=6) (ps:=[U4 1 (Y5 E) E.length,Y3 2 L.length (cR L),E.length≤1000,(!R3 (T6 (Y5 E) E.length (cR L) L.length) 0)=false,Y2 0 1=true,(!R3 M.length L.length)=false,T7 1 M.length (cI M),M.length≤1000,(!afB 0 1000 (cI M) M.length)=false,N3 IntKind.i64 (0+1),Y2 (0+1) 1=false,(!R3 0 0)=false,U4 1 (Y5 E) E.length,Y3 2 L.length (cR L),b4R 1 (Y6 X) X.length,T7 1 Y.length (cI Y),T6 (Y5 E) E.length (cR L) L.length=0,X.length≤1000,(!R3 (o0 (Y5 E) (cR L) L.length (Y6 X) X.length (cI Y) Y.length) 0)=false,V4 (Y5 E),V4 (cR L),V4 (cI M),U4 1 (Y5 E) E.length,Y3 2 L.length (cR L),T7 1 M.length (cI M),V4 (Y5 E),V4 (cR L),V4 (cI M),U4 1 (Y5 E) E.length,Y3 2 L.length (cR L),L.length≤8,b2c 1 X.length 1 Y.length 1 M.length (Y6 X) (cI Y) (cI M) L.length]) (gH 13 ([.b false]++gH 4 ([.b true]++gH 9 ([.b false,.go,.go,.b false,.go,.go,.go,.b false]++gH 4 ([.b false]++gH 5 ([.b false]++gH 18 [])))))) [5] [(.sl 5 0 3 3),(nI0 (.ofNat 0))] [(.cells [(nI0 (V5 (U6 (Y6 X) (cI Y) (cI M) 0) L.length)),(nI0 (V5 (U6 (Y6 X) (cI Y) (cI M) 1) L.length)),(nI0 (V5 (U6 (Y6 X) (cI Y) (cI M) 2) L.length))] 2)] (by kernel_rfl) (by kernel_rfl) ⟨⟨rfl,E,rfl,rfl⟩,⟨rfl,L,rfl,rfl⟩,hE3,(by rw [hqnuoo3_1];rfl),rfl,(by rw [hqnuoo3_2];rfl),⟨rfl,M,rfl,rfl⟩,(by omega),(by rw [hqnuoo3_3];rfl),(by show -9223372036854775808≤(_:Int)∧(_:Int)≤9223372036854775807;constructor<;>decide),rfl,rfl,⟨rfl,E,rfl,rfl⟩,⟨rfl,L,rfl,rfl⟩,⟨rfl,X,rfl,rfl⟩,⟨rfl,Y,rfl,rfl⟩,hC,hX,(by rw [hqnuoo3_4];rfl),(X9 E),(Y8 (X4 _)),(Y8 (Z2 _)),⟨rfl,E,rfl,rfl⟩,⟨rfl,L,rfl,rfl⟩,⟨rfl,M,rfl,rfl⟩,(X9 E),(Y8 (X4 _)),(Y8 (Z2 _)),⟨rfl,E,rfl,rfl⟩,⟨rfl,L,rfl,rfl⟩,(by omega),(b8Y hC hT hH),trivial⟩ rfl rfl (by decide) rfl ⟨c68 rfl,N7 _,trivial⟩ ⟨⟨by show 0<1;decide,X6 (Z3 (N7 _) (Z3 (N7 _) (Z3 (N7 _) (Y0))))⟩,trivial⟩) (k8 (r:=(.tup [(.sl 0 0 3 3),(nI0 (.ofNat 0))])) (ys:=[(.cells [(nI0 (V5 (U6 (Y6 X) (cI Y) (cI M) 0) L.length)),(nI0 (V5 (U6 (Y6 X) (cI Y) (cI M) 1) L.length)),(nI0 (V5 (U6 (Y6 X) (cI Y) (cI M) 2) L.length))] 2)]) (by rfl) (by (rw [a27])) (z5 (by kernel_rfl) (by kernel_rfl) rfl (.inr rfl)))
    ·have ghqnuoo3_4:=V7 hqnuoo3_4
     exact absurd hT (V7 hqnuoo3_4)
   ·exact absurd (W6 hH).2 (by rw [hqnuoo3_3];decide)
  ·have ghqnuoo3_2:=V7 hqnuoo3_2
   exfalso
   have h9:=(W6 hH).1
   have h8:=V7 hqnuoo3_2
   omega
 ·have ghqnuoo3_1:=V7 hqnuoo3_1
  exact absurd hC (V7 hqnuoo3_1)
theorem c18(y:Value)(E:List (Value×List (Int×Int)))(yl:Value)(L:List (Int×Int))(u:Value)(X:List (Value×List Int))(ul:Value)(Y:List Int)(z:Value)(M:List Int)(hE3:E.length≤1000)(hX:X.length≤1000)(hM3:M.length≤1000)(hC:T6 (Y5 E) E.length (cR L) L.length=0)(hH:U0 L.length (cI M) M.length=0)(hT:o0 (Y5 E) (cR L) L.length (Y6 X) X.length (cI Y) Y.length=0):A3 zP0q 16 [(.agg [.xl y E.length 1 (Y5 E),.xl yl L.length 2 (cR L)]),(.agg [.xl u X.length 1 (Y6 X),.xl ul Y.length 1 (cI Y)]),(.xl z M.length 1 (cI M))] [] ((.tup [.sl 0 0 3 3,nI0 0])) [(.cells (cI (tI (w8 (U6 (Y6 X) (cI Y) (cI M)) L.length 3) 3)) 2)] :=
 L1 31 (by kernel_rfl) Try.func16 (by kernel_rfl) (by kernel_rfl) (by kernel_rfl) (fun v eb ec=>V6 (by kernel_rfl) (by kernel_rfl) (by kernel_rfl) (by kernel_rfl) (c2j y E yl L u X ul Y z M hE3 hX hM3 hC hH hT v eb ec []))
end
end Go.Proofs.Ytegmogadbnfbgaa
namespace Go.Proofs.Ytegmogadbnfbgaa
open Go Ev
noncomputable section
theorem b5P(f:Nat→Int)(n:Nat):cI (tI f n)++[.v (.int .i64 (f n))]=cI (tI f (n+1)):=by
 rw [a4Z,a4Z]
 show cI (a6x f n)++cI [f n]=_
 rw [c49];rfl
def S6(c d:List AV)(g:Bool)(b:Nat):Int:=if (g == Y2 0 (Z9 d (b*1)))=true then Z9 c (b*2+1) else Z9 c (b*2+0)
theorem a3G{c d:List AV}{g:Bool}{b:Nat}(h:(g == Y2 0 (Z9 d (b*1)))=true):S6 c d g b=Z9 c (b*2+1):=if_pos h
theorem a62{c d:List AV}{g:Bool}{b:Nat}(h:¬ (g == Y2 0 (Z9 d (b*1)))=true):S6 c d g b=Z9 c (b*2+0):=if_neg h
theorem a8W{c d:List AV}{g:Bool}{b:Nat}{v:Int}(h:S6 c d g b=v):cI (tI (S6 c d g) b)++[.v (.int .i64 v)]=cI (tI (S6 c d g) (b+1)):=by rw [← h];exact b5P _ _
theorem b5h{c d:List AV}{g:Bool}{b:Nat}{v:Int}(hb:b=0)(h:S6 c d g b=v):[AV.v (.int .i64 v)]=cI (tI (S6 c d g) (b+1)):=by
 subst hb
 rw [← h,a4Z];rfl
end
end Go.Proofs.Ytegmogadbnfbgaa
namespace Go.Proofs.Ytegmogadbnfbgaa
open Go Ev
noncomputable section
end
end Go.Proofs.Ytegmogadbnfbgaa
namespace Go.Proofs.Ytegmogadbnfbgaa
open Go Ev
noncomputable section
def K3(c0 c1 c2 cY cM:List AV)(i b:Nat):Int:=(match i with|0=>Z9 c0 (b*1)|1=>Z9 c1 (b*1)|_=>Z9 c2 (b*1))*Z9 cY (b*1)*Z9 cM (b*1)
theorem a7W{v0 v1 v2:Value}{X0 X1 X2:List Int}{cY cM:List AV}{i n:Nat}(hi:i<3):V5 (U6 (Y6 [(v0,X0),(v1,X1),(v2,X2)]) cY cM i) n=V5 (K3 (cI X0) (cI X1) (cI X2) cY cM i) n:=by
 match i,hi with
 |0,_=>rfl
 |1,_=>rfl
 |2,_=>rfl
def I9(k n:Nat)(c:List AV):Prop:=k=1∧∃ X,c=cI X∧n=X.length
def w9(m:Nat):Prop:=m=3
theorem Z1{f:Nat→Int}{n:Nat}:List.take (n*(0+1)) (List.drop 0 (cI (tI f n)))=cI (tI f n):=by
 rw [List.drop_zero,List.take_of_length_le (by rw [Z4,Y9];omega)]
theorem a9n{c d:List AV}{g:Bool}{b:Nat}(h:X7 100 c b):0≤S6 c d g b∧S6 c d g b≤100:=by
 unfold X7 at h
 unfold S6
 split<;>omega
def spN(c0 c1 c2 cL cM:List AV)(n:Nat)(g:Bool)(k:Nat):Int:=V5 (K3 (cI (tI (S6 c0 cM g) n)) (cI (tI (S6 c1 cM g) n)) (cI (tI (S6 c2 cM g) n)) (cI (tI (S6 cL cM g) n)) cM k) n
end
end Go.Proofs.Ytegmogadbnfbgaa
namespace Go.Proofs.Ytegmogadbnfbgaa
open Go Ev
noncomputable section
def pxP(cE cL cM:List AV)(i b:Nat):Int:=Z9 (W9 cE (i*1)) (b*2+0)*Z9 cL (b*2+0)*Z9 cM (b*1)
def pyP(cE cL cM:List AV)(i b:Nat):Int:=Z9 (W9 cE (i*1)) (b*2+1)*Z9 cL (b*2+1)*Z9 cM (b*1)
def loP(cE cL cM:List AV)(i b:Nat):Int:=if pyP cE cL cM i b<pxP cE cL cM i b then pyP cE cL cM i b else pxP cE cL cM i b
def hiP(cE cL cM:List AV)(i b:Nat):Int:=if pyP cE cL cM i b > pxP cE cL cM i b then pyP cE cL cM i b else pxP cE cL cM i b
def s6A(p q:Nat→Nat→Int)(n i:Nat):Nat→Int:=fun k=>if k / 2<i then V5 (if k % 2=0 then p (k / 2) else q (k / 2)) n else 0
end
end Go.Proofs.Ytegmogadbnfbgaa
namespace Go.Proofs.Ytegmogadbnfbgaa
open Go Ev
noncomputable section
def Is1(k:Nat):Prop:=k=1
def c95(cE cL cM:List AV)(n:Nat):Prop:=(∀ i,i<3→T5 cE (i*1)=n)∧(∀ b,b<n→X7 100 cL b)∧(∀ i,i<3→∀ b,b<n→X7 100 (W9 cE (i*1)) b)∧(∀ b,b<n → -1000≤Z9 cM (b*1)∧Z9 cM (b*1)≤1000)
end
end Go.Proofs.Ytegmogadbnfbgaa
namespace Go.Proofs.Ytegmogadbnfbgaa
open Go Ev
noncomputable section
section
variable (E : List (Value × List (Int × Int))) (K : List Int) (L : List (Int × Int)) (M : List Int) (X : List (Value × List Int)) (Y : List Int) (q0 q1 u ul y yl z zk : Value)
@[reducible] def b8E:Ev.AB:=(.cells [.xl y E.length 1 (Y5 E),.xl yl L.length 2 (cR L),(.fn (.func 82) [] [.xp q0 1 1 [.xl z M.length 1 (cI M)] 0,.xp q1 1 1 [.xl zk K.length 1 (cI K)] 0])] 85)
@[reducible] def b7O:Ev.AB:=(.cells [.xl u X.length 1 (Y6 X),.xl ul Y.length 1 (cI Y)] 29)
end
def dfF(c d:List AV)(b:Nat):Int:=Z9 c (b*1) - Z9 d (b*1)
def W5(c d:List AV)(n:Nat):List AV:=cI (tI (dfF c d) n)
theorem a9c{c d:List AV}{n b:Nat}(h:b<n):Z9 (W5 c d n) (b*1)=Z9 c (b*1) - Z9 d (b*1):=by
 unfold W5
 rw [Nat.mul_one,a0h h]
 unfold dfF
 rw [Nat.mul_one]
theorem b54{cX cY c d:List AV}{n i b:Nat}(h:b<n):U6 cX cY (W5 c d n) i b=Z9 (W9 cX (i*1)) (b*1)*Z9 cY (b*1)*(Z9 c (b*1) - Z9 d (b*1)):=by
 unfold U6
 rw [a9c h]
theorem a6c{c m k:List AV}{g:Bool}{b n:Nat}(hb:b<n)(h:(g == Y2 0 (Z9 m (b*1) - Z9 k (b*1)))=true):S6 c (W5 m k n) g b=Z9 c (b*2+1):=a3G (by rw [a9c hb];exact h)
theorem a9N{c m k:List AV}{g:Bool}{b n:Nat}(hb:b<n)(h:¬ (g == Y2 0 (Z9 m (b*1) - Z9 k (b*1)))=true):S6 c (W5 m k n) g b=Z9 c (b*2+0):=a62 (by rw [a9c hb];exact h)
theorem b5D{g:Fn}{l:List AV}(h:V4 l):V4 [.fn g [] l]:=fun σ τ hb x e=>by
 simp only [denL,den] at e ⊢
 cases h1:denL σ l with
 |none=>rw [h1] at e;cases e
 |some us =>
  rw [h1] at e
  rw [h σ τ hb us h1]
  exact e
theorem M4{y:Value}{n k i:Nat}{c:List AV}(h:V4 c):V4 [.xp y n k c i]:=fun σ τ hb x e=>by
 simp only [denL,den] at e ⊢
 cases h1:denL σ c with
 |none=>rw [h1] at e;cases e
 |some us =>
  rw [h1] at e
  rw [h σ τ hb us h1,hb]
  exact e
def a56(n k i:Nat):Prop:=n=1∧k=1∧i=0
def b9z(k3 m k4 q k5 r k6 s:Nat)(cX cY cM cK:List AV)(n:Nat):Prop:=∃ (X:List (Value×List Int)) (Y M K:List Int),(k3=1∧cX=Y6 X∧m=X.length)∧(k4=1∧cY=cI Y∧q=Y.length)∧(k5=1∧cM=cI M∧r=M.length)∧(k6=1∧cK=cI K∧s=K.length)∧X.length=3∧(∀ i,i<3→T5 (Y6 X) (i*1)=n)∧Y.length=n∧M.length=n∧K.length=n∧(∀ i,i<3→∀ b,b<n→0≤Z9 (W9 (Y6 X) (i*1)) (b*1)∧Z9 (W9 (Y6 X) (i*1)) (b*1)≤100)∧(∀ b,b<n→0≤Z9 (cI Y) (b*1)∧Z9 (cI Y) (b*1)≤100)∧(∀ b,b<n → -1000≤Z9 (cI M) (b*1) - Z9 (cI K) (b*1)∧Z9 (cI M) (b*1) - Z9 (cI K) (b*1)≤1000)
noncomputable def d06:Code:=O4 Try.f80
set_option maxHeartbeats 2000000 in
theorem c98(y:Value)(E:List (Value×List (Int×Int)))(yl:Value)(L:List (Int×Int))(u:Value)(X:List (Value×List Int))(ul:Value)(Y:List Int)(q0 z:Value)(M:List Int)(q1 zk:Value)(K:List Int)(n c b:Nat)(hx3:X.length=3)(hxr:∀ i,i<3→T5 (Y6 X) (i*1)=n)(hy:Y.length=n)(hm:M.length=n)(hk:K.length=n)(hx1:∀ i,i<3→∀ b,b<n→0≤Z9 (W9 (Y6 X) (i*1)) (b*1)∧Z9 (W9 (Y6 X) (i*1)) (b*1)≤100)(hy1:∀ b,b<n→0≤Z9 (cI Y) (b*1)∧Z9 (cI Y) (b*1)≤100)(hm1:∀ b,b<n → -1000≤Z9 (cI M) (b*1) - Z9 (cI K) (b*1)∧Z9 (cI M) (b*1) - Z9 (cI K) (b*1)≤1000)(hc:c<3)(hb:b<n)(v:BaseW)(eb:Nat→Option Nat)(ec:Nat→Nat)(hs:List Nat):Y7 zP0q 26 d06 (⟨[(0,(nI0 c)),(1,(nI0 b)),(2,(.ptr 0 0)),(3,(.ptr 1 0))],[],2,[(0,(b7O X Y u ul)),(1,(b8E E K L M q0 q1 y yl z zk))]⟩) (BaseW.H (bw v 2 eb ec) hs) (b1D zP0q Try.f80 26 (.int .i64 (U6 (Y6 X) (cI Y) (W5 (cI M) (cI K) n) c b)) [(b7O X Y u ul),(b8E E K L M q0 q1 y yl z zk)] (bw v 2 eb ec)):=by
 have hcl_L:=Z7 L
 have hcl_Y:=Z4 Y
 have hcl_M:=Z4 M
 have hcl_K:=Z4 K
 exact Z8 U9 (Z6 zC0q (Z0) 200 (T':=⟨[(6,(nI0 (Z9 (W9 (Y6 X) (c*1)) (b*1)*Z9 (cI Y) (b*1)*(Z9 (cI M) (b*1) - Z9 (cI K) (b*1)))))],[],2,[(0,(.cells [(.xl (u) (X.length) 1 (Y6 X)),(.xl (ul) (Y.length) 1 (cI Y))] 29)),(1,(.cells [(.xl (y) (E.length) 1 (Y5 E)),(.xl (yl) (L.length) 2 (cR L)),(.fn (.func 82) [] [(AV.xp q0 1 1 [AV.xl z M.length 1 (cI M)] 0),(AV.xp q1 1 1 [AV.xl zk K.length 1 (cI K)] 0)])] 85))]⟩) (e:=.ret) (ps:=[c<X.length,W7 zP0q (Y6 X) (c*1) 27=some (AV.xl (xlY (Y6 X) (c*1)) (T5 (Y6 X) (c*1)) 1 (W9 (Y6 X) (c*1))),b<T5 (Y6 X) (c*1),W7 zP0q (W9 (Y6 X) (c*1)) (b*1) 2=some (AV.v (Value.int IntKind.i64 (Z9 (W9 (Y6 X) (c*1)) (b*1)))),b<Y.length,W7 zP0q (cI Y) (b*1) 2=some (AV.v (Value.int IntKind.i64 (Z9 (cI Y) (b*1)))),N3 IntKind.i64 (Z9 (W9 (Y6 X) (c*1)) (b*1)*Z9 (cI Y) (b*1)),b<M.length,W7 zP0q (cI M) (b*1) 2=some (AV.v (Value.int IntKind.i64 (Z9 (cI M) (b*1)))),b<K.length,W7 zP0q (cI K) (b*1) 2=some (AV.v (Value.int IntKind.i64 (Z9 (cI K) (b*1)))),N3 IntKind.i64 (Z9 (cI M) (b*1) - Z9 (cI K) (b*1)),N3 IntKind.i64 (Z9 (W9 (Y6 X) (c*1)) (b*1)*Z9 (cI Y) (b*1)*(Z9 (cI M) (b*1) - Z9 (cI K) (b*1)))]) (gH 4 ([.sym,.sym,.go,.sym,.sym,.go,.go,.go,.sym,.sym]++gH 10 ([.sym,.sym]++gH 6 ([.sym,.sym]++gH 5 [])))) (by kernel_rfl) (by kernel_rfl) ⟨(by omega),(by rw [Nat.mul_one];exact F9 (by omega) 27 (Try.underlying27) rfl),(by rw [hxr c hc];exact hb),(by have h8:=hxr c hc;obtain ⟨-,L9,e9,n9⟩:=g9 (R:=X) (i:=c) (by omega);rw [e9,Nat.mul_one];exact R7 (by omega) 2 (Try.underlying2) rfl),(by omega),(by rw [Nat.mul_one];exact R7 (show _<Y.length by omega) 2 (Try.underlying2) rfl),(by have h9:=g7 (hx1 c hc b hb) (hy1 b hb) (hm1 b hb);have h8:=hm1 b hb;show -9223372036854775808≤_∧_≤9223372036854775807;constructor<;>omega),(by omega),(by rw [Nat.mul_one];exact R7 (show _<M.length by omega) 2 (Try.underlying2) rfl),(by omega),(by rw [Nat.mul_one];exact R7 (show _<K.length by omega) 2 (Try.underlying2) rfl),(by have h9:=g7 (hx1 c hc b hb) (hy1 b hb) (hm1 b hb);have h8:=hm1 b hb;show -9223372036854775808≤_∧_≤9223372036854775807;constructor<;>omega),(by have h9:=g7 (hx1 c hc b hb) (hy1 b hb) (hm1 b hb);have h8:=hm1 b hb;show -9223372036854775808≤_∧_≤9223372036854775807;constructor<;>omega),trivial⟩ rfl) (b7g (r:=(.int .i64 (Z9 (W9 (Y6 X) (c*1)) (b*1)*Z9 (cI Y) (b*1)*(Z9 (cI M) (b*1) - Z9 (cI K) (b*1))))) (by (rw [b54 hb])) (b32 (v:=(nI0 (Z9 (W9 (Y6 X) (c*1)) (b*1)*Z9 (cI Y) (b*1)*(Z9 (cI M) (b*1) - Z9 (cI K) (b*1))))) (by kernel_rfl) (by kernel_rfl) rfl (.inr rfl)))
theorem c8z(y:Value)(E:List (Value×List (Int×Int)))(yl:Value)(L:List (Int×Int))(u:Value)(X:List (Value×List Int))(ul:Value)(Y:List Int)(q0 z:Value)(M:List Int)(q1 zk:Value)(K:List Int)(n c b:Nat)(hx3:X.length=3)(hxr:∀ i,i<3→T5 (Y6 X) (i*1)=n)(hy:Y.length=n)(hm:M.length=n)(hk:K.length=n)(hx1:∀ i,i<3→∀ b,b<n→0≤Z9 (W9 (Y6 X) (i*1)) (b*1)∧Z9 (W9 (Y6 X) (i*1)) (b*1)≤100)(hy1:∀ b,b<n→0≤Z9 (cI Y) (b*1)∧Z9 (cI Y) (b*1)≤100)(hm1:∀ b,b<n → -1000≤Z9 (cI M) (b*1) - Z9 (cI K) (b*1)∧Z9 (cI M) (b*1) - Z9 (cI K) (b*1)≤1000)(hc:c<3)(hb:b<n):a9s zP0q 80 [(nI0 c),(nI0 b),(.ptr 0 0),(.ptr 1 0)] [(b7O X Y u ul),(b8E E K L M q0 q1 y yl z zk)] (.int .i64 (U6 (Y6 X) (cI Y) (W5 (cI M) (cI K) n) c b)) :=
 a3y 26 Try.func80 (by kernel_rfl) (by kernel_rfl) (by kernel_rfl) (fun v eb ec=>V6 (by kernel_rfl) (by kernel_rfl) (by kernel_rfl) (by kernel_rfl) (c98 y E yl L u X ul Y q0 z M q1 zk K n c b hx3 hxr hy hm hk hx1 hy1 hm1 hc hb v eb ec []))
end
end Go.Proofs.Ytegmogadbnfbgaa
set_option maxHeartbeats 4000000
namespace Go.Proofs.Ytegmogadbnfbgaa
open Go Ev
noncomputable section
section
variable (E : List (Value × List (Int × Int))) (K : List Int) (L : List (Int × Int)) (M : List Int) (X : List (Value × List Int)) (Y : List Int) (i : Nat) (q0 q1 u ul y yl z zk : Value)
@[reducible] def a9w:Ev.AB:=(.cells [(.xl (u) (X.length) 1 (Y6 X)),(.xl (ul) (Y.length) 1 (cI Y))] 29)
@[reducible] def Q4:Nat×Ev.AB:=(0,(a9w X Y u ul))
@[reducible] def a2G:Ev.AB:=(.cells [(.xl (y) (E.length) 1 (Y5 E)),(.xl (yl) (L.length) 2 (cR L)),(.fn (.func 82) [] [(AV.xp q0 1 1 [AV.xl z M.length 1 (cI M)] 0),(AV.xp q1 1 1 [AV.xl zk K.length 1 (cI K)] 0)])] 85)
@[reducible] def Q7:Nat×Ev.AB:=(1,(a2G E K L M q0 q1 y yl z zk))
@[reducible] def P7:Nat×Ev.AB:=(2,(a2G E K L M q0 q1 y yl z zk))
@[reducible] def b5c:Ev.AB:=(.cells [(.fn (.func 80) [] [(.ptr 0 0),(.ptr 1 0)])] 116)
@[reducible] def P6:Nat×Ev.AB:=(3,b5c)
@[reducible] def b2u:Ev.AB:=(.cells [(nI0 (.ofNat 0)),(nI0 (.ofNat 0)),(nI0 (.ofNat 0))] 82)
@[reducible] def Q2:Nat×Ev.AB:=(4,b2u)
@[reducible] def l4:Nat×Ev.AB:=(5,(.cells (cI (tI (w8 (U6 (Y6 X) (cI Y) (W5 (cI M) (cI K) L.length)) L.length i) 3)) 82))
@[reducible] def D6:Nat×Ev.AB:=(6,(.cells [(nI0 i)] 3))
@[reducible] def b2t:Nat×Ev.AB:=(7,(a2G E K L M q0 q1 y yl z zk))
@[reducible] def a8d:Ev.Lit:=⟨[(2,(.ptr 2 0)),(3,(.ptr 3 0)),(4,(.ptr 4 0)),(5,(.ptr 5 0)),(6,(.ptr 6 0)),(8,(nI0 i)),(12,(.fn (.func 93) [] [(.ptr 7 0)]))],[],8,[(Q4 X Y u ul),(Q7 E K L M q0 q1 y yl z zk),(P7 E K L M q0 q1 y yl z zk),P6,Q2,(l4 K L M X Y i),(D6 i),(b2t E K L M q0 q1 y yl z zk)]⟩
@[reducible] def b8M:Ev.AB:=(.cells (cI (tI (thB (U6 (Y6 X) (cI Y) (W5 (cI M) (cI K) L.length)) L.length i L.length) 3)) 82)
@[reducible] def a6b:Nat×Ev.AB:=(5,(b8M K L M X Y i))
@[reducible] def c0k:Ev.Lit:=⟨[(2,(.ptr 2 0)),(3,(.ptr 3 0)),(4,(.ptr 4 0)),(5,(.ptr 5 0)),(6,(.ptr 6 0)),(8,(nI0 i))],[],7,[(Q4 X Y u ul),(Q7 E K L M q0 q1 y yl z zk),(P7 E K L M q0 q1 y yl z zk),P6,Q2,(l4 K L M X Y i),(D6 i)]⟩
@[reducible] def b9H:Ev.Lit:=⟨[(2,(.ptr 2 0)),(3,(.ptr 3 0)),(4,(.ptr 4 0)),(5,(.ptr 5 0)),(8,(nI0 i)),(9,(.v (.bool (Y2 i 3))))],[],6,[(Q4 X Y u ul),(Q7 E K L M q0 q1 y yl z zk),(P7 E K L M q0 q1 y yl z zk),P6,Q2,(l4 K L M X Y i)]⟩
@[reducible] def c12:Ev.Lit:=⟨[(2,(.ptr 2 0)),(3,(.ptr 3 0)),(4,(.ptr 4 0)),(5,(.ptr 5 0)),(8,(nI0 i))],[8],10,[(Q4 X Y u ul),(Q7 E K L M q0 q1 y yl z zk),(P7 E K L M q0 q1 y yl z zk),P6,Q2,(a6b K L M X Y i),(8,(.defd .true))]⟩
@[reducible] def b9Z:Ev.Lit:=⟨[(2,(.ptr 2 0)),(3,(.ptr 3 0)),(4,(.ptr 4 0)),(5,(.ptr 5 0)),(8,(nI0 (((i+1):Nat):Int)))],[],6,[(Q4 X Y u ul),(Q7 E K L M q0 q1 y yl z zk),(P7 E K L M q0 q1 y yl z zk),P6,Q2,(a6b K L M X Y i)]⟩
@[reducible] def c00:Ev.Lit:=⟨[(2,(.ptr 2 0)),(3,(.ptr 3 0)),(4,(.ptr 4 0)),(5,(.ptr 5 0)),(8,(nI0 i))],[],8,[(Q4 X Y u ul),(Q7 E K L M q0 q1 y yl z zk),(P7 E K L M q0 q1 y yl z zk),P6,Q2,(a6b K L M X Y i)]⟩
@[reducible] def a4z:Nat×Ev.AV:=(8,(nI0 (.ofNat 0)))
@[reducible] def b5I:Nat×Ev.AB:=(5,b2u)
@[reducible] def b3T:Ev.Lit:=⟨[(2,(.ptr 2 0)),(3,(.ptr 3 0)),(4,(.ptr 4 0)),(5,(.ptr 5 0)),a4z],[],6,[(Q4 X Y u ul),(Q7 E K L M q0 q1 y yl z zk),(P7 E K L M q0 q1 y yl z zk),P6,Q2,b5I]⟩
@[reducible] def b39:Ev.Lit:=⟨[(2,(.ptr 2 0)),(3,(.ptr 3 0)),(4,(.ptr 4 0)),(5,(.ptr 5 0)),(8,(nI0 i))],[],6,[(Q4 X Y u ul),(Q7 E K L M q0 q1 y yl z zk),(P7 E K L M q0 q1 y yl z zk),P6,Q2,(l4 K L M X Y i)]⟩
@[reducible] def b2r:Ev.Lit:=⟨[(2,(.ptr 2 0)),(3,(.ptr 3 0)),(4,(.ptr 4 0)),(5,(.ptr 5 0))],[],6,[(Q4 X Y u ul),(Q7 E K L M q0 q1 y yl z zk),(P7 E K L M q0 q1 y yl z zk),P6,Q2,b5I]⟩
@[reducible] def b84:Ev.Lit:=⟨[(2,(.ptr 2 0)),(3,(.ptr 3 0)),(4,(.ptr 4 0))],[],5,[(Q4 X Y u ul),(Q7 E K L M q0 q1 y yl z zk),(P7 E K L M q0 q1 y yl z zk),P6,Q2]⟩
@[reducible] def b7A:Ev.Lit:=⟨[(4,(.ptr 4 0)),(5,(.ptr 5 0))],[],6,[(Q4 X Y u ul),(Q7 E K L M q0 q1 y yl z zk),Q2,(5,(.cells (cI (tI (w8 (U6 (Y6 X) (cI Y) (W5 (cI M) (cI K) L.length)) L.length (3)) 3)) 82))]⟩
@[reducible] def b8o:Ev.AB:=(.cells [(nI0 (Z9 (cI (tI (w8 (U6 (Y6 X) (cI Y) (W5 (cI M) (cI K) L.length)) L.length 3) 3)) 0)),(nI0 (Z9 (cI (tI (w8 (U6 (Y6 X) (cI Y) (W5 (cI M) (cI K) L.length)) L.length 3) 3)) (0+1))),(nI0 (Z9 (cI (tI (w8 (U6 (Y6 X) (cI Y) (W5 (cI M) (cI K) L.length)) L.length 3) 3)) (0+1+1)))] 82)
@[reducible] def b6A:List Ev.AV:=[.xl y E.length 1 (Y5 E),.xl yl L.length 2 (cR L),(.fn (.func 82) [] [.xp q0 1 1 [.xl z M.length 1 (cI M)] 0,.xp q1 1 1 [.xl zk K.length 1 (cI K)] 0])]
@[reducible] def G6:Ev.AB:=(.cells (b6A E K L M q0 q1 y yl z zk) 85)
@[reducible] def b8f:Ev.AV:=(.agg (b6A E K L M q0 q1 y yl z zk))
@[reducible] def b7k:List Ev.AV:=[.xl u X.length 1 (Y6 X),.xl ul Y.length 1 (cI Y)]
@[reducible] def G2:Ev.AB:=(.cells (b7k X Y u ul) 29)
@[reducible] def l9:Nat×Ev.AV:=(7,(nI0 L.length))
end
theorem b2p{y yl q0 z q1 zk:Value}{f:FuncId}{t2:TypeId}(E:List (Value×List (Int×Int)))(L:List (Int×Int))(M K:List Int):a2o (AB.cells [.xl y E.length 1 (Y5 E),.xl yl L.length 2 (cR L),.fn (.func f) [] [.xp q0 1 1 [.xl z M.length 1 (cI M)] 0,.xp q1 1 1 [.xl zk K.length 1 (cI K)] 0]] t2):=w6 (E4 (W8 (X9 E)) (E4 (W8 (Y8 (X4 L))) (b5D (E4 (M4 (W8 (Y8 (Z2 M)))) (M4 (W8 (Y8 (Z2 K))))))))
theorem a4R{u ul y yl q0 z q1 zk:Value}{f:FuncId}{t1 t2:TypeId}(X:List (Value×List Int))(Y:List Int)(E:List (Value×List (Int×Int)))(L:List (Int×Int))(M K:List Int):∀ x,x∈[AB.cells (b7k X Y u ul) t1,AB.cells [.xl y E.length 1 (Y5 E),.xl yl L.length 2 (cR L),.fn (.func f) [] [.xp q0 1 1 [.xl z M.length 1 (cI M)] 0,.xp q1 1 1 [.xl zk K.length 1 (cI K)] 0]] t2]→a2o x:=fun x hx=>by
 rcases List.mem_cons.1 hx with rfl|hx
 ·exact w6 (E4 (W8 (I8 X)) (W8 (Y8 (Z2 Y))))
 ·rw [List.mem_singleton.1 hx]
  exact b2p E L M K
def pdS:List AV→List AB→Option (Value×List Prop):=fun args xs =>
 match args with
 |[.v vc,.v vb,p,q]=>match a38 vc,a38 vb,a7u p 0,a7u q 1,xs with
  |some c,some b,true,true,[.cells l1 t1,.cells l2 t2]=>match l1,l2 with
   |[.xl u m k3 cX,.xl ul j k4 cY],[.xl y me k1 cE,.xl yl n k2 cL,.fn (.func f) lz lc]=>match lz,lc,Nat.beq f 82 with
    |[],[.xp q0 a1 a2 d0 a3,.xp q1 b1 b2 d1 b3],true=>match d0,d1 with
     |[.xl z r k5 cM],[.xl zk s k6 cK]=>some (.int .i64 (U6 cX cY (W5 cM cK n) c.toNat b.toNat),[a4S t1,a4V t2,U4 k1 cE me,Y3 k2 n cL,b9z k3 m k4 j k5 r k6 s cX cY cM cK n,a56 a1 a2 a3,a56 b1 b2 b3,0≤c∧c<3,0≤b∧b.toNat<n])
     |_,_=>none
    |_,_,_=>none
   |_,_=>none
  |_,_,_,_,_=>none
 |_=>none
def pdO:O8:=b8v 80 pdS
theorem F6:Known zP0q (clsO pdO):=b3A (fun args xs r ps h hp=>by
 unfold pdS at h
 split at h
 ·split at h
  ·rename_i c b l1 t1 l2 t2 e1 e2 e3 e4
   split at h
   ·split at h
    ·rename_i e5
     split at h
     ·cases h
      obtain ⟨rfl,rfl,⟨rfl,E,rfl,rfl⟩,⟨rfl,L,rfl,rfl⟩,⟨X,Y,M,K,⟨rfl,rfl,rfl⟩,⟨rfl,rfl,rfl⟩,⟨rfl,rfl,rfl⟩,⟨rfl,rfl,rfl⟩,h1,h2,h3,h4,h4',h5,h6,h7⟩,⟨rfl,rfl,rfl⟩,⟨rfl,rfl,rfl⟩,hc,hb,-⟩:=hp
      rw [y8 e1,y8 e2,a08 e3,a08 e4,Nat.eq_of_beq_eq_true e5]
      obtain ⟨c,rfl⟩:∃ k:Nat,c=((k:Nat):Int):=⟨c.toNat,by omega⟩
      obtain ⟨b,rfl⟩:∃ k:Nat,b=((k:Nat):Int):=⟨b.toNat,by omega⟩
      exact ⟨fun x hx=>⟨a4R X Y E L M K x hx,by rcases List.mem_cons.1 hx with rfl|hx;exact a0Q;rw [List.mem_singleton.1 hx];exact a0Q⟩,c8z _ E _ L _ X _ Y _ _ M _ _ K L.length c b h1 h2 h3 h4 h4' h5 h6 h7 (by omega) hb.2⟩
     ·cases h
    ·cases h
   ·cases h
  ·cases h
 ·cases h)
noncomputable def c4F:Code:=O4 Try.f79
noncomputable def c66:Code:=M5 c4F
noncomputable def c39:Code:=M5 c66
noncomputable def a2Z:Code:=M5 c39
noncomputable def c0v:Code:=(f9 c39)
noncomputable def b73:Code:=M5 c0v
noncomputable def c0J:Code:=H3 b73
noncomputable def c0x:Code:=M5 c0J
noncomputable def b3h:Code:=M5 c0x
noncomputable def a5o:Code:=M5 b3h
noncomputable def c07:Code:=a72 (f9 b3h)
noncomputable def c0U:Code:=M5 c07
noncomputable def b7K:Code:=M5 c0U
noncomputable def O1:Code:=a72 b7K
section
variable (E : List (Value × List (Int × Int))) (K : List Int) (L : List (Int × Int)) (M : List Int) (X : List (Value × List Int)) (Y : List Int) (eb : Nat → Option Nat) (ec : Nat → Nat) (i : Nat) (q0 q1 u ul : Value) (v : BaseW) (y yl z zk : Value)
@[reducible] def c06:=(a5e 16 (fun _:Unit=>((⟨[],[],10,9,[(3,(.ptr 3 0)),(5,(.ptr 5 0)),(6,(.ptr 6 0))],[(Q4 X Y u ul),(Q7 E K L M q0 q1 y yl z zk),(P7 E K L M q0 q1 y yl z zk),P6,Q2,(a6b K L M X Y i),(D6 i),(8,(.defd .true))],.ready,none,25,C6 O1,C7 O1,C5 O1,8⟩:Ev.Lit1)).lit) (fun _:Unit=>True) (bw v 10 eb ec))
end
noncomputable def b8l:Code:=O4 Try.f93
noncomputable def b8D:Code:=M5 b8l
noncomputable def c3J:Code:=H3 b8D
section
variable {E:List (Value×List (Int×Int))} {K M Y:List Int} {L:List (Int×Int)} {X:List (Value×List Int)} {eb:Nat→Option Nat} {ec:Nat→Nat} {hs:List Nat} {i:Nat} {q0 q1 u ul y yl z zk:Value} {v:BaseW}
theorem c29(hn8:L.length≤8)(hx3:X.length=3)(hxr:∀ i,i<3→T5 (Y6 X) (i*1)=L.length)(hy:Y.length=L.length)(hm:M.length=L.length)(hk:K.length=L.length)(hx1:∀ i,i<3→∀ b,b<L.length→0≤Z9 (W9 (Y6 X) (i*1)) (b*1)∧Z9 (W9 (Y6 X) (i*1)) (b*1)≤100)(hy1:∀ b,b<L.length→0≤Z9 (cI Y) (b*1)∧Z9 (cI Y) (b*1)≤100)(hm1:∀ b,b<L.length → -1000≤Z9 (cI M) (b*1) - Z9 (cI K) (b*1)∧Z9 (cI M) (b*1) - Z9 (cI K) (b*1)≤1000)(hi1:i≤3)(hi2:True)(hqsd23_1:(Y2 i 3)=true):Y7 zP0q 16 b8D ((⟨[(0,(.yld 9)),(l9 L),a4z],[],10,9,[(3,(.ptr 3 0)),(5,(.ptr 5 0)),(6,(.ptr 6 0))],[(Q4 X Y u ul),(Q7 E K L M q0 q1 y yl z zk),(P7 E K L M q0 q1 y yl z zk),P6,Q2,(l4 K L M X Y i),(D6 i),(8,(.defd .true))],.ready,none,25,C6 O1,C7 O1,C5 O1,8⟩:Ev.Lit1).lit) (bw v 10 eb ec) (c06 E K L M X Y eb ec i q0 q1 u ul v y yl z zk):=by
 have hcl_L:=Z7 L
 have hcl_Y:=Z4 Y
 have hcl_M:=Z4 M
 have hcl_K:=Z4 K
 have ghqsd23_1:=X5 hqsd23_1
 refine V6 (T':=(⟨[(0,(.yld 9)),(l9 L),a4z],[],10,9,[(3,(.ptr 3 0)),(5,(.ptr 5 0)),(6,(.ptr 6 0))],[(Q4 X Y u ul),(Q7 E K L M q0 q1 y yl z zk),(P7 E K L M q0 q1 y yl z zk),P6,Q2,(l4 K L M X Y i),(D6 i),(8,(.defd .true))],.ready,none,25,C6 O1,C7 O1,C5 O1,8⟩:Ev.Lit1).lit) (by kernel_rfl) (by kernel_rfl) (by kernel_rfl) (by kernel_rfl) (a2F (ι:={j:Nat // j≤L.length∧True}) (T:=(fun j:{j:Nat // j≤L.length∧True}=>(⟨[(0,(.yld 9)),(l9 L),(8,(nI0 j.1))],[],10,9,[(3,(.ptr 3 0)),(5,(.ptr 5 0)),(6,(.ptr 6 0))],[(Q4 X Y u ul),(Q7 E K L M q0 q1 y yl z zk),(P7 E K L M q0 q1 y yl z zk),P6,Q2,(5,(.cells (cI (tI (thB (U6 (Y6 X) (cI Y) (W5 (cI M) (cI K) L.length)) L.length i j.1) 3)) 82)),(D6 i),(8,(.defd .true))],.ready,none,25,C6 O1,C7 O1,C5 O1,8⟩:Ev.Lit1).lit)) (R:=(fun j:{j:Nat // j≤L.length∧True}=>L.length≤j.1)) (by kernel_rfl) (a6a (show ((⟨[(0,(.yld 9)),(l9 L),a4z],[],10,9,[(3,(.ptr 3 0)),(5,(.ptr 5 0)),(6,(.ptr 6 0))],[(Q4 X Y u ul),(Q7 E K L M q0 q1 y yl z zk),(P7 E K L M q0 q1 y yl z zk),P6,Q2,(l4 K L M X Y i),(D6 i),(8,(.defd .true))],.ready,none,25,C6 O1,C7 O1,C5 O1,8⟩:Ev.Lit1).lit:Ev.Lit)=(⟨[(0,(.yld 9)),(l9 L),(8,(nI0 0))],[],10,9,[(3,(.ptr 3 0)),(5,(.ptr 5 0)),(6,(.ptr 6 0))],[(Q4 X Y u ul),(Q7 E K L M q0 q1 y yl z zk),(P7 E K L M q0 q1 y yl z zk),P6,Q2,(5,(.cells (cI (tI (thB (U6 (Y6 X) (cI Y) (W5 (cI M) (cI K) L.length)) L.length i 0) 3)) 82)),(D6 i),(8,(.defd .true))],.ready,none,25,C6 O1,C7 O1,C5 O1,8⟩:Ev.Lit1).lit from by (rw [a8y];rfl)) (a7 (by kernel_rfl) (fun j:{j:Nat // j≤L.length∧True}=>(⟨[(0,(.yld 9)),(l9 L),(8,(nI0 j.1))],[],10,9,[(3,(.ptr 3 0)),(5,(.ptr 5 0)),(6,(.ptr 6 0))],[(Q4 X Y u ul),(Q7 E K L M q0 q1 y yl z zk),(P7 E K L M q0 q1 y yl z zk),P6,Q2,(5,(.cells (cI (tI (thB (U6 (Y6 X) (cI Y) (W5 (cI M) (cI K) L.length)) L.length i j.1) 3)) 82)),(D6 i),(8,(.defd .true))],.ready,none,25,C6 O1,C7 O1,C5 O1,8⟩:Ev.Lit1).lit) (fun j:{j:Nat // j≤L.length∧True}=>L.length - j.1) (fun i=>?_) ⟨0,Nat.zero_le _,trivial⟩)) (fun ixR hxR=>(fun (j0r:Nat) (h0ra:j0r≤L.length) (h0rb:True) (h0rc:L.length≤j0r)=>⟨(),show True from trivial,(by obtain ⟨i9,q1,q2⟩:=ixR;have h9:L.length≤i9:=hxR;have e:i9=L.length:=(by omega);subst e;exact o9 (by kernel_rfl) (by kernel_rfl) (by kernel_rfl) (by kernel_rfl))⟩) ixR.1 ixR.2.1 ixR.2.2 hxR))
 obtain ⟨j,hi1,hi2⟩:=i
 show Y7 zP0q 16 c3J ((⟨[(0,(.yld 9)),(l9 L),(8,(nI0 j))],[],10,9,[(3,(.ptr 3 0)),(5,(.ptr 5 0)),(6,(.ptr 6 0))],[(Q4 X Y u ul),(Q7 E K L M q0 q1 y yl z zk),(P7 E K L M q0 q1 y yl z zk),P6,Q2,(5,(.cells (cI (tI (thB (U6 (Y6 X) (cI Y) (W5 (cI M) (cI K) L.length)) L.length i j) 3)) 82)),(D6 i),(8,(.defd .true))],.ready,none,25,C6 O1,C7 O1,C5 O1,8⟩:Ev.Lit1).lit) (bw v 10 eb ec) (a50 _ _ _ _ _ _ _ _)
 rcases zB0q (Y2 j L.length) with hl0_1|hl0_1
 ·have ghl0_1:=X5 hl0_1
  refine Ev.step_on ⟨j+1,by omega,trivial⟩ (by show L.length - (j+1)<L.length - j;omega) ?_
  show Y7 _ _ _ _ _ (D7 _ isN ((⟨[(0,(.yld 9)),(l9 L),(8,(nI0 (((j+1):Nat):Int)))],[],10,9,[(3,(.ptr 3 0)),(5,(.ptr 5 0)),(6,(.ptr 6 0))],[(Q4 X Y u ul),(Q7 E K L M q0 q1 y yl z zk),(P7 E K L M q0 q1 y yl z zk),P6,Q2,(5,(.cells (cI (tI (thB (U6 (Y6 X) (cI Y) (W5 (cI M) (cI K) L.length)) L.length i (j+1)) 3)) 82)),(D6 i),(8,(.defd .true))],.ready,none,25,C6 O1,C7 O1,C5 O1,8⟩:Ev.Lit1).lit) _)
  rw [show ((cI (tI (thB (U6 (Y6 X) (cI Y) (W5 (cI M) (cI K) L.length)) L.length i (j+1)) 3)):List AV)=(R1 (cI (tI (thB (U6 (Y6 X) (cI Y) (W5 (cI M) (cI K) L.length)) L.length i j) 3)) (0+i*1) [(nI0 (Z9 (cI (tI (thB (U6 (Y6 X) (cI Y) (W5 (cI M) (cI K) L.length)) L.length i j) 3)) (0+i*1)+U6 (Y6 X) (cI Y) (W5 (cI M) (cI K) L.length) i j))]) from by (refine (b0M (i:=i) (j:=j) (by omega) ?_).symm;rw [a9q (i:=i) (by omega)])]
  exact B9 zC0q (F6) 200 (T':=(⟨[(0,(.yld 9)),(l9 L),(8,(nI0 (((j+1):Nat):Int)))],[],10,9,[(3,(.ptr 3 0)),(5,(.ptr 5 0)),(6,(.ptr 6 0))],[(Q4 X Y u ul),(Q7 E K L M q0 q1 y yl z zk),(P7 E K L M q0 q1 y yl z zk),P6,Q2,(5,(.cells (R1 (cI (tI (thB (U6 (Y6 X) (cI Y) (W5 (cI M) (cI K) L.length)) L.length i j) 3)) (0+i*1) [(nI0 (Z9 (cI (tI (thB (U6 (Y6 X) (cI Y) (W5 (cI M) (cI K) L.length)) L.length i j) 3)) (0+i*1)+U6 (Y6 X) (cI Y) (W5 (cI M) (cI K) L.length) i j))]) 82)),(D6 i),(8,(.defd .true))],.ready,none,25,C6 O1,C7 O1,C5 O1,8⟩:Ev.Lit1)) (e:=.normal) (ps:=[Y2 j L.length=true,i<3,W7 zP0q (cI (tI (thB (U6 (Y6 X) (cI Y) (W5 (cI M) (cI K) L.length)) L.length i j) 3)) (0+i*1) 2=some (AV.v (Value.int IntKind.i64 (Z9 (cI (tI (thB (U6 (Y6 X) (cI Y) (W5 (cI M) (cI K) L.length)) L.length i j) 3)) (0+i*1)))),a4S 29,a4V 85,U4 1 (Y5 E) E.length,Y3 2 L.length (cR L),b9z 1 X.length 1 Y.length 1 M.length 1 K.length (Y6 X) (cI Y) (cI M) (cI K) L.length,a56 1 1 0,a56 1 1 0,(0:Int)≤((i:Nat):Int)∧((i:Nat):Int)<3,(0:Int)≤((j:Nat):Int)∧j<L.length,N3 IntKind.i64 (Z9 (cI (tI (thB (U6 (Y6 X) (cI Y) (W5 (cI M) (cI K) L.length)) L.length i j) 3)) (0+i*1)+U6 (Y6 X) (cI Y) (W5 (cI M) (cI K) L.length) i j),i<3,0+i*1+([(nI0 (Z9 (cI (tI (thB (U6 (Y6 X) (cI Y) (W5 (cI M) (cI K) L.length)) L.length i j) 3)) (0+i*1)+U6 (Y6 X) (cI Y) (W5 (cI M) (cI K) L.length) i j))]:List AV).length≤((cI (tI (thB (U6 (Y6 X) (cI Y) (W5 (cI M) (cI K) L.length)) L.length i j) 3)):List AV).length,(!true)=false,N3 IntKind.i64 (((j:Nat):Int)+1)]) ([.go,.b true]++gH 6 ([.sym,.sym]++gH 4 [.sym,.sym,.go,.b false,.go,.go])) (by kernel_rfl) (by kernel_rfl) ⟨hl0_1,(by omega),(R7 (by rw [Y9];omega) 2 (Try.underlying2) rfl),rfl,rfl,⟨rfl,E,rfl,rfl⟩,⟨rfl,L,rfl,rfl⟩,⟨X,Y,M,K,⟨rfl,rfl,rfl⟩,⟨rfl,rfl,rfl⟩,⟨rfl,rfl,rfl⟩,⟨rfl,rfl,rfl⟩,hx3,hxr,hy,hm,hk,hx1,hy1,hm1⟩,⟨rfl,rfl,rfl⟩,⟨rfl,rfl,rfl⟩,(by omega),(by omega),(by rw [a9q (by omega)];have h9:=b1P (p:=U6 (Y6 X) (cI Y) (W5 (cI M) (cI K) L.length) i) (m:=10000000) (n:=j) (fun b hb=>by rw [b54 (by omega)];exact (g7 (hx1 i (by omega) b (by omega)) (hy1 b (by omega)) (hm1 b (by omega))).2);have h8 : -10000000≤U6 (Y6 X) (cI Y) (W5 (cI M) (cI K) L.length) i j∧U6 (Y6 X) (cI Y) (W5 (cI M) (cI K) L.length) i j≤10000000:=(by rw [b54 (by omega)];exact (g7 (hx1 i (by omega) j (by omega)) (hy1 j (by omega)) (hm1 j (by omega))).2);show -9223372036854775808≤_∧_≤9223372036854775807;constructor<;>omega),(by omega),(by show 0+i*1+1≤_;rw [Z4,Y9];omega),rfl,(by show -9223372036854775808≤_∧_≤9223372036854775807;constructor<;>omega),trivial⟩ rfl
 ·have ghl0_1:=Z5 hl0_1
  exact Ev.step_out (by show L.length≤j;omega) (B9 zC0q (F6) 200 (T':=(⟨[(0,(.yld 9)),(l9 L),(8,(nI0 j))],[],10,9,[(3,(.ptr 3 0)),(5,(.ptr 5 0)),(6,(.ptr 6 0))],[(Q4 X Y u ul),(Q7 E K L M q0 q1 y yl z zk),(P7 E K L M q0 q1 y yl z zk),P6,Q2,(5,(.cells (cI (tI (thB (U6 (Y6 X) (cI Y) (W5 (cI M) (cI K) L.length)) L.length i j) 3)) 82)),(D6 i),(8,(.defd .true))],.ready,none,25,C6 O1,C7 O1,C5 O1,8⟩:Ev.Lit1)) (e:=.exit 0) (ps:=[Y2 j L.length=false]) [.go,.b false] (by kernel_rfl) (by kernel_rfl) ⟨hl0_1,trivial⟩ rfl)
theorem c3V(hn8:L.length≤8)(hx3:X.length=3)(hxr:∀ i,i<3→T5 (Y6 X) (i*1)=L.length)(hy:Y.length=L.length)(hm:M.length=L.length)(hk:K.length=L.length)(hx1:∀ i,i<3→∀ b,b<L.length→0≤Z9 (W9 (Y6 X) (i*1)) (b*1)∧Z9 (W9 (Y6 X) (i*1)) (b*1)≤100)(hy1:∀ b,b<L.length→0≤Z9 (cI Y) (b*1)∧Z9 (cI Y) (b*1)≤100)(hm1:∀ b,b<L.length → -1000≤Z9 (cI M) (b*1) - Z9 (cI K) (b*1)∧Z9 (cI M) (b*1) - Z9 (cI K) (b*1)≤1000)(hi1:i≤3)(hi2:True)(hqsd23_1:(Y2 i 3)=true):Y7 zP0q 16 b8l ((⟨[(0,(.yld 9)),(1,(.ptr 7 0))],[],10,9,[(3,(.ptr 3 0)),(5,(.ptr 5 0)),(6,(.ptr 6 0))],[(Q4 X Y u ul),(Q7 E K L M q0 q1 y yl z zk),(P7 E K L M q0 q1 y yl z zk),P6,Q2,(l4 K L M X Y i),(D6 i),(b2t E K L M q0 q1 y yl z zk),(8,(.defd .true))],.ready,none,25,C6 O1,C7 O1,C5 O1,8⟩:Ev.Lit1).lit) (bw v 10 eb ec) (c06 E K L M X Y eb ec i q0 q1 u ul v y yl z zk):=by
 have hcl_L:=Z7 L
 have hcl_Y:=Z4 Y
 have hcl_M:=Z4 M
 have hcl_K:=Z4 K
 have ghqsd23_1:=X5 hqsd23_1
 exact N6 (T':=(⟨[(0,(.yld 9)),(l9 L),a4z],[],10,9,[(3,(.ptr 3 0)),(5,(.ptr 5 0)),(6,(.ptr 6 0))],[(Q4 X Y u ul),(Q7 E K L M q0 q1 y yl z zk),(P7 E K L M q0 q1 y yl z zk),P6,Q2,(l4 K L M X Y i),(D6 i),(8,(.defd .true))],.ready,none,25,C6 O1,C7 O1,C5 O1,8⟩:Ev.Lit1).lit) (by kernel_rfl) (B9 zC0q (F6) 200 (T':=(⟨[(0,(.yld 9)),(l9 L),a4z],[],10,9,[(3,(.ptr 3 0)),(5,(.ptr 5 0)),(6,(.ptr 6 0))],[(Q4 X Y u ul),(Q7 E K L M q0 q1 y yl z zk),(P7 E K L M q0 q1 y yl z zk),P6,Q2,(l4 K L M X Y i),(D6 i),(8,(.defd .true))],.ready,none,25,C6 O1,C7 O1,C5 O1,8⟩:Ev.Lit1)) (e:=.normal) (ps:=[]) (gH 5 []) (by kernel_rfl) (by kernel_rfl) trivial rfl) (c29 hn8 hx3 hxr hy hm hk hx1 hy1 hm1 hi1 hi2 hqsd23_1)
theorem c8r(hn8:L.length≤8)(hx3:X.length=3)(hxr:∀ i,i<3→T5 (Y6 X) (i*1)=L.length)(hy:Y.length=L.length)(hm:M.length=L.length)(hk:K.length=L.length)(hx1:∀ i,i<3→∀ b,b<L.length→0≤Z9 (W9 (Y6 X) (i*1)) (b*1)∧Z9 (W9 (Y6 X) (i*1)) (b*1)≤100)(hy1:∀ b,b<L.length→0≤Z9 (cI Y) (b*1)∧Z9 (cI Y) (b*1)≤100)(hm1:∀ b,b<L.length → -1000≤Z9 (cI M) (b*1) - Z9 (cI K) (b*1)∧Z9 (cI M) (b*1) - Z9 (cI K) (b*1)≤1000)(hi1:i≤3)(hi2:True)(hqsd23_1:(Y2 i 3)=true):Y7 zP0q 25 a5o ((c00 E K L M X Y i q0 q1 u ul y yl z zk)) (BaseW.H (bw v 2 eb ec) hs) (Hd.StepC zP0q 25 0 (fun i:{i:Nat // i≤3∧True}=>⟨[(2,(.ptr 2 0)),(3,(.ptr 3 0)),(4,(.ptr 4 0)),(5,(.ptr 5 0)),(8,(nI0 i.1))],[],6,[(Q4 X Y u ul),(Q7 E K L M q0 q1 y yl z zk),(P7 E K L M q0 q1 y yl z zk),P6,Q2,(5,(.cells (cI (tI (w8 (U6 (Y6 X) (cI Y) (W5 (cI M) (cI K) L.length)) L.length i.1) 3)) 82))]⟩) (fun i:{i:Nat // i≤3∧True}=>3 - i.1) a2Z (bw v 2 eb ec) (T4 zP0q Try.f79 25 ((.agg [nI0 (V5 (U6 (Y6 X) (cI Y) (W5 (cI M) (cI K) L.length) 0) L.length),nI0 (V5 (U6 (Y6 X) (cI Y) (W5 (cI M) (cI K) L.length) 1) L.length),nI0 (V5 (U6 (Y6 X) (cI Y) (W5 (cI M) (cI K) L.length) 2) L.length)])) [(G2 X Y u ul),(G6 E K L M q0 q1 y yl z zk)] (bw v 2 eb ec)) (⟨i,hi1,hi2⟩:{i:Nat // i≤3∧True})):=by
 have hcl_L:=Z7 L
 have hcl_Y:=Z4 Y
 have hcl_M:=Z4 M
 have hcl_K:=Z4 K
 have ghqsd23_1:=X5 hqsd23_1
 exact Z8 W4 (c9 zC0q (F6) 200 (T':=(b9Z E K L M X Y i q0 q1 u ul y yl z zk)) (e:=.normal) (m:=8) (ps:=[N3 IntKind.i64 (((i:Nat):Int)+1)]) [.go,.go] (by kernel_rfl) (by kernel_rfl) ⟨(by show -9223372036854775808≤_∧_≤9223372036854775807;constructor<;>omega),trivial⟩ rfl (by show 6≤8;decide) ⟨⟨t9 (by show 2<6;decide),t9 (by show 3<6;decide),t9 (by show 4<6;decide),t9 (by show 5<6;decide),a0A _,trivial⟩,⟨⟨by show 0<6;decide,I3 (R6 (z0 (W8 (I8 _))) (R6 (a0p (Z2 Y)) (fun _ hz=>absurd hz List.not_mem_nil)))⟩,⟨by show 1<6;decide,I3 (R6 (z0 (W8 (X9 _))) (R6 (a0p (X4 L)) (R6 (a8j (fun _ hz=>absurd hz List.not_mem_nil) (R6 (z0 (M4 (W8 (Y8 (Z2 _))))) (R6 (z0 (M4 (W8 (Y8 (Z2 _))))) (fun _ hz=>absurd hz List.not_mem_nil)))) (fun _ hz=>absurd hz List.not_mem_nil))))⟩,⟨by show 2<6;decide,I3 (R6 (z0 (W8 (X9 _))) (R6 (a0p (X4 L)) (R6 (a8j (fun _ hz=>absurd hz List.not_mem_nil) (R6 (z0 (M4 (W8 (Y8 (Z2 _))))) (R6 (z0 (M4 (W8 (Y8 (Z2 _))))) (fun _ hz=>absurd hz List.not_mem_nil)))) (fun _ hz=>absurd hz List.not_mem_nil))))⟩,⟨by show 3<6;decide,I3 (R6 (a8j (fun _ hz=>absurd hz List.not_mem_nil) (R6 (t9 (by show 0<6;decide)) (R6 (t9 (by show 1<6;decide)) (fun _ hz=>absurd hz List.not_mem_nil)))) (fun _ hz=>absurd hz List.not_mem_nil))⟩,⟨by show 4<6;decide,I3 (R6 (a0A _) (R6 (a0A _) (R6 (a0A _) (fun _ hz=>absurd hz List.not_mem_nil))))⟩,⟨by show 5<6;decide,a7X (Z2 _)⟩,trivial⟩,rfl⟩ (by show 2≤6;decide)) (Hd.en_on (⟨i+1,by omega,trivial⟩) (by show 3 - (i+1)<3 - i;omega) (show ((b9Z E K L M X Y i q0 q1 u ul y yl z zk):Ev.Lit)=⟨[(2,(.ptr 2 0)),(3,(.ptr 3 0)),(4,(.ptr 4 0)),(5,(.ptr 5 0)),(8,(nI0 (((i+1):Nat):Int)))],[],6,[(Q4 X Y u ul),(Q7 E K L M q0 q1 y yl z zk),(P7 E K L M q0 q1 y yl z zk),P6,Q2,(5,(.cells (cI (tI (w8 (U6 (Y6 X) (cI Y) (W5 (cI M) (cI K) L.length)) L.length (i+1)) 3)) 82))]⟩ from by have hz_:=congrArg (fun (xq0:Ev.AB)=>(⟨[(2,(.ptr 2 0)),(3,(.ptr 3 0)),(4,(.ptr 4 0)),(5,(.ptr 5 0)),(8,(nI0 (((i+1):Nat):Int)))],[],6,[(Q4 X Y u ul),(Q7 E K L M q0 q1 y yl z zk),(P7 E K L M q0 q1 y yl z zk),P6,Q2,(5,xq0)]⟩:Ev.Lit)) (congrArg (fun z=>Ev.AB.cells z 82) (show ((cI (tI (thB (U6 (Y6 X) (cI Y) (W5 (cI M) (cI K) L.length)) L.length i L.length) 3)):List Ev.AV)=(cI (tI (w8 (U6 (Y6 X) (cI Y) (W5 (cI M) (cI K) L.length)) L.length (i+1)) 3)) from by rw [b3U]));exact hz_))
theorem c7H(hn8:L.length≤8)(hx3:X.length=3)(hxr:∀ i,i<3→T5 (Y6 X) (i*1)=L.length)(hy:Y.length=L.length)(hm:M.length=L.length)(hk:K.length=L.length)(hx1:∀ i,i<3→∀ b,b<L.length→0≤Z9 (W9 (Y6 X) (i*1)) (b*1)∧Z9 (W9 (Y6 X) (i*1)) (b*1)≤100)(hy1:∀ b,b<L.length→0≤Z9 (cI Y) (b*1)∧Z9 (cI Y) (b*1)≤100)(hm1:∀ b,b<L.length → -1000≤Z9 (cI M) (b*1) - Z9 (cI K) (b*1)∧Z9 (cI M) (b*1) - Z9 (cI K) (b*1)≤1000)(hi1:i≤3)(hi2:True)(hqsd23_1:(Y2 i 3)=true):Y7 zP0q 25 O1 ((a8d E K L M X Y i q0 q1 u ul y yl z zk)) (BaseW.H (bw v 2 eb ec) hs) (a4j 2 (Hd.AfterB zP0q 25 1 a5o (bw v 2 eb ec) (Hd.StepC zP0q 25 0 (fun i:{i:Nat // i≤3∧True}=>⟨[(2,(.ptr 2 0)),(3,(.ptr 3 0)),(4,(.ptr 4 0)),(5,(.ptr 5 0)),(8,(nI0 i.1))],[],6,[(Q4 X Y u ul),(Q7 E K L M q0 q1 y yl z zk),(P7 E K L M q0 q1 y yl z zk),P6,Q2,(5,(.cells (cI (tI (w8 (U6 (Y6 X) (cI Y) (W5 (cI M) (cI K) L.length)) L.length i.1) 3)) 82))]⟩) (fun i:{i:Nat // i≤3∧True}=>3 - i.1) a2Z (bw v 2 eb ec) (T4 zP0q Try.f79 25 ((.agg [nI0 (V5 (U6 (Y6 X) (cI Y) (W5 (cI M) (cI K) L.length) 0) L.length),nI0 (V5 (U6 (Y6 X) (cI Y) (W5 (cI M) (cI K) L.length) 1) L.length),nI0 (V5 (U6 (Y6 X) (cI Y) (W5 (cI M) (cI K) L.length) 2) L.length)])) [(G2 X Y u ul),(G6 E K L M q0 q1 y yl z zk)] (bw v 2 eb ec)) (⟨i,hi1,hi2⟩:{i:Nat // i≤3∧True})))):=by
 have hcl_L:=Z7 L
 have hcl_Y:=Z4 Y
 have hcl_M:=Z4 M
 have hcl_K:=Z4 K
 have ghqsd23_1:=X5 hqsd23_1
 refine V6 (T':=(a8d E K L M X Y i q0 q1 u ul y yl z zk)) (by kernel_rfl) (by kernel_rfl) (by kernel_rfl) (by kernel_rfl) ?_
 exact a1H (T1:=(⟨[(0,(.yld 9)),(1,(.ptr 7 0))],[],10,9,[(3,(.ptr 3 0)),(5,(.ptr 5 0)),(6,(.ptr 6 0))],[(Q4 X Y u ul),(Q7 E K L M q0 q1 y yl z zk),(P7 E K L M q0 q1 y yl z zk),P6,Q2,(l4 K L M X Y i),(D6 i),(b2t E K L M q0 q1 y yl z zk),(8,(.defd .true))],.ready,none,25,C6 O1,C7 O1,C5 O1,8⟩:Ev.Lit1)) (T2:=(fun _:Unit=>(⟨[],[],10,9,[(3,(.ptr 3 0)),(5,(.ptr 5 0)),(6,(.ptr 6 0))],[(Q4 X Y u ul),(Q7 E K L M q0 q1 y yl z zk),(P7 E K L M q0 q1 y yl z zk),P6,Q2,(a6b K L M X Y i),(D6 i),(8,(.defd .true))],.ready,none,25,C6 O1,C7 O1,C5 O1,8⟩:Ev.Lit1))) (T3:=fun _:Unit=>(c12 E K L M X Y i q0 q1 u ul y yl z zk)) (R:=(fun _:Unit=>True)) (k:=93) (l:=9) (szk:=16) (K:=10) (e:=fun _=>.normal) rfl (by kernel_rfl) Try.func93 (by kernel_rfl) (by kernel_rfl) (by kernel_rfl) (by kernel_rfl) (by kernel_rfl) (fun _ _=>rfl) (fun v eb ec=>c3V hn8 hx3 hxr hy hm hk hx1 hy1 hm1 hi1 hi2 hqsd23_1) (fun _ _=>by kernel_rfl) (fun _ _=>a8N (T:=(c12 E K L M X Y i q0 q1 u ul y yl z zk)) (T':=(c00 E K L M X Y i q0 q1 u ul y yl z zk)) (m:=8) [0,1,2,3,4,5,6,7] [(.ptr 2 0),(.ptr 3 0),(.ptr 4 0),(.ptr 5 0),(nI0 i)] [(a9w X Y u ul),(a2G E K L M q0 q1 y yl z zk),(a2G E K L M q0 q1 y yl z zk),b5c,b2u,(b8M K L M X Y i)] rfl (by kernel_rfl) rfl rfl (by decide) (by kernel_rfl) (by kernel_rfl) ⟨V0 rfl,V0 rfl,V0 rfl,V0 rfl,N7 _,trivial⟩ ⟨⟨by show 0<8;decide,X6 (Z3 (S5 (W8 (I8 _))) (Z3 (N8 (Y4 (Z2 Y))) (Y0)))⟩,⟨by show 1<8;decide,X6 (Z3 (S5 (W8 (X9 _))) (Z3 (N8 (Y4 (X4 L))) (Z3 (a07 (Y0) (Z3 (S5 (M4 (W8 (Y8 (Z2 _))))) (Z3 (S5 (M4 (W8 (Y8 (Z2 _))))) (Y0)))) (Y0))))⟩,⟨by show 2<8;decide,X6 (Z3 (S5 (W8 (X9 _))) (Z3 (N8 (Y4 (X4 L))) (Z3 (a07 (Y0) (Z3 (S5 (M4 (W8 (Y8 (Z2 _))))) (Z3 (S5 (M4 (W8 (Y8 (Z2 _))))) (Y0)))) (Y0))))⟩,⟨by show 3<8;decide,X6 (Z3 (a07 (Y0) (Z3 (V0 rfl) (Z3 (V0 rfl) (Y0)))) (Y0))⟩,⟨by show 4<8;decide,X6 (Z3 (N7 _) (Z3 (N7 _) (Z3 (N7 _) (Y0))))⟩,⟨by show 5<8;decide,X6 (Y4 (Z2 _))⟩,trivial⟩ ⟨(by show 0≠8;decide),(by show 1≠8;decide),(by show 2≠8;decide),(by show 3≠8;decide),(by show 4≠8;decide),(by show 5≠8;decide),trivial⟩ (by show 2≤8;decide) (fun b hb=>(by have hb2:b<2:=hb;match b,hb2 with|0,_=>rfl|1,_=>rfl)) (fun hs=>c0W (Hd.en_bn (c8r hn8 hx3 hxr hy hm hk hx1 hy1 hm1 hi1 hi2 hqsd23_1))))
theorem c85(hn8:L.length≤8)(hx3:X.length=3)(hxr:∀ i,i<3→T5 (Y6 X) (i*1)=L.length)(hy:Y.length=L.length)(hm:M.length=L.length)(hk:K.length=L.length)(hx1:∀ i,i<3→∀ b,b<L.length→0≤Z9 (W9 (Y6 X) (i*1)) (b*1)∧Z9 (W9 (Y6 X) (i*1)) (b*1)≤100)(hy1:∀ b,b<L.length→0≤Z9 (cI Y) (b*1)∧Z9 (cI Y) (b*1)≤100)(hm1:∀ b,b<L.length → -1000≤Z9 (cI M) (b*1) - Z9 (cI K) (b*1)∧Z9 (cI M) (b*1) - Z9 (cI K) (b*1)≤1000)(hi1:i≤3)(hi2:True)(hqsd23_1:(Y2 i 3)=true):Y7 zP0q 25 O1 ((a8d E K L M X Y i q0 q1 u ul y yl z zk)) (BaseW.H (bw v 2 eb ec) hs) (a4j 2 (Hd.AfterB zP0q 25 1 a5o (bw v 2 eb ec) (Hd.StepC zP0q 25 0 (fun i:{i:Nat // i≤3∧True}=>⟨[(2,(.ptr 2 0)),(3,(.ptr 3 0)),(4,(.ptr 4 0)),(5,(.ptr 5 0)),(8,(nI0 i.1))],[],6,[(Q4 X Y u ul),(Q7 E K L M q0 q1 y yl z zk),(P7 E K L M q0 q1 y yl z zk),P6,Q2,(5,(.cells (cI (tI (w8 (U6 (Y6 X) (cI Y) (W5 (cI M) (cI K) L.length)) L.length i.1) 3)) 82))]⟩) (fun i:{i:Nat // i≤3∧True}=>3 - i.1) a2Z (bw v 2 eb ec) (T4 zP0q Try.f79 25 ((.agg [nI0 (V5 (U6 (Y6 X) (cI Y) (W5 (cI M) (cI K) L.length) 0) L.length),nI0 (V5 (U6 (Y6 X) (cI Y) (W5 (cI M) (cI K) L.length) 1) L.length),nI0 (V5 (U6 (Y6 X) (cI Y) (W5 (cI M) (cI K) L.length) 2) L.length)])) [(G2 X Y u ul),(G6 E K L M q0 q1 y yl z zk)] (bw v 2 eb ec)) (⟨i,hi1,hi2⟩:{i:Nat // i≤3∧True})))):=by
 exact c7H hn8 hx3 hxr hy hm hk hx1 hy1 hm1 hi1 hi2 hqsd23_1
theorem c5U(hn8:L.length≤8)(hx3:X.length=3)(hxr:∀ i,i<3→T5 (Y6 X) (i*1)=L.length)(hy:Y.length=L.length)(hm:M.length=L.length)(hk:K.length=L.length)(hx1:∀ i,i<3→∀ b,b<L.length→0≤Z9 (W9 (Y6 X) (i*1)) (b*1)∧Z9 (W9 (Y6 X) (i*1)) (b*1)≤100)(hy1:∀ b,b<L.length→0≤Z9 (cI Y) (b*1)∧Z9 (cI Y) (b*1)≤100)(hm1:∀ b,b<L.length → -1000≤Z9 (cI M) (b*1) - Z9 (cI K) (b*1)∧Z9 (cI M) (b*1) - Z9 (cI K) (b*1)≤1000)(hi1:i≤3)(hi2:True)(hqsd23_1:(Y2 i 3)=true):Y7 zP0q 25 b7K ((a8d E K L M X Y i q0 q1 u ul y yl z zk)) (BaseW.H (bw v 2 eb ec) hs) (Hd.AfterB zP0q 25 1 a5o (bw v 2 eb ec) (Hd.StepC zP0q 25 0 (fun i:{i:Nat // i≤3∧True}=>⟨[(2,(.ptr 2 0)),(3,(.ptr 3 0)),(4,(.ptr 4 0)),(5,(.ptr 5 0)),(8,(nI0 i.1))],[],6,[(Q4 X Y u ul),(Q7 E K L M q0 q1 y yl z zk),(P7 E K L M q0 q1 y yl z zk),P6,Q2,(5,(.cells (cI (tI (w8 (U6 (Y6 X) (cI Y) (W5 (cI M) (cI K) L.length)) L.length i.1) 3)) 82))]⟩) (fun i:{i:Nat // i≤3∧True}=>3 - i.1) a2Z (bw v 2 eb ec) (T4 zP0q Try.f79 25 ((.agg [nI0 (V5 (U6 (Y6 X) (cI Y) (W5 (cI M) (cI K) L.length) 0) L.length),nI0 (V5 (U6 (Y6 X) (cI Y) (W5 (cI M) (cI K) L.length) 1) L.length),nI0 (V5 (U6 (Y6 X) (cI Y) (W5 (cI M) (cI K) L.length) 2) L.length)])) [(G2 X Y u ul),(G6 E K L M q0 q1 y yl z zk)] (bw v 2 eb ec)) (⟨i,hi1,hi2⟩:{i:Nat // i≤3∧True}))):=by
 exact a87 (id:=2) (by kernel_rfl) (by kernel_rfl) (c85 hn8 hx3 hxr hy hm hk hx1 hy1 hm1 hi1 hi2 hqsd23_1)
theorem c5S(hn8:L.length≤8)(hx3:X.length=3)(hxr:∀ i,i<3→T5 (Y6 X) (i*1)=L.length)(hy:Y.length=L.length)(hm:M.length=L.length)(hk:K.length=L.length)(hx1:∀ i,i<3→∀ b,b<L.length→0≤Z9 (W9 (Y6 X) (i*1)) (b*1)∧Z9 (W9 (Y6 X) (i*1)) (b*1)≤100)(hy1:∀ b,b<L.length→0≤Z9 (cI Y) (b*1)∧Z9 (cI Y) (b*1)≤100)(hm1:∀ b,b<L.length → -1000≤Z9 (cI M) (b*1) - Z9 (cI K) (b*1)∧Z9 (cI M) (b*1) - Z9 (cI K) (b*1)≤1000)(hi1:i≤3)(hi2:True)(hqsd23_1:(Y2 i 3)=true):Y7 zP0q 25 b7K ((a8d E K L M X Y i q0 q1 u ul y yl z zk)) (BaseW.H (bw v 2 eb ec) hs) (Hd.AfterB zP0q 25 1 a5o (bw v 2 eb ec) (Hd.StepC zP0q 25 0 (fun i:{i:Nat // i≤3∧True}=>⟨[(2,(.ptr 2 0)),(3,(.ptr 3 0)),(4,(.ptr 4 0)),(5,(.ptr 5 0)),(8,(nI0 i.1))],[],6,[(Q4 X Y u ul),(Q7 E K L M q0 q1 y yl z zk),(P7 E K L M q0 q1 y yl z zk),P6,Q2,(5,(.cells (cI (tI (w8 (U6 (Y6 X) (cI Y) (W5 (cI M) (cI K) L.length)) L.length i.1) 3)) 82))]⟩) (fun i:{i:Nat // i≤3∧True}=>3 - i.1) a2Z (bw v 2 eb ec) (T4 zP0q Try.f79 25 ((.agg [nI0 (V5 (U6 (Y6 X) (cI Y) (W5 (cI M) (cI K) L.length) 0) L.length),nI0 (V5 (U6 (Y6 X) (cI Y) (W5 (cI M) (cI K) L.length) 1) L.length),nI0 (V5 (U6 (Y6 X) (cI Y) (W5 (cI M) (cI K) L.length) 2) L.length)])) [(G2 X Y u ul),(G6 E K L M q0 q1 y yl z zk)] (bw v 2 eb ec)) (⟨i,hi1,hi2⟩:{i:Nat // i≤3∧True}))):=by
 exact c5U hn8 hx3 hxr hy hm hk hx1 hy1 hm1 hi1 hi2 hqsd23_1
theorem c5D(hn8:L.length≤8)(hx3:X.length=3)(hxr:∀ i,i<3→T5 (Y6 X) (i*1)=L.length)(hy:Y.length=L.length)(hm:M.length=L.length)(hk:K.length=L.length)(hx1:∀ i,i<3→∀ b,b<L.length→0≤Z9 (W9 (Y6 X) (i*1)) (b*1)∧Z9 (W9 (Y6 X) (i*1)) (b*1)≤100)(hy1:∀ b,b<L.length→0≤Z9 (cI Y) (b*1)∧Z9 (cI Y) (b*1)≤100)(hm1:∀ b,b<L.length → -1000≤Z9 (cI M) (b*1) - Z9 (cI K) (b*1)∧Z9 (cI M) (b*1) - Z9 (cI K) (b*1)≤1000)(hi1:i≤3)(hi2:True)(hqsd23_1:(Y2 i 3)=true):Y7 zP0q 25 c0U ((c0k E K L M X Y i q0 q1 u ul y yl z zk)) (BaseW.H (bw v 2 eb ec) hs) (Hd.AfterB zP0q 25 1 a5o (bw v 2 eb ec) (Hd.StepC zP0q 25 0 (fun i:{i:Nat // i≤3∧True}=>⟨[(2,(.ptr 2 0)),(3,(.ptr 3 0)),(4,(.ptr 4 0)),(5,(.ptr 5 0)),(8,(nI0 i.1))],[],6,[(Q4 X Y u ul),(Q7 E K L M q0 q1 y yl z zk),(P7 E K L M q0 q1 y yl z zk),P6,Q2,(5,(.cells (cI (tI (w8 (U6 (Y6 X) (cI Y) (W5 (cI M) (cI K) L.length)) L.length i.1) 3)) 82))]⟩) (fun i:{i:Nat // i≤3∧True}=>3 - i.1) a2Z (bw v 2 eb ec) (T4 zP0q Try.f79 25 ((.agg [nI0 (V5 (U6 (Y6 X) (cI Y) (W5 (cI M) (cI K) L.length) 0) L.length),nI0 (V5 (U6 (Y6 X) (cI Y) (W5 (cI M) (cI K) L.length) 1) L.length),nI0 (V5 (U6 (Y6 X) (cI Y) (W5 (cI M) (cI K) L.length) 2) L.length)])) [(G2 X Y u ul),(G6 E K L M q0 q1 y yl z zk)] (bw v 2 eb ec)) (⟨i,hi1,hi2⟩:{i:Nat // i≤3∧True}))):=by
 have hcl_L:=Z7 L
 have hcl_Y:=Z4 Y
 have hcl_M:=Z4 M
 have hcl_K:=Z4 K
 have ghqsd23_1:=X5 hqsd23_1
 refine Hd.goes_seqA (by kernel_rfl) ?_
 exact Z8 W4 (Z6 zC0q (F6) 200 (T':=(a8d E K L M X Y i q0 q1 u ul y yl z zk)) (e:=.normal) (ps:=[]) (gH 5 []) (by kernel_rfl) (by kernel_rfl) trivial rfl) (Hd.en_n (c5S hn8 hx3 hxr hy hm hk hx1 hy1 hm1 hi1 hi2 hqsd23_1))
theorem c6L(hn8:L.length≤8)(hx3:X.length=3)(hxr:∀ i,i<3→T5 (Y6 X) (i*1)=L.length)(hy:Y.length=L.length)(hm:M.length=L.length)(hk:K.length=L.length)(hx1:∀ i,i<3→∀ b,b<L.length→0≤Z9 (W9 (Y6 X) (i*1)) (b*1)∧Z9 (W9 (Y6 X) (i*1)) (b*1)≤100)(hy1:∀ b,b<L.length→0≤Z9 (cI Y) (b*1)∧Z9 (cI Y) (b*1)≤100)(hm1:∀ b,b<L.length → -1000≤Z9 (cI M) (b*1) - Z9 (cI K) (b*1)∧Z9 (cI M) (b*1) - Z9 (cI K) (b*1)≤1000)(hi1:i≤3)(hi2:True)(hqsd23_1:(Y2 i 3)=true):Y7 zP0q 25 c07 ((b39 E K L M X Y i q0 q1 u ul y yl z zk)) (BaseW.H (bw v 2 eb ec) hs) (Hd.AfterB zP0q 25 1 a5o (bw v 2 eb ec) (Hd.StepC zP0q 25 0 (fun i:{i:Nat // i≤3∧True}=>⟨[(2,(.ptr 2 0)),(3,(.ptr 3 0)),(4,(.ptr 4 0)),(5,(.ptr 5 0)),(8,(nI0 i.1))],[],6,[(Q4 X Y u ul),(Q7 E K L M q0 q1 y yl z zk),(P7 E K L M q0 q1 y yl z zk),P6,Q2,(5,(.cells (cI (tI (w8 (U6 (Y6 X) (cI Y) (W5 (cI M) (cI K) L.length)) L.length i.1) 3)) 82))]⟩) (fun i:{i:Nat // i≤3∧True}=>3 - i.1) a2Z (bw v 2 eb ec) (T4 zP0q Try.f79 25 ((.agg [nI0 (V5 (U6 (Y6 X) (cI Y) (W5 (cI M) (cI K) L.length) 0) L.length),nI0 (V5 (U6 (Y6 X) (cI Y) (W5 (cI M) (cI K) L.length) 1) L.length),nI0 (V5 (U6 (Y6 X) (cI Y) (W5 (cI M) (cI K) L.length) 2) L.length)])) [(G2 X Y u ul),(G6 E K L M q0 q1 y yl z zk)] (bw v 2 eb ec)) (⟨i,hi1,hi2⟩:{i:Nat // i≤3∧True}))):=by
 have hcl_L:=Z7 L
 have hcl_Y:=Z4 Y
 have hcl_M:=Z4 M
 have hcl_K:=Z4 K
 have ghqsd23_1:=X5 hqsd23_1
 refine Hd.goes_seqA (by kernel_rfl) ?_
 exact Z8 W4 (Z6 zC0q (F6) 200 (T':=(c0k E K L M X Y i q0 q1 u ul y yl z zk)) (e:=.normal) (ps:=[]) [.go,.go,.go] (by kernel_rfl) (by kernel_rfl) trivial rfl) (Hd.en_n (c5D hn8 hx3 hxr hy hm hk hx1 hy1 hm1 hi1 hi2 hqsd23_1))
theorem c7x(hn8:L.length≤8)(hx3:X.length=3)(hxr:∀ i,i<3→T5 (Y6 X) (i*1)=L.length)(hy:Y.length=L.length)(hm:M.length=L.length)(hk:K.length=L.length)(hx1:∀ i,i<3→∀ b,b<L.length→0≤Z9 (W9 (Y6 X) (i*1)) (b*1)∧Z9 (W9 (Y6 X) (i*1)) (b*1)≤100)(hy1:∀ b,b<L.length→0≤Z9 (cI Y) (b*1)∧Z9 (cI Y) (b*1)≤100)(hm1:∀ b,b<L.length → -1000≤Z9 (cI M) (b*1) - Z9 (cI K) (b*1)∧Z9 (cI M) (b*1) - Z9 (cI K) (b*1)≤1000)(hi1:i≤3)(hi2:True)(hqsd23_1:(Y2 i 3)=true):Y7 zP0q 25 (f9 b3h) ((b39 E K L M X Y i q0 q1 u ul y yl z zk)) (BaseW.H (bw v 2 eb ec) hs) (Hd.AfterN zP0q 25 a5o (bw v 2 eb ec) (Hd.StepC zP0q 25 0 (fun i:{i:Nat // i≤3∧True}=>⟨[(2,(.ptr 2 0)),(3,(.ptr 3 0)),(4,(.ptr 4 0)),(5,(.ptr 5 0)),(8,(nI0 i.1))],[],6,[(Q4 X Y u ul),(Q7 E K L M q0 q1 y yl z zk),(P7 E K L M q0 q1 y yl z zk),P6,Q2,(5,(.cells (cI (tI (w8 (U6 (Y6 X) (cI Y) (W5 (cI M) (cI K) L.length)) L.length i.1) 3)) 82))]⟩) (fun i:{i:Nat // i≤3∧True}=>3 - i.1) a2Z (bw v 2 eb ec) (T4 zP0q Try.f79 25 ((.agg [nI0 (V5 (U6 (Y6 X) (cI Y) (W5 (cI M) (cI K) L.length) 0) L.length),nI0 (V5 (U6 (Y6 X) (cI Y) (W5 (cI M) (cI K) L.length) 1) L.length),nI0 (V5 (U6 (Y6 X) (cI Y) (W5 (cI M) (cI K) L.length) 2) L.length)])) [(G2 X Y u ul),(G6 E K L M q0 q1 y yl z zk)] (bw v 2 eb ec)) (⟨i,hi1,hi2⟩:{i:Nat // i≤3∧True}))):=by
 exact Hd.goes_blkA (id:=1) (by kernel_rfl) (by kernel_rfl) (c6L hn8 hx3 hxr hy hm hk hx1 hy1 hm1 hi1 hi2 hqsd23_1)
theorem c5H(hn8:L.length≤8)(hx3:X.length=3)(hxr:∀ i,i<3→T5 (Y6 X) (i*1)=L.length)(hy:Y.length=L.length)(hm:M.length=L.length)(hk:K.length=L.length)(hx1:∀ i,i<3→∀ b,b<L.length→0≤Z9 (W9 (Y6 X) (i*1)) (b*1)∧Z9 (W9 (Y6 X) (i*1)) (b*1)≤100)(hy1:∀ b,b<L.length→0≤Z9 (cI Y) (b*1)∧Z9 (cI Y) (b*1)≤100)(hm1:∀ b,b<L.length → -1000≤Z9 (cI M) (b*1) - Z9 (cI K) (b*1)∧Z9 (cI M) (b*1) - Z9 (cI K) (b*1)≤1000)(hi1:i≤3)(hi2:True)(hqsd23_1:(Y2 i 3)=true):Y7 zP0q 25 b3h ((b39 E K L M X Y i q0 q1 u ul y yl z zk)) (BaseW.H (bw v 2 eb ec) hs) (Hd.StepC zP0q 25 0 (fun i:{i:Nat // i≤3∧True}=>⟨[(2,(.ptr 2 0)),(3,(.ptr 3 0)),(4,(.ptr 4 0)),(5,(.ptr 5 0)),(8,(nI0 i.1))],[],6,[(Q4 X Y u ul),(Q7 E K L M q0 q1 y yl z zk),(P7 E K L M q0 q1 y yl z zk),P6,Q2,(5,(.cells (cI (tI (w8 (U6 (Y6 X) (cI Y) (W5 (cI M) (cI K) L.length)) L.length i.1) 3)) 82))]⟩) (fun i:{i:Nat // i≤3∧True}=>3 - i.1) a2Z (bw v 2 eb ec) (T4 zP0q Try.f79 25 ((.agg [nI0 (V5 (U6 (Y6 X) (cI Y) (W5 (cI M) (cI K) L.length) 0) L.length),nI0 (V5 (U6 (Y6 X) (cI Y) (W5 (cI M) (cI K) L.length) 1) L.length),nI0 (V5 (U6 (Y6 X) (cI Y) (W5 (cI M) (cI K) L.length) 2) L.length)])) [(G2 X Y u ul),(G6 E K L M q0 q1 y yl z zk)] (bw v 2 eb ec)) (⟨i,hi1,hi2⟩:{i:Nat // i≤3∧True})):=by
 exact Hd.goes_seqA (by kernel_rfl) (c7x hn8 hx3 hxr hy hm hk hx1 hy1 hm1 hi1 hi2 hqsd23_1)
theorem c6q(hn8:L.length≤8)(hx3:X.length=3)(hxr:∀ i,i<3→T5 (Y6 X) (i*1)=L.length)(hy:Y.length=L.length)(hm:M.length=L.length)(hk:K.length=L.length)(hx1:∀ i,i<3→∀ b,b<L.length→0≤Z9 (W9 (Y6 X) (i*1)) (b*1)∧Z9 (W9 (Y6 X) (i*1)) (b*1)≤100)(hy1:∀ b,b<L.length→0≤Z9 (cI Y) (b*1)∧Z9 (cI Y) (b*1)≤100)(hm1:∀ b,b<L.length → -1000≤Z9 (cI M) (b*1) - Z9 (cI K) (b*1)∧Z9 (cI M) (b*1) - Z9 (cI K) (b*1)≤1000)(h0b:True)(hqsd23_1:(Y2 3 3)=false):Y7 zP0q 25 a2Z ((b7A E K L M X Y q0 q1 u ul y yl z zk)) (BaseW.H (bw v 2 eb ec) hs) (T4 zP0q Try.f79 25 ((.agg [nI0 (V5 (U6 (Y6 X) (cI Y) (W5 (cI M) (cI K) L.length) 0) L.length),nI0 (V5 (U6 (Y6 X) (cI Y) (W5 (cI M) (cI K) L.length) 1) L.length),nI0 (V5 (U6 (Y6 X) (cI Y) (W5 (cI M) (cI K) L.length) 2) L.length)])) [(G2 X Y u ul),(G6 E K L M q0 q1 y yl z zk)] (bw v 2 eb ec)):=by
 have hcl_L:=Z7 L
 have hcl_Y:=Z4 Y
 have hcl_M:=Z4 M
 have hcl_K:=Z4 K
 have ghqsd23_1:=Z5 hqsd23_1
 exact Z8 U9 (O5 zC0q (F6) 200 (T':=⟨[(4,(.ptr 2 0))],[],3,[(Q4 X Y u ul),(Q7 E K L M q0 q1 y yl z zk),(2,(b8o K L M X Y))]⟩) (e:=.ret) (m:=6) (ps:=[W7 zP0q (cI (tI (w8 (U6 (Y6 X) (cI Y) (W5 (cI M) (cI K) L.length)) L.length 3) 3)) 0 82=some (AV.agg [AV.v (Value.int IntKind.i64 (Z9 (cI (tI (w8 (U6 (Y6 X) (cI Y) (W5 (cI M) (cI K) L.length)) L.length 3) 3)) 0)),AV.v (Value.int IntKind.i64 (Z9 (cI (tI (w8 (U6 (Y6 X) (cI Y) (W5 (cI M) (cI K) L.length)) L.length 3) 3)) (0+1))),AV.v (Value.int IntKind.i64 (Z9 (cI (tI (w8 (U6 (Y6 X) (cI Y) (W5 (cI M) (cI K) L.length)) L.length 3) 3)) (0+1+1)))])]) [.sym,.go] [0,1,4] [(.ptr 4 0)] [(a9w X Y u ul),(a2G E K L M q0 q1 y yl z zk),(b8o K L M X Y)] (by kernel_rfl) (by kernel_rfl) ⟨(by rw [a27];kernel_rfl),trivial⟩ rfl rfl (by decide) rfl ⟨V0 rfl,trivial⟩ ⟨⟨by show 0<3;decide,X6 (Z3 (S5 (W8 (I8 _))) (Z3 (N8 (Y4 (Z2 Y))) (Y0)))⟩,⟨by show 1<3;decide,X6 (Z3 (S5 (W8 (X9 _))) (Z3 (N8 (Y4 (X4 L))) (Z3 (a07 (Y0) (Z3 (S5 (M4 (W8 (Y8 (Z2 _))))) (Z3 (S5 (M4 (W8 (Y8 (Z2 _))))) (Y0)))) (Y0))))⟩,⟨by show 2<3;decide,X6 (Z3 (N7 _) (Z3 (N7 _) (Z3 (N7 _) (Y0))))⟩,trivial⟩ (by show 2≤3;decide) (fun b hb=>(by have hb2:b<2:=hb;match b,hb2 with|0,_=>rfl|1,_=>rfl))) (k8 (r:=(.agg [(nI0 (Z9 (cI (tI (w8 (U6 (Y6 X) (cI Y) (W5 (cI M) (cI K) L.length)) L.length 3) 3)) 0)),(nI0 (Z9 (cI (tI (w8 (U6 (Y6 X) (cI Y) (W5 (cI M) (cI K) L.length)) L.length 3) 3)) (0+1))),(nI0 (Z9 (cI (tI (w8 (U6 (Y6 X) (cI Y) (W5 (cI M) (cI K) L.length)) L.length 3) 3)) (0+1+1)))])) (ys:=[(a9w X Y u ul),(a2G E K L M q0 q1 y yl z zk)]) (by (rw [a27];rfl)) (by rfl) (z5 (by kernel_rfl) (by kernel_rfl) rfl (.inr rfl)))
theorem c5Z(hn8:L.length≤8)(hx3:X.length=3)(hxr:∀ i,i<3→T5 (Y6 X) (i*1)=L.length)(hy:Y.length=L.length)(hm:M.length=L.length)(hk:K.length=L.length)(hx1:∀ i,i<3→∀ b,b<L.length→0≤Z9 (W9 (Y6 X) (i*1)) (b*1)∧Z9 (W9 (Y6 X) (i*1)) (b*1)≤100)(hy1:∀ b,b<L.length→0≤Z9 (cI Y) (b*1)∧Z9 (cI Y) (b*1)≤100)(hm1:∀ b,b<L.length → -1000≤Z9 (cI M) (b*1) - Z9 (cI K) (b*1)∧Z9 (cI M) (b*1) - Z9 (cI K) (b*1)≤1000)(hi1:i≤3)(hi2:True):Y7 zP0q 25 c0x ((b9H E K L M X Y i q0 q1 u ul y yl z zk)) (BaseW.H (bw v 2 eb ec) hs) (Hd.StepC zP0q 25 0 (fun i:{i:Nat // i≤3∧True}=>⟨[(2,(.ptr 2 0)),(3,(.ptr 3 0)),(4,(.ptr 4 0)),(5,(.ptr 5 0)),(8,(nI0 i.1))],[],6,[(Q4 X Y u ul),(Q7 E K L M q0 q1 y yl z zk),(P7 E K L M q0 q1 y yl z zk),P6,Q2,(5,(.cells (cI (tI (w8 (U6 (Y6 X) (cI Y) (W5 (cI M) (cI K) L.length)) L.length i.1) 3)) 82))]⟩) (fun i:{i:Nat // i≤3∧True}=>3 - i.1) a2Z (bw v 2 eb ec) (T4 zP0q Try.f79 25 ((.agg [nI0 (V5 (U6 (Y6 X) (cI Y) (W5 (cI M) (cI K) L.length) 0) L.length),nI0 (V5 (U6 (Y6 X) (cI Y) (W5 (cI M) (cI K) L.length) 1) L.length),nI0 (V5 (U6 (Y6 X) (cI Y) (W5 (cI M) (cI K) L.length) 2) L.length)])) [(G2 X Y u ul),(G6 E K L M q0 q1 y yl z zk)] (bw v 2 eb ec)) (⟨i,hi1,hi2⟩:{i:Nat // i≤3∧True})):=by
 have hcl_L:=Z7 L
 have hcl_Y:=Z4 Y
 have hcl_M:=Z4 M
 have hcl_K:=Z4 K
 refine Hd.goes_seqA (by kernel_rfl) ?_
 rcases zB0q (Y2 i 3) with hqsd23_1|hqsd23_1
 ·have ghqsd23_1:=X5 hqsd23_1
  exact Z8 W4 (Z6 zC0q (F6) 200 (T':=(b39 E K L M X Y i q0 q1 u ul y yl z zk)) (e:=.normal) (ps:=[Y2 i 3=true]) [.b true] (by kernel_rfl) (by kernel_rfl) ⟨hqsd23_1,trivial⟩ rfl) (Hd.en_n (c5H hn8 hx3 hxr hy hm hk hx1 hy1 hm1 hi1 hi2 hqsd23_1))
 ·have ghqsd23_1:=Z5 hqsd23_1
  obtain rfl:3=i:=by omega
  exact Z8 A8 (Z6 zC0q (F6) 200 (T':=(b7A E K L M X Y q0 q1 u ul y yl z zk)) (e:=.exit 0) (ps:=[Y2 3 3=false]) [.b false] (by kernel_rfl) (by kernel_rfl) ⟨hqsd23_1,trivial⟩ rfl) (Hd.en_o (by intro h;cases h) (Hd.en_sx (c6q hn8 hx3 hxr hy hm hk hx1 hy1 hm1 hi2 hqsd23_1)))
theorem c4t(hn8:L.length≤8)(hx3:X.length=3)(hxr:∀ i,i<3→T5 (Y6 X) (i*1)=L.length)(hy:Y.length=L.length)(hm:M.length=L.length)(hk:K.length=L.length)(hx1:∀ i,i<3→∀ b,b<L.length→0≤Z9 (W9 (Y6 X) (i*1)) (b*1)∧Z9 (W9 (Y6 X) (i*1)) (b*1)≤100)(hy1:∀ b,b<L.length→0≤Z9 (cI Y) (b*1)∧Z9 (cI Y) (b*1)≤100)(hm1:∀ b,b<L.length → -1000≤Z9 (cI M) (b*1) - Z9 (cI K) (b*1)∧Z9 (cI M) (b*1) - Z9 (cI K) (b*1)≤1000)(hi1:i≤3)(hi2:True):Y7 zP0q 25 c0J (⟨[(2,(.ptr 2 0)),(3,(.ptr 3 0)),(4,(.ptr 4 0)),(5,(.ptr 5 0)),(8,(nI0 i))],[],6,[(Q4 X Y u ul),(Q7 E K L M q0 q1 y yl z zk),(P7 E K L M q0 q1 y yl z zk),P6,Q2,(l4 K L M X Y i)]⟩) (BaseW.H (bw v 2 eb ec) hs) (Hd.StepC zP0q 25 0 (fun i:{i:Nat // i≤3∧True}=>⟨[(2,(.ptr 2 0)),(3,(.ptr 3 0)),(4,(.ptr 4 0)),(5,(.ptr 5 0)),(8,(nI0 i.1))],[],6,[(Q4 X Y u ul),(Q7 E K L M q0 q1 y yl z zk),(P7 E K L M q0 q1 y yl z zk),P6,Q2,(5,(.cells (cI (tI (w8 (U6 (Y6 X) (cI Y) (W5 (cI M) (cI K) L.length)) L.length i.1) 3)) 82))]⟩) (fun i:{i:Nat // i≤3∧True}=>3 - i.1) a2Z (bw v 2 eb ec) (T4 zP0q Try.f79 25 ((.agg [nI0 (V5 (U6 (Y6 X) (cI Y) (W5 (cI M) (cI K) L.length) 0) L.length),nI0 (V5 (U6 (Y6 X) (cI Y) (W5 (cI M) (cI K) L.length) 1) L.length),nI0 (V5 (U6 (Y6 X) (cI Y) (W5 (cI M) (cI K) L.length) 2) L.length)])) [(G2 X Y u ul),(G6 E K L M q0 q1 y yl z zk)] (bw v 2 eb ec)) (⟨i,hi1,hi2⟩:{i:Nat // i≤3∧True})):=by
 have hcl_L:=Z7 L
 have hcl_Y:=Z4 Y
 have hcl_M:=Z4 M
 have hcl_K:=Z4 K
 refine Hd.goes_seqA (by kernel_rfl) ?_
 exact Z8 W4 (Z6 zC0q (F6) 200 (T':=(b9H E K L M X Y i q0 q1 u ul y yl z zk)) (e:=.normal) (ps:=[]) [.go] (by kernel_rfl) (by kernel_rfl) trivial rfl) (Hd.en_n (c5Z hn8 hx3 hxr hy hm hk hx1 hy1 hm1 hi1 hi2))
theorem c78(hn8:L.length≤8)(hx3:X.length=3)(hxr:∀ i,i<3→T5 (Y6 X) (i*1)=L.length)(hy:Y.length=L.length)(hm:M.length=L.length)(hk:K.length=L.length)(hx1:∀ i,i<3→∀ b,b<L.length→0≤Z9 (W9 (Y6 X) (i*1)) (b*1)∧Z9 (W9 (Y6 X) (i*1)) (b*1)≤100)(hy1:∀ b,b<L.length→0≤Z9 (cI Y) (b*1)∧Z9 (cI Y) (b*1)≤100)(hm1:∀ b,b<L.length → -1000≤Z9 (cI M) (b*1) - Z9 (cI K) (b*1)∧Z9 (cI M) (b*1) - Z9 (cI K) (b*1)≤1000):Y7 zP0q 25 b73 ((b3T E K L M X Y q0 q1 u ul y yl z zk)) (BaseW.H (bw v 2 eb ec) hs) (Hd.AfterN zP0q 25 a2Z (bw v 2 eb ec) (T4 zP0q Try.f79 25 ((.agg [nI0 (V5 (U6 (Y6 X) (cI Y) (W5 (cI M) (cI K) L.length) 0) L.length),nI0 (V5 (U6 (Y6 X) (cI Y) (W5 (cI M) (cI K) L.length) 1) L.length),nI0 (V5 (U6 (Y6 X) (cI Y) (W5 (cI M) (cI K) L.length) 2) L.length)])) [(G2 X Y u ul),(G6 E K L M q0 q1 y yl z zk)] (bw v 2 eb ec))):=by
 have hcl_L:=Z7 L
 have hcl_Y:=Z4 Y
 have hcl_M:=Z4 M
 have hcl_K:=Z4 K
 rw [show ((b3T E K L M X Y q0 q1 u ul y yl z zk):Ev.Lit)=⟨[(2,(.ptr 2 0)),(3,(.ptr 3 0)),(4,(.ptr 4 0)),(5,(.ptr 5 0)),(8,(nI0 0))],[],6,[(Q4 X Y u ul),(Q7 E K L M q0 q1 y yl z zk),(P7 E K L M q0 q1 y yl z zk),P6,Q2,(5,(.cells (cI (tI (w8 (U6 (Y6 X) (cI Y) (W5 (cI M) (cI K) L.length)) L.length 0) 3)) 82))]⟩ from by (rw [b0T];rfl)]
 exact Hd.goes_loopA (id:=0) (by kernel_rfl) (by kernel_rfl) (fun i:{i:Nat // i≤3∧True}=>⟨[(2,(.ptr 2 0)),(3,(.ptr 3 0)),(4,(.ptr 4 0)),(5,(.ptr 5 0)),(8,(nI0 i.1))],[],6,[(Q4 X Y u ul),(Q7 E K L M q0 q1 y yl z zk),(P7 E K L M q0 q1 y yl z zk),P6,Q2,(5,(.cells (cI (tI (w8 (U6 (Y6 X) (cI Y) (W5 (cI M) (cI K) L.length)) L.length i.1) 3)) 82))]⟩) (fun i:{i:Nat // i≤3∧True}=>3 - i.1) (fun ix_ hs=>c4t hn8 hx3 hxr hy hm hk hx1 hy1 hm1 ix_.2.1 ix_.2.2) ⟨0,Nat.zero_le _,trivial⟩ hs
theorem c70(hn8:L.length≤8)(hx3:X.length=3)(hxr:∀ i,i<3→T5 (Y6 X) (i*1)=L.length)(hy:Y.length=L.length)(hm:M.length=L.length)(hk:K.length=L.length)(hx1:∀ i,i<3→∀ b,b<L.length→0≤Z9 (W9 (Y6 X) (i*1)) (b*1)∧Z9 (W9 (Y6 X) (i*1)) (b*1)≤100)(hy1:∀ b,b<L.length→0≤Z9 (cI Y) (b*1)∧Z9 (cI Y) (b*1)≤100)(hm1:∀ b,b<L.length → -1000≤Z9 (cI M) (b*1) - Z9 (cI K) (b*1)∧Z9 (cI M) (b*1) - Z9 (cI K) (b*1)≤1000):Y7 zP0q 25 b73 ((b3T E K L M X Y q0 q1 u ul y yl z zk)) (BaseW.H (bw v 2 eb ec) hs) (Hd.AfterN zP0q 25 a2Z (bw v 2 eb ec) (T4 zP0q Try.f79 25 ((.agg [nI0 (V5 (U6 (Y6 X) (cI Y) (W5 (cI M) (cI K) L.length) 0) L.length),nI0 (V5 (U6 (Y6 X) (cI Y) (W5 (cI M) (cI K) L.length) 1) L.length),nI0 (V5 (U6 (Y6 X) (cI Y) (W5 (cI M) (cI K) L.length) 2) L.length)])) [(G2 X Y u ul),(G6 E K L M q0 q1 y yl z zk)] (bw v 2 eb ec))):=by
 exact c78 hn8 hx3 hxr hy hm hk hx1 hy1 hm1
theorem c4E(hn8:L.length≤8)(hx3:X.length=3)(hxr:∀ i,i<3→T5 (Y6 X) (i*1)=L.length)(hy:Y.length=L.length)(hm:M.length=L.length)(hk:K.length=L.length)(hx1:∀ i,i<3→∀ b,b<L.length→0≤Z9 (W9 (Y6 X) (i*1)) (b*1)∧Z9 (W9 (Y6 X) (i*1)) (b*1)≤100)(hy1:∀ b,b<L.length→0≤Z9 (cI Y) (b*1)∧Z9 (cI Y) (b*1)≤100)(hm1:∀ b,b<L.length → -1000≤Z9 (cI M) (b*1) - Z9 (cI K) (b*1)∧Z9 (cI M) (b*1) - Z9 (cI K) (b*1)≤1000):Y7 zP0q 25 c0v ((b2r E K L M X Y q0 q1 u ul y yl z zk)) (BaseW.H (bw v 2 eb ec) hs) (Hd.AfterN zP0q 25 a2Z (bw v 2 eb ec) (T4 zP0q Try.f79 25 ((.agg [nI0 (V5 (U6 (Y6 X) (cI Y) (W5 (cI M) (cI K) L.length) 0) L.length),nI0 (V5 (U6 (Y6 X) (cI Y) (W5 (cI M) (cI K) L.length) 1) L.length),nI0 (V5 (U6 (Y6 X) (cI Y) (W5 (cI M) (cI K) L.length) 2) L.length)])) [(G2 X Y u ul),(G6 E K L M q0 q1 y yl z zk)] (bw v 2 eb ec))):=by
 have hcl_L:=Z7 L
 have hcl_Y:=Z4 Y
 have hcl_M:=Z4 M
 have hcl_K:=Z4 K
 refine Hd.goes_seqA (by kernel_rfl) ?_
 exact Z8 W4 (Z6 zC0q (F6) 200 (T':=(b3T E K L M X Y q0 q1 u ul y yl z zk)) (e:=.normal) (ps:=[]) [.go] (by kernel_rfl) (by kernel_rfl) trivial rfl) (Hd.en_n (c70 hn8 hx3 hxr hy hm hk hx1 hy1 hm1))
theorem c9y(hn8:L.length≤8)(hx3:X.length=3)(hxr:∀ i,i<3→T5 (Y6 X) (i*1)=L.length)(hy:Y.length=L.length)(hm:M.length=L.length)(hk:K.length=L.length)(hx1:∀ i,i<3→∀ b,b<L.length→0≤Z9 (W9 (Y6 X) (i*1)) (b*1)∧Z9 (W9 (Y6 X) (i*1)) (b*1)≤100)(hy1:∀ b,b<L.length→0≤Z9 (cI Y) (b*1)∧Z9 (cI Y) (b*1)≤100)(hm1:∀ b,b<L.length → -1000≤Z9 (cI M) (b*1) - Z9 (cI K) (b*1)∧Z9 (cI M) (b*1) - Z9 (cI K) (b*1)≤1000):Y7 zP0q 25 c39 ((b2r E K L M X Y q0 q1 u ul y yl z zk)) (BaseW.H (bw v 2 eb ec) hs) (T4 zP0q Try.f79 25 ((.agg [nI0 (V5 (U6 (Y6 X) (cI Y) (W5 (cI M) (cI K) L.length) 0) L.length),nI0 (V5 (U6 (Y6 X) (cI Y) (W5 (cI M) (cI K) L.length) 1) L.length),nI0 (V5 (U6 (Y6 X) (cI Y) (W5 (cI M) (cI K) L.length) 2) L.length)])) [(G2 X Y u ul),(G6 E K L M q0 q1 y yl z zk)] (bw v 2 eb ec)):=by
 exact Hd.goes_seqA (by kernel_rfl) (c4E hn8 hx3 hxr hy hm hk hx1 hy1 hm1)
theorem c8C(hn8:L.length≤8)(hx3:X.length=3)(hxr:∀ i,i<3→T5 (Y6 X) (i*1)=L.length)(hy:Y.length=L.length)(hm:M.length=L.length)(hk:K.length=L.length)(hx1:∀ i,i<3→∀ b,b<L.length→0≤Z9 (W9 (Y6 X) (i*1)) (b*1)∧Z9 (W9 (Y6 X) (i*1)) (b*1)≤100)(hy1:∀ b,b<L.length→0≤Z9 (cI Y) (b*1)∧Z9 (cI Y) (b*1)≤100)(hm1:∀ b,b<L.length → -1000≤Z9 (cI M) (b*1) - Z9 (cI K) (b*1)∧Z9 (cI M) (b*1) - Z9 (cI K) (b*1)≤1000):Y7 zP0q 25 c66 ((b84 E K L M X Y q0 q1 u ul y yl z zk)) (BaseW.H (bw v 2 eb ec) hs) (T4 zP0q Try.f79 25 ((.agg [nI0 (V5 (U6 (Y6 X) (cI Y) (W5 (cI M) (cI K) L.length) 0) L.length),nI0 (V5 (U6 (Y6 X) (cI Y) (W5 (cI M) (cI K) L.length) 1) L.length),nI0 (V5 (U6 (Y6 X) (cI Y) (W5 (cI M) (cI K) L.length) 2) L.length)])) [(G2 X Y u ul),(G6 E K L M q0 q1 y yl z zk)] (bw v 2 eb ec)):=by
 have hcl_L:=Z7 L
 have hcl_Y:=Z4 Y
 have hcl_M:=Z4 M
 have hcl_K:=Z4 K
 refine Hd.goes_seqA (by kernel_rfl) ?_
 exact Z8 W4 (Z6 zC0q (F6) 200 (T':=(b2r E K L M X Y q0 q1 u ul y yl z zk)) (e:=.normal) (ps:=[]) [.go] (by kernel_rfl) (by kernel_rfl) trivial rfl) (Hd.en_n (c9y hn8 hx3 hxr hy hm hk hx1 hy1 hm1))
end
theorem c8H(y:Value)(E:List (Value×List (Int×Int)))(yl:Value)(L:List (Int×Int))(u:Value)(X:List (Value×List Int))(ul:Value)(Y:List Int)(q0 z:Value)(M:List Int)(q1 zk:Value)(K:List Int)(hn8:L.length≤8)(hx3:X.length=3)(hxr:∀ i,i<3→T5 (Y6 X) (i*1)=L.length)(hy:Y.length=L.length)(hm:M.length=L.length)(hk:K.length=L.length)(hx1:∀ i,i<3→∀ b,b<L.length→0≤Z9 (W9 (Y6 X) (i*1)) (b*1)∧Z9 (W9 (Y6 X) (i*1)) (b*1)≤100)(hy1:∀ b,b<L.length→0≤Z9 (cI Y) (b*1)∧Z9 (cI Y) (b*1)≤100)(hm1:∀ b,b<L.length → -1000≤Z9 (cI M) (b*1) - Z9 (cI K) (b*1)∧Z9 (cI M) (b*1) - Z9 (cI K) (b*1)≤1000)(v:BaseW)(eb:Nat→Option Nat)(ec:Nat→Nat)(hs:List Nat):Y7 zP0q 25 c4F (⟨[(0,(b8f E K L M q0 q1 y yl z zk)),(1,(.fn (.func 80) [] [.ptr 0 0,.ptr 1 0]))],[],2,[(0,(G2 X Y u ul)),(1,(G6 E K L M q0 q1 y yl z zk))]⟩) (BaseW.H (bw v 2 eb ec) hs) (T4 zP0q Try.f79 25 ((.agg [nI0 (V5 (U6 (Y6 X) (cI Y) (W5 (cI M) (cI K) L.length) 0) L.length),nI0 (V5 (U6 (Y6 X) (cI Y) (W5 (cI M) (cI K) L.length) 1) L.length),nI0 (V5 (U6 (Y6 X) (cI Y) (W5 (cI M) (cI K) L.length) 2) L.length)])) [(G2 X Y u ul),(G6 E K L M q0 q1 y yl z zk)] (bw v 2 eb ec)):=by
 have hcl_L:=Z7 L
 have hcl_Y:=Z4 Y
 have hcl_M:=Z4 M
 have hcl_K:=Z4 K
 refine Hd.goes_seqA (by kernel_rfl) ?_
 exact Z8 W4 (Z6 zC0q (F6) 200 (T':=(b84 E K L M X Y q0 q1 u ul y yl z zk)) (e:=.normal) (ps:=[]) [.go,.go,.go] (by kernel_rfl) (by kernel_rfl) trivial rfl) (Hd.en_n (c8C hn8 hx3 hxr hy hm hk hx1 hy1 hm1))
theorem c9z(y:Value)(E:List (Value×List (Int×Int)))(yl:Value)(L:List (Int×Int))(u:Value)(X:List (Value×List Int))(ul:Value)(Y:List Int)(q0 z:Value)(M:List Int)(q1 zk:Value)(K:List Int)(hn8:L.length≤8)(hx3:X.length=3)(hxr:∀ i,i<3→T5 (Y6 X) (i*1)=L.length)(hy:Y.length=L.length)(hm:M.length=L.length)(hk:K.length=L.length)(hx1:∀ i,i<3→∀ b,b<L.length→0≤Z9 (W9 (Y6 X) (i*1)) (b*1)∧Z9 (W9 (Y6 X) (i*1)) (b*1)≤100)(hy1:∀ b,b<L.length→0≤Z9 (cI Y) (b*1)∧Z9 (cI Y) (b*1)≤100)(hm1:∀ b,b<L.length → -1000≤Z9 (cI M) (b*1) - Z9 (cI K) (b*1)∧Z9 (cI M) (b*1) - Z9 (cI K) (b*1)≤1000):A3 zP0q 79 [(b8f E K L M q0 q1 y yl z zk),(.fn (.func 80) [] [.ptr 0 0,.ptr 1 0])] [(G2 X Y u ul),(G6 E K L M q0 q1 y yl z zk)] ((.agg [nI0 (V5 (U6 (Y6 X) (cI Y) (W5 (cI M) (cI K) L.length) 0) L.length),nI0 (V5 (U6 (Y6 X) (cI Y) (W5 (cI M) (cI K) L.length) 1) L.length),nI0 (V5 (U6 (Y6 X) (cI Y) (W5 (cI M) (cI K) L.length) 2) L.length)])) [(G2 X Y u ul),(G6 E K L M q0 q1 y yl z zk)] :=
 L1 25 (by kernel_rfl) Try.func79 (by kernel_rfl) (by kernel_rfl) (by kernel_rfl) (fun v eb ec=>V6 (by kernel_rfl) (by kernel_rfl) (by kernel_rfl) (by kernel_rfl) (c8H y E yl L u X ul Y q0 z M q1 zk K hn8 hx3 hxr hy hm hk hx1 hy1 hm1 v eb ec []))
end
end Go.Proofs.Ytegmogadbnfbgaa
namespace Go.Proofs.Ytegmogadbnfbgaa
open Go Ev
noncomputable section
section
variable (E : List (Value × List (Int × Int))) (K : List Int) (L : List (Int × Int)) (M : List Int) (q0 q1 y yl z zk : Value)
@[reducible] def b9T:List Ev.AV:=[AV.xl y E.length 1 (Y5 E),AV.xl yl L.length 2 (cR L),AV.fn (Fn.func 82) [] [AV.xp q0 1 1 [AV.xl z M.length 1 (cI M)] 0,AV.xp q1 1 1 [AV.xl zk K.length 1 (cI K)] 0]]
@[reducible] def c0P:Ev.AV:=(.agg [.xl y E.length 1 (Y5 E),.xl yl L.length 2 (cR L),(.fn (.func 82) [] [.xp q0 1 1 [.xl z M.length 1 (cI M)] 0,.xp q1 1 1 [.xl zk K.length 1 (cI K)] 0])])
end
def sdS:List AV→List AB→Option ((AV×List AB)×List Prop):=fun args xs =>
 match args,xs with
 |[.agg [.xl y me k1 cE,.xl yl n k2 cL,.fn (.func f) lz lc],.fn (.func g) gl gc],[.cells l1 t1,.cells l2 t2]=>match l1,lz,lc,gl,gc with
  |[.xl u m k3 cX,.xl ul j k4 cY],[],[.xp q0 a1 a2 d0 a3,.xp q1 b1 b2 d1 b3],[],[p,q]=>match Nat.beq f 82,Nat.beq g 80,a7u p 0,a7u q 1,d0,d1 with
   |true,true,true,true,[.xl z r k5 cM],[.xl zk s k6 cK]=>some ((.agg [.v (.int .i64 (V5 (U6 cX cY (W5 cM cK n) 0) n)),.v (.int .i64 (V5 (U6 cX cY (W5 cM cK n) 1) n)),.v (.int .i64 (V5 (U6 cX cY (W5 cM cK n) 2) n))],[.cells l1 t1,.cells l2 t2]),[a4S t1,a4V t2,U4 k1 cE me,Y3 k2 n cL,b9z k3 m k4 j k5 r k6 s cX cY cM cK n,a56 a1 a2 a3,a56 b1 b2 b3,n≤8,l2=[.xl y me k1 cE,.xl yl n k2 cL,.fn (.func f) lz lc]])
   |_,_,_,_,_,_=>none
  |_,_,_,_,_=>none
 |_,_=>none
def sdO:O8:=a3D 79 sdS
theorem b6E:Known zP0q (clsO sdO):=u9 (fun args xs r ys ps h hp=>by
 unfold sdS at h
 split at h
 ·split at h
  ·split at h
   ·rename_i e1 e2 e3 e4
    cases h
    obtain ⟨rfl,rfl,⟨rfl,E,rfl,rfl⟩,⟨rfl,L,rfl,rfl⟩,⟨X,Y,M,K,⟨rfl,rfl,rfl⟩,⟨rfl,rfl,rfl⟩,⟨rfl,rfl,rfl⟩,⟨rfl,rfl,rfl⟩,h1,h2,h3,h4,h4',h5,h6,h7⟩,⟨rfl,rfl,rfl⟩,⟨rfl,rfl,rfl⟩,h8,rfl,-⟩:=hp
    rw [a08 e3,a08 e4,Nat.eq_of_beq_eq_true e1,Nat.eq_of_beq_eq_true e2]
    exact ⟨a4R X Y E L M K,a4R X Y E L M K,c9z _ E _ L _ X _ Y _ _ M _ _ K h8 h1 h2 h3 h4 h4' h5 h6 h7⟩
   ·cases h
  ·cases h
 ·cases h)
noncomputable def c9A:Code:=O4 Try.f54
set_option maxHeartbeats 2000000 in
theorem c9v(y:Value)(E:List (Value×List (Int×Int)))(yl:Value)(L:List (Int×Int))(u:Value)(X:List (Value×List Int))(ul:Value)(Y:List Int)(q0 z:Value)(M:List Int)(q1 zk:Value)(K:List Int)(hn8:L.length≤8)(hx3:X.length=3)(hxr:∀ i,i<3→T5 (Y6 X) (i*1)=L.length)(hy:Y.length=L.length)(hm:M.length=L.length)(hk:K.length=L.length)(hx1:∀ i,i<3→∀ b,b<L.length→0≤Z9 (W9 (Y6 X) (i*1)) (b*1)∧Z9 (W9 (Y6 X) (i*1)) (b*1)≤100)(hy1:∀ b,b<L.length→0≤Z9 (cI Y) (b*1)∧Z9 (cI Y) (b*1)≤100)(hm1:∀ b,b<L.length → -1000≤Z9 (cI M) (b*1) - Z9 (cI K) (b*1)∧Z9 (cI M) (b*1) - Z9 (cI K) (b*1)≤1000)(w:World)(hs:List Nat):Y7 zP0q 8 c9A (⟨[(0,(c0P E K L M q0 q1 y yl z zk)),(1,(.agg [.xl u X.length 1 (Y6 X),.xl ul Y.length 1 (cI Y)]))],[],0,[]⟩) (BaseW.H w hs) (V8 zP0q Try.f54 8 (.agg #[.int .i64 (V5 (U6 (Y6 X) (cI Y) (W5 (cI M) (cI K) L.length) 0) L.length),.int .i64 (V5 (U6 (Y6 X) (cI Y) (W5 (cI M) (cI K) L.length) 1) L.length),.int .i64 (V5 (U6 (Y6 X) (cI Y) (W5 (cI M) (cI K) L.length) 2) L.length)]) w):=by
 have hcl_L:=Z7 L
 have hcl_Y:=Z4 Y
 have hcl_M:=Z4 M
 have hcl_K:=Z4 K
 exact Z8 U9 (Z6 zC0q (b6E) 200 (T':=⟨[(4,(.ptr 2 0))],[],3,[(2,(.cells [(nI0 (V5 (U6 (Y6 X) (cI Y) (W5 (cI M) (cI K) L.length) 0) L.length)),(nI0 (V5 (U6 (Y6 X) (cI Y) (W5 (cI M) (cI K) L.length) 1) L.length)),(nI0 (V5 (U6 (Y6 X) (cI Y) (W5 (cI M) (cI K) L.length) 2) L.length))] 82))]⟩) (e:=.ret) (ps:=[V4 (Y5 E),V4 (cR L),V4 [AV.xl z M.length 1 (cI M)],V4 [AV.xl zk K.length 1 (cI K)],a4S 29,a4V 85,U4 1 (Y5 E) E.length,Y3 2 L.length (cR L),b9z 1 X.length 1 Y.length 1 M.length 1 K.length (Y6 X) (cI Y) (cI M) (cI K) L.length,a56 1 1 0,a56 1 1 0,L.length≤8,(AV.agg (b9T E K L M q0 q1 y yl z zk)).cells=(b9T E K L M q0 q1 y yl z zk)]) (gH 6 []) (by kernel_rfl) (by kernel_rfl) ⟨(X9 E),(Y8 (X4 _)),(W8 (Y8 (Z2 _))),(W8 (Y8 (Z2 _))),rfl,rfl,⟨rfl,E,rfl,rfl⟩,⟨rfl,L,rfl,rfl⟩,⟨X,Y,M,K,⟨rfl,rfl,rfl⟩,⟨rfl,rfl,rfl⟩,⟨rfl,rfl,rfl⟩,⟨rfl,rfl,rfl⟩,hx3,hxr,hy,hm,hk,hx1,hy1,hm1⟩,⟨rfl,rfl,rfl⟩,⟨rfl,rfl,rfl⟩,hn8,rfl,trivial⟩ rfl) (Hd.en_eq (r:=.agg #[(.int .i64 (V5 (U6 (Y6 X) (cI Y) (W5 (cI M) (cI K) L.length) 0) L.length)),(.int .i64 (V5 (U6 (Y6 X) (cI Y) (W5 (cI M) (cI K) L.length) 1) L.length)),(.int .i64 (V5 (U6 (Y6 X) (cI Y) (W5 (cI M) (cI K) L.length) 2) L.length))]) (by rfl) (Hd.en_ret (v:=(.agg [(nI0 (V5 (U6 (Y6 X) (cI Y) (W5 (cI M) (cI K) L.length) 0) L.length)),(nI0 (V5 (U6 (Y6 X) (cI Y) (W5 (cI M) (cI K) L.length) 1) L.length)),(nI0 (V5 (U6 (Y6 X) (cI Y) (W5 (cI M) (cI K) L.length) 2) L.length))])) (by kernel_rfl) rfl))
theorem d04(y:Value)(E:List (Value×List (Int×Int)))(yl:Value)(L:List (Int×Int))(u:Value)(X:List (Value×List Int))(ul:Value)(Y:List Int)(q0 z:Value)(M:List Int)(q1 zk:Value)(K:List Int)(hn8:L.length≤8)(hx3:X.length=3)(hxr:∀ i,i<3→T5 (Y6 X) (i*1)=L.length)(hy:Y.length=L.length)(hm:M.length=L.length)(hk:K.length=L.length)(hx1:∀ i,i<3→∀ b,b<L.length→0≤Z9 (W9 (Y6 X) (i*1)) (b*1)∧Z9 (W9 (Y6 X) (i*1)) (b*1)≤100)(hy1:∀ b,b<L.length→0≤Z9 (cI Y) (b*1)∧Z9 (cI Y) (b*1)≤100)(hm1:∀ b,b<L.length → -1000≤Z9 (cI M) (b*1) - Z9 (cI K) (b*1)∧Z9 (cI M) (b*1) - Z9 (cI K) (b*1)≤1000):GivesA zP0q 54 [(c0P E K L M q0 q1 y yl z zk),(.agg [.xl u X.length 1 (Y6 X),.xl ul Y.length 1 (cI Y)])] (.agg #[.int .i64 (V5 (U6 (Y6 X) (cI Y) (W5 (cI M) (cI K) L.length) 0) L.length),.int .i64 (V5 (U6 (Y6 X) (cI Y) (W5 (cI M) (cI K) L.length) 1) L.length),.int .i64 (V5 (U6 (Y6 X) (cI Y) (W5 (cI M) (cI K) L.length) 2) L.length)]) :=
 U5 8 Try.func54 (by kernel_rfl) (by kernel_rfl) (by kernel_rfl) (fun w=>V6 (by kernel_rfl) (by kernel_rfl) (by kernel_rfl) (by kernel_rfl) (c9v y E yl L u X ul Y q0 z M q1 zk K hn8 hx3 hxr hy hm hk hx1 hy1 hm1 w []))
end
end Go.Proofs.Ytegmogadbnfbgaa
set_option maxHeartbeats 4000000
namespace Go.Proofs.Ytegmogadbnfbgaa
open Go Ev
noncomputable section
theorem b8X{a:Int}(h : -9223372036854775808≤a)(k:a≤9223372036854775807):N3 .i64 a:=⟨h,k⟩
section
variable (E : List (Value × List (Int × Int))) (K : List Int) (L : List (Int × Int)) (M : List Int) (P : List (Int × Int)) (g : Bool) (q0 q1 y yl yr z zk : Value)
@[reducible] def c0R:Ev.AB:=(.cells [(.xl (y) (E.length) 1 (Y5 E)),(.xl (yl) (L.length) 2 (cR L)),(.fn (.func 82) [] [(AV.xp q0 1 1 [AV.xl z M.length 1 (cI M)] 0),(AV.xp q1 1 1 [AV.xl zk K.length 1 (cI K)] 0)])] 85)
@[reducible] def a3t:Nat×Ev.AB:=(0,(c0R E K L M q0 q1 y yl z zk))
@[reducible] def a0Z:Nat×Ev.AB:=(1,(.cells [(.xl (yr) (P.length) 2 (cR P))] 23))
@[reducible] def a16:Nat×Ev.AB:=(2,(.cells [(.v (.bool (g)))] 4))
@[reducible] def a45:Nat×Ev.AB:=(3,(.cells [(.v (Value.slice none 0 0))] 27))
@[reducible] def b5F:Nat×Ev.AB:=(4,(c0R E K L M q0 q1 y yl z zk))
@[reducible] def a8E:Ev.Lit:=⟨[(3,(.ptr 0 0)),(4,(.ptr 1 0)),(5,(.ptr 2 0)),(7,(.ptr 3 0)),(11,(.fn (.func 93) [] [(.ptr 4 0)]))],[],5,[(a3t E K L M q0 q1 y yl z zk),(a0Z P yr),(a16 g),a45,(b5F E K L M q0 q1 y yl z zk)]⟩
@[reducible] def b6l:Ev.Lit:=⟨[(3,(.ptr 0 0)),(4,(.ptr 1 0)),(5,(.ptr 2 0)),(7,(.ptr 3 0))],[],4,[(a3t E K L M q0 q1 y yl z zk),(a0Z P yr),(a16 g),a45]⟩
@[reducible] def c02:Ev.Lit:=⟨[(3,(.ptr 0 0)),(4,(.ptr 1 0)),(5,(.ptr 2 0))],[],3,[(a3t E K L M q0 q1 y yl z zk),(a0Z P yr),(a16 g)]⟩
@[reducible] def a4k:=(tI (S6 (cR P) (W5 (cI M) (cI K) L.length) g) L.length)
@[reducible] def b6W:Ev.AB:=(.cells [(.slu 8 0 (a4k K L M P g).length 0)] 27)
@[reducible] def b2d:Nat×Ev.AB:=(3,(b6W K L M P g))
@[reducible] def A4:Ev.AB:=(.row (cI (a4k K L M P g)) 2 1)
@[reducible] def b1T:Nat×Ev.AB:=(8,(A4 K L M P g))
@[reducible] def c0I:Ev.Lit:=⟨[(7,(.ptr 3 0))],[5],9,[(b2d K L M P g),(5,(.defd .true)),(b1T K L M P g)]⟩
@[reducible] def c0y:Ev.Lit:=⟨[(7,(.ptr 3 0))],[],6,[(3,(.cells [(.slu 5 0 (a4k K L M P g).length 0)] 27)),(5,(A4 K L M P g))]⟩
@[reducible] def c0m:Ev.AV:=(.agg [.xl y E.length 1 (Y5 E),.xl yl L.length 2 (cR L),(.fn (.func 82) [] [.xp q0 1 1 [.xl z M.length 1 (cI M)] 0,.xp q1 1 1 [.xl zk K.length 1 (cI K)] 0])])
end
noncomputable def c8P:Code:=O4 Try.f64
theorem c9S(y:Value)(E:List (Value×List (Int×Int)))(yl:Value)(L:List (Int×Int))(z:Value)(M:List Int)(zk:Value)(K:List Int)(v:BaseW)(eb:Nat→Option Nat)(ec:Nat→Nat)(hs:List Nat):Y7 zP0q 10 c8P (⟨[(0,(.agg [.xl y E.length 1 (Y5 E),.xl yl L.length 2 (cR L)])),(1,(.xl z M.length 1 (cI M))),(2,(.xl zk K.length 1 (cI K)))],[],0,[]⟩) (BaseW.H (bw v 0 eb ec) hs) (T4 zP0q Try.f64 10 ((.agg [.xl y E.length 1 (Y5 E),.xl yl L.length 2 (cR L),.fn (.func 82) [] [.ptr 0 0,.ptr 1 0]])) [(.cells [.xl z M.length 1 (cI M)] 114),(.cells [.xl zk K.length 1 (cI K)] 114)] (bw v 0 eb ec)):=by
 have hcl_L:=Z7 L
 have hcl_M:=Z4 M
 have hcl_K:=Z4 K
 exact Z8 U9 (O5 zC0q (Z0) 200 (T':=⟨[(6,(.ptr 2 0))],[],3,[(0,(.cells [(.xl (z) (M.length) 1 (cI M))] 114)),(1,(.cells [(.xl (zk) (K.length) 1 (cI K))] 114)),(2,(.cells [(.xl (y) (E.length) 1 (Y5 E)),(.xl (yl) (L.length) 2 (cR L)),(.fn (.func 82) [] [(.ptr 0 0),(.ptr 1 0)])] 85))]⟩) (e:=.ret) (m:=4) (ps:=[]) (gH 8 []) [1,2,3] [(.ptr 3 0)] [(.cells [(.xl (z) (M.length) 1 (cI M))] 114),(.cells [(.xl (zk) (K.length) 1 (cI K))] 114),(.cells [(.xl (y) (E.length) 1 (Y5 E)),(.xl (yl) (L.length) 2 (cR L)),(.fn (.func 82) [] [(.ptr 1 0),(.ptr 2 0)])] 85)] (by kernel_rfl) (by kernel_rfl) trivial rfl rfl (by decide) rfl ⟨V0 rfl,trivial⟩ ⟨⟨by show 0<3;decide,X6 (Z3 (N8 (Y4 (Z2 M))) (Y0))⟩,⟨by show 1<3;decide,X6 (Z3 (N8 (Y4 (Z2 K))) (Y0))⟩,⟨by show 2<3;decide,X6 (Z3 (S5 (W8 (X9 _))) (Z3 (N8 (Y4 (X4 L))) (Z3 (a07 (Y0) (Z3 (V0 rfl) (Z3 (V0 rfl) (Y0)))) (Y0))))⟩,trivial⟩) (k8 (r:=(.agg [(.xl (y) (E.length) 1 (Y5 E)),(.xl (yl) (L.length) 2 (cR L)),(.fn (.func 82) [] [(.ptr 0 0),(.ptr 1 0)])])) (ys:=[(.cells [(.xl (z) (M.length) 1 (cI M))] 114),(.cells [(.xl (zk) (K.length) 1 (cI K))] 114)]) (by rfl) (by rfl) (z5 (by kernel_rfl) (by kernel_rfl) rfl (.inr rfl)))
theorem d08(y:Value)(E:List (Value×List (Int×Int)))(yl:Value)(L:List (Int×Int))(z:Value)(M:List Int)(zk:Value)(K:List Int):A3 zP0q 64 [(.agg [.xl y E.length 1 (Y5 E),.xl yl L.length 2 (cR L)]),(.xl z M.length 1 (cI M)),(.xl zk K.length 1 (cI K))] [] ((.agg [.xl y E.length 1 (Y5 E),.xl yl L.length 2 (cR L),.fn (.func 82) [] [.ptr 0 0,.ptr 1 0]])) [(.cells [.xl z M.length 1 (cI M)] 114),(.cells [.xl zk K.length 1 (cI K)] 114)] :=
 L1 10 (by kernel_rfl) Try.func64 (by kernel_rfl) (by kernel_rfl) (by kernel_rfl) (fun v eb ec=>V6 (by kernel_rfl) (by kernel_rfl) (by kernel_rfl) (by kernel_rfl) (c9S y E yl L z M zk K v eb ec []))
noncomputable def c7J:Code:=O4 Try.f90
noncomputable def c7S:Code:=M5 c7J
noncomputable def c3i:Code:=M5 c7S
noncomputable def b4z:Code:=M5 c3i
noncomputable def c0w:Code:=(f9 c3i)
noncomputable def b8L:Code:=M5 c0w
noncomputable def W2:Code:=a72 b8L
noncomputable def b6z:Code:=O4 Try.f93
noncomputable def b8a:Code:=M5 b6z
noncomputable def b2f:Code:=H3 b8a
section
variable {E:List (Value×List (Int×Int))} {K M:List Int} {L P:List (Int×Int)} {eb:Nat→Option Nat} {ec:Nat→Nat} {g:Bool} {hs:List Nat} {q0 q1 y yl yr z zk:Value} {v:BaseW}
theorem c36(hn:1≤L.length∧L.length≤8)(hP:P.length=L.length)(hm:M.length=L.length)(hk:K.length=L.length)(hm1:∀ b,b<L.length → -1000≤Z9 (cI M) (b*1) - Z9 (cI K) (b*1)∧Z9 (cI M) (b*1) - Z9 (cI K) (b*1)≤1000):Y7 zP0q 16 b8a ((⟨[(0,(.yld 6)),(7,(nI0 L.length)),(8,(nI0 (.ofNat 0)))],[],7,6,[(3,(.ptr 0 0)),(4,(.ptr 1 0)),(5,(.ptr 2 0)),(7,(.ptr 3 0))],[(0,(.cells [(.xl (y) (E.length) 1 (Y5 E)),(.xl (yl) (L.length) 2 (cR L)),(.fn (.func 82) [] [(AV.xp q0 1 1 [AV.xl z M.length 1 (cI M)] 0),(AV.xp q1 1 1 [AV.xl zk K.length 1 (cI K)] 0)])] 85)),(1,(.cells [(.xl (yr) (P.length) 2 (cR P))] 23)),(2,(.cells [(.v (.bool (g)))] 4)),(3,(.cells [(.v (Value.slice none 0 0))] 27)),(5,(.defd .true))],.ready,none,35,C6 W2,C7 W2,C5 W2,5⟩:Ev.Lit1).lit) (bw v 7 eb ec) (a5e 16 (fun _:Unit=>((⟨[],[],9,6,[(3,(.ptr 0 0)),(4,(.ptr 1 0)),(5,(.ptr 2 0)),(7,(.ptr 3 0))],[(0,(.cells [(.xl (y) (E.length) 1 (Y5 E)),(.xl (yl) (L.length) 2 (cR L)),(.fn (.func 82) [] [(AV.xp q0 1 1 [AV.xl z M.length 1 (cI M)] 0),(AV.xp q1 1 1 [AV.xl zk K.length 1 (cI K)] 0)])] 85)),(1,(.cells [(.xl (yr) (P.length) 2 (cR P))] 23)),(2,(.cells [(.v (.bool (g)))] 4)),(3,(.cells [(.slu 8 0 (tI (S6 (cR P) (W5 (cI M) (cI K) L.length) g) L.length).length 0)] 27)),(5,(.defd .true)),(8,(.row (cI (tI (S6 (cR P) (W5 (cI M) (cI K) L.length) g) L.length)) 2 1))],.ready,none,35,C6 W2,C7 W2,C5 W2,5⟩:Ev.Lit1)).lit) (fun _:Unit=>True) (bw v 7 eb ec)):=by
 have hcl_L:=Z7 L
 have hcl_M:=Z4 M
 have hcl_K:=Z4 K
 have hcl_P:=Z7 P
 refine V6 (T':=(⟨[(0,(.yld 6)),(7,(nI0 L.length)),(8,(nI0 (.ofNat 0)))],[],7,6,[(3,(.ptr 0 0)),(4,(.ptr 1 0)),(5,(.ptr 2 0)),(7,(.ptr 3 0))],[(0,(.cells [(.xl (y) (E.length) 1 (Y5 E)),(.xl (yl) (L.length) 2 (cR L)),(.fn (.func 82) [] [(AV.xp q0 1 1 [AV.xl z M.length 1 (cI M)] 0),(AV.xp q1 1 1 [AV.xl zk K.length 1 (cI K)] 0)])] 85)),(1,(.cells [(.xl (yr) (P.length) 2 (cR P))] 23)),(2,(.cells [(.v (.bool (g)))] 4)),(3,(.cells [(.v (Value.slice none 0 0))] 27)),(5,(.defd .true))],.ready,none,35,C6 W2,C7 W2,C5 W2,5⟩:Ev.Lit1).lit) (by kernel_rfl) (by kernel_rfl) (by kernel_rfl) (by kernel_rfl) (a2F (ι:={i:Nat // i≤L.length∧True}) (T:=(fun i:{i:Nat // i≤L.length∧True}=>((Ev.fam0 (⟨[(0,(.yld 6)),(7,(nI0 L.length)),(8,(nI0 i.1))],[],7,6,[(3,(.ptr 0 0)),(4,(.ptr 1 0)),(5,(.ptr 2 0)),(7,(.ptr 3 0))],[(0,(.cells [(.xl (y) (E.length) 1 (Y5 E)),(.xl (yl) (L.length) 2 (cR L)),(.fn (.func 82) [] [(AV.xp q0 1 1 [AV.xl z M.length 1 (cI M)] 0),(AV.xp q1 1 1 [AV.xl zk K.length 1 (cI K)] 0)])] 85)),(1,(.cells [(.xl (yr) (P.length) 2 (cR P))] 23)),(2,(.cells [(.v (.bool (g)))] 4)),(3,(.cells [(.v (Value.slice none 0 0))] 27)),(5,(.defd .true))],.ready,none,35,C6 W2,C7 W2,C5 W2,5⟩:Ev.Lit1).lit (fun k=>(⟨[(0,(.yld 6)),(7,(nI0 L.length)),(8,(nI0 i.1))],[],9,6,[(3,(.ptr 0 0)),(4,(.ptr 1 0)),(5,(.ptr 2 0)),(7,(.ptr 3 0))],[(0,(.cells [(.xl (y) (E.length) 1 (Y5 E)),(.xl (yl) (L.length) 2 (cR L)),(.fn (.func 82) [] [(AV.xp q0 1 1 [AV.xl z M.length 1 (cI M)] 0),(AV.xp q1 1 1 [AV.xl zk K.length 1 (cI K)] 0)])] 85)),(1,(.cells [(.xl (yr) (P.length) 2 (cR P))] 23)),(2,(.cells [(.v (.bool (g)))] 4)),(3,(.cells [(.slu 8 0 (k+1) 0)] 27)),(5,(.defd .true)),(8,(.row (cI (tI (S6 (cR P) (W5 (cI M) (cI K) L.length) g) i.1)) 2 1))],.ready,none,35,C6 W2,C7 W2,C5 W2,5⟩:Ev.Lit1).lit) (tI (S6 (cR P) (W5 (cI M) (cI K) L.length) g) i.1).length):Ev.Lit))) (R:=(fun i:{i:Nat // i≤L.length∧True}=>L.length≤i.1)) (by kernel_rfl) (a6a (show ((⟨[(0,(.yld 6)),(7,(nI0 L.length)),(8,(nI0 (.ofNat 0)))],[],7,6,[(3,(.ptr 0 0)),(4,(.ptr 1 0)),(5,(.ptr 2 0)),(7,(.ptr 3 0))],[(0,(.cells [(.xl (y) (E.length) 1 (Y5 E)),(.xl (yl) (L.length) 2 (cR L)),(.fn (.func 82) [] [(AV.xp q0 1 1 [AV.xl z M.length 1 (cI M)] 0),(AV.xp q1 1 1 [AV.xl zk K.length 1 (cI K)] 0)])] 85)),(1,(.cells [(.xl (yr) (P.length) 2 (cR P))] 23)),(2,(.cells [(.v (.bool (g)))] 4)),(3,(.cells [(.v (Value.slice none 0 0))] 27)),(5,(.defd .true))],.ready,none,35,C6 W2,C7 W2,C5 W2,5⟩:Ev.Lit1).lit:Ev.Lit)=(Ev.fam0 (⟨[(0,(.yld 6)),(7,(nI0 L.length)),(8,(nI0 0))],[],7,6,[(3,(.ptr 0 0)),(4,(.ptr 1 0)),(5,(.ptr 2 0)),(7,(.ptr 3 0))],[(0,(.cells [(.xl (y) (E.length) 1 (Y5 E)),(.xl (yl) (L.length) 2 (cR L)),(.fn (.func 82) [] [(AV.xp q0 1 1 [AV.xl z M.length 1 (cI M)] 0),(AV.xp q1 1 1 [AV.xl zk K.length 1 (cI K)] 0)])] 85)),(1,(.cells [(.xl (yr) (P.length) 2 (cR P))] 23)),(2,(.cells [(.v (.bool (g)))] 4)),(3,(.cells [(.v (Value.slice none 0 0))] 27)),(5,(.defd .true))],.ready,none,35,C6 W2,C7 W2,C5 W2,5⟩:Ev.Lit1).lit (fun k=>(⟨[(0,(.yld 6)),(7,(nI0 L.length)),(8,(nI0 0))],[],9,6,[(3,(.ptr 0 0)),(4,(.ptr 1 0)),(5,(.ptr 2 0)),(7,(.ptr 3 0))],[(0,(.cells [(.xl (y) (E.length) 1 (Y5 E)),(.xl (yl) (L.length) 2 (cR L)),(.fn (.func 82) [] [(AV.xp q0 1 1 [AV.xl z M.length 1 (cI M)] 0),(AV.xp q1 1 1 [AV.xl zk K.length 1 (cI K)] 0)])] 85)),(1,(.cells [(.xl (yr) (P.length) 2 (cR P))] 23)),(2,(.cells [(.v (.bool (g)))] 4)),(3,(.cells [(.slu 8 0 (k+1) 0)] 27)),(5,(.defd .true)),(8,(.row (cI (tI (S6 (cR P) (W5 (cI M) (cI K) L.length) g) 0)) 2 1))],.ready,none,35,C6 W2,C7 W2,C5 W2,5⟩:Ev.Lit1).lit) (tI (S6 (cR P) (W5 (cI M) (cI K) L.length) g) 0).length) from by (rw [show (tI (S6 (cR P) (W5 (cI M) (cI K) L.length) g) 0).length=0 from Y9 _ _];rfl)) (a7 (by kernel_rfl) (fun i:{i:Nat // i≤L.length∧True}=>((Ev.fam0 (⟨[(0,(.yld 6)),(7,(nI0 L.length)),(8,(nI0 i.1))],[],7,6,[(3,(.ptr 0 0)),(4,(.ptr 1 0)),(5,(.ptr 2 0)),(7,(.ptr 3 0))],[(0,(.cells [(.xl (y) (E.length) 1 (Y5 E)),(.xl (yl) (L.length) 2 (cR L)),(.fn (.func 82) [] [(AV.xp q0 1 1 [AV.xl z M.length 1 (cI M)] 0),(AV.xp q1 1 1 [AV.xl zk K.length 1 (cI K)] 0)])] 85)),(1,(.cells [(.xl (yr) (P.length) 2 (cR P))] 23)),(2,(.cells [(.v (.bool (g)))] 4)),(3,(.cells [(.v (Value.slice none 0 0))] 27)),(5,(.defd .true))],.ready,none,35,C6 W2,C7 W2,C5 W2,5⟩:Ev.Lit1).lit (fun k=>(⟨[(0,(.yld 6)),(7,(nI0 L.length)),(8,(nI0 i.1))],[],9,6,[(3,(.ptr 0 0)),(4,(.ptr 1 0)),(5,(.ptr 2 0)),(7,(.ptr 3 0))],[(0,(.cells [(.xl (y) (E.length) 1 (Y5 E)),(.xl (yl) (L.length) 2 (cR L)),(.fn (.func 82) [] [(AV.xp q0 1 1 [AV.xl z M.length 1 (cI M)] 0),(AV.xp q1 1 1 [AV.xl zk K.length 1 (cI K)] 0)])] 85)),(1,(.cells [(.xl (yr) (P.length) 2 (cR P))] 23)),(2,(.cells [(.v (.bool (g)))] 4)),(3,(.cells [(.slu 8 0 (k+1) 0)] 27)),(5,(.defd .true)),(8,(.row (cI (tI (S6 (cR P) (W5 (cI M) (cI K) L.length) g) i.1)) 2 1))],.ready,none,35,C6 W2,C7 W2,C5 W2,5⟩:Ev.Lit1).lit) (tI (S6 (cR P) (W5 (cI M) (cI K) L.length) g) i.1).length):Ev.Lit)) (fun i:{i:Nat // i≤L.length∧True}=>L.length - i.1) (fun i=>?_) ⟨0,Nat.zero_le _,trivial⟩)) (fun ixR hxR=>(fun (i0r:Nat) (h0ra:i0r≤L.length) (h0rb:True) (h0rc:L.length≤i0r)=>⟨(),show True from trivial,(by obtain ⟨i9,q1,q2⟩:=ixR;have h9:L.length≤i9:=hxR;have e:i9=L.length:=(by omega);subst e;obtain ⟨k,hk⟩:∃ k,(tI (S6 (cR P) (W5 (cI M) (cI K) L.length) g) L.length).length=k+1:=⟨L.length - 1,by rw [Y9];omega⟩;show a5V (Ev.Lit.fs (Ev.fam0 _ _ (tI (S6 (cR P) (W5 (cI M) (cI K) L.length) g) L.length).length)) _;rw [hk];exact o9 (by kernel_rfl) (by kernel_rfl) (by kernel_rfl) (by kernel_rfl))⟩) ixR.1 ixR.2.1 ixR.2.2 hxR))
 obtain ⟨i,hi1,hi2⟩:=i
 show Y7 zP0q 16 b2f ((Ev.fam0 (⟨[(0,(.yld 6)),(7,(nI0 L.length)),(8,(nI0 i))],[],7,6,[(3,(.ptr 0 0)),(4,(.ptr 1 0)),(5,(.ptr 2 0)),(7,(.ptr 3 0))],[(0,(.cells [(.xl (y) (E.length) 1 (Y5 E)),(.xl (yl) (L.length) 2 (cR L)),(.fn (.func 82) [] [(AV.xp q0 1 1 [AV.xl z M.length 1 (cI M)] 0),(AV.xp q1 1 1 [AV.xl zk K.length 1 (cI K)] 0)])] 85)),(1,(.cells [(.xl (yr) (P.length) 2 (cR P))] 23)),(2,(.cells [(.v (.bool (g)))] 4)),(3,(.cells [(.v (Value.slice none 0 0))] 27)),(5,(.defd .true))],.ready,none,35,C6 W2,C7 W2,C5 W2,5⟩:Ev.Lit1).lit (fun k=>(⟨[(0,(.yld 6)),(7,(nI0 L.length)),(8,(nI0 i))],[],9,6,[(3,(.ptr 0 0)),(4,(.ptr 1 0)),(5,(.ptr 2 0)),(7,(.ptr 3 0))],[(0,(.cells [(.xl (y) (E.length) 1 (Y5 E)),(.xl (yl) (L.length) 2 (cR L)),(.fn (.func 82) [] [(AV.xp q0 1 1 [AV.xl z M.length 1 (cI M)] 0),(AV.xp q1 1 1 [AV.xl zk K.length 1 (cI K)] 0)])] 85)),(1,(.cells [(.xl (yr) (P.length) 2 (cR P))] 23)),(2,(.cells [(.v (.bool (g)))] 4)),(3,(.cells [(.slu 8 0 (k+1) 0)] 27)),(5,(.defd .true)),(8,(.row (cI (tI (S6 (cR P) (W5 (cI M) (cI K) L.length) g) i)) 2 1))],.ready,none,35,C6 W2,C7 W2,C5 W2,5⟩:Ev.Lit1).lit) (tI (S6 (cR P) (W5 (cI M) (cI K) L.length) g) i).length)) (bw v 7 eb ec) (a50 _ _ _ _ _ _ _ _)
 cases hc:(tI (S6 (cR P) (W5 (cI M) (cI K) L.length) g) i).length with
 |zero =>
  show Y7 zP0q 16 b2f ((⟨[(0,(.yld 6)),(7,(nI0 L.length)),(8,(nI0 i))],[],7,6,[(3,(.ptr 0 0)),(4,(.ptr 1 0)),(5,(.ptr 2 0)),(7,(.ptr 3 0))],[(0,(.cells [(.xl (y) (E.length) 1 (Y5 E)),(.xl (yl) (L.length) 2 (cR L)),(.fn (.func 82) [] [(AV.xp q0 1 1 [AV.xl z M.length 1 (cI M)] 0),(AV.xp q1 1 1 [AV.xl zk K.length 1 (cI K)] 0)])] 85)),(1,(.cells [(.xl (yr) (P.length) 2 (cR P))] 23)),(2,(.cells [(.v (.bool (g)))] 4)),(3,(.cells [(.v (Value.slice none 0 0))] 27)),(5,(.defd .true))],.ready,none,35,C6 W2,C7 W2,C5 W2,5⟩:Ev.Lit1).lit) (bw v 7 eb ec) (a50 _ _ _ _ _ _ _ _)
  rcases zB0q (Y2 i L.length) with hz0_1|hz0_1
  ·have ghz0_1:=X5 hz0_1
   rcases zB0q (g == Y2 0 (Z9 (cI M) (i*1) - Z9 (cI K) (i*1))) with hz0_2|hz0_2
   ·refine Ev.step_on ⟨i+1,by omega,trivial⟩ (by show L.length - (i+1)<L.length - i;omega) ?_
    have hcn:(tI (S6 (cR P) (W5 (cI M) (cI K) L.length) g) (i+1)).length=0+1:=by (have h9:=Y9 (S6 (cR P) (W5 (cI M) (cI K) L.length) g) i;rw [Y9];omega)
    show Y7 _ _ _ _ _ (D7 _ isN (Ev.fam0 (⟨[(0,(.yld 6)),(7,(nI0 L.length)),(8,(nI0 (((i+1):Nat):Int)))],[],7,6,[(3,(.ptr 0 0)),(4,(.ptr 1 0)),(5,(.ptr 2 0)),(7,(.ptr 3 0))],[(0,(.cells [(.xl (y) (E.length) 1 (Y5 E)),(.xl (yl) (L.length) 2 (cR L)),(.fn (.func 82) [] [(AV.xp q0 1 1 [AV.xl z M.length 1 (cI M)] 0),(AV.xp q1 1 1 [AV.xl zk K.length 1 (cI K)] 0)])] 85)),(1,(.cells [(.xl (yr) (P.length) 2 (cR P))] 23)),(2,(.cells [(.v (.bool (g)))] 4)),(3,(.cells [(.v (Value.slice none 0 0))] 27)),(5,(.defd .true))],.ready,none,35,C6 W2,C7 W2,C5 W2,5⟩:Ev.Lit1).lit (fun k=>(⟨[(0,(.yld 6)),(7,(nI0 L.length)),(8,(nI0 (((i+1):Nat):Int)))],[],9,6,[(3,(.ptr 0 0)),(4,(.ptr 1 0)),(5,(.ptr 2 0)),(7,(.ptr 3 0))],[(0,(.cells [(.xl (y) (E.length) 1 (Y5 E)),(.xl (yl) (L.length) 2 (cR L)),(.fn (.func 82) [] [(AV.xp q0 1 1 [AV.xl z M.length 1 (cI M)] 0),(AV.xp q1 1 1 [AV.xl zk K.length 1 (cI K)] 0)])] 85)),(1,(.cells [(.xl (yr) (P.length) 2 (cR P))] 23)),(2,(.cells [(.v (.bool (g)))] 4)),(3,(.cells [(.slu 8 0 (k+1) 0)] 27)),(5,(.defd .true)),(8,(.row (cI (tI (S6 (cR P) (W5 (cI M) (cI K) L.length) g) (i+1))) 2 1))],.ready,none,35,C6 W2,C7 W2,C5 W2,5⟩:Ev.Lit1).lit) (tI (S6 (cR P) (W5 (cI M) (cI K) L.length) g) (i+1)).length) _)
    rw [hcn]
    show Y7 _ _ _ _ _ (D7 _ isN ((⟨[(0,(.yld 6)),(7,(nI0 L.length)),(8,(nI0 (((i+1):Nat):Int)))],[],9,6,[(3,(.ptr 0 0)),(4,(.ptr 1 0)),(5,(.ptr 2 0)),(7,(.ptr 3 0))],[(0,(.cells [(.xl (y) (E.length) 1 (Y5 E)),(.xl (yl) (L.length) 2 (cR L)),(.fn (.func 82) [] [(AV.xp q0 1 1 [AV.xl z M.length 1 (cI M)] 0),(AV.xp q1 1 1 [AV.xl zk K.length 1 (cI K)] 0)])] 85)),(1,(.cells [(.xl (yr) (P.length) 2 (cR P))] 23)),(2,(.cells [(.v (.bool (g)))] 4)),(3,(.cells [(.slu 8 0 (0+1) 0)] 27)),(5,(.defd .true)),(8,(.row (cI (tI (S6 (cR P) (W5 (cI M) (cI K) L.length) g) (i+1))) 2 1))],.ready,none,35,C6 W2,C7 W2,C5 W2,5⟩:Ev.Lit1).lit) _)
    exact a0G zC0q (Z0) 200 (T':=(⟨[(0,(.yld 6)),(7,(nI0 L.length)),(8,(nI0 (((i+1):Nat):Int)))],[],9,6,[(3,(.ptr 0 0)),(4,(.ptr 1 0)),(5,(.ptr 2 0)),(7,(.ptr 3 0))],[(0,(.cells [(.xl (y) (E.length) 1 (Y5 E)),(.xl (yl) (L.length) 2 (cR L)),(.fn (.func 82) [] [(AV.xp q0 1 1 [AV.xl z M.length 1 (cI M)] 0),(AV.xp q1 1 1 [AV.xl zk K.length 1 (cI K)] 0)])] 85)),(1,(.cells [(.xl (yr) (P.length) 2 (cR P))] 23)),(2,(.cells [(.v (.bool (g)))] 4)),(3,(.cells [(.slu 8 0 (0+1) 0)] 27)),(5,(.defd .true)),(8,(.row (cI (tI (S6 (cR P) (W5 (cI M) (cI K) L.length) g) (i+1))) 2 1))],.ready,none,35,C6 W2,C7 W2,C5 W2,5⟩:Ev.Lit1)) (e:=.normal) (m:=9) (ps:=[Y2 i L.length=true,i<P.length,i*2+0<((cR P):List AV).length,W7 zP0q (cR P) (i*2+0) 2=some (AV.v (Value.int IntKind.i64 (Z9 (cR P) (i*2+0)))),i<M.length,W7 zP0q (cI M) (i*1) 2=some (AV.v (Value.int IntKind.i64 (Z9 (cI M) (i*1)))),i<K.length,W7 zP0q (cI K) (i*1) 2=some (AV.v (Value.int IntKind.i64 (Z9 (cI K) (i*1)))),N3 IntKind.i64 (Z9 (cI M) (i*1) - Z9 (cI K) (i*1)),(g == Y2 0 (Z9 (cI M) (i*1) - Z9 (cI K) (i*1)))=true,i<P.length,i*2+1<((cR P):List AV).length,W7 zP0q (cR P) (i*2+1) 2=some (AV.v (Value.int IntKind.i64 (Z9 (cR P) (i*2+1)))),(!true)=false,N3 IntKind.i64 (((i:Nat):Int)+1)]) ([.go,.b true]++gH 7 ([.sym,.sym,.sym]++gH 11 ([.sym,.sym]++gH 6 ([.sym,.sym]++gH 5 ([.b true,.go,.go,.sym,.sym,.sym]++gH 7 [.b false,.go,.go]))))) [0,1,2,3,4,5,6,7,8] [(.yld 6),(nI0 L.length),(nI0 (((i:Nat):Int)+1))] [(.ptr 0 0),(.ptr 1 0),(.ptr 2 0),(.ptr 3 0)] [(.cells [(.xl (y) (E.length) 1 (Y5 E)),(.xl (yl) (L.length) 2 (cR L)),(.fn (.func 82) [] [(AV.xp q0 1 1 [AV.xl z M.length 1 (cI M)] 0),(AV.xp q1 1 1 [AV.xl zk K.length 1 (cI K)] 0)])] 85),(.cells [(.xl (yr) (P.length) 2 (cR P))] 23),(.cells [(.v (.bool (g)))] 4),(.cells [(.slu 8 0 1 0)] 27),(.defd .true),(.row [(nI0 (Z9 (cR P) (i*2+1)))] 2 1)] (by kernel_rfl) (by kernel_rfl) ⟨hz0_1,(by omega),(by rw [Z7];omega),(i7 (i:=i) (by omega) (by omega) 2 (Try.underlying2) rfl),(by omega),(by rw [Nat.mul_one];exact R7 (show _<M.length by omega) 2 (Try.underlying2) rfl),(by omega),(by rw [Nat.mul_one];exact R7 (show _<K.length by omega) 2 (Try.underlying2) rfl),(by have h9:=hm1 i (by omega);show -9223372036854775808≤_∧_≤9223372036854775807;constructor<;>omega),hz0_2,(by omega),(by rw [Z7];omega),(i7 (i:=i) (by omega) (by omega) 2 (Try.underlying2) rfl),rfl,(b8X (by omega) (by omega)),trivial⟩ rfl rfl (by decide) rfl ⟨a9d rfl,N7 _,J8 (show ((((i:Nat):Int)+1):Int)=(((i+1):Nat):Int) from by omega),trivial⟩ ⟨V0 rfl,V0 rfl,V0 rfl,V0 rfl,trivial⟩ ⟨⟨by show 0<9;decide,X6 (Z3 (S5 (W8 (X9 _))) (Z3 (N8 (Y4 (X4 L))) (Z3 (a07 (Y0) (Z3 (S5 (M4 (W8 (Y8 (Z2 _))))) (Z3 (S5 (M4 (W8 (Y8 (Z2 _))))) (Y0)))) (Y0))))⟩,⟨by show 1<9;decide,X6 (Z3 (N8 (Y4 (X4 P))) (Y0))⟩,⟨by show 2<9;decide,X6 (Z3 (N7 _) (Y0))⟩,⟨by show 3<9;decide,X6 (Z3 (T9 rfl) (Y0))⟩,⟨by show 5<9;decide,a3Y⟩,⟨by show 8<9;decide,V2 (l8 (show ((cI (tI (S6 (cR P) (W5 (cI M) (cI K) L.length) g) (i+1))):List AV)=[(nI0 (Z9 (cR P) (i*2+1)))] from by (exact (b5h (by have h9:=Y9 (S6 (cR P) (W5 (cI M) (cI K) L.length) g) i;omega) (a6c (c:=cR P) (n:=L.length) (by omega) hz0_2)).symm)) (Z2 _))⟩,trivial⟩ (by show 6<9;decide) (by show 5<9;decide) (by show 7≤9;decide) (fun b hb=>(by have hb2:b<7:=hb;match b,hb2 with|0,_=>rfl|1,_=>rfl|2,_=>rfl|3,_=>rfl|4,_=>rfl|5,_=>rfl|6,_=>rfl))
   ·refine Ev.step_on ⟨i+1,by omega,trivial⟩ (by show L.length - (i+1)<L.length - i;omega) ?_
    have hcn:(tI (S6 (cR P) (W5 (cI M) (cI K) L.length) g) (i+1)).length=0+1:=by (have h9:=Y9 (S6 (cR P) (W5 (cI M) (cI K) L.length) g) i;rw [Y9];omega)
    show Y7 _ _ _ _ _ (D7 _ isN (Ev.fam0 (⟨[(0,(.yld 6)),(7,(nI0 L.length)),(8,(nI0 (((i+1):Nat):Int)))],[],7,6,[(3,(.ptr 0 0)),(4,(.ptr 1 0)),(5,(.ptr 2 0)),(7,(.ptr 3 0))],[(0,(.cells [(.xl (y) (E.length) 1 (Y5 E)),(.xl (yl) (L.length) 2 (cR L)),(.fn (.func 82) [] [(AV.xp q0 1 1 [AV.xl z M.length 1 (cI M)] 0),(AV.xp q1 1 1 [AV.xl zk K.length 1 (cI K)] 0)])] 85)),(1,(.cells [(.xl (yr) (P.length) 2 (cR P))] 23)),(2,(.cells [(.v (.bool (g)))] 4)),(3,(.cells [(.v (Value.slice none 0 0))] 27)),(5,(.defd .true))],.ready,none,35,C6 W2,C7 W2,C5 W2,5⟩:Ev.Lit1).lit (fun k=>(⟨[(0,(.yld 6)),(7,(nI0 L.length)),(8,(nI0 (((i+1):Nat):Int)))],[],9,6,[(3,(.ptr 0 0)),(4,(.ptr 1 0)),(5,(.ptr 2 0)),(7,(.ptr 3 0))],[(0,(.cells [(.xl (y) (E.length) 1 (Y5 E)),(.xl (yl) (L.length) 2 (cR L)),(.fn (.func 82) [] [(AV.xp q0 1 1 [AV.xl z M.length 1 (cI M)] 0),(AV.xp q1 1 1 [AV.xl zk K.length 1 (cI K)] 0)])] 85)),(1,(.cells [(.xl (yr) (P.length) 2 (cR P))] 23)),(2,(.cells [(.v (.bool (g)))] 4)),(3,(.cells [(.slu 8 0 (k+1) 0)] 27)),(5,(.defd .true)),(8,(.row (cI (tI (S6 (cR P) (W5 (cI M) (cI K) L.length) g) (i+1))) 2 1))],.ready,none,35,C6 W2,C7 W2,C5 W2,5⟩:Ev.Lit1).lit) (tI (S6 (cR P) (W5 (cI M) (cI K) L.length) g) (i+1)).length) _)
    rw [hcn]
    show Y7 _ _ _ _ _ (D7 _ isN ((⟨[(0,(.yld 6)),(7,(nI0 L.length)),(8,(nI0 (((i+1):Nat):Int)))],[],9,6,[(3,(.ptr 0 0)),(4,(.ptr 1 0)),(5,(.ptr 2 0)),(7,(.ptr 3 0))],[(0,(.cells [(.xl (y) (E.length) 1 (Y5 E)),(.xl (yl) (L.length) 2 (cR L)),(.fn (.func 82) [] [(AV.xp q0 1 1 [AV.xl z M.length 1 (cI M)] 0),(AV.xp q1 1 1 [AV.xl zk K.length 1 (cI K)] 0)])] 85)),(1,(.cells [(.xl (yr) (P.length) 2 (cR P))] 23)),(2,(.cells [(.v (.bool (g)))] 4)),(3,(.cells [(.slu 8 0 (0+1) 0)] 27)),(5,(.defd .true)),(8,(.row (cI (tI (S6 (cR P) (W5 (cI M) (cI K) L.length) g) (i+1))) 2 1))],.ready,none,35,C6 W2,C7 W2,C5 W2,5⟩:Ev.Lit1).lit) _)
    exact a0G zC0q (Z0) 200 (T':=(⟨[(0,(.yld 6)),(7,(nI0 L.length)),(8,(nI0 (((i+1):Nat):Int)))],[],9,6,[(3,(.ptr 0 0)),(4,(.ptr 1 0)),(5,(.ptr 2 0)),(7,(.ptr 3 0))],[(0,(.cells [(.xl (y) (E.length) 1 (Y5 E)),(.xl (yl) (L.length) 2 (cR L)),(.fn (.func 82) [] [(AV.xp q0 1 1 [AV.xl z M.length 1 (cI M)] 0),(AV.xp q1 1 1 [AV.xl zk K.length 1 (cI K)] 0)])] 85)),(1,(.cells [(.xl (yr) (P.length) 2 (cR P))] 23)),(2,(.cells [(.v (.bool (g)))] 4)),(3,(.cells [(.slu 8 0 (0+1) 0)] 27)),(5,(.defd .true)),(8,(.row (cI (tI (S6 (cR P) (W5 (cI M) (cI K) L.length) g) (i+1))) 2 1))],.ready,none,35,C6 W2,C7 W2,C5 W2,5⟩:Ev.Lit1)) (e:=.normal) (m:=9) (ps:=[Y2 i L.length=true,i<P.length,i*2+0<((cR P):List AV).length,W7 zP0q (cR P) (i*2+0) 2=some (AV.v (Value.int IntKind.i64 (Z9 (cR P) (i*2+0)))),i<M.length,W7 zP0q (cI M) (i*1) 2=some (AV.v (Value.int IntKind.i64 (Z9 (cI M) (i*1)))),i<K.length,W7 zP0q (cI K) (i*1) 2=some (AV.v (Value.int IntKind.i64 (Z9 (cI K) (i*1)))),N3 IntKind.i64 (Z9 (cI M) (i*1) - Z9 (cI K) (i*1)),(g == Y2 0 (Z9 (cI M) (i*1) - Z9 (cI K) (i*1)))=false,(!true)=false,N3 IntKind.i64 (((i:Nat):Int)+1)]) ([.go,.b true]++gH 7 ([.sym,.sym,.sym]++gH 11 ([.sym,.sym]++gH 6 ([.sym,.sym]++gH 5 ([.b false]++gH 6 [.b false,.go,.go]))))) [0,1,2,3,4,5,6,7,8] [(.yld 6),(nI0 L.length),(nI0 (((i:Nat):Int)+1))] [(.ptr 0 0),(.ptr 1 0),(.ptr 2 0),(.ptr 3 0)] [(.cells [(.xl (y) (E.length) 1 (Y5 E)),(.xl (yl) (L.length) 2 (cR L)),(.fn (.func 82) [] [(AV.xp q0 1 1 [AV.xl z M.length 1 (cI M)] 0),(AV.xp q1 1 1 [AV.xl zk K.length 1 (cI K)] 0)])] 85),(.cells [(.xl (yr) (P.length) 2 (cR P))] 23),(.cells [(.v (.bool (g)))] 4),(.cells [(.slu 8 0 1 0)] 27),(.defd .true),(.row [(nI0 (Z9 (cR P) (i*2+0)))] 2 1)] (by kernel_rfl) (by kernel_rfl) ⟨hz0_1,(by omega),(by rw [Z7];omega),(i7 (i:=i) (by omega) (by omega) 2 (Try.underlying2) rfl),(by omega),(by rw [Nat.mul_one];exact R7 (show _<M.length by omega) 2 (Try.underlying2) rfl),(by omega),(by rw [Nat.mul_one];exact R7 (show _<K.length by omega) 2 (Try.underlying2) rfl),(by have h9:=hm1 i (by omega);show -9223372036854775808≤_∧_≤9223372036854775807;constructor<;>omega),hz0_2,rfl,(b8X (by omega) (by omega)),trivial⟩ rfl rfl (by decide) rfl ⟨a9d rfl,N7 _,J8 (show ((((i:Nat):Int)+1):Int)=(((i+1):Nat):Int) from by omega),trivial⟩ ⟨V0 rfl,V0 rfl,V0 rfl,V0 rfl,trivial⟩ ⟨⟨by show 0<9;decide,X6 (Z3 (S5 (W8 (X9 _))) (Z3 (N8 (Y4 (X4 L))) (Z3 (a07 (Y0) (Z3 (S5 (M4 (W8 (Y8 (Z2 _))))) (Z3 (S5 (M4 (W8 (Y8 (Z2 _))))) (Y0)))) (Y0))))⟩,⟨by show 1<9;decide,X6 (Z3 (N8 (Y4 (X4 P))) (Y0))⟩,⟨by show 2<9;decide,X6 (Z3 (N7 _) (Y0))⟩,⟨by show 3<9;decide,X6 (Z3 (T9 rfl) (Y0))⟩,⟨by show 5<9;decide,a3Y⟩,⟨by show 8<9;decide,V2 (l8 (show ((cI (tI (S6 (cR P) (W5 (cI M) (cI K) L.length) g) (i+1))):List AV)=[(nI0 (Z9 (cR P) (i*2+0)))] from by (exact (b5h (by have h9:=Y9 (S6 (cR P) (W5 (cI M) (cI K) L.length) g) i;omega) (a9N (c:=cR P) (m:=cI M) (k:=cI K) (g:=g) (b:=i) (n:=L.length) (by omega) (by rw [hz0_2];decide))).symm)) (Z2 _))⟩,trivial⟩ (by show 6<9;decide) (by show 5<9;decide) (by show 7≤9;decide) (fun b hb=>(by have hb2:b<7:=hb;match b,hb2 with|0,_=>rfl|1,_=>rfl|2,_=>rfl|3,_=>rfl|4,_=>rfl|5,_=>rfl|6,_=>rfl))
  ·have ghz0_1:=Z5 hz0_1
   exfalso
   have h9:=Y9 (S6 (cR P) (W5 (cI M) (cI K) L.length) g) i
   omega
 |succ k =>
  show Y7 zP0q 16 b2f ((⟨[(0,(.yld 6)),(7,(nI0 L.length)),(8,(nI0 i))],[],9,6,[(3,(.ptr 0 0)),(4,(.ptr 1 0)),(5,(.ptr 2 0)),(7,(.ptr 3 0))],[(0,(.cells [(.xl (y) (E.length) 1 (Y5 E)),(.xl (yl) (L.length) 2 (cR L)),(.fn (.func 82) [] [(AV.xp q0 1 1 [AV.xl z M.length 1 (cI M)] 0),(AV.xp q1 1 1 [AV.xl zk K.length 1 (cI K)] 0)])] 85)),(1,(.cells [(.xl (yr) (P.length) 2 (cR P))] 23)),(2,(.cells [(.v (.bool (g)))] 4)),(3,(.cells [(.slu 8 0 (k+1) 0)] 27)),(5,(.defd .true)),(8,(.row (cI (tI (S6 (cR P) (W5 (cI M) (cI K) L.length) g) i)) 2 1))],.ready,none,35,C6 W2,C7 W2,C5 W2,5⟩:Ev.Lit1).lit) (bw v 7 eb ec) (a50 _ _ _ _ _ _ _ _)
  rcases zB0q (Y2 i L.length) with hs0_1|hs0_1
  ·have ghs0_1:=X5 hs0_1
   rcases zB0q (g == Y2 0 (Z9 (cI M) (i*1) - Z9 (cI K) (i*1))) with hs0_2|hs0_2
   ·refine Ev.step_on ⟨i+1,by omega,trivial⟩ (by show L.length - (i+1)<L.length - i;omega) ?_
    have hcn:(tI (S6 (cR P) (W5 (cI M) (cI K) L.length) g) (i+1)).length=k+1+1:=by (have h9:=Y9 (S6 (cR P) (W5 (cI M) (cI K) L.length) g) i;rw [Y9];omega)
    show Y7 _ _ _ _ _ (D7 _ isN (Ev.fam0 (⟨[(0,(.yld 6)),(7,(nI0 L.length)),(8,(nI0 (((i+1):Nat):Int)))],[],7,6,[(3,(.ptr 0 0)),(4,(.ptr 1 0)),(5,(.ptr 2 0)),(7,(.ptr 3 0))],[(0,(.cells [(.xl (y) (E.length) 1 (Y5 E)),(.xl (yl) (L.length) 2 (cR L)),(.fn (.func 82) [] [(AV.xp q0 1 1 [AV.xl z M.length 1 (cI M)] 0),(AV.xp q1 1 1 [AV.xl zk K.length 1 (cI K)] 0)])] 85)),(1,(.cells [(.xl (yr) (P.length) 2 (cR P))] 23)),(2,(.cells [(.v (.bool (g)))] 4)),(3,(.cells [(.v (Value.slice none 0 0))] 27)),(5,(.defd .true))],.ready,none,35,C6 W2,C7 W2,C5 W2,5⟩:Ev.Lit1).lit (fun k=>(⟨[(0,(.yld 6)),(7,(nI0 L.length)),(8,(nI0 (((i+1):Nat):Int)))],[],9,6,[(3,(.ptr 0 0)),(4,(.ptr 1 0)),(5,(.ptr 2 0)),(7,(.ptr 3 0))],[(0,(.cells [(.xl (y) (E.length) 1 (Y5 E)),(.xl (yl) (L.length) 2 (cR L)),(.fn (.func 82) [] [(AV.xp q0 1 1 [AV.xl z M.length 1 (cI M)] 0),(AV.xp q1 1 1 [AV.xl zk K.length 1 (cI K)] 0)])] 85)),(1,(.cells [(.xl (yr) (P.length) 2 (cR P))] 23)),(2,(.cells [(.v (.bool (g)))] 4)),(3,(.cells [(.slu 8 0 (k+1) 0)] 27)),(5,(.defd .true)),(8,(.row (cI (tI (S6 (cR P) (W5 (cI M) (cI K) L.length) g) (i+1))) 2 1))],.ready,none,35,C6 W2,C7 W2,C5 W2,5⟩:Ev.Lit1).lit) (tI (S6 (cR P) (W5 (cI M) (cI K) L.length) g) (i+1)).length) _)
    rw [hcn]
    show Y7 _ _ _ _ _ (D7 _ isN ((⟨[(0,(.yld 6)),(7,(nI0 L.length)),(8,(nI0 (((i+1):Nat):Int)))],[],9,6,[(3,(.ptr 0 0)),(4,(.ptr 1 0)),(5,(.ptr 2 0)),(7,(.ptr 3 0))],[(0,(.cells [(.xl (y) (E.length) 1 (Y5 E)),(.xl (yl) (L.length) 2 (cR L)),(.fn (.func 82) [] [(AV.xp q0 1 1 [AV.xl z M.length 1 (cI M)] 0),(AV.xp q1 1 1 [AV.xl zk K.length 1 (cI K)] 0)])] 85)),(1,(.cells [(.xl (yr) (P.length) 2 (cR P))] 23)),(2,(.cells [(.v (.bool (g)))] 4)),(3,(.cells [(.slu 8 0 (k+1+1) 0)] 27)),(5,(.defd .true)),(8,(.row (cI (tI (S6 (cR P) (W5 (cI M) (cI K) L.length) g) (i+1))) 2 1))],.ready,none,35,C6 W2,C7 W2,C5 W2,5⟩:Ev.Lit1).lit) _)
    exact a0G zC0q (Z0) 200 (T':=(⟨[(0,(.yld 6)),(7,(nI0 L.length)),(8,(nI0 (((i+1):Nat):Int)))],[],9,6,[(3,(.ptr 0 0)),(4,(.ptr 1 0)),(5,(.ptr 2 0)),(7,(.ptr 3 0))],[(0,(.cells [(.xl (y) (E.length) 1 (Y5 E)),(.xl (yl) (L.length) 2 (cR L)),(.fn (.func 82) [] [(AV.xp q0 1 1 [AV.xl z M.length 1 (cI M)] 0),(AV.xp q1 1 1 [AV.xl zk K.length 1 (cI K)] 0)])] 85)),(1,(.cells [(.xl (yr) (P.length) 2 (cR P))] 23)),(2,(.cells [(.v (.bool (g)))] 4)),(3,(.cells [(.slu 8 0 (k+1+1) 0)] 27)),(5,(.defd .true)),(8,(.row (cI (tI (S6 (cR P) (W5 (cI M) (cI K) L.length) g) (i+1))) 2 1))],.ready,none,35,C6 W2,C7 W2,C5 W2,5⟩:Ev.Lit1)) (e:=.normal) (m:=11) (ps:=[Y2 i L.length=true,i<P.length,i*2+0<((cR P):List AV).length,W7 zP0q (cR P) (i*2+0) 2=some (AV.v (Value.int IntKind.i64 (Z9 (cR P) (i*2+0)))),i<M.length,W7 zP0q (cI M) (i*1) 2=some (AV.v (Value.int IntKind.i64 (Z9 (cI M) (i*1)))),i<K.length,W7 zP0q (cI K) (i*1) 2=some (AV.v (Value.int IntKind.i64 (Z9 (cI K) (i*1)))),N3 IntKind.i64 (Z9 (cI M) (i*1) - Z9 (cI K) (i*1)),(g == Y2 0 (Z9 (cI M) (i*1) - Z9 (cI K) (i*1)))=true,i<P.length,i*2+1<((cR P):List AV).length,W7 zP0q (cR P) (i*2+1) 2=some (AV.v (Value.int IntKind.i64 (Z9 (cR P) (i*2+1)))),((cI (tI (S6 (cR P) (W5 (cI M) (cI K) L.length) g) i)):List AV).length=(k+1)*1,k+1+1≤1000000,(!true)=false,N3 IntKind.i64 (((i:Nat):Int)+1)]) ([.go,.b true]++gH 7 ([.sym,.sym,.sym]++gH 11 ([.sym,.sym]++gH 6 ([.sym,.sym]++gH 5 ([.b true,.go,.go,.sym,.sym,.sym]++gH 4 [.sym,.go,.go,.b false,.go,.go]))))) [0,1,2,3,4,5,6,7,10] [(.yld 6),(nI0 L.length),(nI0 (((i:Nat):Int)+1))] [(.ptr 0 0),(.ptr 1 0),(.ptr 2 0),(.ptr 3 0)] [(.cells [(.xl (y) (E.length) 1 (Y5 E)),(.xl (yl) (L.length) 2 (cR L)),(.fn (.func 82) [] [(AV.xp q0 1 1 [AV.xl z M.length 1 (cI M)] 0),(AV.xp q1 1 1 [AV.xl zk K.length 1 (cI K)] 0)])] 85),(.cells [(.xl (yr) (P.length) 2 (cR P))] 23),(.cells [(.v (.bool (g)))] 4),(.cells [(.slu 10 0 (k+1+1) 0)] 27),(.defd .true),(.row ((cI (tI (S6 (cR P) (W5 (cI M) (cI K) L.length) g) i))++[(nI0 (Z9 (cR P) (i*2+1)))]) 2 1)] (by kernel_rfl) (by kernel_rfl) ⟨hs0_1,(by omega),(by rw [Z7];omega),(i7 (i:=i) (by omega) (by omega) 2 (Try.underlying2) rfl),(by omega),(by rw [Nat.mul_one];exact R7 (show _<M.length by omega) 2 (Try.underlying2) rfl),(by omega),(by rw [Nat.mul_one];exact R7 (show _<K.length by omega) 2 (Try.underlying2) rfl),(by have h9:=hm1 i (by omega);show -9223372036854775808≤_∧_≤9223372036854775807;constructor<;>omega),hs0_2,(by omega),(by rw [Z7];omega),(i7 (i:=i) (by omega) (by omega) 2 (Try.underlying2) rfl),(by have h9:=Y9 (S6 (cR P) (W5 (cI M) (cI K) L.length) g) i;show (cI _).length=_;rw [Z4,Y9];omega),(by have h9:=Y9 (S6 (cR P) (W5 (cI M) (cI K) L.length) g) i;have h8:=Y9 (S6 (cR P) (W5 (cI M) (cI K) L.length) g) (i+1);omega),rfl,(b8X (by omega) (by omega)),trivial⟩ rfl rfl (by decide) rfl ⟨a9d rfl,N7 _,J8 (show ((((i:Nat):Int)+1):Int)=(((i+1):Nat):Int) from by omega),trivial⟩ ⟨V0 rfl,V0 rfl,V0 rfl,V0 rfl,trivial⟩ ⟨⟨by show 0<9;decide,X6 (Z3 (S5 (W8 (X9 _))) (Z3 (N8 (Y4 (X4 L))) (Z3 (a07 (Y0) (Z3 (S5 (M4 (W8 (Y8 (Z2 _))))) (Z3 (S5 (M4 (W8 (Y8 (Z2 _))))) (Y0)))) (Y0))))⟩,⟨by show 1<9;decide,X6 (Z3 (N8 (Y4 (X4 P))) (Y0))⟩,⟨by show 2<9;decide,X6 (Z3 (N7 _) (Y0))⟩,⟨by show 3<9;decide,X6 (Z3 (T9 rfl) (Y0))⟩,⟨by show 5<9;decide,a3Y⟩,⟨by show 8<9;decide,V2 (l8 (show ((cI (tI (S6 (cR P) (W5 (cI M) (cI K) L.length) g) (i+1))):List AV)=((cI (tI (S6 (cR P) (W5 (cI M) (cI K) L.length) g) i))++[(nI0 (Z9 (cR P) (i*2+1)))]) from by first|exact (a8W (a6c (c:=cR P) (n:=L.length) (by omega) hs0_2)).symm|(rw [List.take_of_length_le (by have h9:=Y9 (S6 (cR P) (W5 (cI M) (cI K) L.length) g) i;rw [List.length_drop,Z4,Y9];omega),List.drop_zero];exact (a8W (a6c (c:=cR P) (n:=L.length) (by omega) hs0_2)).symm)) (Z2 _))⟩,trivial⟩ (by show 6<9;decide) (by show 5<9;decide) (by show 7≤9;decide) (fun b hb=>(by have hb2:b<7:=hb;match b,hb2 with|0,_=>rfl|1,_=>rfl|2,_=>rfl|3,_=>rfl|4,_=>rfl|5,_=>rfl|6,_=>rfl))
   ·refine Ev.step_on ⟨i+1,by omega,trivial⟩ (by show L.length - (i+1)<L.length - i;omega) ?_
    have hcn:(tI (S6 (cR P) (W5 (cI M) (cI K) L.length) g) (i+1)).length=k+1+1:=by (have h9:=Y9 (S6 (cR P) (W5 (cI M) (cI K) L.length) g) i;rw [Y9];omega)
    show Y7 _ _ _ _ _ (D7 _ isN (Ev.fam0 (⟨[(0,(.yld 6)),(7,(nI0 L.length)),(8,(nI0 (((i+1):Nat):Int)))],[],7,6,[(3,(.ptr 0 0)),(4,(.ptr 1 0)),(5,(.ptr 2 0)),(7,(.ptr 3 0))],[(0,(.cells [(.xl (y) (E.length) 1 (Y5 E)),(.xl (yl) (L.length) 2 (cR L)),(.fn (.func 82) [] [(AV.xp q0 1 1 [AV.xl z M.length 1 (cI M)] 0),(AV.xp q1 1 1 [AV.xl zk K.length 1 (cI K)] 0)])] 85)),(1,(.cells [(.xl (yr) (P.length) 2 (cR P))] 23)),(2,(.cells [(.v (.bool (g)))] 4)),(3,(.cells [(.v (Value.slice none 0 0))] 27)),(5,(.defd .true))],.ready,none,35,C6 W2,C7 W2,C5 W2,5⟩:Ev.Lit1).lit (fun k=>(⟨[(0,(.yld 6)),(7,(nI0 L.length)),(8,(nI0 (((i+1):Nat):Int)))],[],9,6,[(3,(.ptr 0 0)),(4,(.ptr 1 0)),(5,(.ptr 2 0)),(7,(.ptr 3 0))],[(0,(.cells [(.xl (y) (E.length) 1 (Y5 E)),(.xl (yl) (L.length) 2 (cR L)),(.fn (.func 82) [] [(AV.xp q0 1 1 [AV.xl z M.length 1 (cI M)] 0),(AV.xp q1 1 1 [AV.xl zk K.length 1 (cI K)] 0)])] 85)),(1,(.cells [(.xl (yr) (P.length) 2 (cR P))] 23)),(2,(.cells [(.v (.bool (g)))] 4)),(3,(.cells [(.slu 8 0 (k+1) 0)] 27)),(5,(.defd .true)),(8,(.row (cI (tI (S6 (cR P) (W5 (cI M) (cI K) L.length) g) (i+1))) 2 1))],.ready,none,35,C6 W2,C7 W2,C5 W2,5⟩:Ev.Lit1).lit) (tI (S6 (cR P) (W5 (cI M) (cI K) L.length) g) (i+1)).length) _)
    rw [hcn]
    show Y7 _ _ _ _ _ (D7 _ isN ((⟨[(0,(.yld 6)),(7,(nI0 L.length)),(8,(nI0 (((i+1):Nat):Int)))],[],9,6,[(3,(.ptr 0 0)),(4,(.ptr 1 0)),(5,(.ptr 2 0)),(7,(.ptr 3 0))],[(0,(.cells [(.xl (y) (E.length) 1 (Y5 E)),(.xl (yl) (L.length) 2 (cR L)),(.fn (.func 82) [] [(AV.xp q0 1 1 [AV.xl z M.length 1 (cI M)] 0),(AV.xp q1 1 1 [AV.xl zk K.length 1 (cI K)] 0)])] 85)),(1,(.cells [(.xl (yr) (P.length) 2 (cR P))] 23)),(2,(.cells [(.v (.bool (g)))] 4)),(3,(.cells [(.slu 8 0 (k+1+1) 0)] 27)),(5,(.defd .true)),(8,(.row (cI (tI (S6 (cR P) (W5 (cI M) (cI K) L.length) g) (i+1))) 2 1))],.ready,none,35,C6 W2,C7 W2,C5 W2,5⟩:Ev.Lit1).lit) _)
    exact a0G zC0q (Z0) 200 (T':=(⟨[(0,(.yld 6)),(7,(nI0 L.length)),(8,(nI0 (((i+1):Nat):Int)))],[],9,6,[(3,(.ptr 0 0)),(4,(.ptr 1 0)),(5,(.ptr 2 0)),(7,(.ptr 3 0))],[(0,(.cells [(.xl (y) (E.length) 1 (Y5 E)),(.xl (yl) (L.length) 2 (cR L)),(.fn (.func 82) [] [(AV.xp q0 1 1 [AV.xl z M.length 1 (cI M)] 0),(AV.xp q1 1 1 [AV.xl zk K.length 1 (cI K)] 0)])] 85)),(1,(.cells [(.xl (yr) (P.length) 2 (cR P))] 23)),(2,(.cells [(.v (.bool (g)))] 4)),(3,(.cells [(.slu 8 0 (k+1+1) 0)] 27)),(5,(.defd .true)),(8,(.row (cI (tI (S6 (cR P) (W5 (cI M) (cI K) L.length) g) (i+1))) 2 1))],.ready,none,35,C6 W2,C7 W2,C5 W2,5⟩:Ev.Lit1)) (e:=.normal) (m:=11) (ps:=[Y2 i L.length=true,i<P.length,i*2+0<((cR P):List AV).length,W7 zP0q (cR P) (i*2+0) 2=some (AV.v (Value.int IntKind.i64 (Z9 (cR P) (i*2+0)))),i<M.length,W7 zP0q (cI M) (i*1) 2=some (AV.v (Value.int IntKind.i64 (Z9 (cI M) (i*1)))),i<K.length,W7 zP0q (cI K) (i*1) 2=some (AV.v (Value.int IntKind.i64 (Z9 (cI K) (i*1)))),N3 IntKind.i64 (Z9 (cI M) (i*1) - Z9 (cI K) (i*1)),(g == Y2 0 (Z9 (cI M) (i*1) - Z9 (cI K) (i*1)))=false,((cI (tI (S6 (cR P) (W5 (cI M) (cI K) L.length) g) i)):List AV).length=(k+1)*1,k+1+1≤1000000,(!true)=false,N3 IntKind.i64 (((i:Nat):Int)+1)]) ([.go,.b true]++gH 7 ([.sym,.sym,.sym]++gH 11 ([.sym,.sym]++gH 6 ([.sym,.sym]++gH 5 [.b false,.go,.go,.go,.sym,.go,.go,.b false,.go,.go])))) [0,1,2,3,4,5,6,7,10] [(.yld 6),(nI0 L.length),(nI0 (((i:Nat):Int)+1))] [(.ptr 0 0),(.ptr 1 0),(.ptr 2 0),(.ptr 3 0)] [(.cells [(.xl (y) (E.length) 1 (Y5 E)),(.xl (yl) (L.length) 2 (cR L)),(.fn (.func 82) [] [(AV.xp q0 1 1 [AV.xl z M.length 1 (cI M)] 0),(AV.xp q1 1 1 [AV.xl zk K.length 1 (cI K)] 0)])] 85),(.cells [(.xl (yr) (P.length) 2 (cR P))] 23),(.cells [(.v (.bool (g)))] 4),(.cells [(.slu 10 0 (k+1+1) 0)] 27),(.defd .true),(.row ((cI (tI (S6 (cR P) (W5 (cI M) (cI K) L.length) g) i))++[(nI0 (Z9 (cR P) (i*2+0)))]) 2 1)] (by kernel_rfl) (by kernel_rfl) ⟨hs0_1,(by omega),(by rw [Z7];omega),(i7 (i:=i) (by omega) (by omega) 2 (Try.underlying2) rfl),(by omega),(by rw [Nat.mul_one];exact R7 (show _<M.length by omega) 2 (Try.underlying2) rfl),(by omega),(by rw [Nat.mul_one];exact R7 (show _<K.length by omega) 2 (Try.underlying2) rfl),(by have h9:=hm1 i (by omega);show -9223372036854775808≤_∧_≤9223372036854775807;constructor<;>omega),hs0_2,(by have h9:=Y9 (S6 (cR P) (W5 (cI M) (cI K) L.length) g) i;show (cI _).length=_;rw [Z4,Y9];omega),(by have h9:=Y9 (S6 (cR P) (W5 (cI M) (cI K) L.length) g) i;have h8:=Y9 (S6 (cR P) (W5 (cI M) (cI K) L.length) g) (i+1);omega),rfl,(b8X (by omega) (by omega)),trivial⟩ rfl rfl (by decide) rfl ⟨a9d rfl,N7 _,J8 (show ((((i:Nat):Int)+1):Int)=(((i+1):Nat):Int) from by omega),trivial⟩ ⟨V0 rfl,V0 rfl,V0 rfl,V0 rfl,trivial⟩ ⟨⟨by show 0<9;decide,X6 (Z3 (S5 (W8 (X9 _))) (Z3 (N8 (Y4 (X4 L))) (Z3 (a07 (Y0) (Z3 (S5 (M4 (W8 (Y8 (Z2 _))))) (Z3 (S5 (M4 (W8 (Y8 (Z2 _))))) (Y0)))) (Y0))))⟩,⟨by show 1<9;decide,X6 (Z3 (N8 (Y4 (X4 P))) (Y0))⟩,⟨by show 2<9;decide,X6 (Z3 (N7 _) (Y0))⟩,⟨by show 3<9;decide,X6 (Z3 (T9 rfl) (Y0))⟩,⟨by show 5<9;decide,a3Y⟩,⟨by show 8<9;decide,V2 (l8 (show ((cI (tI (S6 (cR P) (W5 (cI M) (cI K) L.length) g) (i+1))):List AV)=((cI (tI (S6 (cR P) (W5 (cI M) (cI K) L.length) g) i))++[(nI0 (Z9 (cR P) (i*2+0)))]) from by first|exact (a8W (a9N (c:=cR P) (m:=cI M) (k:=cI K) (g:=g) (b:=i) (n:=L.length) (by omega) (by rw [hs0_2];decide))).symm|(rw [List.take_of_length_le (by have h9:=Y9 (S6 (cR P) (W5 (cI M) (cI K) L.length) g) i;rw [List.length_drop,Z4,Y9];omega),List.drop_zero];exact (a8W (a9N (c:=cR P) (m:=cI M) (k:=cI K) (g:=g) (b:=i) (n:=L.length) (by omega) (by rw [hs0_2];decide))).symm)) (Z2 _))⟩,trivial⟩ (by show 6<9;decide) (by show 5<9;decide) (by show 7≤9;decide) (fun b hb=>(by have hb2:b<7:=hb;match b,hb2 with|0,_=>rfl|1,_=>rfl|2,_=>rfl|3,_=>rfl|4,_=>rfl|5,_=>rfl|6,_=>rfl))
  ·have ghs0_1:=Z5 hs0_1
   refine Ev.step_out (by show L.length≤i;omega) ?_
   show Y7 _ _ _ _ _ (D7 _ (isX 0) (Ev.fam0 (⟨[(0,(.yld 6)),(7,(nI0 L.length)),(8,(nI0 i))],[],7,6,[(3,(.ptr 0 0)),(4,(.ptr 1 0)),(5,(.ptr 2 0)),(7,(.ptr 3 0))],[(0,(.cells [(.xl (y) (E.length) 1 (Y5 E)),(.xl (yl) (L.length) 2 (cR L)),(.fn (.func 82) [] [(AV.xp q0 1 1 [AV.xl z M.length 1 (cI M)] 0),(AV.xp q1 1 1 [AV.xl zk K.length 1 (cI K)] 0)])] 85)),(1,(.cells [(.xl (yr) (P.length) 2 (cR P))] 23)),(2,(.cells [(.v (.bool (g)))] 4)),(3,(.cells [(.v (Value.slice none 0 0))] 27)),(5,(.defd .true))],.ready,none,35,C6 W2,C7 W2,C5 W2,5⟩:Ev.Lit1).lit (fun k=>(⟨[(0,(.yld 6)),(7,(nI0 L.length)),(8,(nI0 i))],[],9,6,[(3,(.ptr 0 0)),(4,(.ptr 1 0)),(5,(.ptr 2 0)),(7,(.ptr 3 0))],[(0,(.cells [(.xl (y) (E.length) 1 (Y5 E)),(.xl (yl) (L.length) 2 (cR L)),(.fn (.func 82) [] [(AV.xp q0 1 1 [AV.xl z M.length 1 (cI M)] 0),(AV.xp q1 1 1 [AV.xl zk K.length 1 (cI K)] 0)])] 85)),(1,(.cells [(.xl (yr) (P.length) 2 (cR P))] 23)),(2,(.cells [(.v (.bool (g)))] 4)),(3,(.cells [(.slu 8 0 (k+1) 0)] 27)),(5,(.defd .true)),(8,(.row (cI (tI (S6 (cR P) (W5 (cI M) (cI K) L.length) g) i)) 2 1))],.ready,none,35,C6 W2,C7 W2,C5 W2,5⟩:Ev.Lit1).lit) (tI (S6 (cR P) (W5 (cI M) (cI K) L.length) g) i).length) _)
   rw [hc]
   exact B9 zC0q (Z0) 200 (T':=(⟨[(0,(.yld 6)),(7,(nI0 L.length)),(8,(nI0 i))],[],9,6,[(3,(.ptr 0 0)),(4,(.ptr 1 0)),(5,(.ptr 2 0)),(7,(.ptr 3 0))],[(0,(.cells [(.xl (y) (E.length) 1 (Y5 E)),(.xl (yl) (L.length) 2 (cR L)),(.fn (.func 82) [] [(AV.xp q0 1 1 [AV.xl z M.length 1 (cI M)] 0),(AV.xp q1 1 1 [AV.xl zk K.length 1 (cI K)] 0)])] 85)),(1,(.cells [(.xl (yr) (P.length) 2 (cR P))] 23)),(2,(.cells [(.v (.bool (g)))] 4)),(3,(.cells [(.slu 8 0 (k+1) 0)] 27)),(5,(.defd .true)),(8,(.row (cI (tI (S6 (cR P) (W5 (cI M) (cI K) L.length) g) i)) 2 1))],.ready,none,35,C6 W2,C7 W2,C5 W2,5⟩:Ev.Lit1)) (e:=.exit 0) (ps:=[Y2 i L.length=false]) [.go,.b false] (by kernel_rfl) (by kernel_rfl) ⟨hs0_1,trivial⟩ rfl
theorem c2b(hn:1≤L.length∧L.length≤8)(hP:P.length=L.length)(hm:M.length=L.length)(hk:K.length=L.length)(hm1:∀ b,b<L.length → -1000≤Z9 (cI M) (b*1) - Z9 (cI K) (b*1)∧Z9 (cI M) (b*1) - Z9 (cI K) (b*1)≤1000):Y7 zP0q 16 b6z ((⟨[(0,(.yld 6)),(1,(.ptr 4 0))],[],7,6,[(3,(.ptr 0 0)),(4,(.ptr 1 0)),(5,(.ptr 2 0)),(7,(.ptr 3 0))],[(a3t E K L M q0 q1 y yl z zk),(a0Z P yr),(a16 g),a45,(b5F E K L M q0 q1 y yl z zk),(5,(.defd .true))],.ready,none,35,C6 W2,C7 W2,C5 W2,5⟩:Ev.Lit1).lit) (bw v 7 eb ec) (a5e 16 (fun _:Unit=>((⟨[],[],9,6,[(3,(.ptr 0 0)),(4,(.ptr 1 0)),(5,(.ptr 2 0)),(7,(.ptr 3 0))],[(a3t E K L M q0 q1 y yl z zk),(a0Z P yr),(a16 g),(b2d K L M P g),(5,(.defd .true)),(b1T K L M P g)],.ready,none,35,C6 W2,C7 W2,C5 W2,5⟩:Ev.Lit1)).lit) (fun _:Unit=>True) (bw v 7 eb ec)):=by
 have hcl_L:=Z7 L
 have hcl_M:=Z4 M
 have hcl_K:=Z4 K
 have hcl_P:=Z7 P
 exact N6 (T':=(⟨[(0,(.yld 6)),(7,(nI0 L.length)),(8,(nI0 (.ofNat 0)))],[],7,6,[(3,(.ptr 0 0)),(4,(.ptr 1 0)),(5,(.ptr 2 0)),(7,(.ptr 3 0))],[(a3t E K L M q0 q1 y yl z zk),(a0Z P yr),(a16 g),a45,(5,(.defd .true))],.ready,none,35,C6 W2,C7 W2,C5 W2,5⟩:Ev.Lit1).lit) (by kernel_rfl) (B9 zC0q (Z0) 200 (T':=(⟨[(0,(.yld 6)),(7,(nI0 L.length)),(8,(nI0 (.ofNat 0)))],[],7,6,[(3,(.ptr 0 0)),(4,(.ptr 1 0)),(5,(.ptr 2 0)),(7,(.ptr 3 0))],[(a3t E K L M q0 q1 y yl z zk),(a0Z P yr),(a16 g),a45,(5,(.defd .true))],.ready,none,35,C6 W2,C7 W2,C5 W2,5⟩:Ev.Lit1)) (e:=.normal) (ps:=[]) (gH 5 []) (by kernel_rfl) (by kernel_rfl) trivial rfl) (c36 hn hP hm hk hm1)
theorem c8n(hn:1≤L.length∧L.length≤8)(hP:P.length=L.length)(hm:M.length=L.length)(hk:K.length=L.length)(hm1:∀ b,b<L.length → -1000≤Z9 (cI M) (b*1) - Z9 (cI K) (b*1)∧Z9 (cI M) (b*1) - Z9 (cI K) (b*1)≤1000):Y7 zP0q 35 b4z ((c0y K L M P g)) (BaseW.H (bw v 0 eb ec) hs) (T4 zP0q Try.f90 35 ((.slu 0 0 L.length 0)) [(A4 K L M P g)] (bw v 0 eb ec)):=by
 have hcl_L:=Z7 L
 have hcl_M:=Z4 M
 have hcl_K:=Z4 K
 have hcl_P:=Z7 P
 exact Z8 U9 (O5 zC0q (Z0) 200 (T':=⟨[(6,(.slu 0 0 ((a4k K L M P g).length) 0))],[],1,[(0,(A4 K L M P g))]⟩) (e:=.ret) (m:=6) (ps:=[]) [.go,.go] [5] [(.slu 5 0 ((a4k K L M P g).length) 0)] [(A4 K L M P g)] (by kernel_rfl) (by kernel_rfl) trivial rfl rfl (by decide) rfl ⟨T9 rfl,trivial⟩ ⟨⟨by show 0<1;decide,V2 (Y4 (Z2 _))⟩,trivial⟩) (k8 (r:=(.slu 0 0 ((a4k K L M P g).length) 0)) (ys:=[(A4 K L M P g)]) (by (rw [Y9])) (by rfl) (z5 (by kernel_rfl) (by kernel_rfl) rfl (.inr rfl)))
theorem c4Q(hn:1≤L.length∧L.length≤8)(hP:P.length=L.length)(hm:M.length=L.length)(hk:K.length=L.length)(hm1:∀ b,b<L.length → -1000≤Z9 (cI M) (b*1) - Z9 (cI K) (b*1)∧Z9 (cI M) (b*1) - Z9 (cI K) (b*1)≤1000):Y7 zP0q 35 W2 ((a8E E K L M P g q0 q1 y yl yr z zk)) (BaseW.H (bw v 0 eb ec) hs) (Hd.AfterB zP0q 35 0 b4z (bw v 0 eb ec) (T4 zP0q Try.f90 35 ((.slu 0 0 L.length 0)) [(A4 K L M P g)] (bw v 0 eb ec))):=by
 have hcl_L:=Z7 L
 have hcl_M:=Z4 M
 have hcl_K:=Z4 K
 have hcl_P:=Z7 P
 refine V6 (T':=(a8E E K L M P g q0 q1 y yl yr z zk)) (by kernel_rfl) (by kernel_rfl) (by kernel_rfl) (by kernel_rfl) ?_
 exact a1H (T1:=(⟨[(0,(.yld 6)),(1,(.ptr 4 0))],[],7,6,[(3,(.ptr 0 0)),(4,(.ptr 1 0)),(5,(.ptr 2 0)),(7,(.ptr 3 0))],[(a3t E K L M q0 q1 y yl z zk),(a0Z P yr),(a16 g),a45,(b5F E K L M q0 q1 y yl z zk),(5,(.defd .true))],.ready,none,35,C6 W2,C7 W2,C5 W2,5⟩:Ev.Lit1)) (T2:=(fun _:Unit=>(⟨[],[],9,6,[(3,(.ptr 0 0)),(4,(.ptr 1 0)),(5,(.ptr 2 0)),(7,(.ptr 3 0))],[(a3t E K L M q0 q1 y yl z zk),(a0Z P yr),(a16 g),(b2d K L M P g),(5,(.defd .true)),(b1T K L M P g)],.ready,none,35,C6 W2,C7 W2,C5 W2,5⟩:Ev.Lit1))) (T3:=fun _:Unit=>(c0I K L M P g)) (R:=(fun _:Unit=>True)) (k:=93) (l:=6) (szk:=16) (K:=7) (e:=fun _=>.normal) rfl (by kernel_rfl) Try.func93 (by kernel_rfl) (by kernel_rfl) (by kernel_rfl) (by kernel_rfl) (by kernel_rfl) (fun _ _=>rfl) (fun v eb ec=>c2b hn hP hm hk hm1) (fun _ _=>by kernel_rfl) (fun _ _=>a8N (T:=(c0I K L M P g)) (T':=(c0y K L M P g)) (m:=5) [0,1,2,3,4,8] [(.ptr 3 0)] [(b6W K L M P g),(A4 K L M P g)] rfl (by kernel_rfl) rfl rfl (by decide) (by kernel_rfl) (by kernel_rfl) ⟨V0 rfl,trivial⟩ ⟨⟨by show 3<6;decide,X6 (Z3 (T9 rfl) (Y0))⟩,⟨by show 5<6;decide,V2 (Y4 (Z2 _))⟩,trivial⟩ ⟨(by show 3≠5;decide),(by show 8≠5;decide),trivial⟩ (Nat.zero_le _) (fun b h=>absurd h (Nat.not_lt_zero b)) (fun hs=>Hd.en_bn (c8n hn hP hm hk hm1)))
theorem c5E(hn:1≤L.length∧L.length≤8)(hP:P.length=L.length)(hm:M.length=L.length)(hk:K.length=L.length)(hm1:∀ b,b<L.length → -1000≤Z9 (cI M) (b*1) - Z9 (cI K) (b*1)∧Z9 (cI M) (b*1) - Z9 (cI K) (b*1)≤1000):Y7 zP0q 35 W2 ((a8E E K L M P g q0 q1 y yl yr z zk)) (BaseW.H (bw v 0 eb ec) hs) (Hd.AfterB zP0q 35 0 b4z (bw v 0 eb ec) (T4 zP0q Try.f90 35 ((.slu 0 0 L.length 0)) [(A4 K L M P g)] (bw v 0 eb ec))):=by
 exact c4Q hn hP hm hk hm1
theorem c6f(hn:1≤L.length∧L.length≤8)(hP:P.length=L.length)(hm:M.length=L.length)(hk:K.length=L.length)(hm1:∀ b,b<L.length → -1000≤Z9 (cI M) (b*1) - Z9 (cI K) (b*1)∧Z9 (cI M) (b*1) - Z9 (cI K) (b*1)≤1000):Y7 zP0q 35 b8L ((a8E E K L M P g q0 q1 y yl yr z zk)) (BaseW.H (bw v 0 eb ec) hs) (Hd.AfterN zP0q 35 b4z (bw v 0 eb ec) (T4 zP0q Try.f90 35 ((.slu 0 0 L.length 0)) [(A4 K L M P g)] (bw v 0 eb ec))):=by
 exact Hd.goes_blkA (id:=0) (by kernel_rfl) (by kernel_rfl) (c5E hn hP hm hk hm1)
theorem c5x(hn:1≤L.length∧L.length≤8)(hP:P.length=L.length)(hm:M.length=L.length)(hk:K.length=L.length)(hm1:∀ b,b<L.length → -1000≤Z9 (cI M) (b*1) - Z9 (cI K) (b*1)∧Z9 (cI M) (b*1) - Z9 (cI K) (b*1)≤1000):Y7 zP0q 35 b8L ((a8E E K L M P g q0 q1 y yl yr z zk)) (BaseW.H (bw v 0 eb ec) hs) (Hd.AfterN zP0q 35 b4z (bw v 0 eb ec) (T4 zP0q Try.f90 35 ((.slu 0 0 L.length 0)) [(A4 K L M P g)] (bw v 0 eb ec))):=by
 exact c6f hn hP hm hk hm1
theorem c6M(hn:1≤L.length∧L.length≤8)(hP:P.length=L.length)(hm:M.length=L.length)(hk:K.length=L.length)(hm1:∀ b,b<L.length → -1000≤Z9 (cI M) (b*1) - Z9 (cI K) (b*1)∧Z9 (cI M) (b*1) - Z9 (cI K) (b*1)≤1000):Y7 zP0q 35 c0w ((b6l E K L M P g q0 q1 y yl yr z zk)) (BaseW.H (bw v 0 eb ec) hs) (Hd.AfterN zP0q 35 b4z (bw v 0 eb ec) (T4 zP0q Try.f90 35 ((.slu 0 0 L.length 0)) [(A4 K L M P g)] (bw v 0 eb ec))):=by
 have hcl_L:=Z7 L
 have hcl_M:=Z4 M
 have hcl_K:=Z4 K
 have hcl_P:=Z7 P
 refine Hd.goes_seqA (by kernel_rfl) ?_
 exact Z8 W4 (Z6 zC0q (Z0) 200 (T':=(a8E E K L M P g q0 q1 y yl yr z zk)) (e:=.normal) (ps:=[]) (gH 5 []) (by kernel_rfl) (by kernel_rfl) trivial rfl) (Hd.en_n (c5x hn hP hm hk hm1))
theorem c8X(hn:1≤L.length∧L.length≤8)(hP:P.length=L.length)(hm:M.length=L.length)(hk:K.length=L.length)(hm1:∀ b,b<L.length → -1000≤Z9 (cI M) (b*1) - Z9 (cI K) (b*1)∧Z9 (cI M) (b*1) - Z9 (cI K) (b*1)≤1000):Y7 zP0q 35 c3i ((b6l E K L M P g q0 q1 y yl yr z zk)) (BaseW.H (bw v 0 eb ec) hs) (T4 zP0q Try.f90 35 ((.slu 0 0 L.length 0)) [(A4 K L M P g)] (bw v 0 eb ec)):=by
 exact Hd.goes_seqA (by kernel_rfl) (c6M hn hP hm hk hm1)
theorem c8L(hn:1≤L.length∧L.length≤8)(hP:P.length=L.length)(hm:M.length=L.length)(hk:K.length=L.length)(hm1:∀ b,b<L.length → -1000≤Z9 (cI M) (b*1) - Z9 (cI K) (b*1)∧Z9 (cI M) (b*1) - Z9 (cI K) (b*1)≤1000):Y7 zP0q 35 c7S ((c02 E K L M P g q0 q1 y yl yr z zk)) (BaseW.H (bw v 0 eb ec) hs) (T4 zP0q Try.f90 35 ((.slu 0 0 L.length 0)) [(A4 K L M P g)] (bw v 0 eb ec)):=by
 have hcl_L:=Z7 L
 have hcl_M:=Z4 M
 have hcl_K:=Z4 K
 have hcl_P:=Z7 P
 refine Hd.goes_seqA (by kernel_rfl) ?_
 exact Z8 W4 (Z6 zC0q (Z0) 200 (T':=(b6l E K L M P g q0 q1 y yl yr z zk)) (e:=.normal) (ps:=[]) [.go] (by kernel_rfl) (by kernel_rfl) trivial rfl) (Hd.en_n (c8X hn hP hm hk hm1))
end
theorem c9C(y:Value)(E:List (Value×List (Int×Int)))(yl:Value)(L:List (Int×Int))(q0 z:Value)(M:List Int)(q1 zk:Value)(K:List Int)(yr:Value)(P:List (Int×Int))(g:Bool)(hn:1≤L.length∧L.length≤8)(hP:P.length=L.length)(hm:M.length=L.length)(hk:K.length=L.length)(hm1:∀ b,b<L.length → -1000≤Z9 (cI M) (b*1) - Z9 (cI K) (b*1)∧Z9 (cI M) (b*1) - Z9 (cI K) (b*1)≤1000)(v:BaseW)(eb:Nat→Option Nat)(ec:Nat→Nat)(hs:List Nat):Y7 zP0q 35 c7J (⟨[(0,(c0m E K L M q0 q1 y yl z zk)),(1,(.xl yr P.length 2 (cR P))),(2,(.v (.bool g)))],[],0,[]⟩) (BaseW.H (bw v 0 eb ec) hs) (T4 zP0q Try.f90 35 ((.slu 0 0 L.length 0)) [(A4 K L M P g)] (bw v 0 eb ec)):=by
 have hcl_L:=Z7 L
 have hcl_M:=Z4 M
 have hcl_K:=Z4 K
 have hcl_P:=Z7 P
 refine Hd.goes_seqA (by kernel_rfl) ?_
 exact Z8 W4 (Z6 zC0q (Z0) 200 (T':=(c02 E K L M P g q0 q1 y yl yr z zk)) (e:=.normal) (ps:=[]) (gH 4 []) (by kernel_rfl) (by kernel_rfl) trivial rfl) (Hd.en_n (c8L hn hP hm hk hm1))
theorem c8T(y:Value)(E:List (Value×List (Int×Int)))(yl:Value)(L:List (Int×Int))(q0 z:Value)(M:List Int)(q1 zk:Value)(K:List Int)(yr:Value)(P:List (Int×Int))(g:Bool)(hn:1≤L.length∧L.length≤8)(hP:P.length=L.length)(hm:M.length=L.length)(hk:K.length=L.length)(hm1:∀ b,b<L.length → -1000≤Z9 (cI M) (b*1) - Z9 (cI K) (b*1)∧Z9 (cI M) (b*1) - Z9 (cI K) (b*1)≤1000):A3 zP0q 90 [(c0m E K L M q0 q1 y yl z zk),(.xl yr P.length 2 (cR P)),(.v (.bool g))] [] ((.slu 0 0 L.length 0)) [(A4 K L M P g)] :=
 L1 35 (by kernel_rfl) Try.func90 (by kernel_rfl) (by kernel_rfl) (by kernel_rfl) (fun v eb ec=>V6 (by kernel_rfl) (by kernel_rfl) (by kernel_rfl) (by kernel_rfl) (c9C y E yl L q0 z M q1 zk K yr P g hn hP hm hk hm1 v eb ec []))
end
end Go.Proofs.Ytegmogadbnfbgaa
