/- Texts of this proof, put together. -/
import Derived.Test.YtegmogadbnfbgaaP4
import Derived.Test.YtegmogadbnfbgaaP2
import Derived.Test.YtegmogadbnfbgaaP3
set_option linter.all false
set_option maxHeartbeats 4000000
namespace Go.Proofs.Ytegmogadbnfbgaa
open Go Ev
noncomputable section
section
variable (E : List (Value × List (Int × Int))) (L : List (Int × Int)) (y yl : Value)
@[reducible] def a4h:Nat×Ev.AB:=(0,(.cells [(.xl (y) (E.length) 1 (Y5 E)),(.xl (yl) (L.length) 2 (cR L))] 25))
@[reducible] def b2S:Ev.Lit:=⟨[(1,(.ptr 0 0)),(3,(nI0 (.ofNat 0)))],[],1,[(a4h E L y yl)]⟩
@[reducible] def a7d:Ev.Lit:=⟨[(1,(.ptr 0 0))],[],1,[(a4h E L y yl)]⟩
end
def gwP(c:List AV)(m n:Nat):Prop:=12<n∨6<m∨∃ i,i<m∧12<T5 c (i*1)
open Classical in
def B0(c:List AV)(m n:Nat):Bool:=decide (gwP c m n)
theorem gwB_true{c:List AV}{m n:Nat}:B0 c m n=true↔gwP c m n:=@decide_eq_true_iff _ (Classical.propDecidable _)
theorem gwB_false{c:List AV}{m n:Nat}:B0 c m n=false↔¬ gwP c m n:=@decide_eq_false_iff_not _ (Classical.propDecidable _)
theorem a61{c:List AV}{m n:Nat}(h:12<n∨6<m):B0 c m n=true:=gwB_true.2 (h.elim .inl (fun h=>.inr (.inl h)))
theorem b9h{c:List AV}{m n i:Nat}(hi:i<m)(h:12<T5 c (i*1)):B0 c m n=true:=gwB_true.2 (.inr (.inr ⟨i,hi,h⟩))
theorem c2m{c:List AV}{m n:Nat}(h:¬ (12<n∨6<m))(h2:∀ i,i<m→¬ 12<T5 c (i*1)):B0 c m n=false:=gwB_false.2 (fun k=>by
 rcases k with k|k|⟨i,k1,k2⟩
 ·exact h (.inl k)
 ·exact h (.inr k)
 ·exact h2 i k1 k2)
theorem c01{c:List AV}{m n:Nat}(h:¬ B0 c m n=true):m≤6:=by
 rcases Nat.lt_or_ge 6 m with k|k
 ·exact absurd (a61 (.inr k)) h
 ·exact k
noncomputable def c0T:Code:=O4 Try.f13
noncomputable def c03:Code:=M5 c0T
noncomputable def b8G:Code:=M5 c03
noncomputable def b1c:Code:=M5 b8G
noncomputable def b6p:Code:=(f9 b8G)
noncomputable def b2l:Code:=M5 b6p
noncomputable def c26:Code:=H3 b2l
section
variable {E:List (Value×List (Int×Int))} {L:List (Int×Int)} {hs:List Nat} {i:Nat} {w:World} {y yl:Value}
theorem c2p(hqgwg7_1:(Y2 12 L.length)=false)(hqgwg7_2:(Y2 6 E.length)=false)(h0b:∀ j,j<(E.length)→¬ 12<T5 (Y5 E) (j*1))(hqgwg18_1:(Y2 E.length E.length)=false):Y7 zP0q 28 b1c (⟨[],[],1,[]⟩) (BaseW.H w hs) (V8 zP0q Try.f13 28 (.bool (B0 (Y5 E) E.length L.length)) w):=by
 have hcl_L:=Z7 L
 have ghqgwg7_1:=Z5 hqgwg7_1
 have ghqgwg7_2:=Z5 hqgwg7_2
 have ghqgwg18_1:=Z5 hqgwg18_1
 exact Z8 U9 (Z6 zC0q (Z0) 200 (T':=⟨[(2,(.v (.bool .false)))],[],1,[]⟩) (e:=.ret) (ps:=[]) [.go] (by kernel_rfl) (by kernel_rfl) trivial rfl) (Hd.en_eq (r:=(.bool .false)) (by rw [c2m (c:=(Y5 E)) (m:=E.length) (n:=L.length) (by omega) h0b]) (Hd.en_ret (v:=(.v (.bool .false))) (by kernel_rfl) rfl))
theorem c2J(hqgwg7_1:(Y2 12 L.length)=false)(hqgwg7_2:(Y2 6 E.length)=false)(hi1:i≤E.length)(hi2:∀ j,j<i→¬ 12<T5 (Y5 E) (j*1)):Y7 zP0q 28 c26 (⟨[(1,(.ptr 0 0)),(3,(nI0 i))],[],1,[(a4h E L y yl)]⟩) (BaseW.H w hs) (Hd.StepC zP0q 28 0 (fun i:{i:Nat // i≤E.length∧∀ j,j<i→¬ 12<T5 (Y5 E) (j*1)}=>⟨[(1,(.ptr 0 0)),(3,(nI0 i.1))],[],1,[(a4h E L y yl)]⟩) (fun i:{i:Nat // i≤E.length∧∀ j,j<i→¬ 12<T5 (Y5 E) (j*1)}=>E.length - i.1) b1c w (V8 zP0q Try.f13 28 (.bool (B0 (Y5 E) E.length L.length)) w) (⟨i,hi1,hi2⟩:{i:Nat // i≤E.length∧∀ j,j<i→¬ 12<T5 (Y5 E) (j*1)})):=by
 have hcl_L:=Z7 L
 have ghqgwg7_1:=Z5 hqgwg7_1
 have ghqgwg7_2:=Z5 hqgwg7_2
 rcases zB0q (Y2 i E.length) with hqgwg18_1|hqgwg18_1
 ·have ghqgwg18_1:=X5 hqgwg18_1
  rcases zB0q (Y2 12 ((T5 (Y5 E) (i*1):Nat):Int)) with hqgwg18_2|hqgwg18_2
  ·have ghqgwg18_2:=X5 hqgwg18_2
   exact Z8 U9 (Z6 zC0q (Z0) 200 (T':=⟨[(2,(.v (.bool .true)))],[],1,[]⟩) (e:=.ret) (ps:=[Y2 i E.length=true,i<E.length,W7 zP0q (Y5 E) (i*1) 23=some (AV.xl (xlY (Y5 E) (i*1)) (T5 (Y5 E) (i*1)) 2 (W9 (Y5 E) (i*1))),Y2 12 ((T5 (Y5 E) (i*1):Nat):Int)=true]) (gH 5 [.b true,.go,.go,.go,.sym,.sym,.go,.go,.b true,.go]) (by kernel_rfl) (by kernel_rfl) ⟨hqgwg18_1,(by omega),(by rw [Nat.mul_one];exact L0 (by omega) 23 (Try.underlying23) rfl),hqgwg18_2,trivial⟩ rfl) (Hd.en_so (by intro h;cases h) (by intro h;cases h) (Hd.en_eq (r:=(.bool .true)) (by rw [b9h (c:=(Y5 E)) (m:=E.length) (n:=L.length) (i:=i) (by omega) (by omega)]) (Hd.en_ret (v:=(.v (.bool .true))) (by kernel_rfl) rfl)))
  ·have ghqgwg18_2:=Z5 hqgwg18_2
   exact Z8 W4 (Z6 zC0q (Z0) 200 (T':=⟨[(1,(.ptr 0 0)),(3,(nI0 (((i+1):Nat):Int)))],[],1,[(a4h E L y yl)]⟩) (e:=.normal) (ps:=[Y2 i E.length=true,i<E.length,W7 zP0q (Y5 E) (i*1) 23=some (AV.xl (xlY (Y5 E) (i*1)) (T5 (Y5 E) (i*1)) 2 (W9 (Y5 E) (i*1))),Y2 12 ((T5 (Y5 E) (i*1):Nat):Int)=false,N3 IntKind.i64 (((i:Nat):Int)+1)]) (gH 5 [.b true,.go,.go,.go,.sym,.sym,.go,.go,.b false,.go,.go,.go]) (by kernel_rfl) (by kernel_rfl) ⟨hqgwg18_1,(by omega),(by rw [Nat.mul_one];exact L0 (by omega) 23 (Try.underlying23) rfl),hqgwg18_2,(by show -9223372036854775808≤_∧_≤9223372036854775807;constructor<;>omega),trivial⟩ rfl) (Hd.en_on (⟨i+1,by omega,(E6 (q:=fun j=>¬ 12<T5 (Y5 E) (j*1)) hi2 (by omega))⟩) (by show E.length - (i+1)<E.length - i;omega) rfl)
 ·have ghqgwg18_1:=Z5 hqgwg18_1
  obtain rfl:i=E.length:=by omega
  exact Z8 A8 (Z6 zC0q (Z0) 200 (T':=⟨[],[],1,[]⟩) (e:=.exit 0) (ps:=[Y2 E.length E.length=false]) (gH 5 [.b false]) (by kernel_rfl) (by kernel_rfl) ⟨hqgwg18_1,trivial⟩ rfl) (Hd.en_sx (c2p hqgwg7_1 hqgwg7_2 hi2 hqgwg18_1))
theorem c13(hqgwg7_1:(Y2 12 L.length)=false)(hqgwg7_2:(Y2 6 E.length)=false):Y7 zP0q 28 b2l ((b2S E L y yl)) (BaseW.H w hs) (Hd.AfterN zP0q 28 b1c w (V8 zP0q Try.f13 28 (.bool (B0 (Y5 E) E.length L.length)) w)):=by
 have hcl_L:=Z7 L
 have ghqgwg7_1:=Z5 hqgwg7_1
 have ghqgwg7_2:=Z5 hqgwg7_2
 exact Hd.goes_loopA (id:=0) (by kernel_rfl) (by kernel_rfl) (fun i:{i:Nat // i≤E.length∧∀ j,j<i→¬ 12<T5 (Y5 E) (j*1)}=>⟨[(1,(.ptr 0 0)),(3,(nI0 i.1))],[],1,[(a4h E L y yl)]⟩) (fun i:{i:Nat // i≤E.length∧∀ j,j<i→¬ 12<T5 (Y5 E) (j*1)}=>E.length - i.1) (fun ix_ hs=>c2J hqgwg7_1 hqgwg7_2 ix_.2.1 ix_.2.2) ⟨0,Nat.zero_le _,(fun j hj=>by omega)⟩ hs
theorem c3A(hqgwg7_1:(Y2 12 L.length)=false)(hqgwg7_2:(Y2 6 E.length)=false):Y7 zP0q 28 b2l ((b2S E L y yl)) (BaseW.H w hs) (Hd.AfterN zP0q 28 b1c w (V8 zP0q Try.f13 28 (.bool (B0 (Y5 E) E.length L.length)) w)):=by
 exact c13 hqgwg7_1 hqgwg7_2
theorem c1y(hqgwg7_1:(Y2 12 L.length)=false)(hqgwg7_2:(Y2 6 E.length)=false):Y7 zP0q 28 b6p ((a7d E L y yl)) (BaseW.H w hs) (Hd.AfterN zP0q 28 b1c w (V8 zP0q Try.f13 28 (.bool (B0 (Y5 E) E.length L.length)) w)):=by
 have hcl_L:=Z7 L
 have ghqgwg7_1:=Z5 hqgwg7_1
 have ghqgwg7_2:=Z5 hqgwg7_2
 refine Hd.goes_seqA (by kernel_rfl) ?_
 exact Z8 W4 (Z6 zC0q (Z0) 200 (T':=(b2S E L y yl)) (e:=.normal) (ps:=[]) [.go] (by kernel_rfl) (by kernel_rfl) trivial rfl) (Hd.en_n (c3A hqgwg7_1 hqgwg7_2))
theorem c53(hqgwg7_1:(Y2 12 L.length)=false)(hqgwg7_2:(Y2 6 E.length)=false):Y7 zP0q 28 b8G ((a7d E L y yl)) (BaseW.H w hs) (V8 zP0q Try.f13 28 (.bool (B0 (Y5 E) E.length L.length)) w):=by
 exact Hd.goes_seqA (by kernel_rfl) (c1y hqgwg7_1 hqgwg7_2)
theorem c7g:Y7 zP0q 28 c03 ((a7d E L y yl)) (BaseW.H w hs) (V8 zP0q Try.f13 28 (.bool (B0 (Y5 E) E.length L.length)) w):=by
 have hcl_L:=Z7 L
 refine Hd.goes_seqA (by kernel_rfl) ?_
 rcases zB0q (Y2 12 L.length) with hqgwg7_1|hqgwg7_1
 ·have ghqgwg7_1:=X5 hqgwg7_1
  exact Z8 U9 (Z6 zC0q (Z0) 200 (T':=⟨[(2,(.v (.bool .true)))],[],1,[]⟩) (e:=.ret) (ps:=[Y2 12 L.length=true,true=true,true=true,true=true,true=true]) (gH 5 [.b true,.b true,.b true,.b true,.go,.b true,.go]) (by kernel_rfl) (by kernel_rfl) ⟨hqgwg7_1,rfl,rfl,rfl,rfl,trivial⟩ rfl) (Hd.en_o (by intro h;cases h) (Hd.en_eq (r:=(.bool .true)) (by rw [a61 (c:=(Y5 E)) (m:=E.length) (n:=L.length) (by omega)]) (Hd.en_ret (v:=(.v (.bool .true))) (by kernel_rfl) rfl)))
 ·have ghqgwg7_1:=Z5 hqgwg7_1
  rcases zB0q (Y2 6 E.length) with hqgwg7_2|hqgwg7_2
  ·have ghqgwg7_2:=X5 hqgwg7_2
   exact Z8 U9 (Z6 zC0q (Z0) 200 (T':=⟨[(2,(.v (.bool .true)))],[],1,[]⟩) (e:=.ret) (ps:=[Y2 12 L.length=false,false=false,false=false,false=false,Y2 6 E.length=true]) (gH 5 [.b false,.go,.b false,.go,.b false,.go,.b false,.go,.go,.b true,.go]) (by kernel_rfl) (by kernel_rfl) ⟨hqgwg7_1,rfl,rfl,rfl,hqgwg7_2,trivial⟩ rfl) (Hd.en_o (by intro h;cases h) (Hd.en_eq (r:=(.bool .true)) (by rw [a61 (c:=(Y5 E)) (m:=E.length) (n:=L.length) (by omega)]) (Hd.en_ret (v:=(.v (.bool .true))) (by kernel_rfl) rfl)))
  ·have ghqgwg7_2:=Z5 hqgwg7_2
   exact Z8 W4 (Z6 zC0q (Z0) 200 (T':=(a7d E L y yl)) (e:=.normal) (ps:=[Y2 12 L.length=false,false=false,false=false,false=false,Y2 6 E.length=false]) (gH 5 [.b false,.go,.b false,.go,.b false,.go,.b false,.go,.go,.b false]) (by kernel_rfl) (by kernel_rfl) ⟨hqgwg7_1,rfl,rfl,rfl,hqgwg7_2,trivial⟩ rfl) (Hd.en_n (c53 hqgwg7_1 hqgwg7_2))
end
theorem c6N(y:Value)(E:List (Value×List (Int×Int)))(yl:Value)(L:List (Int×Int))(w:World)(hs:List Nat):Y7 zP0q 28 c0T (⟨[(0,(.agg [.xl y E.length 1 (Y5 E),.xl yl L.length 2 (cR L)]))],[],0,[]⟩) (BaseW.H w hs) (V8 zP0q Try.f13 28 (.bool (B0 (Y5 E) E.length L.length)) w):=by
 have hcl_L:=Z7 L
 refine Hd.goes_seqA (by kernel_rfl) ?_
 exact Z8 W4 (Z6 zC0q (Z0) 200 (T':=(a7d E L y yl)) (e:=.normal) (ps:=[]) [.go,.go] (by kernel_rfl) (by kernel_rfl) trivial rfl) (Hd.en_n (c7g))
theorem c8k(y:Value)(E:List (Value×List (Int×Int)))(yl:Value)(L:List (Int×Int)):GivesA zP0q 13 [(.agg [.xl y E.length 1 (Y5 E),.xl yl L.length 2 (cR L)])] (.bool (B0 (Y5 E) E.length L.length)) :=
 U5 28 Try.func13 (by kernel_rfl) (by kernel_rfl) (by kernel_rfl) (fun w=>V6 (by kernel_rfl) (by kernel_rfl) (by kernel_rfl) (by kernel_rfl) (c6N y E yl L w []))
end
end Go.Proofs.Ytegmogadbnfbgaa
namespace Go.Proofs.Ytegmogadbnfbgaa
open Go Ev
noncomputable section
section
variable (K : List Int) (L : List (Int × Int)) (M : List Int) (P0 P1 P2 : List (Int × Int)) (v0 v1 v2 : Value)
@[reducible] def a8v:=(cI (tI (S6 (cR P0) (W5 (cI M) (cI K) L.length) false) L.length))
@[reducible] def a8C:=(cI (tI (S6 (cR P1) (W5 (cI M) (cI K) L.length) false) L.length))
@[reducible] def a8g:=(cI (tI (S6 (cR P2) (W5 (cI M) (cI K) L.length) false) L.length))
@[reducible] def a8z:=(cI (tI (S6 (cR L) (W5 (cI M) (cI K) L.length) false) L.length))
@[reducible] def a4v:=(cI (tI (S6 (cR P0) (W5 (cI M) (cI K) L.length) true) L.length))
@[reducible] def a4J:=(cI (tI (S6 (cR P1) (W5 (cI M) (cI K) L.length) true) L.length))
@[reducible] def a83:=(cI (tI (S6 (cR P2) (W5 (cI M) (cI K) L.length) true) L.length))
@[reducible] def a4s:=(cI (tI (S6 (cR L) (W5 (cI M) (cI K) L.length) true) L.length))
@[reducible] def b8b:Ev.AB:=(.row [(nI0 (V5 (K3 (List.take (L.length*(0+1)) (List.drop 0 (a8v K L M P0))) (List.take (L.length*(0+1)) (List.drop 0 (a8C K L M P1))) (List.take (L.length*(0+1)) (List.drop 0 (a8g K L M P2))) (List.take (L.length*(0+1)) (List.drop 0 (a8z K L M))) (W5 (cI M) (cI K) L.length) 0) L.length)),(nI0 (V5 (K3 (List.take (L.length*(0+1)) (List.drop 0 (a4v K L M P0))) (List.take (L.length*(0+1)) (List.drop 0 (a4J K L M P1))) (List.take (L.length*(0+1)) (List.drop 0 (a83 K L M P2))) (List.take (L.length*(0+1)) (List.drop 0 (a4s K L M))) (W5 (cI M) (cI K) L.length) 0) L.length)),(nI0 (V5 (K3 (List.take (L.length*(0+1)) (List.drop 0 (a8v K L M P0))) (List.take (L.length*(0+1)) (List.drop 0 (a8C K L M P1))) (List.take (L.length*(0+1)) (List.drop 0 (a8g K L M P2))) (List.take (L.length*(0+1)) (List.drop 0 (a8z K L M))) (W5 (cI M) (cI K) L.length) 1) L.length)),(nI0 (V5 (K3 (List.take (L.length*(0+1)) (List.drop 0 (a4v K L M P0))) (List.take (L.length*(0+1)) (List.drop 0 (a4J K L M P1))) (List.take (L.length*(0+1)) (List.drop 0 (a83 K L M P2))) (List.take (L.length*(0+1)) (List.drop 0 (a4s K L M))) (W5 (cI M) (cI K) L.length) 1) L.length)),(nI0 (V5 (K3 (List.take (L.length*(0+1)) (List.drop 0 (a8v K L M P0))) (List.take (L.length*(0+1)) (List.drop 0 (a8C K L M P1))) (List.take (L.length*(0+1)) (List.drop 0 (a8g K L M P2))) (List.take (L.length*(0+1)) (List.drop 0 (a8z K L M))) (W5 (cI M) (cI K) L.length) 2) L.length)),(nI0 (V5 (K3 (List.take (L.length*(0+1)) (List.drop 0 (a4v K L M P0))) (List.take (L.length*(0+1)) (List.drop 0 (a4J K L M P1))) (List.take (L.length*(0+1)) (List.drop 0 (a83 K L M P2))) (List.take (L.length*(0+1)) (List.drop 0 (a4s K L M))) (W5 (cI M) (cI K) L.length) 2) L.length))] 65 2)
@[reducible] def c0c:Ev.AB:=(.row [nI0 (spN (cR P0) (cR P1) (cR P2) (cR L) (W5 (cI M) (cI K) L.length) L.length false 0),nI0 (spN (cR P0) (cR P1) (cR P2) (cR L) (W5 (cI M) (cI K) L.length) L.length true 0),nI0 (spN (cR P0) (cR P1) (cR P2) (cR L) (W5 (cI M) (cI K) L.length) L.length false 1),nI0 (spN (cR P0) (cR P1) (cR P2) (cR L) (W5 (cI M) (cI K) L.length) L.length true 1),nI0 (spN (cR P0) (cR P1) (cR P2) (cR L) (W5 (cI M) (cI K) L.length) L.length false 2),nI0 (spN (cR P0) (cR P1) (cR P2) (cR L) (W5 (cI M) (cI K) L.length) L.length true 2)] 65 2)
@[reducible] def a00:List Ev.AV:=[AV.xl v0 P0.length 2 (cR P0),AV.xl v1 P1.length 2 (cR P1),AV.xl v2 P2.length 2 (cR P2)]
@[reducible] def b45:List Ev.AV:=[.xl v0 P0.length 2 (cR P0),.xl v1 P1.length 2 (cR P1),.xl v2 P2.length 2 (cR P2)]
end
def M8(c d:List AV)(n:Nat):Prop:=∀ b,b<n → -1000≤Z9 c (b*1) - Z9 d (b*1)∧Z9 c (b*1) - Z9 d (b*1)≤1000
def c8g:List Yw→Option (A0×List Prop):=fun vs =>
 match vs with
 |[.str [.ext a0,.ext a1,.fnc f0 cc],.one (.ext ar),.one (.ext ag)]=>match a0,a1,f0,cc with
  |.xl y m k1 cE,.xl yl n k2 cL,.func f,[.xl z r k5 cM,.xl zk s k6 cK]=>match ar,ag,Nat.beq f 82 with
   |.xl yr q kp cP,.v (.bool g),true=>some (.blk (fun i=>.slu i 0 n 0) (.row (cI (tI (S6 cP (W5 cM cK n) g) n)) 2 1),[U4 k1 cE m,Y3 k2 n cL,T7 k5 r cM,T7 k6 s cK,Y3 kp q cP,1≤n∧n≤8,q=n,r=n,s=n,M8 cM cK n])
   |_,_,_=>none
  |_,_,_,_=>none
 |_=>none
def c8I:O8:=e7 90 [.str [.ext,.ext,.fnc],.one .ext,.one .ext] c8g
theorem p9:Known zP0q (clsO c8I):=x6 (fun vs r ps h hp=>by
 unfold c8g at h
 split at h
 ·split at h
  ·split at h
   ·rename_i e1
    cases h
    obtain ⟨⟨rfl,E,rfl,rfl⟩,⟨rfl,L,rfl,rfl⟩,⟨rfl,M,rfl,rfl⟩,⟨rfl,K,rfl,rfl⟩,⟨rfl,P,rfl,rfl⟩,h1,h2,h3,h4,h5,-⟩:=hp
    rw [Nat.eq_of_beq_eq_true e1]
    refine ⟨⟨⟨S3 (L5 E),S3 (V3 (X4 L)),⟨S3 (V3 (Z2 M)),S3 (V3 (Z2 K)),trivial⟩,trivial⟩,S3 (V3 (X4 P)),a34 _,trivial⟩,⟨[[[],[],[undef,undef]],[[]],[[]]],⟨trivial,trivial,rfl,trivial⟩,trivial,trivial,trivial⟩,fun ys hy=>?_⟩
    match ys,hy with
    |[[x0,x1,[q0,q1]],zs1,zs2],_=>exact a7O (c8T _ E _ L q0 _ M q1 _ K _ P _ h1 h2 h3 h4 h5) (one_slu _ (Z2 _))
   ·cases h
  ·cases h
 ·cases h)
theorem c1k(y:Value)(E:List (Value×List (Int×Int)))(yl:Value)(L:List (Int×Int))(u v0:Value)(X0:List Int)(v1:Value)(X1:List Int)(v2:Value)(X2:List Int)(ul:Value)(Y:List Int)(q0 z:Value)(M:List Int)(q1 zk:Value)(K:List Int)(h8:L.length≤8)(h0:X0.length=L.length)(h1:X1.length=L.length)(h2:X2.length=L.length)(h3:Y.length=L.length)(h4:M.length=L.length)(h5:K.length=L.length)
  (m0:∀ b,b<L.length→0≤Z9 (cI X0) (b*1)∧Z9 (cI X0) (b*1)≤100) (m1:∀ b,b<L.length→0≤Z9 (cI X1) (b*1)∧Z9 (cI X1) (b*1)≤100) (m2:∀ b,b<L.length→0≤Z9 (cI X2) (b*1)∧Z9 (cI X2) (b*1)≤100) (m3:∀ b,b<L.length→0≤Z9 (cI Y) (b*1)∧Z9 (cI Y) (b*1)≤100) (m4:M8 (cI M) (cI K) L.length) :
  GivesA zP0q 54 [.agg [.xl y E.length 1 (Y5 E),.xl yl L.length 2 (cR L),.fn (.func 82) [] [.xp q0 1 1 [.xl z M.length 1 (cI M)] 0,.xp q1 1 1 [.xl zk K.length 1 (cI K)] 0]],.agg [.xl u 3 1 [.xl v0 X0.length 1 (cI X0),.xl v1 X1.length 1 (cI X1),.xl v2 X2.length 1 (cI X2)],.xl ul Y.length 1 (cI Y)]] (.agg #[.int .i64 (V5 (K3 (cI X0) (cI X1) (cI X2) (cI Y) (W5 (cI M) (cI K) L.length) 0) L.length),.int .i64 (V5 (K3 (cI X0) (cI X1) (cI X2) (cI Y) (W5 (cI M) (cI K) L.length) 1) L.length),.int .i64 (V5 (K3 (cI X0) (cI X1) (cI X2) (cI Y) (W5 (cI M) (cI K) L.length) 2) L.length)]):=by
 have hg:=d04 y E yl L u [(v0,X0),(v1,X1),(v2,X2)] ul Y q0 z M q1 zk K h8 rfl (fun i hi=>by match i,hi with|0,_=>exact h0|1,_=>exact h1|2,_=>exact h2) h3 h4 h5 (fun i hi b hb=>by match i,hi with|0,_=>exact m0 b hb|1,_=>exact m1 b hb|2,_=>exact m2 b hb) m3 m4
 rw [a7W (by decide),a7W (by decide),a7W (by decide)] at hg
 exact hg
def a3J(c0 c1 c2 cY:List AV)(n:Nat):Prop:=(∀ b,b<n→0≤Z9 c0 (b*1)∧Z9 c0 (b*1)≤100)∧(∀ b,b<n→0≤Z9 c1 (b*1)∧Z9 c1 (b*1)≤100)∧(∀ b,b<n→0≤Z9 c2 (b*1)∧Z9 c2 (b*1)≤100)∧(∀ b,b<n→0≤Z9 cY (b*1)∧Z9 cY (b*1)≤100)
def c6X:List Yw→Option (A0×List Prop):=fun vs =>
 match vs with
 |[.str [.ext a0,.ext a1,.fnc f0 cc],.str [.lls mx k3 rows,.lst nx k4 cY]]=>match a0,a1,f0,cc with
  |.xl y m k1 cE,.xl yl n k2 cL,.func f,[.xl z r k5 cM,.xl zk s k6 cK]=>match Nat.beq f 82,rows with
   |true,[(n0,c0),(n1,c1),(n2,c2)]=>some (.val (.agg [.v (.int .i64 (V5 (K3 c0 c1 c2 cY (W5 cM cK n) 0) n)),.v (.int .i64 (V5 (K3 c0 c1 c2 cY (W5 cM cK n) 1) n)),.v (.int .i64 (V5 (K3 c0 c1 c2 cY (W5 cM cK n) 2) n))]),[U4 k1 cE m,Y3 k2 n cL,T7 k5 r cM,T7 k6 s cK,n≤8,I9 k3 n0 c0,I9 k3 n1 c1,I9 k3 n2 c2,I9 k4 nx cY,n0=n,n1=n,n2=n,nx=n,r=n,s=n,w9 mx,a3J c0 c1 c2 cY n,M8 cM cK n])
   |_,_=>none
  |_,_,_,_=>none
 |_=>none
def c90:O8:=e7 54 [.str [.ext,.ext,.fnc],.str [.lls 0,.lst 0]] c6X
theorem q7:Known zP0q (clsO c90):=x6 (fun vs r ps h hp=>by
 unfold c6X at h
 split at h
 ·split at h
  ·split at h
   ·rename_i e1
    cases h
    obtain ⟨⟨rfl,E,rfl,rfl⟩,⟨rfl,L,rfl,rfl⟩,⟨rfl,M,rfl,rfl⟩,⟨rfl,K,rfl,rfl⟩,h8,⟨rfl,X0,rfl,rfl⟩,⟨-,X1,rfl,rfl⟩,⟨-,X2,rfl,rfl⟩,⟨rfl,Y,rfl,rfl⟩,h0,h1,h2,h3,h4,h5,rfl,⟨m0,m1,m2,m3⟩,m4,-⟩:=hp
    rw [Nat.eq_of_beq_eq_true e1]
    refine ⟨⟨⟨S3 (L5 E),S3 (V3 (X4 L)),⟨S3 (V3 (Z2 M)),S3 (V3 (Z2 K)),trivial⟩,trivial⟩,⟨⟨⟨_,Z2 X0⟩,⟨_,Z2 X1⟩,⟨_,Z2 X2⟩,trivial⟩,⟨_,Z2 Y⟩,trivial⟩,trivial⟩,⟨[[[],[],[undef,undef]],[[undef,undef,undef,undef],[undef]]],⟨trivial,trivial,rfl,trivial⟩,⟨rfl,trivial,trivial⟩,trivial⟩,fun ys hy=>?_⟩
    match ys,hy with
    |[[x0,x1,[q0,q1]],[[u,v0,v1,v2],us]],_ =>
     refine ⟨_,rfl,?_⟩
     exact c1k _ E _ L u v0 X0 v1 X1 v2 X2 _ Y q0 _ M q1 _ K h8 h0 h1 h2 h3 h4 h5 m0 m1 m2 m3 m4
   ·cases h
  ·cases h
 ·cases h)
def lbS:List AV→List AB→Option ((AV×List AB)×List Prop):=fun args xs =>
 match args,xs with
 |[.agg [.xl y m k1 cE,.xl yl n k2 cL],.xl z r k5 cM,.xl zk s k6 cK],[]=>some ((.agg [.xl y m k1 cE,.xl yl n k2 cL,.fn (.func 82) [] [.ptr 0 0,.ptr 1 0]],[.cells [.xl z r k5 cM] 114,.cells [.xl zk s k6 cK] 114]),[U4 k1 cE m,Y3 k2 n cL,T7 k5 r cM,T7 k6 s cK])
 |_,_=>none
def lbO:O8:=a3D 64 lbS
theorem e8:Known zP0q (clsO lbO):=u9 (fun args xs r ys ps h hp=>by
 unfold lbS at h
 split at h
 ·cases h
  obtain ⟨⟨rfl,E,rfl,rfl⟩,⟨rfl,L,rfl,rfl⟩,⟨rfl,M,rfl,rfl⟩,⟨rfl,K,rfl,rfl⟩,-⟩:=hp
  refine ⟨fun x hx=>absurd hx List.not_mem_nil,fun x hx=>?_,d08 _ E _ L _ M _ K⟩
  rcases List.mem_cons.1 hx with rfl|hx
  ·exact w6 (W8 (Y8 (Z2 M)))
  ·rw [List.mem_singleton.1 hx]
   exact w6 (W8 (Y8 (Z2 K)))
 ·cases h)
def M1(e1 e2 e3:Int):Int:=if e1=0 then (if e2=0 then e3 else e2) else e1
theorem c0D{e1 e2 e3:Int}(h:¬ e1=0):M1 e1 e2 e3=e1:=if_neg h
theorem b5O{e1 e2 e3:Int}(h:e1=0)(h2:¬ e2=0):M1 e1 e2 e3=e2:=by
 unfold M1;rw [if_pos h,if_neg h2]
theorem a19{e1 e2 e3:Int}(h:e1=0)(h2:e2=0):M1 e1 e2 e3=e3:=by
 unfold M1;rw [if_pos h,if_pos h2]
theorem a40{e1 e2 e3:Int}(h:M1 e1 e2 e3=0):e1=0∧e2=0∧e3=0:=by
 by_cases h1:e1=0
 ·by_cases h2:e2=0
  ·rw [a19 h1 h2] at h;exact ⟨h1,h2,h⟩
  ·rw [b5O h1 h2] at h;exact absurd h h2
 ·rw [c0D h1] at h;exact absurd h h1
theorem R0{M K:List Int}{n:Nat}(h1:U0 n (cI M) M.length=0)(h2:U0 n (cI K) K.length=0):M8 (cI M) (cI K) n:=fun b hb=>by
 have a1:=afB_true.1 (W6 h1).2 b (by have:=(W6 h1).1;omega)
 have a2:=afB_true.1 (W6 h2).2 b (by have:=(W6 h2).1;omega)
 omega
theorem j9{c0 c1 c2 cL d:List AV}{g:Bool}{n:Nat}(h0:∀ b,b<n→X7 100 c0 b)(h1:∀ b,b<n→X7 100 c1 b)(h2:∀ b,b<n→X7 100 c2 b)(h3:∀ b,b<n→X7 100 cL b):a3J (cI (tI (S6 c0 d g) n)) (cI (tI (S6 c1 d g) n)) (cI (tI (S6 c2 d g) n)) (cI (tI (S6 cL d g) n)) n:=by
 refine ⟨fun b hb=>?_,fun b hb=>?_,fun b hb=>?_,fun b hb=>?_⟩
 ·rw [Nat.mul_one,a0h hb];exact a9n (h0 b hb)
 ·rw [Nat.mul_one,a0h hb];exact a9n (h1 b hb)
 ·rw [Nat.mul_one,a0h hb];exact a9n (h2 b hb)
 ·rw [Nat.mul_one,a0h hb];exact a9n (h3 b hb)
noncomputable def c9b:Code:=O4 Try.f51
set_option maxHeartbeats 2000000 in
theorem c8B(y:Value)(E:List (Value×List (Int×Int)))(yl:Value)(L:List (Int×Int))(u z:Value)(M:List Int)(zk:Value)(K:List Int)(hE3:E.length≤1000)(hM3:M.length≤1000)(hK3:K.length≤1000)(w:World)(hs:List Nat):Y7 zP0q 29 c9b (⟨[(0,(.agg [.xl y E.length 1 (Y5 E),.xl yl L.length 2 (cR L)])),(1,(.xl u 2 1 [.xl z M.length 1 (cI M),.xl zk K.length 1 (cI K)]))],[],0,[]⟩) (BaseW.H w hs) (V8 zP0q Try.f51 29 (.int .i64 (M1 (T6 (Y5 E) E.length (cR L) L.length) (U0 L.length (cI M) M.length) (U0 L.length (cI K) K.length))) w):=by
 have hcl_L:=Z7 L
 have hcl_M:=Z4 M
 have hcl_K:=Z4 K
 rcases zB0q (R3 (T6 (Y5 E) E.length (cR L) L.length) 0) with hqcx3_1|hqcx3_1
 ·have ghqcx3_1:=X8 hqcx3_1
  rcases zB0q (R3 M.length L.length) with hqcx3_2|hqcx3_2
  ·have ghqcx3_2:=X8 hqcx3_2
   rcases zB0q (afB 0 1000 (cI M) M.length) with hqcx3_3|hqcx3_3
   ·rcases zB0q (R3 K.length L.length) with hqcx3_4|hqcx3_4
    ·have ghqcx3_4:=X8 hqcx3_4
     rcases zB0q (afB 0 1000 (cI K) K.length) with hqcx3_5|hqcx3_5
     ·exact Z8 U9 (Z6 zC0q (Y1 n6 m8) 200 (T':=⟨[(4,(nI0 (.ofNat 0)))],[],1,[]⟩) (e:=.ret) (ps:=[U4 1 (Y5 E) E.length,Y3 2 L.length (cR L),E.length≤1000,(!R3 (T6 (Y5 E) E.length (cR L) L.length) 0)=false,Y2 0 2=true,(!R3 M.length L.length)=false,T7 1 M.length (cI M),M.length≤1000,(!afB 0 1000 (cI M) M.length)=false,N3 IntKind.i64 (0+1),Y2 (0+1) 2=true,(!R3 K.length L.length)=false,T7 1 K.length (cI K),K.length≤1000,(!afB 0 1000 (cI K) K.length)=false,N3 IntKind.i64 (0+1+1),Y2 (0+1+1) 2=false]) (gH 6 ([.b false]++gH 4 ([.b true]++gH 9 ([.b false,.go,.go,.b false,.go,.go,.go,.b true]++gH 9 [.b false,.go,.go,.b false,.go,.go,.go,.b false,.go])))) (by kernel_rfl) (by kernel_rfl) ⟨⟨rfl,E,rfl,rfl⟩,⟨rfl,L,rfl,rfl⟩,hE3,(by rw [hqcx3_1];rfl),rfl,(by rw [hqcx3_2];rfl),⟨rfl,M,rfl,rfl⟩,(by omega),(by rw [hqcx3_3];rfl),(by show -9223372036854775808≤(_:Int)∧(_:Int)≤9223372036854775807;constructor<;>decide),rfl,(by rw [hqcx3_4];rfl),⟨rfl,K,rfl,rfl⟩,(by omega),(by rw [hqcx3_5];rfl),(by show -9223372036854775808≤(_:Int)∧(_:Int)≤9223372036854775807;constructor<;>decide),rfl,trivial⟩ rfl) (Hd.en_eq (r:=(.int .i64 0)) (by (rw [a19 (X8 hqcx3_1) (a5U (by have h9:=X8 hqcx3_2;omega) hqcx3_3),(a5U (by have h9:=X8 hqcx3_4;omega) hqcx3_5)])) (Hd.en_ret (v:=(nI0 (.ofNat 0))) (by kernel_rfl) rfl))
     ·exact Z8 U9 (Z6 zC0q (Y1 n6 m8) 200 (T':=⟨[(4,(nI0 (.ofNat 2)))],[],1,[]⟩) (e:=.ret) (ps:=[U4 1 (Y5 E) E.length,Y3 2 L.length (cR L),E.length≤1000,(!R3 (T6 (Y5 E) E.length (cR L) L.length) 0)=false,Y2 0 2=true,(!R3 M.length L.length)=false,T7 1 M.length (cI M),M.length≤1000,(!afB 0 1000 (cI M) M.length)=false,N3 IntKind.i64 (0+1),Y2 (0+1) 2=true,(!R3 K.length L.length)=false,T7 1 K.length (cI K),K.length≤1000,(!afB 0 1000 (cI K) K.length)=true]) (gH 6 ([.b false]++gH 4 ([.b true]++gH 9 ([.b false,.go,.go,.b false,.go,.go,.go,.b true]++gH 9 [.b false,.go,.go,.b true,.go])))) (by kernel_rfl) (by kernel_rfl) ⟨⟨rfl,E,rfl,rfl⟩,⟨rfl,L,rfl,rfl⟩,hE3,(by rw [hqcx3_1];rfl),rfl,(by rw [hqcx3_2];rfl),⟨rfl,M,rfl,rfl⟩,(by omega),(by rw [hqcx3_3];rfl),(by show -9223372036854775808≤(_:Int)∧(_:Int)≤9223372036854775807;constructor<;>decide),rfl,(by rw [hqcx3_4];rfl),⟨rfl,K,rfl,rfl⟩,(by omega),(by rw [hqcx3_5];rfl),trivial⟩ rfl) (Hd.en_eq (r:=(.int .i64 2)) (by (rw [a19 (X8 hqcx3_1) (a5U (by have h9:=X8 hqcx3_2;omega) hqcx3_3),a37 (n:=L.length) (d:=cI K) (k:=K.length) (by have h9:=X8 hqcx3_4;omega) (by rw [hqcx3_5];decide)])) (Hd.en_ret (v:=(nI0 (.ofNat 2))) (by kernel_rfl) rfl))
    ·have ghqcx3_4:=V7 hqcx3_4
     exact Z8 U9 (Z6 zC0q (Y1 n6 m8) 200 (T':=⟨[(4,(nI0 (.ofNat 15)))],[],1,[]⟩) (e:=.ret) (ps:=[U4 1 (Y5 E) E.length,Y3 2 L.length (cR L),E.length≤1000,(!R3 (T6 (Y5 E) E.length (cR L) L.length) 0)=false,Y2 0 2=true,(!R3 M.length L.length)=false,T7 1 M.length (cI M),M.length≤1000,(!afB 0 1000 (cI M) M.length)=false,N3 IntKind.i64 (0+1),Y2 (0+1) 2=true,(!R3 K.length L.length)=true]) (gH 6 ([.b false]++gH 4 ([.b true]++gH 9 ([.b false,.go,.go,.b false,.go,.go,.go,.b true]++gH 9 [.b true,.go])))) (by kernel_rfl) (by kernel_rfl) ⟨⟨rfl,E,rfl,rfl⟩,⟨rfl,L,rfl,rfl⟩,hE3,(by rw [hqcx3_1];rfl),rfl,(by rw [hqcx3_2];rfl),⟨rfl,M,rfl,rfl⟩,(by omega),(by rw [hqcx3_3];rfl),(by show -9223372036854775808≤(_:Int)∧(_:Int)≤9223372036854775807;constructor<;>decide),rfl,(by rw [hqcx3_4];rfl),trivial⟩ rfl) (Hd.en_eq (r:=(.int .i64 15)) (by (rw [a19 (X8 hqcx3_1) (a5U (by have h9:=X8 hqcx3_2;omega) hqcx3_3),a5C (n:=L.length) (d:=cI K) (k:=K.length) (by have h9:=V7 hqcx3_4;omega)])) (Hd.en_ret (v:=(nI0 (.ofNat 15))) (by kernel_rfl) rfl))
   ·exact Z8 U9 (Z6 zC0q (Y1 n6 m8) 200 (T':=⟨[(4,(nI0 (.ofNat 2)))],[],1,[]⟩) (e:=.ret) (ps:=[U4 1 (Y5 E) E.length,Y3 2 L.length (cR L),E.length≤1000,(!R3 (T6 (Y5 E) E.length (cR L) L.length) 0)=false,Y2 0 2=true,(!R3 M.length L.length)=false,T7 1 M.length (cI M),M.length≤1000,(!afB 0 1000 (cI M) M.length)=true]) (gH 6 ([.b false]++gH 4 ([.b true]++gH 9 [.b false,.go,.go,.b true,.go]))) (by kernel_rfl) (by kernel_rfl) ⟨⟨rfl,E,rfl,rfl⟩,⟨rfl,L,rfl,rfl⟩,hE3,(by rw [hqcx3_1];rfl),rfl,(by rw [hqcx3_2];rfl),⟨rfl,M,rfl,rfl⟩,(by omega),(by rw [hqcx3_3];rfl),trivial⟩ rfl) (Hd.en_eq (r:=(.int .i64 2)) (by (rw [b5O (X8 hqcx3_1) (by rw [a37 (n:=L.length) (d:=cI M) (k:=M.length) (by have h9:=X8 hqcx3_2;omega) (by rw [hqcx3_3];decide)];decide),a37 (n:=L.length) (d:=cI M) (k:=M.length) (by have h9:=X8 hqcx3_2;omega) (by rw [hqcx3_3];decide)])) (Hd.en_ret (v:=(nI0 (.ofNat 2))) (by kernel_rfl) rfl))
  ·have ghqcx3_2:=V7 hqcx3_2
   exact Z8 U9 (Z6 zC0q (Y1 n6 m8) 200 (T':=⟨[(4,(nI0 (.ofNat 15)))],[],1,[]⟩) (e:=.ret) (ps:=[U4 1 (Y5 E) E.length,Y3 2 L.length (cR L),E.length≤1000,(!R3 (T6 (Y5 E) E.length (cR L) L.length) 0)=false,Y2 0 2=true,(!R3 M.length L.length)=true]) (gH 6 ([.b false]++gH 4 ([.b true]++gH 9 [.b true,.go]))) (by kernel_rfl) (by kernel_rfl) ⟨⟨rfl,E,rfl,rfl⟩,⟨rfl,L,rfl,rfl⟩,hE3,(by rw [hqcx3_1];rfl),rfl,(by rw [hqcx3_2];rfl),trivial⟩ rfl) (Hd.en_eq (r:=(.int .i64 15)) (by (rw [b5O (X8 hqcx3_1) (by rw [a5C (n:=L.length) (d:=cI M) (k:=M.length) (by have h9:=V7 hqcx3_2;omega)];decide),a5C (n:=L.length) (d:=cI M) (k:=M.length) (by have h9:=V7 hqcx3_2;omega)])) (Hd.en_ret (v:=(nI0 (.ofNat 15))) (by kernel_rfl) rfl))
 ·have ghqcx3_1:=V7 hqcx3_1
  exact Z8 U9 (Z6 zC0q (Y1 n6 m8) 200 (T':=⟨[(4,(nI0 (T6 (Y5 E) E.length (cR L) L.length)))],[],1,[]⟩) (e:=.ret) (ps:=[U4 1 (Y5 E) E.length,Y3 2 L.length (cR L),E.length≤1000,(!R3 (T6 (Y5 E) E.length (cR L) L.length) 0)=true]) (gH 6 [.b true,.go,.go]) (by kernel_rfl) (by kernel_rfl) ⟨⟨rfl,E,rfl,rfl⟩,⟨rfl,L,rfl,rfl⟩,hE3,(by rw [hqcx3_1];rfl),trivial⟩ rfl) (Hd.en_eq (r:=(.int .i64 (T6 (Y5 E) E.length (cR L) L.length))) (by (rw [c0D (V7 hqcx3_1)])) (Hd.en_ret (v:=(nI0 (T6 (Y5 E) E.length (cR L) L.length))) (by kernel_rfl) rfl))
theorem c5Y(y:Value)(E:List (Value×List (Int×Int)))(yl:Value)(L:List (Int×Int))(u z:Value)(M:List Int)(zk:Value)(K:List Int)(hE3:E.length≤1000)(hM3:M.length≤1000)(hK3:K.length≤1000):GivesA zP0q 51 [(.agg [.xl y E.length 1 (Y5 E),.xl yl L.length 2 (cR L)]),(.xl u 2 1 [.xl z M.length 1 (cI M),.xl zk K.length 1 (cI K)])] (.int .i64 (M1 (T6 (Y5 E) E.length (cR L) L.length) (U0 L.length (cI M) M.length) (U0 L.length (cI K) K.length))) :=
 U5 29 Try.func51 (by kernel_rfl) (by kernel_rfl) (by kernel_rfl) (fun w=>V6 (by kernel_rfl) (by kernel_rfl) (by kernel_rfl) (by kernel_rfl) (c8B y E yl L u z M zk K hE3 hM3 hK3 w []))
def a97(q:Nat):Prop:=q=2
def c5G:List Yw→Option (A0×List Prop):=fun vs =>
 match vs with
 |[.one (.ext a),.one (.lls q k rows)]=>match a,rows with
  |.agg [.xl y m k1 cE,.xl yl n k2 cL],[(r,cM),(s,cK)]=>some (.val (.v (.int .i64 (M1 (T6 cE m cL n) (U0 n cM r) (U0 n cK s)))),[U4 k1 cE m,Y3 k2 n cL,T7 k r cM,T7 k s cK,a97 q,m≤1000,r≤1000,s≤1000,¬ M1 (T6 cE m cL n) (U0 n cM r) (U0 n cK s)=0])
  |_,_=>none
 |_=>none
def c9k:O8:=e7 51 [.one .ext,.one (.lls 0)] c5G
theorem c4k:Known zP0q (clsO c9k):=x6 (fun vs r ps h hp=>by
 unfold c5G at h
 split at h
 ·split at h
  ·cases h
   obtain ⟨⟨rfl,E,rfl,rfl⟩,⟨rfl,L,rfl,rfl⟩,⟨rfl,M,rfl,rfl⟩,⟨-,K,rfl,rfl⟩,rfl,h1,h2,h3,h4,-⟩:=hp
   rename_i y yl
   refine ⟨⟨(y9 (X3 (S3 (L5 E)) (X3 (S3 (V3 (X4 L))) R4))),⟨⟨_,Z2 M⟩,⟨_,Z2 K⟩,trivial⟩,trivial⟩,⟨[[[]],[[undef,undef,undef]]],⟨trivial,rfl,trivial⟩⟩,fun ys hy=>?_⟩
   match ys,hy with
   |[zs,[u,w0,w1]::us],_ =>
    refine ⟨_,rfl,?_⟩
    have hg:=c5Y y E yl L u w0 M w1 K h1 h2 h3
    exact hg
  ·cases h
 ·cases h)
def c5O:List Yw→Option (A0×List Prop):=fun vs =>
 match vs with
 |[.one (.ext a),.one (.lls q k rows)]=>match a,rows with
  |.agg [.xl y m k1 cE,.xl yl n k2 cL],[(r,cM),(s,cK)]=>some (.val (.v (.int .i64 (0))),[U4 k1 cE m,Y3 k2 n cL,T7 k r cM,T7 k s cK,a97 q,m≤1000,r≤1000,s≤1000,M1 (T6 cE m cL n) (U0 n cM r) (U0 n cK s)=0])
  |_,_=>none
 |_=>none
def c9J:O8:=e7 51 [.one .ext,.one (.lls 0)] c5O
theorem q6:Known zP0q (clsO c9J):=x6 (fun vs r ps h hp=>by
 unfold c5O at h
 split at h
 ·split at h
  ·cases h
   obtain ⟨⟨rfl,E,rfl,rfl⟩,⟨rfl,L,rfl,rfl⟩,⟨rfl,M,rfl,rfl⟩,⟨-,K,rfl,rfl⟩,rfl,h1,h2,h3,h4,-⟩:=hp
   rename_i y yl
   refine ⟨⟨(y9 (X3 (S3 (L5 E)) (X3 (S3 (V3 (X4 L))) R4))),⟨⟨_,Z2 M⟩,⟨_,Z2 K⟩,trivial⟩,trivial⟩,⟨[[[]],[[undef,undef,undef]]],⟨trivial,rfl,trivial⟩⟩,fun ys hy=>?_⟩
   match ys,hy with
   |[zs,[u,w0,w1]::us],_ =>
    refine ⟨_,rfl,?_⟩
    have hg:=c5Y y E yl L u w0 M w1 K h1 h2 h3
    rw [h4] at hg;exact hg
  ·cases h
 ·cases h)
theorem c2d{c0 c1 c2 cL d:List AV}{n:Nat}:[AV.v (.int .i64 (V5 (K3 (List.take (n*(0+1)) (List.drop 0 (cI (tI (S6 c0 d false) n)))) (List.take (n*(0+1)) (List.drop 0 (cI (tI (S6 c1 d false) n)))) (List.take (n*(0+1)) (List.drop 0 (cI (tI (S6 c2 d false) n)))) (List.take (n*(0+1)) (List.drop 0 (cI (tI (S6 cL d false) n)))) d 0) n)),AV.v (.int .i64 (V5 (K3 (List.take (n*(0+1)) (List.drop 0 (cI (tI (S6 c0 d true) n)))) (List.take (n*(0+1)) (List.drop 0 (cI (tI (S6 c1 d true) n)))) (List.take (n*(0+1)) (List.drop 0 (cI (tI (S6 c2 d true) n)))) (List.take (n*(0+1)) (List.drop 0 (cI (tI (S6 cL d true) n)))) d 0) n)),AV.v (.int .i64 (V5 (K3 (List.take (n*(0+1)) (List.drop 0 (cI (tI (S6 c0 d false) n)))) (List.take (n*(0+1)) (List.drop 0 (cI (tI (S6 c1 d false) n)))) (List.take (n*(0+1)) (List.drop 0 (cI (tI (S6 c2 d false) n)))) (List.take (n*(0+1)) (List.drop 0 (cI (tI (S6 cL d false) n)))) d 1) n)),AV.v (.int .i64 (V5 (K3 (List.take (n*(0+1)) (List.drop 0 (cI (tI (S6 c0 d true) n)))) (List.take (n*(0+1)) (List.drop 0 (cI (tI (S6 c1 d true) n)))) (List.take (n*(0+1)) (List.drop 0 (cI (tI (S6 c2 d true) n)))) (List.take (n*(0+1)) (List.drop 0 (cI (tI (S6 cL d true) n)))) d 1) n)),AV.v (.int .i64 (V5 (K3 (List.take (n*(0+1)) (List.drop 0 (cI (tI (S6 c0 d false) n)))) (List.take (n*(0+1)) (List.drop 0 (cI (tI (S6 c1 d false) n)))) (List.take (n*(0+1)) (List.drop 0 (cI (tI (S6 c2 d false) n)))) (List.take (n*(0+1)) (List.drop 0 (cI (tI (S6 cL d false) n)))) d 2) n)),AV.v (.int .i64 (V5 (K3 (List.take (n*(0+1)) (List.drop 0 (cI (tI (S6 c0 d true) n)))) (List.take (n*(0+1)) (List.drop 0 (cI (tI (S6 c1 d true) n)))) (List.take (n*(0+1)) (List.drop 0 (cI (tI (S6 c2 d true) n)))) (List.take (n*(0+1)) (List.drop 0 (cI (tI (S6 cL d true) n)))) d 2) n))]=[AV.v (.int .i64 (spN c0 c1 c2 cL d n false 0)),AV.v (.int .i64 (spN c0 c1 c2 cL d n true 0)),AV.v (.int .i64 (spN c0 c1 c2 cL d n false 1)),AV.v (.int .i64 (spN c0 c1 c2 cL d n true 1)),AV.v (.int .i64 (spN c0 c1 c2 cL d n false 2)),AV.v (.int .i64 (spN c0 c1 c2 cL d n true 2))]:=by
 unfold spN
 simp only [Z1]
noncomputable def c5i:Code:=O4 Try.f24
set_option maxHeartbeats 2000000 in
theorem c5m(y v0:Value)(P0:List (Int×Int))(v1:Value)(P1:List (Int×Int))(v2:Value)(P2:List (Int×Int))(yl:Value)(L:List (Int×Int))(z:Value)(M:List Int)(zk:Value)(K:List Int)(hC:T6 (b45 P0 P1 P2 v0 v1 v2) 3 (cR L) L.length=0)(hH1:U0 L.length (cI M) M.length=0)(hH2:U0 L.length (cI K) K.length=0)(v:BaseW)(eb:Nat→Option Nat)(ec:Nat→Nat)(hs:List Nat):Y7 zP0q 22 c5i (⟨[(0,(.agg [.xl y 3 1 (b45 P0 P1 P2 v0 v1 v2),.xl yl L.length 2 (cR L)])),(1,(.xl z M.length 1 (cI M))),(2,(.xl zk K.length 1 (cI K)))],[],0,[]⟩) (BaseW.H (bw v 0 eb ec) hs) (T4 zP0q Try.f24 22 ((.tup [.slu 0 0 3 0,nI0 0])) [(c0c K L M P0 P1 P2)] (bw v 0 eb ec)):=by
 have hcl_P0:=Z7 P0
 have hcl_P1:=Z7 P1
 have hcl_P2:=Z7 P2
 have hcl_L:=Z7 L
 have hcl_M:=Z4 M
 have hcl_K:=Z4 K
 obtain ⟨hn,-,hrow,hlam,hcur⟩:=W3 hC
 have hM:=(W6 hH1).1
 have hK:=(W6 hH2).1
 exact Z8 U9 (O5 zC0q (Y1 q6 (Y1 e8 (Y1 p9 q7))) 200 (T':=⟨[(6,(.slu 0 0 3 0)),(7,(nI0 (.ofNat 0)))],[],1,[(0,(b8b K L M P0 P1 P2))]⟩) (e:=.ret) (m:=39) (ps:=[0+2*(0+1)≤([(.xl (z) (M.length) 1 (cI M)),(.xl (zk) (K.length) 1 (cI K))]:List AV).length,((2:Nat)≤2),U4 1 (a00 P0 P1 P2 v0 v1 v2) 3,Y3 2 L.length (cR L),T7 (0+1) M.length (cI M),T7 (0+1) K.length (cI K),a97 2,((3:Nat)≤1000),M.length≤1000,K.length≤1000,M1 (T6 (a00 P0 P1 P2 v0 v1 v2) 3 (cR L) L.length) (U0 L.length (cI M) M.length) (U0 L.length (cI K) K.length)=0,(!R3 0 0)=false,V4 (a00 P0 P1 P2 v0 v1 v2),V4 (cR L),V4 (cI M),V4 (cI K),U4 1 (a00 P0 P1 P2 v0 v1 v2) 3,Y3 2 L.length (cR L),T7 1 M.length (cI M),T7 1 K.length (cI K),V4 (a00 P0 P1 P2 v0 v1 v2),V4 (cR L),U4 1 (a00 P0 P1 P2 v0 v1 v2) 3,Y3 2 L.length (cR L),T7 1 M.length (cI M),T7 1 K.length (cI K),Y3 2 L.length (cR L),1≤L.length∧L.length≤8,L.length=L.length,M.length=L.length,K.length=L.length,M8 (cI M) (cI K) L.length,Y2 0 3=true,U4 1 (a00 P0 P1 P2 v0 v1 v2) 3,Y3 2 L.length (cR L),T7 1 M.length (cI M),T7 1 K.length (cI K),Y3 2 P0.length (cR P0),1≤L.length∧L.length≤8,P0.length=L.length,M.length=L.length,K.length=L.length,M8 (cI M) (cI K) L.length,N3 IntKind.i64 (0+1),Y2 (0+1) 3=true,U4 1 (a00 P0 P1 P2 v0 v1 v2) 3,Y3 2 L.length (cR L),T7 1 M.length (cI M),T7 1 K.length (cI K),Y3 2 P1.length (cR P1),1≤L.length∧L.length≤8,P1.length=L.length,M.length=L.length,K.length=L.length,M8 (cI M) (cI K) L.length,N3 IntKind.i64 (0+1+1),Y2 (0+1+1) 3=true,U4 1 (a00 P0 P1 P2 v0 v1 v2) 3,Y3 2 L.length (cR L),T7 1 M.length (cI M),T7 1 K.length (cI K),Y3 2 P2.length (cR P2),1≤L.length∧L.length≤8,P2.length=L.length,M.length=L.length,K.length=L.length,M8 (cI M) (cI K) L.length,N3 IntKind.i64 (0+1+1+1),Y2 (0+1+1+1) 3=false,0+(0+1+1+1)*(0+1)≤([(.slu 9 0 (L.length) 0),(.slu 12 0 (L.length) 0),(.slu 15 0 (L.length) 0)]:List AV).length,0+L.length*(0+1)≤((a8v K L M P0):List AV).length,0+L.length*(0+1)≤((a8C K L M P1):List AV).length,0+L.length*(0+1)≤((a8g K L M P2):List AV).length,0+L.length*(0+1)≤((a8z K L M):List AV).length,U4 1 (a00 P0 P1 P2 v0 v1 v2) 3,Y3 2 L.length (cR L),T7 1 M.length (cI M),T7 1 K.length (cI K),L.length≤8,I9 (0+1) L.length (List.take (L.length*(0+1)) (List.drop 0 (a8v K L M P0))),I9 (0+1) L.length (List.take (L.length*(0+1)) (List.drop 0 (a8C K L M P1))),I9 (0+1) L.length (List.take (L.length*(0+1)) (List.drop 0 (a8g K L M P2))),I9 (0+1) L.length (List.take (L.length*(0+1)) (List.drop 0 (a8z K L M))),L.length=L.length,L.length=L.length,L.length=L.length,L.length=L.length,M.length=L.length,K.length=L.length,w9 (0+1+1+1),a3J (List.take (L.length*(0+1)) (List.drop 0 (a8v K L M P0))) (List.take (L.length*(0+1)) (List.drop 0 (a8C K L M P1))) (List.take (L.length*(0+1)) (List.drop 0 (a8g K L M P2))) (List.take (L.length*(0+1)) (List.drop 0 (a8z K L M))) L.length,M8 (cI M) (cI K) L.length,U4 1 (a00 P0 P1 P2 v0 v1 v2) 3,Y3 2 L.length (cR L),T7 1 M.length (cI M),T7 1 K.length (cI K),Y3 2 L.length (cR L),1≤L.length∧L.length≤8,L.length=L.length,M.length=L.length,K.length=L.length,M8 (cI M) (cI K) L.length,Y2 0 3=true,U4 1 (a00 P0 P1 P2 v0 v1 v2) 3,Y3 2 L.length (cR L),T7 1 M.length (cI M),T7 1 K.length (cI K),Y3 2 P0.length (cR P0),1≤L.length∧L.length≤8,P0.length=L.length,M.length=L.length,K.length=L.length,M8 (cI M) (cI K) L.length,N3 IntKind.i64 (0+1),Y2 (0+1) 3=true,U4 1 (a00 P0 P1 P2 v0 v1 v2) 3,Y3 2 L.length (cR L),T7 1 M.length (cI M),T7 1 K.length (cI K),Y3 2 P1.length (cR P1),1≤L.length∧L.length≤8,P1.length=L.length,M.length=L.length,K.length=L.length,M8 (cI M) (cI K) L.length,N3 IntKind.i64 (0+1+1),Y2 (0+1+1) 3=true,U4 1 (a00 P0 P1 P2 v0 v1 v2) 3,Y3 2 L.length (cR L),T7 1 M.length (cI M),T7 1 K.length (cI K),Y3 2 P2.length (cR P2),1≤L.length∧L.length≤8,P2.length=L.length,M.length=L.length,K.length=L.length,M8 (cI M) (cI K) L.length,N3 IntKind.i64 (0+1+1+1),Y2 (0+1+1+1) 3=false,0+(0+1+1+1)*(0+1)≤([(.slu 22 0 (L.length) 0),(.slu 25 0 (L.length) 0),(.slu 28 0 (L.length) 0)]:List AV).length,0+L.length*(0+1)≤((a4v K L M P0):List AV).length,0+L.length*(0+1)≤((a4J K L M P1):List AV).length,0+L.length*(0+1)≤((a83 K L M P2):List AV).length,0+L.length*(0+1)≤((a4s K L M):List AV).length,U4 1 (a00 P0 P1 P2 v0 v1 v2) 3,Y3 2 L.length (cR L),T7 1 M.length (cI M),T7 1 K.length (cI K),L.length≤8,I9 (0+1) L.length (List.take (L.length*(0+1)) (List.drop 0 (a4v K L M P0))),I9 (0+1) L.length (List.take (L.length*(0+1)) (List.drop 0 (a4J K L M P1))),I9 (0+1) L.length (List.take (L.length*(0+1)) (List.drop 0 (a83 K L M P2))),I9 (0+1) L.length (List.take (L.length*(0+1)) (List.drop 0 (a4s K L M))),L.length=L.length,L.length=L.length,L.length=L.length,L.length=L.length,M.length=L.length,K.length=L.length,w9 (0+1+1+1),a3J (List.take (L.length*(0+1)) (List.drop 0 (a4v K L M P0))) (List.take (L.length*(0+1)) (List.drop 0 (a4J K L M P1))) (List.take (L.length*(0+1)) (List.drop 0 (a83 K L M P2))) (List.take (L.length*(0+1)) (List.drop 0 (a4s K L M))) L.length,M8 (cI M) (cI K) L.length,Y2 0 3=true,N3 IntKind.i64 (0+1),Y2 (0+1) 3=true,N3 IntKind.i64 (0+1+1),Y2 (0+1+1) 3=true,N3 IntKind.i64 (0+1+1+1),Y2 (0+1+1+1) 3=false]) (gH 10 ([.b false]++gH 23 ([.b true]++gH 15 ([.b true]++gH 15 ([.b true]++gH 15 ([.b false]++gH 20 ([.b true]++gH 15 ([.b true]++gH 15 ([.b true]++gH 15 ([.b false]++gH 9 ([.b true]++gH 16 ([.b true]++gH 16 ([.b true]++gH 16 ([.b false]++gH 4 [])))))))))))))) [38] [(.slu 38 0 3 0),(nI0 (.ofNat 0))] [(b8b K L M P0 P1 P2)] (by kernel_rfl) (by kernel_rfl) ⟨(by show 0+2*(0+1)≤2;decide),(by decide),⟨rfl,[(v0,P0),(v1,P1),(v2,P2)],rfl,rfl⟩,⟨rfl,L,rfl,rfl⟩,⟨rfl,M,rfl,rfl⟩,⟨rfl,K,rfl,rfl⟩,rfl,(by decide),(by omega),(by omega),((a19 hC hH1).trans hH2),rfl,(X9 [(v0,P0),(v1,P1),(v2,P2)]),(Y8 (X4 _)),(Y8 (Z2 _)),(Y8 (Z2 _)),⟨rfl,[(v0,P0),(v1,P1),(v2,P2)],rfl,rfl⟩,⟨rfl,L,rfl,rfl⟩,⟨rfl,M,rfl,rfl⟩,⟨rfl,K,rfl,rfl⟩,(X9 [(v0,P0),(v1,P1),(v2,P2)]),(Y8 (X4 _)),⟨rfl,[(v0,P0),(v1,P1),(v2,P2)],rfl,rfl⟩,⟨rfl,L,rfl,rfl⟩,⟨rfl,M,rfl,rfl⟩,⟨rfl,K,rfl,rfl⟩,⟨rfl,L,rfl,rfl⟩,hn,rfl,hM,hK,(R0 hH1 hH2),rfl,⟨rfl,[(v0,P0),(v1,P1),(v2,P2)],rfl,rfl⟩,⟨rfl,L,rfl,rfl⟩,⟨rfl,M,rfl,rfl⟩,⟨rfl,K,rfl,rfl⟩,⟨rfl,P0,rfl,rfl⟩,hn,(hrow 0 (by decide)),hM,hK,(R0 hH1 hH2),(by show -9223372036854775808≤(_:Int)∧(_:Int)≤9223372036854775807;constructor<;>decide),rfl,⟨rfl,[(v0,P0),(v1,P1),(v2,P2)],rfl,rfl⟩,⟨rfl,L,rfl,rfl⟩,⟨rfl,M,rfl,rfl⟩,⟨rfl,K,rfl,rfl⟩,⟨rfl,P1,rfl,rfl⟩,hn,(hrow 1 (by decide)),hM,hK,(R0 hH1 hH2),(by show -9223372036854775808≤(_:Int)∧(_:Int)≤9223372036854775807;constructor<;>decide),rfl,⟨rfl,[(v0,P0),(v1,P1),(v2,P2)],rfl,rfl⟩,⟨rfl,L,rfl,rfl⟩,⟨rfl,M,rfl,rfl⟩,⟨rfl,K,rfl,rfl⟩,⟨rfl,P2,rfl,rfl⟩,hn,(hrow 2 (by decide)),hM,hK,(R0 hH1 hH2),(by show -9223372036854775808≤(_:Int)∧(_:Int)≤9223372036854775807;constructor<;>decide),rfl,(by show 0+3*(0+1)≤3;decide),(by rw [Z4,Y9];omega),(by rw [Z4,Y9];omega),(by rw [Z4,Y9];omega),(by rw [Z4,Y9];omega),⟨rfl,[(v0,P0),(v1,P1),(v2,P2)],rfl,rfl⟩,⟨rfl,L,rfl,rfl⟩,⟨rfl,M,rfl,rfl⟩,⟨rfl,K,rfl,rfl⟩,hn.2,⟨rfl,_,Z1,(Y9 _ _).symm⟩,⟨rfl,_,Z1,(Y9 _ _).symm⟩,⟨rfl,_,Z1,(Y9 _ _).symm⟩,⟨rfl,_,Z1,(Y9 _ _).symm⟩,rfl,rfl,rfl,rfl,hM,hK,rfl,(by rw [Z1,Z1,Z1,Z1];exact j9 (hcur 0 (by decide)) (hcur 1 (by decide)) (hcur 2 (by decide)) hlam),(R0 hH1 hH2),⟨rfl,[(v0,P0),(v1,P1),(v2,P2)],rfl,rfl⟩,⟨rfl,L,rfl,rfl⟩,⟨rfl,M,rfl,rfl⟩,⟨rfl,K,rfl,rfl⟩,⟨rfl,L,rfl,rfl⟩,hn,rfl,hM,hK,(R0 hH1 hH2),rfl,⟨rfl,[(v0,P0),(v1,P1),(v2,P2)],rfl,rfl⟩,⟨rfl,L,rfl,rfl⟩,⟨rfl,M,rfl,rfl⟩,⟨rfl,K,rfl,rfl⟩,⟨rfl,P0,rfl,rfl⟩,hn,(hrow 0 (by decide)),hM,hK,(R0 hH1 hH2),(by show -9223372036854775808≤(_:Int)∧(_:Int)≤9223372036854775807;constructor<;>decide),rfl,⟨rfl,[(v0,P0),(v1,P1),(v2,P2)],rfl,rfl⟩,⟨rfl,L,rfl,rfl⟩,⟨rfl,M,rfl,rfl⟩,⟨rfl,K,rfl,rfl⟩,⟨rfl,P1,rfl,rfl⟩,hn,(hrow 1 (by decide)),hM,hK,(R0 hH1 hH2),(by show -9223372036854775808≤(_:Int)∧(_:Int)≤9223372036854775807;constructor<;>decide),rfl,⟨rfl,[(v0,P0),(v1,P1),(v2,P2)],rfl,rfl⟩,⟨rfl,L,rfl,rfl⟩,⟨rfl,M,rfl,rfl⟩,⟨rfl,K,rfl,rfl⟩,⟨rfl,P2,rfl,rfl⟩,hn,(hrow 2 (by decide)),hM,hK,(R0 hH1 hH2),(by show -9223372036854775808≤(_:Int)∧(_:Int)≤9223372036854775807;constructor<;>decide),rfl,(by show 0+3*(0+1)≤3;decide),(by rw [Z4,Y9];omega),(by rw [Z4,Y9];omega),(by rw [Z4,Y9];omega),(by rw [Z4,Y9];omega),⟨rfl,[(v0,P0),(v1,P1),(v2,P2)],rfl,rfl⟩,⟨rfl,L,rfl,rfl⟩,⟨rfl,M,rfl,rfl⟩,⟨rfl,K,rfl,rfl⟩,hn.2,⟨rfl,_,Z1,(Y9 _ _).symm⟩,⟨rfl,_,Z1,(Y9 _ _).symm⟩,⟨rfl,_,Z1,(Y9 _ _).symm⟩,⟨rfl,_,Z1,(Y9 _ _).symm⟩,rfl,rfl,rfl,rfl,hM,hK,rfl,(by rw [Z1,Z1,Z1,Z1];exact j9 (hcur 0 (by decide)) (hcur 1 (by decide)) (hcur 2 (by decide)) hlam),(R0 hH1 hH2),rfl,(by show -9223372036854775808≤(_:Int)∧(_:Int)≤9223372036854775807;constructor<;>decide),rfl,(by show -9223372036854775808≤(_:Int)∧(_:Int)≤9223372036854775807;constructor<;>decide),rfl,(by show -9223372036854775808≤(_:Int)∧(_:Int)≤9223372036854775807;constructor<;>decide),rfl,trivial⟩ rfl rfl (by decide) rfl ⟨T9 rfl,N7 _,trivial⟩ ⟨⟨by show 0<1;decide,V2 (Z3 (N7 _) (Z3 (N7 _) (Z3 (N7 _) (Z3 (N7 _) (Z3 (N7 _) (Z3 (N7 _) (Y0)))))))⟩,trivial⟩) (k8 (r:=(.tup [(.slu 0 0 3 0),(nI0 (.ofNat 0))])) (ys:=[(b8b K L M P0 P1 P2)]) (by rfl) (by (exact congrArg (fun x=>[AB.row x 65 2]) c2d)) (z5 (by kernel_rfl) (by kernel_rfl) rfl (.inr rfl)))
theorem c7W(y v0:Value)(P0:List (Int×Int))(v1:Value)(P1:List (Int×Int))(v2:Value)(P2:List (Int×Int))(yl:Value)(L:List (Int×Int))(z:Value)(M:List Int)(zk:Value)(K:List Int)(hC:T6 (b45 P0 P1 P2 v0 v1 v2) 3 (cR L) L.length=0)(hH1:U0 L.length (cI M) M.length=0)(hH2:U0 L.length (cI K) K.length=0):A3 zP0q 24 [(.agg [.xl y 3 1 (b45 P0 P1 P2 v0 v1 v2),.xl yl L.length 2 (cR L)]),(.xl z M.length 1 (cI M)),(.xl zk K.length 1 (cI K))] [] ((.tup [.slu 0 0 3 0,nI0 0])) [(c0c K L M P0 P1 P2)] :=
 L1 22 (by kernel_rfl) Try.func24 (by kernel_rfl) (by kernel_rfl) (by kernel_rfl) (fun v eb ec=>V6 (by kernel_rfl) (by kernel_rfl) (by kernel_rfl) (by kernel_rfl) (c5m y v0 P0 v1 P1 v2 P2 yl L z M zk K hC hH1 hH2 v eb ec []))
end
end Go.Proofs.Ytegmogadbnfbgaa
namespace Go.Proofs.Ytegmogadbnfbgaa
open Go Ev
noncomputable section
section
variable (K : List Int) (L : List (Int × Int)) (M : List Int) (P0 P1 P2 : List (Int × Int)) (v0 v1 v2 : Value)
@[reducible] def a3u:=(cI (tI (S6 (cR P0) (W5 (cI M) (cI K) L.length) false) L.length))
@[reducible] def a3r:=(cI (tI (S6 (cR P1) (W5 (cI M) (cI K) L.length) false) L.length))
@[reducible] def a3l:=(cI (tI (S6 (cR P2) (W5 (cI M) (cI K) L.length) false) L.length))
@[reducible] def a0D:=(cI (tI (S6 (cR L) (W5 (cI M) (cI K) L.length) false) L.length))
@[reducible] def b7w:=(R3 (V5 (K3 (List.take (L.length*(0+1)) (List.drop 0 (a3u K L M P0))) (List.take (L.length*(0+1)) (List.drop 0 (a3r K L M P1))) (List.take (L.length*(0+1)) (List.drop 0 (a3l K L M P2))) (List.take (L.length*(0+1)) (List.drop 0 (a0D K L M))) (W5 (cI M) (cI K) L.length) 0) L.length) 0&&(R3 (V5 (K3 (List.take (L.length*(0+1)) (List.drop 0 (a3u K L M P0))) (List.take (L.length*(0+1)) (List.drop 0 (a3r K L M P1))) (List.take (L.length*(0+1)) (List.drop 0 (a3l K L M P2))) (List.take (L.length*(0+1)) (List.drop 0 (a0D K L M))) (W5 (cI M) (cI K) L.length) 1) L.length) 0&&(R3 (V5 (K3 (List.take (L.length*(0+1)) (List.drop 0 (a3u K L M P0))) (List.take (L.length*(0+1)) (List.drop 0 (a3r K L M P1))) (List.take (L.length*(0+1)) (List.drop 0 (a3l K L M P2))) (List.take (L.length*(0+1)) (List.drop 0 (a0D K L M))) (W5 (cI M) (cI K) L.length) 2) L.length) 0&&true)))
@[reducible] def m5:=(cI (tI (S6 (cR P0) (W5 (cI M) (cI K) L.length) true) L.length))
@[reducible] def a1b:=(cI (tI (S6 (cR P1) (W5 (cI M) (cI K) L.length) true) L.length))
@[reducible] def a18:=(cI (tI (S6 (cR P2) (W5 (cI M) (cI K) L.length) true) L.length))
@[reducible] def l7:=(cI (tI (S6 (cR L) (W5 (cI M) (cI K) L.length) true) L.length))
@[reducible] def b3Y:=(R3 (V5 (K3 (List.take (L.length*(0+1)) (List.drop 0 (m5 K L M P0))) (List.take (L.length*(0+1)) (List.drop 0 (a1b K L M P1))) (List.take (L.length*(0+1)) (List.drop 0 (a18 K L M P2))) (List.take (L.length*(0+1)) (List.drop 0 (l7 K L M))) (W5 (cI M) (cI K) L.length) 0) L.length) 0&&(R3 (V5 (K3 (List.take (L.length*(0+1)) (List.drop 0 (m5 K L M P0))) (List.take (L.length*(0+1)) (List.drop 0 (a1b K L M P1))) (List.take (L.length*(0+1)) (List.drop 0 (a18 K L M P2))) (List.take (L.length*(0+1)) (List.drop 0 (l7 K L M))) (W5 (cI M) (cI K) L.length) 1) L.length) 0&&(R3 (V5 (K3 (List.take (L.length*(0+1)) (List.drop 0 (m5 K L M P0))) (List.take (L.length*(0+1)) (List.drop 0 (a1b K L M P1))) (List.take (L.length*(0+1)) (List.drop 0 (a18 K L M P2))) (List.take (L.length*(0+1)) (List.drop 0 (l7 K L M))) (W5 (cI M) (cI K) L.length) 2) L.length) 0&&true)))
@[reducible] def M0:List Ev.AV:=[AV.xl v0 P0.length 2 (cR P0),AV.xl v1 P1.length 2 (cR P1),AV.xl v2 P2.length 2 (cR P2)]
@[reducible] def b3g:List Ev.AV:=[.xl v0 P0.length 2 (cR P0),.xl v1 P1.length 2 (cR P1),.xl v2 P2.length 2 (cR P2)]
end
def zrB(c0 c1 c2 cL d:List AV)(n:Nat)(g:Bool):Prop:=spN c0 c1 c2 cL d n g 0=0∧spN c0 c1 c2 cL d n g 1=0∧spN c0 c1 c2 cL d n g 2=0
instance (c0 c1 c2 cL d:List AV) (n:Nat) (g:Bool):Decidable (zrB c0 c1 c2 cL d n g):=by unfold zrB;infer_instance
def suN(c0 c1 c2 cL d:List AV)(n:Nat):Int:=if zrB c0 c1 c2 cL d n true∧zrB c0 c1 c2 cL d n false then 0 else 19
theorem a66{c0 c1 c2 cL d:List AV}{n:Nat}(h:zrB c0 c1 c2 cL d n true)(h2:zrB c0 c1 c2 cL d n false):suN c0 c1 c2 cL d n=0:=if_pos ⟨h,h2⟩
theorem c0p{c0 c1 c2 cL d:List AV}{n:Nat}(h:¬ zrB c0 c1 c2 cL d n true):suN c0 c1 c2 cL d n=19:=if_neg (fun k=>h k.1)
theorem c0r{c0 c1 c2 cL d:List AV}{n:Nat}(h:¬ zrB c0 c1 c2 cL d n false):suN c0 c1 c2 cL d n=19:=if_neg (fun k=>h k.2)
theorem zr_iff{c0 c1 c2 cL d:List AV}{n:Nat}{g:Bool}:(R3 (V5 (K3 (List.take (n*(0+1)) (List.drop 0 (cI (tI (S6 c0 d g) n)))) (List.take (n*(0+1)) (List.drop 0 (cI (tI (S6 c1 d g) n)))) (List.take (n*(0+1)) (List.drop 0 (cI (tI (S6 c2 d g) n)))) (List.take (n*(0+1)) (List.drop 0 (cI (tI (S6 cL d g) n)))) d 0) n) 0&&(R3 (V5 (K3 (List.take (n*(0+1)) (List.drop 0 (cI (tI (S6 c0 d g) n)))) (List.take (n*(0+1)) (List.drop 0 (cI (tI (S6 c1 d g) n)))) (List.take (n*(0+1)) (List.drop 0 (cI (tI (S6 c2 d g) n)))) (List.take (n*(0+1)) (List.drop 0 (cI (tI (S6 cL d g) n)))) d 1) n) 0&&(R3 (V5 (K3 (List.take (n*(0+1)) (List.drop 0 (cI (tI (S6 c0 d g) n)))) (List.take (n*(0+1)) (List.drop 0 (cI (tI (S6 c1 d g) n)))) (List.take (n*(0+1)) (List.drop 0 (cI (tI (S6 c2 d g) n)))) (List.take (n*(0+1)) (List.drop 0 (cI (tI (S6 cL d g) n)))) d 2) n) 0&&true)))=true↔zrB c0 c1 c2 cL d n g:=by
 rw [Z1,Z1,Z1,Z1]
 unfold zrB spN
 simp [v8]
theorem b02{c0 c1 c2 cL d:List AV}{n:Nat}{g:Bool}(h:(R3 (V5 (K3 (List.take (n*(0+1)) (List.drop 0 (cI (tI (S6 c0 d g) n)))) (List.take (n*(0+1)) (List.drop 0 (cI (tI (S6 c1 d g) n)))) (List.take (n*(0+1)) (List.drop 0 (cI (tI (S6 c2 d g) n)))) (List.take (n*(0+1)) (List.drop 0 (cI (tI (S6 cL d g) n)))) d 0) n) 0&&(R3 (V5 (K3 (List.take (n*(0+1)) (List.drop 0 (cI (tI (S6 c0 d g) n)))) (List.take (n*(0+1)) (List.drop 0 (cI (tI (S6 c1 d g) n)))) (List.take (n*(0+1)) (List.drop 0 (cI (tI (S6 c2 d g) n)))) (List.take (n*(0+1)) (List.drop 0 (cI (tI (S6 cL d g) n)))) d 1) n) 0&&(R3 (V5 (K3 (List.take (n*(0+1)) (List.drop 0 (cI (tI (S6 c0 d g) n)))) (List.take (n*(0+1)) (List.drop 0 (cI (tI (S6 c1 d g) n)))) (List.take (n*(0+1)) (List.drop 0 (cI (tI (S6 c2 d g) n)))) (List.take (n*(0+1)) (List.drop 0 (cI (tI (S6 cL d g) n)))) d 2) n) 0&&true)))=false):¬ zrB c0 c1 c2 cL d n g:=fun k=>by
 rw [zr_iff.2 k] at h
 cases h
noncomputable def c6Y:Code:=O4 Try.f27
set_option maxHeartbeats 2000000 in
theorem c6s(y v0:Value)(P0:List (Int×Int))(v1:Value)(P1:List (Int×Int))(v2:Value)(P2:List (Int×Int))(yl:Value)(L:List (Int×Int))(z:Value)(M:List Int)(zk:Value)(K:List Int)(hC:T6 (b3g P0 P1 P2 v0 v1 v2) 3 (cR L) L.length=0)(hH1:U0 L.length (cI M) M.length=0)(hH2:U0 L.length (cI K) K.length=0)(w:World)(hs:List Nat):Y7 zP0q 27 c6Y (⟨[(0,(.agg [.xl y 3 1 (b3g P0 P1 P2 v0 v1 v2),.xl yl L.length 2 (cR L)])),(1,(.xl z M.length 1 (cI M))),(2,(.xl zk K.length 1 (cI K)))],[],0,[]⟩) (BaseW.H w hs) (V8 zP0q Try.f27 27 (.int .i64 (suN (cR P0) (cR P1) (cR P2) (cR L) (W5 (cI M) (cI K) L.length) L.length)) w):=by
 have hcl_P0:=Z7 P0
 have hcl_P1:=Z7 P1
 have hcl_P2:=Z7 P2
 have hcl_L:=Z7 L
 have hcl_M:=Z4 M
 have hcl_K:=Z4 K
 obtain ⟨hn,-,hrow,hlam,hcur⟩:=W3 hC
 have hM:=(W6 hH1).1
 have hK:=(W6 hH2).1
 rcases zB0q (b3Y K L M P0 P1 P2) with hqsuo3_1|hqsuo3_1
 ·rcases zB0q (b7w K L M P0 P1 P2) with hqsuo3_2|hqsuo3_2
  ·exact Z8 U9 (Z6 zC0q (Y1 q6 (Y1 e8 (Y1 p9 q7))) 200 (T':=⟨[(6,(nI0 (.ofNat 0)))],[],35,[]⟩) (e:=.ret) (ps:=[0+2*(0+1)≤([(.xl (z) (M.length) 1 (cI M)),(.xl (zk) (K.length) 1 (cI K))]:List AV).length,((2:Nat)≤2),U4 1 (M0 P0 P1 P2 v0 v1 v2) 3,Y3 2 L.length (cR L),T7 (0+1) M.length (cI M),T7 (0+1) K.length (cI K),a97 2,((3:Nat)≤1000),M.length≤1000,K.length≤1000,M1 (T6 (M0 P0 P1 P2 v0 v1 v2) 3 (cR L) L.length) (U0 L.length (cI M) M.length) (U0 L.length (cI K) K.length)=0,(!R3 0 0)=false,V4 (M0 P0 P1 P2 v0 v1 v2),V4 (cR L),V4 (cI M),V4 (cI K),U4 1 (M0 P0 P1 P2 v0 v1 v2) 3,Y3 2 L.length (cR L),T7 1 M.length (cI M),T7 1 K.length (cI K),V4 (M0 P0 P1 P2 v0 v1 v2),V4 (cR L),Y2 0 2=true,U4 1 (M0 P0 P1 P2 v0 v1 v2) 3,Y3 2 L.length (cR L),T7 1 M.length (cI M),T7 1 K.length (cI K),Y3 2 L.length (cR L),1≤L.length∧L.length≤8,L.length=L.length,M.length=L.length,K.length=L.length,M8 (cI M) (cI K) L.length,Y2 0 3=true,U4 1 (M0 P0 P1 P2 v0 v1 v2) 3,Y3 2 L.length (cR L),T7 1 M.length (cI M),T7 1 K.length (cI K),Y3 2 P0.length (cR P0),1≤L.length∧L.length≤8,P0.length=L.length,M.length=L.length,K.length=L.length,M8 (cI M) (cI K) L.length,N3 IntKind.i64 (0+1),Y2 (0+1) 3=true,U4 1 (M0 P0 P1 P2 v0 v1 v2) 3,Y3 2 L.length (cR L),T7 1 M.length (cI M),T7 1 K.length (cI K),Y3 2 P1.length (cR P1),1≤L.length∧L.length≤8,P1.length=L.length,M.length=L.length,K.length=L.length,M8 (cI M) (cI K) L.length,N3 IntKind.i64 (0+1+1),Y2 (0+1+1) 3=true,U4 1 (M0 P0 P1 P2 v0 v1 v2) 3,Y3 2 L.length (cR L),T7 1 M.length (cI M),T7 1 K.length (cI K),Y3 2 P2.length (cR P2),1≤L.length∧L.length≤8,P2.length=L.length,M.length=L.length,K.length=L.length,M8 (cI M) (cI K) L.length,N3 IntKind.i64 (0+1+1+1),Y2 (0+1+1+1) 3=false,0+(0+1+1+1)*(0+1)≤([(.slu 10 0 (L.length) 0),(.slu 13 0 (L.length) 0),(.slu 16 0 (L.length) 0)]:List AV).length,0+L.length*(0+1)≤((m5 K L M P0):List AV).length,0+L.length*(0+1)≤((a1b K L M P1):List AV).length,0+L.length*(0+1)≤((a18 K L M P2):List AV).length,0+L.length*(0+1)≤((l7 K L M):List AV).length,U4 1 (M0 P0 P1 P2 v0 v1 v2) 3,Y3 2 L.length (cR L),T7 1 M.length (cI M),T7 1 K.length (cI K),L.length≤8,I9 (0+1) L.length (List.take (L.length*(0+1)) (List.drop 0 (m5 K L M P0))),I9 (0+1) L.length (List.take (L.length*(0+1)) (List.drop 0 (a1b K L M P1))),I9 (0+1) L.length (List.take (L.length*(0+1)) (List.drop 0 (a18 K L M P2))),I9 (0+1) L.length (List.take (L.length*(0+1)) (List.drop 0 (l7 K L M))),L.length=L.length,L.length=L.length,L.length=L.length,L.length=L.length,M.length=L.length,K.length=L.length,w9 (0+1+1+1),a3J (List.take (L.length*(0+1)) (List.drop 0 (m5 K L M P0))) (List.take (L.length*(0+1)) (List.drop 0 (a1b K L M P1))) (List.take (L.length*(0+1)) (List.drop 0 (a18 K L M P2))) (List.take (L.length*(0+1)) (List.drop 0 (l7 K L M))) L.length,M8 (cI M) (cI K) L.length,(!(b3Y K L M P0 P1 P2))=false,N3 IntKind.i64 (0+1),Y2 (0+1) 2=true,U4 1 (M0 P0 P1 P2 v0 v1 v2) 3,Y3 2 L.length (cR L),T7 1 M.length (cI M),T7 1 K.length (cI K),Y3 2 L.length (cR L),1≤L.length∧L.length≤8,L.length=L.length,M.length=L.length,K.length=L.length,M8 (cI M) (cI K) L.length,Y2 0 3=true,U4 1 (M0 P0 P1 P2 v0 v1 v2) 3,Y3 2 L.length (cR L),T7 1 M.length (cI M),T7 1 K.length (cI K),Y3 2 P0.length (cR P0),1≤L.length∧L.length≤8,P0.length=L.length,M.length=L.length,K.length=L.length,M8 (cI M) (cI K) L.length,N3 IntKind.i64 (0+1),Y2 (0+1) 3=true,U4 1 (M0 P0 P1 P2 v0 v1 v2) 3,Y3 2 L.length (cR L),T7 1 M.length (cI M),T7 1 K.length (cI K),Y3 2 P1.length (cR P1),1≤L.length∧L.length≤8,P1.length=L.length,M.length=L.length,K.length=L.length,M8 (cI M) (cI K) L.length,N3 IntKind.i64 (0+1+1),Y2 (0+1+1) 3=true,U4 1 (M0 P0 P1 P2 v0 v1 v2) 3,Y3 2 L.length (cR L),T7 1 M.length (cI M),T7 1 K.length (cI K),Y3 2 P2.length (cR P2),1≤L.length∧L.length≤8,P2.length=L.length,M.length=L.length,K.length=L.length,M8 (cI M) (cI K) L.length,N3 IntKind.i64 (0+1+1+1),Y2 (0+1+1+1) 3=false,0+(0+1+1+1)*(0+1)≤([(.slu 24 0 (L.length) 0),(.slu 27 0 (L.length) 0),(.slu 30 0 (L.length) 0)]:List AV).length,0+L.length*(0+1)≤((a3u K L M P0):List AV).length,0+L.length*(0+1)≤((a3r K L M P1):List AV).length,0+L.length*(0+1)≤((a3l K L M P2):List AV).length,0+L.length*(0+1)≤((a0D K L M):List AV).length,U4 1 (M0 P0 P1 P2 v0 v1 v2) 3,Y3 2 L.length (cR L),T7 1 M.length (cI M),T7 1 K.length (cI K),L.length≤8,I9 (0+1) L.length (List.take (L.length*(0+1)) (List.drop 0 (a3u K L M P0))),I9 (0+1) L.length (List.take (L.length*(0+1)) (List.drop 0 (a3r K L M P1))),I9 (0+1) L.length (List.take (L.length*(0+1)) (List.drop 0 (a3l K L M P2))),I9 (0+1) L.length (List.take (L.length*(0+1)) (List.drop 0 (a0D K L M))),L.length=L.length,L.length=L.length,L.length=L.length,L.length=L.length,M.length=L.length,K.length=L.length,w9 (0+1+1+1),a3J (List.take (L.length*(0+1)) (List.drop 0 (a3u K L M P0))) (List.take (L.length*(0+1)) (List.drop 0 (a3r K L M P1))) (List.take (L.length*(0+1)) (List.drop 0 (a3l K L M P2))) (List.take (L.length*(0+1)) (List.drop 0 (a0D K L M))) L.length,M8 (cI M) (cI K) L.length,(!(b7w K L M P0 P1 P2))=false,N3 IntKind.i64 (0+1+1),Y2 (0+1+1) 2=false,false=false]) (gH 9 ([.b false]++gH 9 ([.b true]++gH 20 ([.b true]++gH 15 ([.b true]++gH 15 ([.b true]++gH 15 ([.b false]++gH 8 ([.b false,.go,.go,.go,.b true]++gH 20 ([.b true]++gH 15 ([.b true]++gH 15 ([.b true]++gH 15 ([.b false]++gH 8 ([.b false,.go,.go,.go,.b false]++gH 10 [.b false,.go]))))))))))))) (by kernel_rfl) (by kernel_rfl) ⟨(by show 0+2*(0+1)≤2;decide),(by decide),⟨rfl,[(v0,P0),(v1,P1),(v2,P2)],rfl,rfl⟩,⟨rfl,L,rfl,rfl⟩,⟨rfl,M,rfl,rfl⟩,⟨rfl,K,rfl,rfl⟩,rfl,(by decide),(by omega),(by omega),((a19 hC hH1).trans hH2),rfl,(X9 [(v0,P0),(v1,P1),(v2,P2)]),(Y8 (X4 _)),(Y8 (Z2 _)),(Y8 (Z2 _)),⟨rfl,[(v0,P0),(v1,P1),(v2,P2)],rfl,rfl⟩,⟨rfl,L,rfl,rfl⟩,⟨rfl,M,rfl,rfl⟩,⟨rfl,K,rfl,rfl⟩,(X9 [(v0,P0),(v1,P1),(v2,P2)]),(Y8 (X4 _)),rfl,⟨rfl,[(v0,P0),(v1,P1),(v2,P2)],rfl,rfl⟩,⟨rfl,L,rfl,rfl⟩,⟨rfl,M,rfl,rfl⟩,⟨rfl,K,rfl,rfl⟩,⟨rfl,L,rfl,rfl⟩,hn,rfl,hM,hK,(R0 hH1 hH2),rfl,⟨rfl,[(v0,P0),(v1,P1),(v2,P2)],rfl,rfl⟩,⟨rfl,L,rfl,rfl⟩,⟨rfl,M,rfl,rfl⟩,⟨rfl,K,rfl,rfl⟩,⟨rfl,P0,rfl,rfl⟩,hn,(hrow 0 (by decide)),hM,hK,(R0 hH1 hH2),(by show -9223372036854775808≤(_:Int)∧(_:Int)≤9223372036854775807;constructor<;>decide),rfl,⟨rfl,[(v0,P0),(v1,P1),(v2,P2)],rfl,rfl⟩,⟨rfl,L,rfl,rfl⟩,⟨rfl,M,rfl,rfl⟩,⟨rfl,K,rfl,rfl⟩,⟨rfl,P1,rfl,rfl⟩,hn,(hrow 1 (by decide)),hM,hK,(R0 hH1 hH2),(by show -9223372036854775808≤(_:Int)∧(_:Int)≤9223372036854775807;constructor<;>decide),rfl,⟨rfl,[(v0,P0),(v1,P1),(v2,P2)],rfl,rfl⟩,⟨rfl,L,rfl,rfl⟩,⟨rfl,M,rfl,rfl⟩,⟨rfl,K,rfl,rfl⟩,⟨rfl,P2,rfl,rfl⟩,hn,(hrow 2 (by decide)),hM,hK,(R0 hH1 hH2),(by show -9223372036854775808≤(_:Int)∧(_:Int)≤9223372036854775807;constructor<;>decide),rfl,(by show 0+3*(0+1)≤3;decide),(by rw [Z4,Y9];omega),(by rw [Z4,Y9];omega),(by rw [Z4,Y9];omega),(by rw [Z4,Y9];omega),⟨rfl,[(v0,P0),(v1,P1),(v2,P2)],rfl,rfl⟩,⟨rfl,L,rfl,rfl⟩,⟨rfl,M,rfl,rfl⟩,⟨rfl,K,rfl,rfl⟩,hn.2,⟨rfl,_,Z1,(Y9 _ _).symm⟩,⟨rfl,_,Z1,(Y9 _ _).symm⟩,⟨rfl,_,Z1,(Y9 _ _).symm⟩,⟨rfl,_,Z1,(Y9 _ _).symm⟩,rfl,rfl,rfl,rfl,hM,hK,rfl,(by rw [Z1,Z1,Z1,Z1];exact j9 (hcur 0 (by decide)) (hcur 1 (by decide)) (hcur 2 (by decide)) hlam),(R0 hH1 hH2),(by rw [hqsuo3_1];rfl),(by show -9223372036854775808≤(_:Int)∧(_:Int)≤9223372036854775807;constructor<;>decide),rfl,⟨rfl,[(v0,P0),(v1,P1),(v2,P2)],rfl,rfl⟩,⟨rfl,L,rfl,rfl⟩,⟨rfl,M,rfl,rfl⟩,⟨rfl,K,rfl,rfl⟩,⟨rfl,L,rfl,rfl⟩,hn,rfl,hM,hK,(R0 hH1 hH2),rfl,⟨rfl,[(v0,P0),(v1,P1),(v2,P2)],rfl,rfl⟩,⟨rfl,L,rfl,rfl⟩,⟨rfl,M,rfl,rfl⟩,⟨rfl,K,rfl,rfl⟩,⟨rfl,P0,rfl,rfl⟩,hn,(hrow 0 (by decide)),hM,hK,(R0 hH1 hH2),(by show -9223372036854775808≤(_:Int)∧(_:Int)≤9223372036854775807;constructor<;>decide),rfl,⟨rfl,[(v0,P0),(v1,P1),(v2,P2)],rfl,rfl⟩,⟨rfl,L,rfl,rfl⟩,⟨rfl,M,rfl,rfl⟩,⟨rfl,K,rfl,rfl⟩,⟨rfl,P1,rfl,rfl⟩,hn,(hrow 1 (by decide)),hM,hK,(R0 hH1 hH2),(by show -9223372036854775808≤(_:Int)∧(_:Int)≤9223372036854775807;constructor<;>decide),rfl,⟨rfl,[(v0,P0),(v1,P1),(v2,P2)],rfl,rfl⟩,⟨rfl,L,rfl,rfl⟩,⟨rfl,M,rfl,rfl⟩,⟨rfl,K,rfl,rfl⟩,⟨rfl,P2,rfl,rfl⟩,hn,(hrow 2 (by decide)),hM,hK,(R0 hH1 hH2),(by show -9223372036854775808≤(_:Int)∧(_:Int)≤9223372036854775807;constructor<;>decide),rfl,(by show 0+3*(0+1)≤3;decide),(by rw [Z4,Y9];omega),(by rw [Z4,Y9];omega),(by rw [Z4,Y9];omega),(by rw [Z4,Y9];omega),⟨rfl,[(v0,P0),(v1,P1),(v2,P2)],rfl,rfl⟩,⟨rfl,L,rfl,rfl⟩,⟨rfl,M,rfl,rfl⟩,⟨rfl,K,rfl,rfl⟩,hn.2,⟨rfl,_,Z1,(Y9 _ _).symm⟩,⟨rfl,_,Z1,(Y9 _ _).symm⟩,⟨rfl,_,Z1,(Y9 _ _).symm⟩,⟨rfl,_,Z1,(Y9 _ _).symm⟩,rfl,rfl,rfl,rfl,hM,hK,rfl,(by rw [Z1,Z1,Z1,Z1];exact j9 (hcur 0 (by decide)) (hcur 1 (by decide)) (hcur 2 (by decide)) hlam),(R0 hH1 hH2),(by rw [hqsuo3_2];rfl),(by show -9223372036854775808≤(_:Int)∧(_:Int)≤9223372036854775807;constructor<;>decide),rfl,rfl,trivial⟩ rfl) (Hd.en_eq (r:=(.int .i64 0)) (by (rw [a66 (zr_iff.1 hqsuo3_1) (zr_iff.1 hqsuo3_2)])) (Hd.en_ret (v:=(nI0 (.ofNat 0))) (by kernel_rfl) rfl))
  ·exact Z8 U9 (Z6 zC0q (Y1 q6 (Y1 e8 (Y1 p9 q7))) 200 (T':=⟨[(6,(nI0 (.ofNat 19)))],[],35,[]⟩) (e:=.ret) (ps:=[0+2*(0+1)≤([(.xl (z) (M.length) 1 (cI M)),(.xl (zk) (K.length) 1 (cI K))]:List AV).length,((2:Nat)≤2),U4 1 (M0 P0 P1 P2 v0 v1 v2) 3,Y3 2 L.length (cR L),T7 (0+1) M.length (cI M),T7 (0+1) K.length (cI K),a97 2,((3:Nat)≤1000),M.length≤1000,K.length≤1000,M1 (T6 (M0 P0 P1 P2 v0 v1 v2) 3 (cR L) L.length) (U0 L.length (cI M) M.length) (U0 L.length (cI K) K.length)=0,(!R3 0 0)=false,V4 (M0 P0 P1 P2 v0 v1 v2),V4 (cR L),V4 (cI M),V4 (cI K),U4 1 (M0 P0 P1 P2 v0 v1 v2) 3,Y3 2 L.length (cR L),T7 1 M.length (cI M),T7 1 K.length (cI K),V4 (M0 P0 P1 P2 v0 v1 v2),V4 (cR L),Y2 0 2=true,U4 1 (M0 P0 P1 P2 v0 v1 v2) 3,Y3 2 L.length (cR L),T7 1 M.length (cI M),T7 1 K.length (cI K),Y3 2 L.length (cR L),1≤L.length∧L.length≤8,L.length=L.length,M.length=L.length,K.length=L.length,M8 (cI M) (cI K) L.length,Y2 0 3=true,U4 1 (M0 P0 P1 P2 v0 v1 v2) 3,Y3 2 L.length (cR L),T7 1 M.length (cI M),T7 1 K.length (cI K),Y3 2 P0.length (cR P0),1≤L.length∧L.length≤8,P0.length=L.length,M.length=L.length,K.length=L.length,M8 (cI M) (cI K) L.length,N3 IntKind.i64 (0+1),Y2 (0+1) 3=true,U4 1 (M0 P0 P1 P2 v0 v1 v2) 3,Y3 2 L.length (cR L),T7 1 M.length (cI M),T7 1 K.length (cI K),Y3 2 P1.length (cR P1),1≤L.length∧L.length≤8,P1.length=L.length,M.length=L.length,K.length=L.length,M8 (cI M) (cI K) L.length,N3 IntKind.i64 (0+1+1),Y2 (0+1+1) 3=true,U4 1 (M0 P0 P1 P2 v0 v1 v2) 3,Y3 2 L.length (cR L),T7 1 M.length (cI M),T7 1 K.length (cI K),Y3 2 P2.length (cR P2),1≤L.length∧L.length≤8,P2.length=L.length,M.length=L.length,K.length=L.length,M8 (cI M) (cI K) L.length,N3 IntKind.i64 (0+1+1+1),Y2 (0+1+1+1) 3=false,0+(0+1+1+1)*(0+1)≤([(.slu 10 0 (L.length) 0),(.slu 13 0 (L.length) 0),(.slu 16 0 (L.length) 0)]:List AV).length,0+L.length*(0+1)≤((m5 K L M P0):List AV).length,0+L.length*(0+1)≤((a1b K L M P1):List AV).length,0+L.length*(0+1)≤((a18 K L M P2):List AV).length,0+L.length*(0+1)≤((l7 K L M):List AV).length,U4 1 (M0 P0 P1 P2 v0 v1 v2) 3,Y3 2 L.length (cR L),T7 1 M.length (cI M),T7 1 K.length (cI K),L.length≤8,I9 (0+1) L.length (List.take (L.length*(0+1)) (List.drop 0 (m5 K L M P0))),I9 (0+1) L.length (List.take (L.length*(0+1)) (List.drop 0 (a1b K L M P1))),I9 (0+1) L.length (List.take (L.length*(0+1)) (List.drop 0 (a18 K L M P2))),I9 (0+1) L.length (List.take (L.length*(0+1)) (List.drop 0 (l7 K L M))),L.length=L.length,L.length=L.length,L.length=L.length,L.length=L.length,M.length=L.length,K.length=L.length,w9 (0+1+1+1),a3J (List.take (L.length*(0+1)) (List.drop 0 (m5 K L M P0))) (List.take (L.length*(0+1)) (List.drop 0 (a1b K L M P1))) (List.take (L.length*(0+1)) (List.drop 0 (a18 K L M P2))) (List.take (L.length*(0+1)) (List.drop 0 (l7 K L M))) L.length,M8 (cI M) (cI K) L.length,(!(b3Y K L M P0 P1 P2))=false,N3 IntKind.i64 (0+1),Y2 (0+1) 2=true,U4 1 (M0 P0 P1 P2 v0 v1 v2) 3,Y3 2 L.length (cR L),T7 1 M.length (cI M),T7 1 K.length (cI K),Y3 2 L.length (cR L),1≤L.length∧L.length≤8,L.length=L.length,M.length=L.length,K.length=L.length,M8 (cI M) (cI K) L.length,Y2 0 3=true,U4 1 (M0 P0 P1 P2 v0 v1 v2) 3,Y3 2 L.length (cR L),T7 1 M.length (cI M),T7 1 K.length (cI K),Y3 2 P0.length (cR P0),1≤L.length∧L.length≤8,P0.length=L.length,M.length=L.length,K.length=L.length,M8 (cI M) (cI K) L.length,N3 IntKind.i64 (0+1),Y2 (0+1) 3=true,U4 1 (M0 P0 P1 P2 v0 v1 v2) 3,Y3 2 L.length (cR L),T7 1 M.length (cI M),T7 1 K.length (cI K),Y3 2 P1.length (cR P1),1≤L.length∧L.length≤8,P1.length=L.length,M.length=L.length,K.length=L.length,M8 (cI M) (cI K) L.length,N3 IntKind.i64 (0+1+1),Y2 (0+1+1) 3=true,U4 1 (M0 P0 P1 P2 v0 v1 v2) 3,Y3 2 L.length (cR L),T7 1 M.length (cI M),T7 1 K.length (cI K),Y3 2 P2.length (cR P2),1≤L.length∧L.length≤8,P2.length=L.length,M.length=L.length,K.length=L.length,M8 (cI M) (cI K) L.length,N3 IntKind.i64 (0+1+1+1),Y2 (0+1+1+1) 3=false,0+(0+1+1+1)*(0+1)≤([(.slu 24 0 (L.length) 0),(.slu 27 0 (L.length) 0),(.slu 30 0 (L.length) 0)]:List AV).length,0+L.length*(0+1)≤((a3u K L M P0):List AV).length,0+L.length*(0+1)≤((a3r K L M P1):List AV).length,0+L.length*(0+1)≤((a3l K L M P2):List AV).length,0+L.length*(0+1)≤((a0D K L M):List AV).length,U4 1 (M0 P0 P1 P2 v0 v1 v2) 3,Y3 2 L.length (cR L),T7 1 M.length (cI M),T7 1 K.length (cI K),L.length≤8,I9 (0+1) L.length (List.take (L.length*(0+1)) (List.drop 0 (a3u K L M P0))),I9 (0+1) L.length (List.take (L.length*(0+1)) (List.drop 0 (a3r K L M P1))),I9 (0+1) L.length (List.take (L.length*(0+1)) (List.drop 0 (a3l K L M P2))),I9 (0+1) L.length (List.take (L.length*(0+1)) (List.drop 0 (a0D K L M))),L.length=L.length,L.length=L.length,L.length=L.length,L.length=L.length,M.length=L.length,K.length=L.length,w9 (0+1+1+1),a3J (List.take (L.length*(0+1)) (List.drop 0 (a3u K L M P0))) (List.take (L.length*(0+1)) (List.drop 0 (a3r K L M P1))) (List.take (L.length*(0+1)) (List.drop 0 (a3l K L M P2))) (List.take (L.length*(0+1)) (List.drop 0 (a0D K L M))) L.length,M8 (cI M) (cI K) L.length,(!(b7w K L M P0 P1 P2))=true,true=true]) (gH 9 ([.b false]++gH 9 ([.b true]++gH 20 ([.b true]++gH 15 ([.b true]++gH 15 ([.b true]++gH 15 ([.b false]++gH 8 ([.b false,.go,.go,.go,.b true]++gH 20 ([.b true]++gH 15 ([.b true]++gH 15 ([.b true]++gH 15 ([.b false]++gH 8 ([.b true]++gH 10 [.b true,.go]))))))))))))) (by kernel_rfl) (by kernel_rfl) ⟨(by show 0+2*(0+1)≤2;decide),(by decide),⟨rfl,[(v0,P0),(v1,P1),(v2,P2)],rfl,rfl⟩,⟨rfl,L,rfl,rfl⟩,⟨rfl,M,rfl,rfl⟩,⟨rfl,K,rfl,rfl⟩,rfl,(by decide),(by omega),(by omega),((a19 hC hH1).trans hH2),rfl,(X9 [(v0,P0),(v1,P1),(v2,P2)]),(Y8 (X4 _)),(Y8 (Z2 _)),(Y8 (Z2 _)),⟨rfl,[(v0,P0),(v1,P1),(v2,P2)],rfl,rfl⟩,⟨rfl,L,rfl,rfl⟩,⟨rfl,M,rfl,rfl⟩,⟨rfl,K,rfl,rfl⟩,(X9 [(v0,P0),(v1,P1),(v2,P2)]),(Y8 (X4 _)),rfl,⟨rfl,[(v0,P0),(v1,P1),(v2,P2)],rfl,rfl⟩,⟨rfl,L,rfl,rfl⟩,⟨rfl,M,rfl,rfl⟩,⟨rfl,K,rfl,rfl⟩,⟨rfl,L,rfl,rfl⟩,hn,rfl,hM,hK,(R0 hH1 hH2),rfl,⟨rfl,[(v0,P0),(v1,P1),(v2,P2)],rfl,rfl⟩,⟨rfl,L,rfl,rfl⟩,⟨rfl,M,rfl,rfl⟩,⟨rfl,K,rfl,rfl⟩,⟨rfl,P0,rfl,rfl⟩,hn,(hrow 0 (by decide)),hM,hK,(R0 hH1 hH2),(by show -9223372036854775808≤(_:Int)∧(_:Int)≤9223372036854775807;constructor<;>decide),rfl,⟨rfl,[(v0,P0),(v1,P1),(v2,P2)],rfl,rfl⟩,⟨rfl,L,rfl,rfl⟩,⟨rfl,M,rfl,rfl⟩,⟨rfl,K,rfl,rfl⟩,⟨rfl,P1,rfl,rfl⟩,hn,(hrow 1 (by decide)),hM,hK,(R0 hH1 hH2),(by show -9223372036854775808≤(_:Int)∧(_:Int)≤9223372036854775807;constructor<;>decide),rfl,⟨rfl,[(v0,P0),(v1,P1),(v2,P2)],rfl,rfl⟩,⟨rfl,L,rfl,rfl⟩,⟨rfl,M,rfl,rfl⟩,⟨rfl,K,rfl,rfl⟩,⟨rfl,P2,rfl,rfl⟩,hn,(hrow 2 (by decide)),hM,hK,(R0 hH1 hH2),(by show -9223372036854775808≤(_:Int)∧(_:Int)≤9223372036854775807;constructor<;>decide),rfl,(by show 0+3*(0+1)≤3;decide),(by rw [Z4,Y9];omega),(by rw [Z4,Y9];omega),(by rw [Z4,Y9];omega),(by rw [Z4,Y9];omega),⟨rfl,[(v0,P0),(v1,P1),(v2,P2)],rfl,rfl⟩,⟨rfl,L,rfl,rfl⟩,⟨rfl,M,rfl,rfl⟩,⟨rfl,K,rfl,rfl⟩,hn.2,⟨rfl,_,Z1,(Y9 _ _).symm⟩,⟨rfl,_,Z1,(Y9 _ _).symm⟩,⟨rfl,_,Z1,(Y9 _ _).symm⟩,⟨rfl,_,Z1,(Y9 _ _).symm⟩,rfl,rfl,rfl,rfl,hM,hK,rfl,(by rw [Z1,Z1,Z1,Z1];exact j9 (hcur 0 (by decide)) (hcur 1 (by decide)) (hcur 2 (by decide)) hlam),(R0 hH1 hH2),(by rw [hqsuo3_1];rfl),(by show -9223372036854775808≤(_:Int)∧(_:Int)≤9223372036854775807;constructor<;>decide),rfl,⟨rfl,[(v0,P0),(v1,P1),(v2,P2)],rfl,rfl⟩,⟨rfl,L,rfl,rfl⟩,⟨rfl,M,rfl,rfl⟩,⟨rfl,K,rfl,rfl⟩,⟨rfl,L,rfl,rfl⟩,hn,rfl,hM,hK,(R0 hH1 hH2),rfl,⟨rfl,[(v0,P0),(v1,P1),(v2,P2)],rfl,rfl⟩,⟨rfl,L,rfl,rfl⟩,⟨rfl,M,rfl,rfl⟩,⟨rfl,K,rfl,rfl⟩,⟨rfl,P0,rfl,rfl⟩,hn,(hrow 0 (by decide)),hM,hK,(R0 hH1 hH2),(by show -9223372036854775808≤(_:Int)∧(_:Int)≤9223372036854775807;constructor<;>decide),rfl,⟨rfl,[(v0,P0),(v1,P1),(v2,P2)],rfl,rfl⟩,⟨rfl,L,rfl,rfl⟩,⟨rfl,M,rfl,rfl⟩,⟨rfl,K,rfl,rfl⟩,⟨rfl,P1,rfl,rfl⟩,hn,(hrow 1 (by decide)),hM,hK,(R0 hH1 hH2),(by show -9223372036854775808≤(_:Int)∧(_:Int)≤9223372036854775807;constructor<;>decide),rfl,⟨rfl,[(v0,P0),(v1,P1),(v2,P2)],rfl,rfl⟩,⟨rfl,L,rfl,rfl⟩,⟨rfl,M,rfl,rfl⟩,⟨rfl,K,rfl,rfl⟩,⟨rfl,P2,rfl,rfl⟩,hn,(hrow 2 (by decide)),hM,hK,(R0 hH1 hH2),(by show -9223372036854775808≤(_:Int)∧(_:Int)≤9223372036854775807;constructor<;>decide),rfl,(by show 0+3*(0+1)≤3;decide),(by rw [Z4,Y9];omega),(by rw [Z4,Y9];omega),(by rw [Z4,Y9];omega),(by rw [Z4,Y9];omega),⟨rfl,[(v0,P0),(v1,P1),(v2,P2)],rfl,rfl⟩,⟨rfl,L,rfl,rfl⟩,⟨rfl,M,rfl,rfl⟩,⟨rfl,K,rfl,rfl⟩,hn.2,⟨rfl,_,Z1,(Y9 _ _).symm⟩,⟨rfl,_,Z1,(Y9 _ _).symm⟩,⟨rfl,_,Z1,(Y9 _ _).symm⟩,⟨rfl,_,Z1,(Y9 _ _).symm⟩,rfl,rfl,rfl,rfl,hM,hK,rfl,(by rw [Z1,Z1,Z1,Z1];exact j9 (hcur 0 (by decide)) (hcur 1 (by decide)) (hcur 2 (by decide)) hlam),(R0 hH1 hH2),(by rw [hqsuo3_2];rfl),rfl,trivial⟩ rfl) (Hd.en_eq (r:=(.int .i64 19)) (by (rw [c0r (b02 hqsuo3_2)])) (Hd.en_ret (v:=(nI0 (.ofNat 19))) (by kernel_rfl) rfl))
 ·exact Z8 U9 (Z6 zC0q (Y1 q6 (Y1 e8 (Y1 p9 q7))) 200 (T':=⟨[(6,(nI0 (.ofNat 19)))],[],21,[]⟩) (e:=.ret) (ps:=[0+2*(0+1)≤([(.xl (z) (M.length) 1 (cI M)),(.xl (zk) (K.length) 1 (cI K))]:List AV).length,((2:Nat)≤2),U4 1 (M0 P0 P1 P2 v0 v1 v2) 3,Y3 2 L.length (cR L),T7 (0+1) M.length (cI M),T7 (0+1) K.length (cI K),a97 2,((3:Nat)≤1000),M.length≤1000,K.length≤1000,M1 (T6 (M0 P0 P1 P2 v0 v1 v2) 3 (cR L) L.length) (U0 L.length (cI M) M.length) (U0 L.length (cI K) K.length)=0,(!R3 0 0)=false,V4 (M0 P0 P1 P2 v0 v1 v2),V4 (cR L),V4 (cI M),V4 (cI K),U4 1 (M0 P0 P1 P2 v0 v1 v2) 3,Y3 2 L.length (cR L),T7 1 M.length (cI M),T7 1 K.length (cI K),V4 (M0 P0 P1 P2 v0 v1 v2),V4 (cR L),Y2 0 2=true,U4 1 (M0 P0 P1 P2 v0 v1 v2) 3,Y3 2 L.length (cR L),T7 1 M.length (cI M),T7 1 K.length (cI K),Y3 2 L.length (cR L),1≤L.length∧L.length≤8,L.length=L.length,M.length=L.length,K.length=L.length,M8 (cI M) (cI K) L.length,Y2 0 3=true,U4 1 (M0 P0 P1 P2 v0 v1 v2) 3,Y3 2 L.length (cR L),T7 1 M.length (cI M),T7 1 K.length (cI K),Y3 2 P0.length (cR P0),1≤L.length∧L.length≤8,P0.length=L.length,M.length=L.length,K.length=L.length,M8 (cI M) (cI K) L.length,N3 IntKind.i64 (0+1),Y2 (0+1) 3=true,U4 1 (M0 P0 P1 P2 v0 v1 v2) 3,Y3 2 L.length (cR L),T7 1 M.length (cI M),T7 1 K.length (cI K),Y3 2 P1.length (cR P1),1≤L.length∧L.length≤8,P1.length=L.length,M.length=L.length,K.length=L.length,M8 (cI M) (cI K) L.length,N3 IntKind.i64 (0+1+1),Y2 (0+1+1) 3=true,U4 1 (M0 P0 P1 P2 v0 v1 v2) 3,Y3 2 L.length (cR L),T7 1 M.length (cI M),T7 1 K.length (cI K),Y3 2 P2.length (cR P2),1≤L.length∧L.length≤8,P2.length=L.length,M.length=L.length,K.length=L.length,M8 (cI M) (cI K) L.length,N3 IntKind.i64 (0+1+1+1),Y2 (0+1+1+1) 3=false,0+(0+1+1+1)*(0+1)≤([(.slu 10 0 (L.length) 0),(.slu 13 0 (L.length) 0),(.slu 16 0 (L.length) 0)]:List AV).length,0+L.length*(0+1)≤((m5 K L M P0):List AV).length,0+L.length*(0+1)≤((a1b K L M P1):List AV).length,0+L.length*(0+1)≤((a18 K L M P2):List AV).length,0+L.length*(0+1)≤((l7 K L M):List AV).length,U4 1 (M0 P0 P1 P2 v0 v1 v2) 3,Y3 2 L.length (cR L),T7 1 M.length (cI M),T7 1 K.length (cI K),L.length≤8,I9 (0+1) L.length (List.take (L.length*(0+1)) (List.drop 0 (m5 K L M P0))),I9 (0+1) L.length (List.take (L.length*(0+1)) (List.drop 0 (a1b K L M P1))),I9 (0+1) L.length (List.take (L.length*(0+1)) (List.drop 0 (a18 K L M P2))),I9 (0+1) L.length (List.take (L.length*(0+1)) (List.drop 0 (l7 K L M))),L.length=L.length,L.length=L.length,L.length=L.length,L.length=L.length,M.length=L.length,K.length=L.length,w9 (0+1+1+1),a3J (List.take (L.length*(0+1)) (List.drop 0 (m5 K L M P0))) (List.take (L.length*(0+1)) (List.drop 0 (a1b K L M P1))) (List.take (L.length*(0+1)) (List.drop 0 (a18 K L M P2))) (List.take (L.length*(0+1)) (List.drop 0 (l7 K L M))) L.length,M8 (cI M) (cI K) L.length,(!(b3Y K L M P0 P1 P2))=true,true=true]) (gH 9 ([.b false]++gH 9 ([.b true]++gH 20 ([.b true]++gH 15 ([.b true]++gH 15 ([.b true]++gH 15 ([.b false]++gH 8 ([.b true]++gH 10 [.b true,.go])))))))) (by kernel_rfl) (by kernel_rfl) ⟨(by show 0+2*(0+1)≤2;decide),(by decide),⟨rfl,[(v0,P0),(v1,P1),(v2,P2)],rfl,rfl⟩,⟨rfl,L,rfl,rfl⟩,⟨rfl,M,rfl,rfl⟩,⟨rfl,K,rfl,rfl⟩,rfl,(by decide),(by omega),(by omega),((a19 hC hH1).trans hH2),rfl,(X9 [(v0,P0),(v1,P1),(v2,P2)]),(Y8 (X4 _)),(Y8 (Z2 _)),(Y8 (Z2 _)),⟨rfl,[(v0,P0),(v1,P1),(v2,P2)],rfl,rfl⟩,⟨rfl,L,rfl,rfl⟩,⟨rfl,M,rfl,rfl⟩,⟨rfl,K,rfl,rfl⟩,(X9 [(v0,P0),(v1,P1),(v2,P2)]),(Y8 (X4 _)),rfl,⟨rfl,[(v0,P0),(v1,P1),(v2,P2)],rfl,rfl⟩,⟨rfl,L,rfl,rfl⟩,⟨rfl,M,rfl,rfl⟩,⟨rfl,K,rfl,rfl⟩,⟨rfl,L,rfl,rfl⟩,hn,rfl,hM,hK,(R0 hH1 hH2),rfl,⟨rfl,[(v0,P0),(v1,P1),(v2,P2)],rfl,rfl⟩,⟨rfl,L,rfl,rfl⟩,⟨rfl,M,rfl,rfl⟩,⟨rfl,K,rfl,rfl⟩,⟨rfl,P0,rfl,rfl⟩,hn,(hrow 0 (by decide)),hM,hK,(R0 hH1 hH2),(by show -9223372036854775808≤(_:Int)∧(_:Int)≤9223372036854775807;constructor<;>decide),rfl,⟨rfl,[(v0,P0),(v1,P1),(v2,P2)],rfl,rfl⟩,⟨rfl,L,rfl,rfl⟩,⟨rfl,M,rfl,rfl⟩,⟨rfl,K,rfl,rfl⟩,⟨rfl,P1,rfl,rfl⟩,hn,(hrow 1 (by decide)),hM,hK,(R0 hH1 hH2),(by show -9223372036854775808≤(_:Int)∧(_:Int)≤9223372036854775807;constructor<;>decide),rfl,⟨rfl,[(v0,P0),(v1,P1),(v2,P2)],rfl,rfl⟩,⟨rfl,L,rfl,rfl⟩,⟨rfl,M,rfl,rfl⟩,⟨rfl,K,rfl,rfl⟩,⟨rfl,P2,rfl,rfl⟩,hn,(hrow 2 (by decide)),hM,hK,(R0 hH1 hH2),(by show -9223372036854775808≤(_:Int)∧(_:Int)≤9223372036854775807;constructor<;>decide),rfl,(by show 0+3*(0+1)≤3;decide),(by rw [Z4,Y9];omega),(by rw [Z4,Y9];omega),(by rw [Z4,Y9];omega),(by rw [Z4,Y9];omega),⟨rfl,[(v0,P0),(v1,P1),(v2,P2)],rfl,rfl⟩,⟨rfl,L,rfl,rfl⟩,⟨rfl,M,rfl,rfl⟩,⟨rfl,K,rfl,rfl⟩,hn.2,⟨rfl,_,Z1,(Y9 _ _).symm⟩,⟨rfl,_,Z1,(Y9 _ _).symm⟩,⟨rfl,_,Z1,(Y9 _ _).symm⟩,⟨rfl,_,Z1,(Y9 _ _).symm⟩,rfl,rfl,rfl,rfl,hM,hK,rfl,(by rw [Z1,Z1,Z1,Z1];exact j9 (hcur 0 (by decide)) (hcur 1 (by decide)) (hcur 2 (by decide)) hlam),(R0 hH1 hH2),(by rw [hqsuo3_1];rfl),rfl,trivial⟩ rfl) (Hd.en_eq (r:=(.int .i64 19)) (by (rw [c0p (b02 hqsuo3_1)])) (Hd.en_ret (v:=(nI0 (.ofNat 19))) (by kernel_rfl) rfl))
theorem c4r(y v0:Value)(P0:List (Int×Int))(v1:Value)(P1:List (Int×Int))(v2:Value)(P2:List (Int×Int))(yl:Value)(L:List (Int×Int))(z:Value)(M:List Int)(zk:Value)(K:List Int)(hC:T6 (b3g P0 P1 P2 v0 v1 v2) 3 (cR L) L.length=0)(hH1:U0 L.length (cI M) M.length=0)(hH2:U0 L.length (cI K) K.length=0):GivesA zP0q 27 [(.agg [.xl y 3 1 (b3g P0 P1 P2 v0 v1 v2),.xl yl L.length 2 (cR L)]),(.xl z M.length 1 (cI M)),(.xl zk K.length 1 (cI K))] (.int .i64 (suN (cR P0) (cR P1) (cR P2) (cR L) (W5 (cI M) (cI K) L.length) L.length)) :=
 U5 27 Try.func27 (by kernel_rfl) (by kernel_rfl) (by kernel_rfl) (fun w=>V6 (by kernel_rfl) (by kernel_rfl) (by kernel_rfl) (by kernel_rfl) (c6s y v0 P0 v1 P1 v2 P2 yl L z M zk K hC hH1 hH2 w []))
end
end Go.Proofs.Ytegmogadbnfbgaa
namespace Go.Proofs.Ytegmogadbnfbgaa
open Go Ev
noncomputable section
def cH:List Int→List AV
 |[]=>[]
 |n::l=>.v (.int .u16 n)::cH l
def cHv:List Int→List Value
 |[]=>[]
 |n::l=>.int .u16 n::cHv l
theorem J0:∀ L:List Int,N4 (cH L)=some (cHv L)
 |[]=>rfl
 |n::l=>by simp only [cH,N4,plain,J0 l,cHv]
theorem b6s:∀ (L:List Int) (i:Nat) (h:i<L.length),(cH L)[i]? = some (.v (.int .u16 (L[i])))
 |[],i,h=>by simp at h
 |x::l,0,h=>rfl
 |x::l,i+1,h=>b6s l i (by simpa using h)
theorem b6m{L:List Int}{i:Nat}(h:i<L.length):Z9 (cH L) i=L[i]:=a3n (b6s L i h)
theorem b8U{L:List Int}{i:Nat}(h:i<L.length)(t:TypeId){d:TypeDesc}(hd:Try.prog.underlying t=some d)(ha:a7G d=false):W7 zP0q (cH L) i t=some (.v (.int .u16 (Z9 (cH L) i))):=by
 simp only [W7,hd,ha,B3,b6s L i h,b6m h]
def Q9(L:List Int):Prop:=∀ n∈L,0≤n∧n≤65535
theorem a9u{L:List Int}(h:Q9 L){i:Nat}(hi:i<L.length):0≤Z9 (cH L) i∧Z9 (cH L) i≤65535:=by
 rw [b6m hi];exact h _ (List.getElem_mem hi)
def pkV(lo hi:Int)(c:List AV)(m i:Nat):Int:=if m=0 then lo else lo+(Z9 c (i % m*1)).tmod (hi - lo+1)
theorem b91{lo hi:Int}{c:List AV}{m i:Nat}(h:m=0):pkV lo hi c m i=lo:=if_pos h
theorem c2B{lo hi:Int}{B:List Int}{i:Nat}(hB:Q9 B)(h:lo≤hi):lo≤pkV lo hi (cH B) B.length i∧pkV lo hi (cH B) B.length i≤hi:=by
 unfold pkV
 split
 ·omega
 ·rename_i hm
  have h1:=a9u hB (i:=i % B.length*1) (by rw [Nat.mul_one];exact Nat.mod_lt _ (by omega))
  have h2:=Int.tmod_nonneg (hi - lo+1) h1.1
  have h3:=Int.tmod_lt_of_pos (Z9 (cH B) (i % B.length*1)) (show 0<hi - lo+1 by omega)
  omega
def D4(c cB:List AV)(m o b:Nat):Int:=pkV (Z9 c (b*2+0)) (Z9 c (b*2+1)) cB m (o+b)
theorem x5{c:List AV}{B:List Int}{o n b:Nat}(hB:Q9 B)(hb:b<n)(h:X7 100 c b):V9 c (cI (tI (D4 c (cH B) B.length o) n)) b:=by
 unfold X7 at h
 unfold V9
 rw [Nat.mul_one,a0h hb]
 exact c2B hB h.2.1
theorem a1j{c cB:List AV}{m o b:Nat}{v:Int}(h:D4 c cB m o b=v):cI (tI (D4 c cB m o) b)++[nI0 v]=cI (tI (D4 c cB m o) (b+1)):=by rw [← h];exact b5P _ _
theorem a1g{c cB:List AV}{m o b:Nat}{v:Int}(hb:b=0)(h:D4 c cB m o b=v):[AV.v (.int .i64 v)]=cI (tI (D4 c cB m o) (b+1)):=by
 subst hb
 rw [← h,a4Z];rfl
def m6(L P0 P1 P2:List (Int×Int))(n:Nat):Prop:=L.length=n+1∧n≤7∧P0.length=n+1∧P1.length=n+1∧P2.length=n+1∧(∀ b,b<n+1→X7 100 (cR L) b)∧(∀ b,b<n+1→X7 100 (cR P0) b)∧(∀ b,b<n+1→X7 100 (cR P1) b)∧∀ b,b<n+1→X7 100 (cR P2) b
theorem b0i{x:Int}(h:0≤x∧x≤65535):IntKind.i64.wrap x=x:=by
 exact IntWalk.i64_in _ (by omega)
noncomputable def c9a:Code:=O4 Try.f47
set_option maxHeartbeats 2000000 in
theorem c9P(lo hi:Int)(zb:Value)(B:List Int)(k:Nat)(hr:0≤lo∧lo≤hi∧hi≤1000)(hB:Q9 B)(hk:k≤1000)(w:World)(hs:List Nat):Y7 zP0q 30 c9a (⟨[(0,(.agg [nI0 lo,nI0 hi])),(1,(.xl zb B.length 1 (cH B))),(2,(nI0 k))],[],0,[]⟩) (BaseW.H w hs) (V8 zP0q Try.f47 30 (.int .i64 (pkV lo hi (cH B) B.length k)) w):=by
 have hcl_B:=Z4 B
 rcases zB0q (R3 B.length 0) with hqpk3_1|hqpk3_1
 ·have ghqpk3_1:=X8 hqpk3_1
  exact Z8 U9 (Z6 zC0q (Z0) 200 (T':=⟨[(6,(nI0 (lo)))],[],1,[]⟩) (e:=.ret) (ps:=[R3 B.length 0=true]) (gH 5 [.b true,.go,.go,.go]) (by kernel_rfl) (by kernel_rfl) ⟨hqpk3_1,trivial⟩ rfl) (Hd.en_eq (r:=(.int .i64 (lo))) (by (rw [b91 (by omega)])) (Hd.en_ret (v:=(nI0 (lo))) (by kernel_rfl) rfl))
 ·have ghqpk3_1:=V7 hqpk3_1
  exact Z8 U9 (Z6 zC0q (Z0) 200 (T':=⟨[(6,(nI0 (lo+(IntKind.i64.wrap (Z9 (cH B) (k % B.length*1))).tmod (hi - lo+1))))],[],1,[]⟩) (e:=.ret) (ps:=[R3 B.length 0=false,(B.length:Int)≠0,k % B.length<B.length,W7 zP0q (cH B) (k % B.length*1) 73=some (AV.v (Value.int IntKind.u16 (Z9 (cH B) (k % B.length*1)))),N3 IntKind.i64 (hi - lo),N3 IntKind.i64 (hi - lo+1),hi - lo+1≠0,N3 IntKind.i64 (lo+(IntKind.i64.wrap (Z9 (cH B) (k % B.length*1))).tmod (hi - lo+1))]) (gH 5 ([.b false]++gH 7 ([.sym,.sym]++gH 10 []))) (by kernel_rfl) (by kernel_rfl) ⟨hqpk3_1,(by omega),(Nat.mod_lt _ (by omega)),(b8U (by rw [Nat.mul_one];exact Nat.mod_lt _ (by omega)) 73 (Try.underlying73) rfl),(by show -9223372036854775808≤_∧_≤9223372036854775807;constructor<;>omega),(by show -9223372036854775808≤_∧_≤9223372036854775807;constructor<;>omega),(by omega),(by have h8:=a9u hB (i:=k % B.length*1) (by rw [Nat.mul_one];exact Nat.mod_lt _ (by omega));rw [b0i h8];have h7:=Int.tmod_nonneg (hi - lo+1) h8.1;have h6:=Int.tmod_lt_of_pos (Z9 (cH B) (k % B.length*1)) (show 0<hi - lo+1 by omega);show -9223372036854775808≤_∧_≤9223372036854775807;constructor<;>omega),trivial⟩ rfl) (Hd.en_eq (r:=(.int .i64 (lo+(IntKind.i64.wrap (Z9 (cH B) (k % B.length*1))).tmod (hi - lo+1)))) (by (have h8:=a9u hB (i:=k % B.length*1) (by rw [Nat.mul_one];exact Nat.mod_lt _ (by omega));unfold pkV;rw [if_neg (by omega),b0i h8])) (Hd.en_ret (v:=(nI0 (lo+(IntKind.i64.wrap (Z9 (cH B) (k % B.length*1))).tmod (hi - lo+1)))) (by kernel_rfl) rfl))
theorem d01(lo hi:Int)(zb:Value)(B:List Int)(k:Nat)(hr:0≤lo∧lo≤hi∧hi≤1000)(hB:Q9 B)(hk:k≤1000):GivesA zP0q 47 [(.agg [nI0 lo,nI0 hi]),(.xl zb B.length 1 (cH B)),(nI0 k)] (.int .i64 (pkV lo hi (cH B) B.length k)) :=
 U5 30 Try.func47 (by kernel_rfl) (by kernel_rfl) (by kernel_rfl) (fun w=>V6 (by kernel_rfl) (by kernel_rfl) (by kernel_rfl) (by kernel_rfl) (c9P lo hi zb B k hr hB hk w []))
end
end Go.Proofs.Ytegmogadbnfbgaa
namespace Go.Proofs.Ytegmogadbnfbgaa
open Go.ChangeShapes Go.WideShapes Go.ChangeAt Go.RowKit
theorem b3v:∀ (n:Nat) (vs:List Value),vs.length=n*1→(∀ i,i<n→IsK [some .u16] ((vs.drop (i*1)).take 1))→∃ B:List Int,B.length=n∧vs=cHv B∧Q9 B
 |0,vs,hl,_=>⟨[],rfl,List.eq_nil_of_length_eq_zero (by omega),by intro x hx;cases hx⟩
 |n+1,vs,hl,h=>by
  obtain ⟨a,l1,e1,⟨x,rfl,wx⟩,h1⟩:=a41 (h 0 (by omega))
  obtain rfl:=a9P h1
  obtain ⟨r,rfl⟩:∃ r,vs = .int .u16 x::r:=by
   match vs,hl,e1 with
   |p::r,_,e=>simp at e;exact ⟨r,by rw [e]⟩
   |[],hl,_=>simp at hl
  obtain ⟨B,hB,rfl,hA⟩:=b3v n r (by simp at hl; omega) (fun i hi=>by
   have:=h (i+1) (by omega)
   rw [show (i+1)*1=i*1+1 from by omega] at this
   simpa using this)
  refine ⟨x::B,by simp [hB],rfl,fun y hy=>?_⟩
  rcases List.mem_cons.1 hy with rfl|hy
  ·exact c67 wx
  ·exact hA y hy
end Go.Proofs.Ytegmogadbnfbgaa
namespace Go.Proofs.Ytegmogadbnfbgaa
open Go Ev
noncomputable section
theorem D2{c d:List AV}{g:Bool}{n b:Nat}(hb:b<n)(h:X7 100 c b):V9 c (cI (tI (S6 c d g) n)) b:=by
 unfold X7 at h
 unfold V9
 rw [Nat.mul_one,a0h hb]
 unfold S6
 split<;>omega
theorem b3k{p q:Nat→Int}:∀ {n:Nat},V5 p n - V5 q n=V5 (fun b=>p b - q b) n
 |0=>rfl
 |n+1=>by simp only [V5];rw [← b3k (n:=n)];omega
theorem a9v{c0 c1 c2 cY c d:List AV}{n k:Nat}:V5 (K3 c0 c1 c2 cY c k) n - V5 (K3 c0 c1 c2 cY d k) n=V5 (K3 c0 c1 c2 cY (W5 c d n) k) n:=by
 rw [b3k]
 refine b3D (fun b hb=>?_)
 unfold K3
 rw [a9c hb,Int.mul_sub]
end
end Go.Proofs.Ytegmogadbnfbgaa
namespace Go.Proofs.Ytegmogadbnfbgaa
open Go Ev
noncomputable section
def lsS:List AV→List AB→Option ((AV×List AB)×List Prop):=fun args xs =>
 match args,xs with
 |[.xl z r k5 cM,.xl zk s k6 cK],[]=>some ((.slu 0 0 r 0,[.row (W5 cM cK r) 2 1]),[T7 k5 r cM,T7 k6 s cK,1≤r∧r≤8,s=r,M8 cM cK r])
 |_,_=>none
def d0b:List Yw→Option (A0×List Prop):=fun vs =>
 match vs with
 |[.one (.ext a),.one (.lst r k5 cM)]=>match a with
  |.agg [.xl y m k1 cE,.xl yl n k2 cL]=>some (.blk (fun b=>.sl b 0 3 3) (.cells (cI (tI (s6A (loP cE cL cM) (hiP cE cL cM) n 3) 6)) 65),[U4 k1 cE m,Y3 k2 n cL,I9 k5 r cM,w9 m,r=n,n≤8,c95 cE cL cM n])
  |_=>none
 |_=>none
def a3I(c0 c1 c2 cL x0 x1 x2 cY:List AV)(n:Nat):Prop:=(∀ b,b<n→V9 cL cY b)∧(∀ b,b<n→V9 c0 x0 b)∧(∀ b,b<n→V9 c1 x1 b)∧∀ b,b<n→V9 c2 x2 b
def c7j:List Yw→Option (A0×List Prop):=fun vs =>
 match vs with
 |[.one (.ext a),.str [.lls mx k3 rows,.lst nx k4 cY]]=>match a,rows with
  |.agg [.xl y m k1 [.xl v0 p0 j0 c0,.xl v1 p1 j1 c1,.xl v2 p2 j2 c2],.xl yl n k2 cL],[(n0,x0),(n1,x1),(n2,x2)]=>some (.val (.v (.int .i64 0)),[Is1 k1,w9 m,Y3 j0 p0 c0,Y3 j1 p1 c1,Y3 j2 p2 c2,Y3 k2 n cL,I9 k3 n0 x0,I9 k3 n1 x1,I9 k3 n2 x2,I9 k4 nx cY,n0=n,n1=n,n2=n,nx=n,w9 mx,T6 [.xl v0 p0 j0 c0,.xl v1 p1 j1 c1,.xl v2 p2 j2 c2] m cL n=0,a3I c0 c1 c2 cL x0 x1 x2 cY n])
  |_,_=>none
 |_=>none
def c6y:O8:=e7 30 [.one .ext,.str [.lls 0,.lst 0]] c7j
theorem b4I:Known zP0q (clsO c6y):=x6 (fun vs r ps h hp=>by
 unfold c7j at h
 split at h
 ·split at h
  ·cases h
   obtain ⟨rfl,rfl,⟨rfl,P0,rfl,rfl⟩,⟨rfl,P1,rfl,rfl⟩,⟨rfl,P2,rfl,rfl⟩,⟨rfl,L,rfl,rfl⟩,⟨rfl,X0,rfl,rfl⟩,⟨-,X1,rfl,rfl⟩,⟨-,X2,rfl,rfl⟩,⟨rfl,Y,rfl,rfl⟩,h0,h1,h2,h3,rfl,hC,⟨m3,m0,m1,m2⟩,-⟩:=hp
   rename_i y v0 v1 v2 yl
   refine ⟨⟨(y9 (X3 (S3 (L5 [(v0,P0),(v1,P1),(v2,P2)])) (X3 (S3 (V3 (X4 L))) R4))),⟨⟨⟨_,Z2 X0⟩,⟨_,Z2 X1⟩,⟨_,Z2 X2⟩,trivial⟩,⟨_,Z2 Y⟩,trivial⟩,trivial⟩,⟨[[[]],[[undef,undef,undef,undef],[undef]]],⟨trivial,⟨rfl,trivial,trivial⟩,trivial⟩⟩,fun ys hy=>?_⟩
   match ys,hy with
   |[zs,[[u,w0,w1,w2],us]],_ =>
    refine ⟨_,rfl,?_⟩
    have hg:=c8f y [(v0,P0),(v1,P1),(v2,P2)] yl L u [(w0,X0),(w1,X1),(w2,X2)] (us.headD undef) Y hC (show 3≤1000 by decide)
    rw [a9i (cE:=Y5 [(v0,P0),(v1,P1),(v2,P2)]) (cX:=Y6 [(w0,X0),(w1,X1),(w2,X2)]) (m:=[(w0,X0),(w1,X1),(w2,X2)].length) h3 (eyB_true.2 ⟨rfl,fun i hi=>by match i,hi with|0,_=>exact h0|1,_=>exact h1|2,_=>exact h2⟩) (allB_true.2 m3) (fun i hi=>allB_true.2 (fun b hb=>by match i,hi with|0,_=>exact m0 b hb|1,_=>exact m1 b hb|2,_=>exact m2 b hb))] at hg
    exact hg
  ·cases h
 ·cases h)
end
end Go.Proofs.Ytegmogadbnfbgaa
namespace Go.Proofs.Ytegmogadbnfbgaa
open Go Ev
noncomputable section
def c8a:List AV→Option (A0×List Prop):=fun vs =>
 match vs with
 |[.agg [.xl y m k1 cE,.xl yl n k2 cL]]=>some (.val (.v (.bool (B0 cE m n))),[U4 k1 cE m,Y3 k2 n cL])
 |_=>none
def c94:O8:=E8 13 c8a
theorem s4:Known zP0q (clsO c94):=K8 (fun vs r ps h hp=>by
 unfold c8a at h
 split at h
 ·cases h
  obtain ⟨⟨rfl,E,rfl,rfl⟩,⟨rfl,L,rfl,rfl⟩,-⟩:=hp
  exact ⟨X3 (a1q E L) R4,_,rfl,c8k _ E _ L⟩
 ·cases h)
def wkO:O8:=a3F 15 (fun xs=>match xs with | []=>some (.v (.bool true))|_=>none)
end
end Go.Proofs.Ytegmogadbnfbgaa
namespace Go.Proofs.Ytegmogadbnfbgaa
open Go Ev
noncomputable section
theorem b7R{p q:Nat→Int}:∀ {n:Nat},(∀ b,b<n→p b≤q b)→V5 p n≤V5 q n
 |0,_=>Int.le_refl _
 |n+1,h=>by
  simp only [V5]
  have:=b7R (p:=p) (q:=q) (n:=n) (fun b hb=>h b (by omega))
  have:=h n (by omega)
  omega
theorem b9v{l0 h0 l1 h1 x y s:Int}(a:0≤l0∧l0≤x∧x≤h0)(b:0≤l1∧l1≤y∧y≤h1):(0≤s→l0*l1*s≤x*y*s∧x*y*s≤h0*h1*s)∧(s≤0→h0*h1*s≤x*y*s∧x*y*s≤l0*l1*s):=by
 have h2:l0*l1≤x*y:=Int.mul_le_mul a.2.1 b.2.1 b.1 (by omega)
 have h3:x*y≤h0*h1:=Int.mul_le_mul a.2.2 b.2.2 (by omega) (by omega)
 exact ⟨fun hs=>⟨Int.mul_le_mul_of_nonneg_right h2 hs,Int.mul_le_mul_of_nonneg_right h3 hs⟩,fun hs=>⟨Int.mul_le_mul_of_nonpos_right h3 hs,Int.mul_le_mul_of_nonpos_right h2 hs⟩⟩
theorem b3K{cP cL cM:List AV}{x y:Int}{b:Nat}(h0:X7 100 cP b)(h1:X7 100 cL b)(hx:Z9 cP (b*2+0)≤x∧x≤Z9 cP (b*2+1))(hy:Z9 cL (b*2+0)≤y∧y≤Z9 cL (b*2+1)) :
  S6 cP cM false b*S6 cL cM false b*Z9 cM (b*1)≤x*y*Z9 cM (b*1)∧x*y*Z9 cM (b*1)≤S6 cP cM true b*S6 cL cM true b*Z9 cM (b*1):=by
 unfold X7 at h0 h1
 have hb:=b9v (s:=Z9 cM (b*1)) ⟨h0.1,hx⟩ ⟨h1.1,hy⟩
 cases e:Y2 0 (Z9 cM (b*1)) with
 |true =>
  have e1:S6 cP cM false b=Z9 cP (b*2+0):=a62 (by rw [e];decide)
  have e2:S6 cL cM false b=Z9 cL (b*2+0):=a62 (by rw [e];decide)
  have e3:S6 cP cM true b=Z9 cP (b*2+1):=a3G (by rw [e];decide)
  have e4:S6 cL cM true b=Z9 cL (b*2+1):=a3G (by rw [e];decide)
  rw [e1,e2,e3,e4]
  exact hb.1 (by have:=X5 e;omega)
 |false =>
  have e1:S6 cP cM false b=Z9 cP (b*2+1):=a3G (by rw [e];decide)
  have e2:S6 cL cM false b=Z9 cL (b*2+1):=a3G (by rw [e];decide)
  have e3:S6 cP cM true b=Z9 cP (b*2+0):=a62 (by rw [e];decide)
  have e4:S6 cL cM true b=Z9 cL (b*2+0):=a62 (by rw [e];decide)
  rw [e1,e2,e3,e4]
  exact hb.2 (by have:=Z5 e;omega)
theorem a9E{cP cL cM x y:List AV}{n:Nat}(h0:∀ b,b<n→X7 100 cP b)(h1:∀ b,b<n→X7 100 cL b)(hx:∀ b,b<n→V9 cP x b)(hy:∀ b,b<n→V9 cL y b) :
  V5 (fun b=>Z9 (cI (tI (S6 cP cM false) n)) (b*1)*Z9 (cI (tI (S6 cL cM false) n)) (b*1)*Z9 cM (b*1)) n≤V5 (fun b=>Z9 x (b*1)*Z9 y (b*1)*Z9 cM (b*1)) n∧V5 (fun b=>Z9 x (b*1)*Z9 y (b*1)*Z9 cM (b*1)) n≤V5 (fun b=>Z9 (cI (tI (S6 cP cM true) n)) (b*1)*Z9 (cI (tI (S6 cL cM true) n)) (b*1)*Z9 cM (b*1)) n:=by
 constructor<;>refine b7R (fun b hb=>?_)<;>rw [Nat.mul_one,a0h hb,a0h hb]
 ·have h:=(b3K (cM:=cM) (h0 b hb) (h1 b hb) (hx b hb) (hy b hb)).1
  rw [Nat.mul_one] at h;exact h
 ·have h:=(b3K (cM:=cM) (h0 b hb) (h1 b hb) (hx b hb) (hy b hb)).2
  rw [Nat.mul_one] at h;exact h
theorem c38{c0 c1 c2 cL cM x0 x1 x2 xL:List AV}{n:Nat}(hc0:∀ b,b<n→X7 100 c0 b)(hc1:∀ b,b<n→X7 100 c1 b)(hc2:∀ b,b<n→X7 100 c2 b)(hL:∀ b,b<n→X7 100 cL b)(h:a3I c0 c1 c2 cL x0 x1 x2 xL n):∀ k,k<3→spN c0 c1 c2 cL cM n false k≤V5 (K3 x0 x1 x2 xL cM k) n∧V5 (K3 x0 x1 x2 xL cM k) n≤spN c0 c1 c2 cL cM n true k:=fun k hk=>by
 match k,hk with
 |0,_=>exact a9E hc0 hL h.2.1 h.1
 |1,_=>exact a9E hc1 hL h.2.2.1 h.1
 |2,_=>exact a9E hc2 hL h.2.2.2 h.1
theorem b8Z{c0 c1 c2 cL cM cK x0 x1 x2 xL:List AV}{n:Nat}(hc0:∀ b,b<n→X7 100 c0 b)(hc1:∀ b,b<n→X7 100 c1 b)(hc2:∀ b,b<n→X7 100 c2 b)(hL:∀ b,b<n→X7 100 cL b)(h:a3I c0 c1 c2 cL x0 x1 x2 xL n)(ht:zrB c0 c1 c2 cL (W5 cM cK n) n true)(hf:zrB c0 c1 c2 cL (W5 cM cK n) n false):V5 (K3 x0 x1 x2 xL cM 0) n=V5 (K3 x0 x1 x2 xL cK 0) n∧V5 (K3 x0 x1 x2 xL cM 1) n=V5 (K3 x0 x1 x2 xL cK 1) n∧V5 (K3 x0 x1 x2 xL cM 2) n=V5 (K3 x0 x1 x2 xL cK 2) n:=by
 have hb:=c38 (cM:=W5 cM cK n) hc0 hc1 hc2 hL h
 have d:=fun k=>a9v (c0:=x0) (c1:=x1) (c2:=x2) (cY:=xL) (c:=cM) (d:=cK) (n:=n) (k:=k)
 obtain ⟨t0,t1,t2⟩:=ht
 obtain ⟨f0,f1,f2⟩:=hf
 have b0:=hb 0 (by decide)
 have b1:=hb 1 (by decide)
 have b2:=hb 2 (by decide)
 have d0:=d 0
 have d1:=d 1
 have d2:=d 2
 exact ⟨by omega,by omega,by omega⟩
def c5s:List Yw→Option (A0×List Prop):=fun vs =>
 match vs with
 |[.one (.ext a),.str [.lls mx k3 rows,.lst nx k4 cY],.one (.ext a2)]=>match a,rows,a2 with
  |.agg [.xl y m k1 [.xl v0 p0 j0 c0,.xl v1 p1 j1 c1,.xl v2 p2 j2 c2],.xl yl n k2 cL],[(n0,x0),(n1,x1),(n2,x2)],.xl z r k5 cM=>some (.blk (fun b=>.tup [.sl b 0 3 3,.v (.int .i64 0)]) (.cells [.v (.int .i64 (V5 (K3 x0 x1 x2 cY cM 0) n)),.v (.int .i64 (V5 (K3 x0 x1 x2 cY cM 1) n)),.v (.int .i64 (V5 (K3 x0 x1 x2 cY cM 2) n))] 2),[Is1 k1,w9 m,Y3 j0 p0 c0,Y3 j1 p1 c1,Y3 j2 p2 c2,Y3 k2 n cL,T7 k5 r cM,I9 k3 n0 x0,I9 k3 n1 x1,I9 k3 n2 x2,I9 k4 nx cY,n0=n,n1=n,n2=n,nx=n,w9 mx,T6 [.xl v0 p0 j0 c0,.xl v1 p1 j1 c1,.xl v2 p2 j2 c2] m cL n=0,U0 n cM r=0,a3I c0 c1 c2 cL x0 x1 x2 cY n])
  |_,_,_=>none
 |_=>none
def c3Q:O8:=e7 16 [.one .ext,.str [.lls 0,.lst 0],.one .ext] c5s
theorem a8G:Known zP0q (clsO c3Q):=x6 (fun vs r ps h hp=>by
 unfold c5s at h
 split at h
 ·split at h
  ·cases h
   obtain ⟨rfl,rfl,⟨rfl,P0,rfl,rfl⟩,⟨rfl,P1,rfl,rfl⟩,⟨rfl,P2,rfl,rfl⟩,⟨rfl,L,rfl,rfl⟩,⟨rfl,M,rfl,rfl⟩,⟨rfl,X0,rfl,rfl⟩,⟨-,X1,rfl,rfl⟩,⟨-,X2,rfl,rfl⟩,⟨rfl,Y,rfl,rfl⟩,h0,h1,h2,h3,rfl,hC,hH,⟨m3,m0,m1,m2⟩,-⟩:=hp
   rename_i y v0 v1 v2 yl z
   refine ⟨⟨(y9 (X3 (S3 (L5 [(v0,P0),(v1,P1),(v2,P2)])) (X3 (S3 (V3 (X4 L))) R4))),⟨⟨⟨_,Z2 X0⟩,⟨_,Z2 X1⟩,⟨_,Z2 X2⟩,trivial⟩,⟨_,Z2 Y⟩,trivial⟩,S3 (V3 (Z2 M)),trivial⟩,⟨[[[]],[[undef,undef,undef,undef],[undef]],[[]]],⟨trivial,⟨rfl,trivial,trivial⟩,trivial,trivial⟩⟩,fun ys hy=>?_⟩
   match ys,hy with
   |[zs,[[u,w0,w1,w2],us],zs2],_ =>
    have hT:=a9i (cE:=Y5 [(v0,P0),(v1,P1),(v2,P2)]) (cX:=Y6 [(w0,X0),(w1,X1),(w2,X2)]) (m:=[(w0,X0),(w1,X1),(w2,X2)].length) h3 (eyB_true.2 ⟨rfl,fun i hi=>by match i,hi with|0,_=>exact h0|1,_=>exact h1|2,_=>exact h2⟩) (allB_true.2 m3) (fun i hi=>allB_true.2 (fun b hb=>by match i,hi with|0,_=>exact m0 b hb|1,_=>exact m1 b hb|2,_=>exact m2 b hb))
    have hg:=c18 y [(v0,P0),(v1,P1),(v2,P2)] yl L u [(w0,X0),(w1,X1),(w2,X2)] (us.headD undef) Y z M (show 3≤1000 by decide) (show 3≤1000 by decide) (by have h9:=(W6 hH).1;have h8:=(W3 hC).1;omega) hC hH hT
    rw [a27,a7W (by decide),a7W (by decide),a7W (by decide)] at hg
    exact a7O hg (b99 _ _ (show N4 [.v (.int .i64 (V5 (K3 (cI X0) (cI X1) (cI X2) (cI Y) (cI M) 0) L.length)),.v (.int .i64 (V5 (K3 (cI X0) (cI X1) (cI X2) (cI Y) (cI M) 1) L.length)),.v (.int .i64 (V5 (K3 (cI X0) (cI X1) (cI X2) (cI Y) (cI M) 2) L.length))]=some _ from rfl))
  ·cases h
 ·cases h)
end
end Go.Proofs.Ytegmogadbnfbgaa
set_option maxHeartbeats 2000000
namespace Go.Proofs.Ytegmogadbnfbgaa
open Go Ev
noncomputable section
section
variable (E : List (Value × List (Int × Int))) (K : List Int) (L : List (Int × Int)) (M : List Int) (y yl z zk : Value)
@[reducible] def b5k:Ev.AV:=(.agg [.xl y E.length 1 (Y5 E),.xl yl L.length 2 (cR L)])
@[reducible] def b9V:Ev.Lit:=⟨[(0,(b5k E L y yl)),(1,(.xl z M.length 1 (cI M))),(2,(.xl zk K.length 1 (cI K)))],[],0,[]⟩
end
noncomputable def c7M:Code:=O4 Try.f42
theorem c6O(y:Value)(E:List (Value×List (Int×Int)))(yl:Value)(L:List (Int×Int))(z:Value)(M:List Int)(zk:Value)(K:List Int)(hF:B0 (Y5 E) E.length L.length=false∧M.length≤20∧K.length≤20∧M1 (T6 (Y5 E) E.length (cR L) L.length) (U0 L.length (cI M) M.length) (U0 L.length (cI K) K.length)=0)(w:World)(hs:List Nat):Y7 zP0q 27 c7M ((b9V E K L M y yl z zk)) (BaseW.H w hs) (V8 zP0q Try.f42 27 (.bool true) w):=by
 have hcl_L:=Z7 L
 have hcl_M:=Z4 M
 have hcl_K:=Z4 K
 rcases zB0q (B0 (Y5 E) E.length L.length) with hqfit3_1|hqfit3_1
 ·exact absurd hqfit3_1 (by rw [hF.1];decide)
 ·have hE6:=c01 (show ¬ B0 (Y5 E) E.length L.length=true by rw [hqfit3_1];decide)
  rcases zB0q (Y2 20 M.length) with hqfit3_2|hqfit3_2
  ·have ghqfit3_2:=X5 hqfit3_2
   exfalso
   have h9:=X5 hqfit3_2
   have h8:=hF.2.1
   omega
  ·have ghqfit3_2:=Z5 hqfit3_2
   rcases zB0q (Y2 20 K.length) with hqfit3_3|hqfit3_3
   ·have ghqfit3_3:=X5 hqfit3_3
    exfalso
    have h9:=X5 hqfit3_3
    have h8:=hF.2.2.1
    omega
   ·have ghqfit3_3:=Z5 hqfit3_3
    rcases zB0q (R3 (T6 (Y5 E) E.length (cR L) L.length) 0) with hqfit3_4|hqfit3_4
    ·have ghqfit3_4:=X8 hqfit3_4
     have hnE:=(W3 (X8 hqfit3_4)).1
     rcases zB0q (R3 (U0 L.length (cI M) M.length) 0) with hqfit3_5|hqfit3_5
     ·have ghqfit3_5:=X8 hqfit3_5
      exact Z8 U9 (Z6 zC0q (Y1 s4 (Y1 d7 c5)) 200 (T':=⟨[(6,(.v (.bool (R3 (U0 L.length (cI K) K.length) 0))))],[],2,[]⟩) (e:=.ret) (ps:=[U4 1 (Y5 E) E.length,Y3 2 L.length (cR L),(!B0 (Y5 E) E.length L.length)=true,true=true,true=true,(!Y2 20 M.length)=true,true=true,true=true,(!Y2 20 K.length)=true,true=true,true=true,true=true,U4 1 (Y5 E) E.length,Y3 2 L.length (cR L),E.length≤1000,(!R3 (T6 (Y5 E) E.length (cR L) L.length) 0)=false,U4 1 (Y5 E) E.length,Y3 2 L.length (cR L),T7 1 M.length (cI M),L.length≤1000,(!R3 (U0 L.length (cI M) M.length) 0)=false,U4 1 (Y5 E) E.length,Y3 2 L.length (cR L),T7 1 K.length (cI K),L.length≤1000,true=true]) (gH 5 ([.b true,.go,.b true,.go,.b true,.go,.go,.go,.b true,.go,.b true,.go,.b true,.go,.go,.go,.b true,.go,.b true,.go,.b true,.go,.b true]++gH 4 [.b false,.go,.go,.go,.b false,.go,.go,.go,.b true,.go,.go,.go])) (by kernel_rfl) (by kernel_rfl) ⟨⟨rfl,E,rfl,rfl⟩,⟨rfl,L,rfl,rfl⟩,(by rw [hqfit3_1];rfl),rfl,rfl,(by rw [hqfit3_2];rfl),rfl,rfl,(by rw [hqfit3_3];rfl),rfl,rfl,rfl,⟨rfl,E,rfl,rfl⟩,⟨rfl,L,rfl,rfl⟩,(by omega),(by rw [hqfit3_4];rfl),⟨rfl,E,rfl,rfl⟩,⟨rfl,L,rfl,rfl⟩,⟨rfl,M,rfl,rfl⟩,(by omega),(by rw [hqfit3_5];rfl),⟨rfl,E,rfl,rfl⟩,⟨rfl,L,rfl,rfl⟩,⟨rfl,K,rfl,rfl⟩,(by omega),rfl,trivial⟩ rfl) (Hd.en_eq (r:=(.bool (R3 (U0 L.length (cI K) K.length) 0))) (by (rw [v8,decide_eq_true (a40 hF.2.2.2).2.2])) (Hd.en_ret (v:=(.v (.bool (R3 (U0 L.length (cI K) K.length) 0)))) (by kernel_rfl) rfl))
     ·have ghqfit3_5:=V7 hqfit3_5
      exact absurd (a40 hF.2.2.2).2.1 (V7 hqfit3_5)
    ·have ghqfit3_4:=V7 hqfit3_4
     exact absurd (a40 hF.2.2.2).1 (V7 hqfit3_4)
theorem c7k(y:Value)(E:List (Value×List (Int×Int)))(yl:Value)(L:List (Int×Int))(z:Value)(M:List Int)(zk:Value)(K:List Int)(hF:B0 (Y5 E) E.length L.length=false∧M.length≤20∧K.length≤20∧M1 (T6 (Y5 E) E.length (cR L) L.length) (U0 L.length (cI M) M.length) (U0 L.length (cI K) K.length)=0):GivesA zP0q 42 [(b5k E L y yl),(.xl z M.length 1 (cI M)),(.xl zk K.length 1 (cI K))] (.bool true) :=
 U5 27 Try.func42 (by kernel_rfl) (by kernel_rfl) (by kernel_rfl) (fun w=>V6 (by kernel_rfl) (by kernel_rfl) (by kernel_rfl) (by kernel_rfl) (c6O y E yl L z M zk K hF w []))
noncomputable def c6v:Code:=O4 Try.f42
theorem c75(y:Value)(E:List (Value×List (Int×Int)))(yl:Value)(L:List (Int×Int))(z:Value)(M:List Int)(zk:Value)(K:List Int)(hF:¬ (B0 (Y5 E) E.length L.length=false∧M.length≤20∧K.length≤20∧M1 (T6 (Y5 E) E.length (cR L) L.length) (U0 L.length (cI M) M.length) (U0 L.length (cI K) K.length)=0))(w:World)(hs:List Nat):Y7 zP0q 27 c6v ((b9V E K L M y yl z zk)) (BaseW.H w hs) (V8 zP0q Try.f42 27 (.bool false) w):=by
 have hcl_L:=Z7 L
 have hcl_M:=Z4 M
 have hcl_K:=Z4 K
 rcases zB0q (B0 (Y5 E) E.length L.length) with hqfif3_1|hqfif3_1
 ·exact Z8 U9 (Z6 zC0q (Y1 s4 (Y1 d7 c5)) 200 (T':=⟨[(6,(.v (.bool .false)))],[],1,[]⟩) (e:=.ret) (ps:=[U4 1 (Y5 E) E.length,Y3 2 L.length (cR L),(!B0 (Y5 E) E.length L.length)=false,false=false,false=false,false=false,false=false,false=false,false=false,false=false,false=false,false=false,false=false]) (gH 5 [.b false,.b false,.b false,.go,.go,.b false,.b false,.b false,.go,.go,.b false,.b false,.b false,.b false,.b false,.go,.go]) (by kernel_rfl) (by kernel_rfl) ⟨⟨rfl,E,rfl,rfl⟩,⟨rfl,L,rfl,rfl⟩,(by rw [hqfif3_1];rfl),rfl,rfl,rfl,rfl,rfl,rfl,rfl,rfl,rfl,rfl,trivial⟩ rfl) (Hd.en_eq (r:=(.bool .false)) (by rfl) (Hd.en_ret (v:=(.v (.bool .false))) (by kernel_rfl) rfl))
 ·have hE6:=c01 (show ¬ B0 (Y5 E) E.length L.length=true by rw [hqfif3_1];decide)
  rcases zB0q (Y2 20 M.length) with hqfif3_2|hqfif3_2
  ·have ghqfif3_2:=X5 hqfif3_2
   exact Z8 U9 (Z6 zC0q (Y1 s4 (Y1 d7 c5)) 200 (T':=⟨[(6,(.v (.bool .false)))],[],1,[]⟩) (e:=.ret) (ps:=[U4 1 (Y5 E) E.length,Y3 2 L.length (cR L),(!B0 (Y5 E) E.length L.length)=true,true=true,true=true,(!Y2 20 M.length)=false,false=false,false=false,false=false,false=false,false=false,false=false,false=false]) (gH 5 [.b true,.go,.b true,.go,.b true,.go,.go,.go,.b false,.b false,.b false,.go,.go,.b false,.b false,.b false,.b false,.b false,.go,.go]) (by kernel_rfl) (by kernel_rfl) ⟨⟨rfl,E,rfl,rfl⟩,⟨rfl,L,rfl,rfl⟩,(by rw [hqfif3_1];rfl),rfl,rfl,(by rw [hqfif3_2];rfl),rfl,rfl,rfl,rfl,rfl,rfl,rfl,trivial⟩ rfl) (Hd.en_eq (r:=(.bool .false)) (by rfl) (Hd.en_ret (v:=(.v (.bool .false))) (by kernel_rfl) rfl))
  ·have ghqfif3_2:=Z5 hqfif3_2
   rcases zB0q (Y2 20 K.length) with hqfif3_3|hqfif3_3
   ·have ghqfif3_3:=X5 hqfif3_3
    exact Z8 U9 (Z6 zC0q (Y1 s4 (Y1 d7 c5)) 200 (T':=⟨[(6,(.v (.bool .false)))],[],1,[]⟩) (e:=.ret) (ps:=[U4 1 (Y5 E) E.length,Y3 2 L.length (cR L),(!B0 (Y5 E) E.length L.length)=true,true=true,true=true,(!Y2 20 M.length)=true,true=true,true=true,(!Y2 20 K.length)=false,false=false,false=false,false=false,false=false]) (gH 5 [.b true,.go,.b true,.go,.b true,.go,.go,.go,.b true,.go,.b true,.go,.b true,.go,.go,.go,.b false,.b false,.b false,.b false,.b false,.go,.go]) (by kernel_rfl) (by kernel_rfl) ⟨⟨rfl,E,rfl,rfl⟩,⟨rfl,L,rfl,rfl⟩,(by rw [hqfif3_1];rfl),rfl,rfl,(by rw [hqfif3_2];rfl),rfl,rfl,(by rw [hqfif3_3];rfl),rfl,rfl,rfl,rfl,trivial⟩ rfl) (Hd.en_eq (r:=(.bool .false)) (by rfl) (Hd.en_ret (v:=(.v (.bool .false))) (by kernel_rfl) rfl))
   ·have ghqfif3_3:=Z5 hqfif3_3
    rcases zB0q (R3 (T6 (Y5 E) E.length (cR L) L.length) 0) with hqfif3_4|hqfif3_4
    ·have ghqfif3_4:=X8 hqfif3_4
     have hnE:=(W3 (X8 hqfif3_4)).1
     rcases zB0q (R3 (U0 L.length (cI M) M.length) 0) with hqfif3_5|hqfif3_5
     ·have ghqfif3_5:=X8 hqfif3_5
      exact Z8 U9 (Z6 zC0q (Y1 s4 (Y1 d7 c5)) 200 (T':=⟨[(6,(.v (.bool (R3 (U0 L.length (cI K) K.length) 0))))],[],2,[]⟩) (e:=.ret) (ps:=[U4 1 (Y5 E) E.length,Y3 2 L.length (cR L),(!B0 (Y5 E) E.length L.length)=true,true=true,true=true,(!Y2 20 M.length)=true,true=true,true=true,(!Y2 20 K.length)=true,true=true,true=true,true=true,U4 1 (Y5 E) E.length,Y3 2 L.length (cR L),E.length≤1000,(!R3 (T6 (Y5 E) E.length (cR L) L.length) 0)=false,U4 1 (Y5 E) E.length,Y3 2 L.length (cR L),T7 1 M.length (cI M),L.length≤1000,(!R3 (U0 L.length (cI M) M.length) 0)=false,U4 1 (Y5 E) E.length,Y3 2 L.length (cR L),T7 1 K.length (cI K),L.length≤1000,true=true]) (gH 5 ([.b true,.go,.b true,.go,.b true,.go,.go,.go,.b true,.go,.b true,.go,.b true,.go,.go,.go,.b true,.go,.b true,.go,.b true,.go,.b true]++gH 4 [.b false,.go,.go,.go,.b false,.go,.go,.go,.b true,.go,.go,.go])) (by kernel_rfl) (by kernel_rfl) ⟨⟨rfl,E,rfl,rfl⟩,⟨rfl,L,rfl,rfl⟩,(by rw [hqfif3_1];rfl),rfl,rfl,(by rw [hqfif3_2];rfl),rfl,rfl,(by rw [hqfif3_3];rfl),rfl,rfl,rfl,⟨rfl,E,rfl,rfl⟩,⟨rfl,L,rfl,rfl⟩,(by omega),(by rw [hqfif3_4];rfl),⟨rfl,E,rfl,rfl⟩,⟨rfl,L,rfl,rfl⟩,⟨rfl,M,rfl,rfl⟩,(by omega),(by rw [hqfif3_5];rfl),⟨rfl,E,rfl,rfl⟩,⟨rfl,L,rfl,rfl⟩,⟨rfl,K,rfl,rfl⟩,(by omega),rfl,trivial⟩ rfl) (Hd.en_eq (r:=(.bool (R3 (U0 L.length (cI K) K.length) 0))) (by (rw [v8,decide_eq_false (fun h7=>hF ⟨hqfif3_1,by have h9:=Z5 hqfif3_2;omega,by have h9:=Z5 hqfif3_3;omega,(a19 (X8 hqfif3_4) (X8 hqfif3_5)).trans h7⟩)])) (Hd.en_ret (v:=(.v (.bool (R3 (U0 L.length (cI K) K.length) 0)))) (by kernel_rfl) rfl))
     ·have ghqfif3_5:=V7 hqfif3_5
      exact Z8 U9 (Z6 zC0q (Y1 s4 (Y1 d7 c5)) 200 (T':=⟨[(6,(.v (.bool (R3 (U0 L.length (cI M) M.length) 0))))],[],2,[]⟩) (e:=.ret) (ps:=[U4 1 (Y5 E) E.length,Y3 2 L.length (cR L),(!B0 (Y5 E) E.length L.length)=true,true=true,true=true,(!Y2 20 M.length)=true,true=true,true=true,(!Y2 20 K.length)=true,true=true,true=true,true=true,U4 1 (Y5 E) E.length,Y3 2 L.length (cR L),E.length≤1000,(!R3 (T6 (Y5 E) E.length (cR L) L.length) 0)=false,U4 1 (Y5 E) E.length,Y3 2 L.length (cR L),T7 1 M.length (cI M),L.length≤1000,(!R3 (U0 L.length (cI M) M.length) 0)=true,U4 1 (Y5 E) E.length,Y3 2 L.length (cR L),T7 1 M.length (cI M),L.length≤1000,true=true]) (gH 5 ([.b true,.go,.b true,.go,.b true,.go,.go,.go,.b true,.go,.b true,.go,.b true,.go,.go,.go,.b true,.go,.b true,.go,.b true,.go,.b true]++gH 4 [.b false,.go,.go,.go,.b true,.go,.go,.go,.b true,.go,.go,.go])) (by kernel_rfl) (by kernel_rfl) ⟨⟨rfl,E,rfl,rfl⟩,⟨rfl,L,rfl,rfl⟩,(by rw [hqfif3_1];rfl),rfl,rfl,(by rw [hqfif3_2];rfl),rfl,rfl,(by rw [hqfif3_3];rfl),rfl,rfl,rfl,⟨rfl,E,rfl,rfl⟩,⟨rfl,L,rfl,rfl⟩,(by omega),(by rw [hqfif3_4];rfl),⟨rfl,E,rfl,rfl⟩,⟨rfl,L,rfl,rfl⟩,⟨rfl,M,rfl,rfl⟩,(by omega),(by rw [hqfif3_5];rfl),⟨rfl,E,rfl,rfl⟩,⟨rfl,L,rfl,rfl⟩,⟨rfl,M,rfl,rfl⟩,(by omega),rfl,trivial⟩ rfl) (Hd.en_eq (r:=(.bool (R3 (U0 L.length (cI M) M.length) 0))) (by (rw [hqfif3_5])) (Hd.en_ret (v:=(.v (.bool (R3 (U0 L.length (cI M) M.length) 0)))) (by kernel_rfl) rfl))
    ·have ghqfif3_4:=V7 hqfif3_4
     exact Z8 U9 (Z6 zC0q (Y1 s4 (Y1 d7 c5)) 200 (T':=⟨[(6,(.v (.bool (R3 (T6 (Y5 E) E.length (cR L) L.length) 0))))],[],2,[]⟩) (e:=.ret) (ps:=[U4 1 (Y5 E) E.length,Y3 2 L.length (cR L),(!B0 (Y5 E) E.length L.length)=true,true=true,true=true,(!Y2 20 M.length)=true,true=true,true=true,(!Y2 20 K.length)=true,true=true,true=true,true=true,U4 1 (Y5 E) E.length,Y3 2 L.length (cR L),E.length≤1000,(!R3 (T6 (Y5 E) E.length (cR L) L.length) 0)=true,U4 1 (Y5 E) E.length,Y3 2 L.length (cR L),E.length≤1000,true=true]) (gH 5 ([.b true,.go,.b true,.go,.b true,.go,.go,.go,.b true,.go,.b true,.go,.b true,.go,.go,.go,.b true,.go,.b true,.go,.b true,.go,.b true]++gH 4 [.b true,.go,.go,.b true,.go,.go,.go])) (by kernel_rfl) (by kernel_rfl) ⟨⟨rfl,E,rfl,rfl⟩,⟨rfl,L,rfl,rfl⟩,(by rw [hqfif3_1];rfl),rfl,rfl,(by rw [hqfif3_2];rfl),rfl,rfl,(by rw [hqfif3_3];rfl),rfl,rfl,rfl,⟨rfl,E,rfl,rfl⟩,⟨rfl,L,rfl,rfl⟩,(by omega),(by rw [hqfif3_4];rfl),⟨rfl,E,rfl,rfl⟩,⟨rfl,L,rfl,rfl⟩,(by omega),rfl,trivial⟩ rfl) (Hd.en_eq (r:=(.bool (R3 (T6 (Y5 E) E.length (cR L) L.length) 0))) (by (rw [hqfif3_4])) (Hd.en_ret (v:=(.v (.bool (R3 (T6 (Y5 E) E.length (cR L) L.length) 0)))) (by kernel_rfl) rfl))
theorem c4R(y:Value)(E:List (Value×List (Int×Int)))(yl:Value)(L:List (Int×Int))(z:Value)(M:List Int)(zk:Value)(K:List Int)(hF:¬ (B0 (Y5 E) E.length L.length=false∧M.length≤20∧K.length≤20∧M1 (T6 (Y5 E) E.length (cR L) L.length) (U0 L.length (cI M) M.length) (U0 L.length (cI K) K.length)=0)):GivesA zP0q 42 [(b5k E L y yl),(.xl z M.length 1 (cI M)),(.xl zk K.length 1 (cI K))] (.bool false) :=
 U5 27 Try.func42 (by kernel_rfl) (by kernel_rfl) (by kernel_rfl) (fun w=>V6 (by kernel_rfl) (by kernel_rfl) (by kernel_rfl) (by kernel_rfl) (c75 y E yl L z M zk K hF w []))
noncomputable def c8M:Code:=O4 Try.f22
theorem c93(y z:Value)(a0 a1 a2:Int)(w:World)(hs:List Nat):Y7 zP0q 26 c8M (⟨[(0,(.xl y 3 1 [nI0 a0,nI0 a1,nI0 a2])),(1,(.xl z 3 1 [nI0 a0,nI0 a1,nI0 a2]))],[],0,[]⟩) (BaseW.H w hs) (V8 zP0q Try.f22 26 (.bool true) w):=by
 rcases zB0q (R3 a0 a0) with hqlt3_1|hqlt3_1
 ·have ghqlt3_1:=X8 hqlt3_1
  rcases zB0q (R3 a1 a1) with hqlt3_2|hqlt3_2
  ·have ghqlt3_2:=X8 hqlt3_2
   rcases zB0q (R3 a2 a2) with hqlt3_3|hqlt3_3
   ·have ghqlt3_3:=X8 hqlt3_3
    exact Z8 U9 (Z6 zC0q (Z0) 200 (T':=⟨[(4,(.v (.bool .true)))],[],0,[]⟩) (e:=.ret) (ps:=[(!R3 3 3)=false,Y2 0 3=true,(!R3 a0 a0)=false,N3 IntKind.i64 (0+1),Y2 (0+1) 3=true,(!R3 a1 a1)=false,N3 IntKind.i64 (0+1+1),Y2 (0+1+1) 3=true,(!R3 a2 a2)=false,N3 IntKind.i64 (0+1+1+1),Y2 (0+1+1+1) 3=false]) (gH 6 ([.b false]++gH 5 ([.b true]++gH 9 ([.b false]++gH 7 ([.b true]++gH 9 ([.b false]++gH 7 ([.b true]++gH 9 ([.b false]++gH 7 [.b false,.go])))))))) (by kernel_rfl) (by kernel_rfl) ⟨(by simp [v8]),rfl,(by rw [hqlt3_1];rfl),(by show -9223372036854775808≤(_:Int)∧(_:Int)≤9223372036854775807;constructor<;>decide),rfl,(by rw [hqlt3_2];rfl),(by show -9223372036854775808≤(_:Int)∧(_:Int)≤9223372036854775807;constructor<;>decide),rfl,(by rw [hqlt3_3];rfl),(by show -9223372036854775808≤(_:Int)∧(_:Int)≤9223372036854775807;constructor<;>decide),rfl,trivial⟩ rfl) (Hd.en_eq (r:=(.bool .true)) (by rfl) (Hd.en_ret (v:=(.v (.bool .true))) (by kernel_rfl) rfl))
   ·have ghqlt3_3:=V7 hqlt3_3
    exact absurd rfl (V7 hqlt3_3)
  ·have ghqlt3_2:=V7 hqlt3_2
   exact absurd rfl (V7 hqlt3_2)
 ·have ghqlt3_1:=V7 hqlt3_1
  exact absurd rfl (V7 hqlt3_1)
theorem c7N(y z:Value)(a0 a1 a2:Int):GivesA zP0q 22 [(.xl y 3 1 [nI0 a0,nI0 a1,nI0 a2]),(.xl z 3 1 [nI0 a0,nI0 a1,nI0 a2])] (.bool true) :=
 U5 26 Try.func22 (by kernel_rfl) (by kernel_rfl) (by kernel_rfl) (fun w=>V6 (by kernel_rfl) (by kernel_rfl) (by kernel_rfl) (by kernel_rfl) (c93 y z a0 a1 a2 w []))
end
end Go.Proofs.Ytegmogadbnfbgaa
set_option maxHeartbeats 4000000
namespace Go.Proofs.Ytegmogadbnfbgaa
open Go Ev
noncomputable section
theorem a0I{a:Int}(h : -9223372036854775808≤a)(k:a≤9223372036854775807):N3 .i64 a:=⟨h,k⟩
section
variable (B : List Int) (L P0 P1 P2 : List (Int × Int)) (i j n : Nat) (v0 v1 v2 y yl zb : Value)
@[reducible] def O7:Nat×Ev.AV:=(1,(.xl (zb) (B.length) 1 (cH B)))
@[reducible] def l6:Ev.AB:=(.cells [(.xl (y) (3) 1 [(.xl (v0) (P0.length) 2 (cR P0)),(.xl (v1) (P1.length) 2 (cR P1)),(.xl (v2) (P2.length) 2 (cR P2))]),(.xl (yl) (L.length) 2 (cR L))] 25)
@[reducible] def O6:Nat×Ev.AB:=(0,(l6 L P0 P1 P2 v0 v1 v2 y yl))
@[reducible] def A6:Ev.AB:=(.cells [(.v (Value.slice none 0 0)),(.v (Value.slice none 0 0))] 29)
@[reducible] def P3:Nat×Ev.AB:=(1,A6)
@[reducible] def U3:Ev.AB:=(.row (cI (tI (D4 (cR L) (cH B) B.length 0) (n+1))) 2 1)
@[reducible] def M6:Nat×Ev.AB:=(3,(U3 B L n))
@[reducible] def b7t:Ev.Lit:=⟨[(O7 B zb),(2,(.ptr 0 0)),(4,(.ptr 1 0)),(5,(.ptr 2 0)),(6,(nI0 (((n+1):Nat):Int))),(8,(nI0 0))],[],4,[(O6 L P0 P1 P2 v0 v1 v2 y yl),P3,(2,(.cells [(.v (.slice none 0 0)),(.slu 3 0 (n+1) 0)] 29)),(M6 B L n)]⟩
@[reducible] def b9:Ev.AB:=(.cells [(.slu 4 0 1 0),(.slu 3 0 (n+1) 0)] 29)
@[reducible] def U1:Ev.AB:=(.row (cI (tI (D4 (cR P0) (cH B) B.length (n+1)) (n+1))) 2 1)
@[reducible] def H6:Nat×Ev.AB:=(5,(U1 B P0 n))
@[reducible] def b1s:Ev.Lit:=⟨[(O7 B zb),(2,(.ptr 0 0)),(4,(.ptr 1 0)),(5,(.ptr 2 0)),(6,(nI0 (((2*(n+1)):Nat):Int))),(8,(nI0 1))],[],6,[(O6 L P0 P1 P2 v0 v1 v2 y yl),P3,(2,(b9 n)),(M6 B L n),(4,(.row [(.slu 5 0 (n+1) 0)] 27 1)),(H6 B P0 n)]⟩
@[reducible] def d8:Ev.AB:=(.cells [(.slu 4 0 2 0),(.slu 3 0 (n+1) 0)] 29)
@[reducible] def p7:Ev.AB:=(.row [(.slu 5 0 (n+1) 0),(.slu 6 0 (n+1) 0)] 27 1)
@[reducible] def U8:Ev.AB:=(.row (cI (tI (D4 (cR P1) (cH B) B.length (2*(n+1))) (n+1))) 2 1)
@[reducible] def b2V:Ev.Lit:=⟨[(O7 B zb),(2,(.ptr 0 0)),(4,(.ptr 1 0)),(5,(.ptr 2 0)),(6,(nI0 (((3*(n+1)):Nat):Int))),(8,(nI0 2))],[],7,[(O6 L P0 P1 P2 v0 v1 v2 y yl),P3,(2,(d8 n)),(M6 B L n),(4,(p7 n)),(H6 B P0 n),(6,(U8 B P1 n))]⟩
@[reducible] def T8:Ev.AB:=(.row (cI (tI (D4 (cR P2) (cH B) B.length (3*(n+1))) (n+1))) 2 1)
@[reducible] def b7D:Ev.Lit:=⟨[(O7 B zb),(2,(.ptr 0 0)),(4,(.ptr 1 0)),(5,(.ptr 2 0)),(6,(nI0 (((4*(n+1)):Nat):Int))),(8,(nI0 3))],[],8,[(O6 L P0 P1 P2 v0 v1 v2 y yl),P3,(2,(.cells [(.slu 4 0 3 0),(.slu 3 0 (n+1) 0)] 29)),(M6 B L n),(4,(.row [(.slu 5 0 (n+1) 0),(.slu 6 0 (n+1) 0),(.slu 7 0 (n+1) 0)] 27 1)),(H6 B P0 n),(6,(U8 B P1 n)),(7,(T8 B P2 n))]⟩
@[reducible] def K7:=(Ev.fam0 ((b7t B L P0 P1 P2 n v0 v1 v2 y yl zb):Ev.Lit) (Ev.fam0 ((b1s B L P0 P1 P2 n v0 v1 v2 y yl zb):Ev.Lit) (Ev.fam0 ((b2V B L P0 P1 P2 n v0 v1 v2 y yl zb):Ev.Lit) (fun _=>((b7D B L P0 P1 P2 n v0 v1 v2 y yl zb):Ev.Lit)))))
@[reducible] def b3x:Ev.Lit:=⟨[(O7 B zb),(2,(.ptr 0 0)),(4,(.ptr 1 0)),(5,(.ptr 2 0)),(6,(nI0 (((3*(n+1))+(j+1):Nat):Int))),(8,(nI0 (.ofNat 2))),(9,(.slu 7 0 (j+1) 0)),(10,(nI0 (((j+1):Nat):Int)))],[],8,[(O6 L P0 P1 P2 v0 v1 v2 y yl),P3,(2,(d8 n)),(M6 B L n),(4,(p7 n)),(H6 B P0 n),(6,(U8 B P1 n)),(7,(.row (cI (tI (D4 (cR P2) (cH B) B.length (3*(n+1))) (j+1))) 2 1))]⟩
@[reducible] def b9F:Ev.Lit:=⟨[(O7 B zb),(2,(.ptr 0 0)),(4,(.ptr 1 0)),(5,(.ptr 2 0)),(6,(nI0 (((3*(n+1)+((n)+1):Nat):Int)))),(8,(nI0 (.ofNat 2))),(9,(.slu 7 0 ((n)+1) 0))],[],8,[(O6 L P0 P1 P2 v0 v1 v2 y yl),P3,(2,(d8 n)),(M6 B L n),(4,(p7 n)),(H6 B P0 n),(6,(U8 B P1 n)),(7,(.row (cI (tI (D4 (cR P2) (cH B) B.length (3*(n+1))) ((n)+1))) 2 1))]⟩
@[reducible] def c0i:Ev.Lit:=⟨[(O7 B zb),(2,(.ptr 0 0)),(4,(.ptr 1 0)),(5,(.ptr 2 0)),(6,(nI0 (((3*(n+1)+(n+1):Nat):Int)))),(8,(nI0 (.ofNat 2)))],[],10,[(O6 L P0 P1 P2 v0 v1 v2 y yl),P3,(2,(.cells [(.slu 9 0 3 0),(.slu 3 0 (n+1) 0)] 29)),(M6 B L n),(H6 B P0 n),(6,(U8 B P1 n)),(7,(T8 B P2 n)),(9,(.row [(.slu 5 0 (n+1) 0),(.slu 6 0 (n+1) 0),(.slu 7 0 (n+1) 0)] 27 1))]⟩
@[reducible] def b3W:Ev.Lit:=⟨[(O7 B zb),(2,(.ptr 0 0)),(4,(.ptr 1 0)),(5,(.ptr 2 0)),(6,(nI0 (((3*(n+1):Nat):Int)))),(8,(nI0 (.ofNat 2))),(9,(.v (Value.slice none 0 0))),(10,(nI0 0))],[],7,[(O6 L P0 P1 P2 v0 v1 v2 y yl),P3,(2,(d8 n)),(M6 B L n),(4,(p7 n)),(H6 B P0 n),(6,(U8 B P1 n))]⟩
@[reducible] def b6r:Ev.Lit:=⟨[(O7 B zb),(2,(.ptr 0 0)),(4,(.ptr 1 0)),(5,(.ptr 2 0)),(6,(nI0 (((3*(n+1):Nat):Int)))),(8,(nI0 (.ofNat 2))),(9,(.v (Value.slice none 0 0))),(10,(nI0 (.ofNat 0)))],[],7,[(O6 L P0 P1 P2 v0 v1 v2 y yl),P3,(2,(d8 n)),(M6 B L n),(4,(p7 n)),(H6 B P0 n),(6,(U8 B P1 n))]⟩
@[reducible] def b3C:Ev.Lit:=⟨[(O7 B zb),(2,(.ptr 0 0)),(4,(.ptr 1 0)),(5,(.ptr 2 0)),(6,(nI0 (((2*(n+1))+(j+1):Nat):Int))),(8,(nI0 (.ofNat 1))),(9,(.slu 6 0 (j+1) 0)),(10,(nI0 (((j+1):Nat):Int)))],[],7,[(O6 L P0 P1 P2 v0 v1 v2 y yl),P3,(2,(b9 n)),(M6 B L n),(4,(.row [(.slu 5 0 (n+1) 0)] 27 1)),(H6 B P0 n),(6,(.row (cI (tI (D4 (cR P1) (cH B) B.length (2*(n+1))) (j+1))) 2 1))]⟩
@[reducible] def b76:Ev.Lit:=⟨[(O7 B zb),(2,(.ptr 0 0)),(4,(.ptr 1 0)),(5,(.ptr 2 0)),(6,(nI0 (((3*(n+1):Nat):Int)))),(8,(nI0 (.ofNat 2))),(9,(.v (Value.slice none 0 0)))],[],7,[(O6 L P0 P1 P2 v0 v1 v2 y yl),P3,(2,(d8 n)),(M6 B L n),(4,(p7 n)),(H6 B P0 n),(6,(U8 B P1 n))]⟩
@[reducible] def b68:Ev.Lit:=⟨[(O7 B zb),(2,(.ptr 0 0)),(4,(.ptr 1 0)),(5,(.ptr 2 0)),(6,(nI0 (((2*(n+1)+((n)+1):Nat):Int)))),(8,(nI0 (.ofNat 1))),(9,(.slu 6 0 ((n)+1) 0))],[],7,[(O6 L P0 P1 P2 v0 v1 v2 y yl),P3,(2,(b9 n)),(M6 B L n),(4,(.row [(.slu 5 0 (n+1) 0)] 27 1)),(H6 B P0 n),(6,(.row (cI (tI (D4 (cR P1) (cH B) B.length (2*(n+1))) ((n)+1))) 2 1))]⟩
@[reducible] def b5i:Ev.Lit:=⟨[(O7 B zb),(2,(.ptr 0 0)),(4,(.ptr 1 0)),(5,(.ptr 2 0)),(6,(nI0 (((2*(n+1)+(n+1):Nat):Int)))),(8,(nI0 (.ofNat 1)))],[],9,[(O6 L P0 P1 P2 v0 v1 v2 y yl),P3,(2,(.cells [(.slu 8 0 2 0),(.slu 3 0 (n+1) 0)] 29)),(M6 B L n),(H6 B P0 n),(6,(U8 B P1 n)),(8,(p7 n))]⟩
@[reducible] def a9a:Ev.Lit:=⟨[(O7 B zb),(2,(.ptr 0 0)),(4,(.ptr 1 0)),(5,(.ptr 2 0)),(6,(nI0 (((3*(n+1):Nat):Int)))),(8,(nI0 (.ofNat 2)))],[],7,[(O6 L P0 P1 P2 v0 v1 v2 y yl),P3,(2,(d8 n)),(M6 B L n),(4,(p7 n)),(H6 B P0 n),(6,(U8 B P1 n))]⟩
@[reducible] def a9r:Ev.Lit:=⟨[(O7 B zb),(2,(.ptr 0 0)),(4,(.ptr 1 0)),(5,(.ptr 2 0)),(6,(nI0 (((2*(n+1):Nat):Int)))),(8,(nI0 (.ofNat 1))),(9,(.v (Value.slice none 0 0))),(10,(nI0 0))],[],6,[(O6 L P0 P1 P2 v0 v1 v2 y yl),P3,(2,(b9 n)),(M6 B L n),(4,(.row [(.slu 5 0 (n+1) 0)] 27 1)),(H6 B P0 n)]⟩
@[reducible] def b1y:Ev.Lit:=⟨[(O7 B zb),(2,(.ptr 0 0)),(4,(.ptr 1 0)),(5,(.ptr 2 0)),(6,(nI0 (((2*(n+1):Nat):Int)))),(8,(nI0 (.ofNat 1))),(9,(.v (Value.slice none 0 0))),(10,(nI0 (.ofNat 0)))],[],6,[(O6 L P0 P1 P2 v0 v1 v2 y yl),P3,(2,(b9 n)),(M6 B L n),(4,(.row [(.slu 5 0 (n+1) 0)] 27 1)),(H6 B P0 n)]⟩
@[reducible] def a0i:Ev.AB:=(.cells [(.v (Value.slice none 0 0)),(.slu 3 0 (n+1) 0)] 29)
@[reducible] def a8V:Ev.Lit:=⟨[(O7 B zb),(2,(.ptr 0 0)),(4,(.ptr 1 0)),(5,(.ptr 2 0)),(6,(nI0 (((n+1)+(j+1):Nat):Int))),(8,(nI0 (.ofNat 0))),(9,(.slu 4 0 (j+1) 0)),(10,(nI0 (((j+1):Nat):Int)))],[],5,[(O6 L P0 P1 P2 v0 v1 v2 y yl),P3,(2,(a0i n)),(M6 B L n),(4,(.row (cI (tI (D4 (cR P0) (cH B) B.length (n+1)) (j+1))) 2 1))]⟩
@[reducible] def b1o:Ev.Lit:=⟨[(O7 B zb),(2,(.ptr 0 0)),(4,(.ptr 1 0)),(5,(.ptr 2 0)),(6,(nI0 (((2*(n+1):Nat):Int)))),(8,(nI0 (.ofNat 1))),(9,(.v (Value.slice none 0 0)))],[],6,[(O6 L P0 P1 P2 v0 v1 v2 y yl),P3,(2,(b9 n)),(M6 B L n),(4,(.row [(.slu 5 0 (n+1) 0)] 27 1)),(H6 B P0 n)]⟩
@[reducible] def b8z:Ev.Lit:=⟨[(O7 B zb),(2,(.ptr 0 0)),(4,(.ptr 1 0)),(5,(.ptr 2 0)),(6,(nI0 (((n+1+((n)+1):Nat):Int)))),(8,(nI0 (.ofNat 0))),(9,(.slu 4 0 ((n)+1) 0))],[],5,[(O6 L P0 P1 P2 v0 v1 v2 y yl),P3,(2,(a0i n)),(M6 B L n),(4,(.row (cI (tI (D4 (cR P0) (cH B) B.length (n+1)) ((n)+1))) 2 1))]⟩
@[reducible] def b6O:Ev.Lit:=⟨[(O7 B zb),(2,(.ptr 0 0)),(4,(.ptr 1 0)),(5,(.ptr 2 0)),(6,(nI0 (((n+1+(n+1):Nat):Int)))),(8,(nI0 (.ofNat 0)))],[],7,[(O6 L P0 P1 P2 v0 v1 v2 y yl),P3,(2,(.cells [(.slu 6 0 1 0),(.slu 3 0 (n+1) 0)] 29)),(M6 B L n),(4,(U1 B P0 n)),(6,(.row [(.slu 4 0 (n+1) 0)] 27 1))]⟩
@[reducible] def a9L:Ev.Lit:=⟨[(O7 B zb),(2,(.ptr 0 0)),(4,(.ptr 1 0)),(5,(.ptr 2 0)),(6,(nI0 (((2*(n+1):Nat):Int)))),(8,(nI0 (.ofNat 1)))],[],6,[(O6 L P0 P1 P2 v0 v1 v2 y yl),P3,(2,(b9 n)),(M6 B L n),(4,(.row [(.slu 5 0 (n+1) 0)] 27 1)),(H6 B P0 n)]⟩
@[reducible] def a8J:Ev.Lit:=⟨[(O7 B zb),(2,(.ptr 0 0)),(4,(.ptr 1 0)),(5,(.ptr 2 0)),(6,(nI0 (((n+1:Nat):Int)))),(8,(nI0 (.ofNat 0))),(9,(.v (Value.slice none 0 0))),(10,(nI0 0))],[],4,[(O6 L P0 P1 P2 v0 v1 v2 y yl),P3,(2,(a0i n)),(M6 B L n)]⟩
@[reducible] def b1q:Ev.Lit:=⟨[(O7 B zb),(2,(.ptr 0 0)),(4,(.ptr 1 0)),(5,(.ptr 2 0)),(6,(nI0 (((n+1:Nat):Int)))),(8,(nI0 (.ofNat 0))),(9,(.v (Value.slice none 0 0))),(10,(nI0 (.ofNat 0)))],[],4,[(O6 L P0 P1 P2 v0 v1 v2 y yl),P3,(2,(a0i n)),(M6 B L n)]⟩
@[reducible] def b2x:Ev.Lit:=⟨[(O7 B zb),(2,(.ptr 0 0)),(4,(.ptr 1 0)),(5,(.ptr 2 0)),(6,(nI0 (((n+1:Nat):Int)))),(8,(nI0 (.ofNat 0))),(9,(.v (Value.slice none 0 0)))],[],4,[(O6 L P0 P1 P2 v0 v1 v2 y yl),P3,(2,(a0i n)),(M6 B L n)]⟩
@[reducible] def a9K:Ev.Lit:=⟨[(O7 B zb),(2,(.ptr 0 0)),(4,(.ptr 1 0)),(5,(.ptr 2 0)),(6,(nI0 (((i+1):Nat):Int))),(7,(nI0 (((i+1):Nat):Int)))],[],4,[(O6 L P0 P1 P2 v0 v1 v2 y yl),P3,(2,(.cells [(.v (.slice none 0 0)),(.slu 3 0 (i+1) 0)] 29)),(3,(.row (cI (tI (D4 (cR L) (cH B) B.length 0) (i+1))) 2 1))]⟩
@[reducible] def a2J:Ev.Lit:=⟨[(O7 B zb),(2,(.ptr 0 0)),(4,(.ptr 1 0)),(5,(.ptr 2 0)),(6,(nI0 (((n+1:Nat):Int)))),(8,(nI0 (.ofNat 0)))],[],4,[(O6 L P0 P1 P2 v0 v1 v2 y yl),P3,(2,(a0i n)),(M6 B L n)]⟩
@[reducible] def b6X:Ev.Lit:=⟨[(4,(.ptr 1 0)),(5,(.ptr 2 0))],[],8,[P3,(2,(.cells [(.slu 4 0 3 0),(.slu 3 0 (n+1) 0)] 29)),(M6 B L n),(4,(.row [(.slu 5 0 (n+1) 0),(.slu 6 0 (n+1) 0),(.slu 7 0 (n+1) 0)] 27 1)),(H6 B P0 n),(6,(U8 B P1 n)),(7,(T8 B P2 n))]⟩
@[reducible] def b1J:Ev.Lit:=⟨[(O7 B zb),(2,(.ptr 0 0)),(4,(.ptr 1 0)),(5,(.ptr 2 0)),(6,(nI0 ((((n)+1:Nat):Int))))],[],4,[(O6 L P0 P1 P2 v0 v1 v2 y yl),P3,(2,(.cells [(.v (Value.slice none 0 0)),(.slu 3 0 ((n)+1) 0)] 29)),(3,(.row (cI (tI (D4 (cR L) (cH B) B.length 0) ((n)+1))) 2 1))]⟩
@[reducible] def a98:Ev.Lit:=⟨[(O7 B zb),(2,(.ptr 0 0)),(4,(.ptr 1 0)),(5,(.ptr 2 0)),(6,(nI0 (.ofNat 0))),(7,(nI0 0))],[],3,[(O6 L P0 P1 P2 v0 v1 v2 y yl),P3,(2,A6)]⟩
@[reducible] def b1H:Ev.Lit:=⟨[(O7 B zb),(2,(.ptr 0 0)),(4,(.ptr 1 0)),(5,(.ptr 2 0)),(6,(nI0 (.ofNat 0))),(7,(nI0 (.ofNat 0)))],[],3,[(O6 L P0 P1 P2 v0 v1 v2 y yl),P3,(2,A6)]⟩
@[reducible] def b1V:Ev.Lit:=⟨[(O7 B zb),(2,(.ptr 0 0)),(4,(.ptr 1 0)),(5,(.ptr 2 0)),(6,(nI0 (.ofNat 0)))],[],3,[(O6 L P0 P1 P2 v0 v1 v2 y yl),P3,(2,A6)]⟩
@[reducible] def b52:Ev.Lit:=⟨[(O7 B zb),(2,(.ptr 0 0)),(4,(.ptr 1 0)),(5,(.ptr 2 0))],[],3,[(O6 L P0 P1 P2 v0 v1 v2 y yl),P3,(2,A6)]⟩
@[reducible] def b8m:Ev.Lit:=⟨[(O7 B zb),(2,(.ptr 0 0)),(4,(.ptr 1 0))],[],2,[(O6 L P0 P1 P2 v0 v1 v2 y yl),P3]⟩
@[reducible] def S2:Ev.AB:=(.row [.slu 2 0 (n+1) 0,.slu 3 0 (n+1) 0,.slu 4 0 (n+1) 0] 27 1)
end
def IsH(j m:Nat)(c:List AV):Prop:=j=1∧∃ B,c=cH B∧m=B.length∧Q9 B
def pkS:List AV→Option (A0×List Prop):=fun vs =>
 match vs with
 |[.agg [.v a0,.v a1],.xl z m j c,.v a2]=>match a38 a0,a38 a1,a38 a2 with
  |some lo,some hi,some k=>some (.val (.v (.int .i64 (pkV lo hi c m k.toNat))),[IsH j m c,0≤lo∧lo≤hi∧hi≤1000,0≤k∧k≤1000])
  |_,_,_=>none
 |_=>none
def pkO:O8:=E8 47 pkS
theorem S4:Known zP0q (clsO pkO):=K8 (fun vs r ps h hp=>by
 unfold pkS at h
 split at h
 ·split at h
  ·rename_i lo hi k e1 e2 e3
   cases h
   obtain ⟨⟨rfl,B,rfl,rfl,hB⟩,h1,h2,-⟩:=hp
   rw [y8 e1,y8 e2,y8 e3]
   obtain ⟨k,rfl⟩:∃ q:Nat,k=((q:Nat):Int):=⟨k.toNat,by omega⟩
   exact ⟨X3 (y9 (X3 (a34 _) (X3 (a34 _) R4))) (X3 (S3 (V3 (J0 B))) (X3 (a34 _) R4)),_,rfl,d01 lo hi _ B k h1 hB (by omega)⟩
  ·cases h
 ·cases h)
noncomputable def c59:Code:=O4 Try.f43
noncomputable def c4s:Code:=M5 c59
noncomputable def c50:Code:=M5 c4s
noncomputable def c34:Code:=M5 c50
noncomputable def a5h:Code:=M5 c34
noncomputable def c0Q:Code:=(f9 c34)
noncomputable def b8C:Code:=M5 c0Q
noncomputable def b9W:Code:=H3 b8C
section
variable {B:List Int} {L P0 P1 P2:List (Int×Int)} {eb:Nat→Option Nat} {ec:Nat→Nat} {hs:List Nat} {i j n:Nat} {v:BaseW} {v0 v1 v2 y yl zb:Value}
theorem c7h(hT:m6 L P0 P1 P2 n)(hB:Q9 B)(hi1:0≤(n+1))(hi2:True):Y7 zP0q 73 b9W ((a98 B L P0 P1 P2 v0 v1 v2 y yl zb)) (BaseW.H (bw v 0 eb ec) hs) (Hd.StepC zP0q 73 0 (fun i:{i:Nat // i≤(n+1)∧True}=>Ev.fam0 (a98 B L P0 P1 P2 v0 v1 v2 y yl zb) (fun i=>(a9K B L P0 P1 P2 i v0 v1 v2 y yl zb)) i.1) (fun i:{i:Nat // i≤(n+1)∧True}=>(n+1) - i.1) a5h (bw v 0 eb ec) (T4 zP0q Try.f43 73 ((.agg [.slu 0 0 3 0,.slu 1 0 (n+1) 0])) [(S2 n),(U3 B L n),(U1 B P0 n),(U8 B P1 n),(T8 B P2 n)] (bw v 0 eb ec)) (⟨0,hi1,hi2⟩:{i:Nat // i≤(n+1)∧True})):=by
 have hcl_P0:=Z7 P0
 have hcl_P1:=Z7 P1
 have hcl_P2:=Z7 P2
 have hcl_L:=Z7 L
 have hcl_B:=Z4 B
 obtain ⟨hn,hn8,hp0,hp1,hp2,hL,hc0,hc1,hc2⟩:=(id hT)
 rcases zB0q (Y2 0 L.length) with hqtr22_1|hqtr22_1
 ·have ghqtr22_1:=X5 hqtr22_1
  exact Z8 W4 (O5 zC0q (S4) 200 (T':=⟨[(O7 B zb),(2,(.ptr 0 0)),(4,(.ptr 1 0)),(5,(.ptr 2 0)),(6,(nI0 (((0+1):Nat):Int))),(7,(nI0 (((0+1):Nat):Int)))],[],4,[(O6 L P0 P1 P2 v0 v1 v2 y yl),P3,(2,(.cells [(.v (.slice none 0 0)),(.slu 3 0 (0+1) 0)] 29)),(3,(.row (cI (tI (D4 (cR L) (cH B) B.length 0) (0+1))) 2 1))]⟩) (e:=.normal) (m:=5) (ps:=[Y2 0 L.length=true,0<L.length,W7 zP0q (cR L) (0*2) 65=some (AV.agg [AV.v (Value.int IntKind.i64 (Z9 (cR L) (0*2+0))),AV.v (Value.int IntKind.i64 (Z9 (cR L) (0*2+1)))]),IsH 1 B.length (cH B),0≤Z9 (cR L) (0*2+0)∧Z9 (cR L) (0*2+0)≤Z9 (cR L) (0*2+1)∧Z9 (cR L) (0*2+1)≤1000,0≤(0:Int)∧(0:Int)≤1000,N3 IntKind.i64 ((0:Int)+1),N3 IntKind.i64 (((0:Nat):Int)+1)]) (gH 5 ([.b true]++gH 5 ([.sym,.sym]++gH 12 []))) [0,1,2,4] [(.xl (zb) (B.length) 1 (cH B)),(.ptr 0 0),(.ptr 1 0),(.ptr 2 0),(nI0 (.ofNat 1)),(nI0 (.ofNat 1))] [(l6 L P0 P1 P2 v0 v1 v2 y yl),A6,(.cells [(.v (Value.slice none 0 0)),(.slu 4 0 1 0)] 29),(.row [(nI0 (pkV (Z9 (cR L) (0*2+0)) (Z9 (cR L) (0*2+1)) (cH B) B.length ((0:Int)).toNat))] 2 1)] (by kernel_rfl) (by kernel_rfl) ⟨hqtr22_1,(by omega),(L2 (by omega) 65 (Try.underlying65) rfl (inf:=(Try.prog.info? 65).getD default) (by kernel_rfl) (by kernel_rfl)),⟨rfl,B,rfl,rfl,hB⟩,(by have h9:=hL 0 (by omega);unfold X7 at h9;omega),(by constructor<;>omega),(a0I (by omega) (by omega)),(a0I (by omega) (by omega)),trivial⟩ rfl rfl (by decide) rfl ⟨N8 (Y4 (J0 B)),V0 rfl,V0 rfl,V0 rfl,J8 (show (1:Int)=(((0+1):Nat):Int) from by omega),J8 (show (1:Int)=(((0+1):Nat):Int) from by omega),trivial⟩ ⟨⟨by show 0<4;decide,X6 (Z3 (S5 (W8 (X9 [(v0,P0),(v1,P1),(v2,P2)]))) (Z3 (N8 (Y4 (X4 L))) (Y0)))⟩,⟨by show 1<4;decide,X6 (Z3 (N7 _) (Z3 (N7 _) (Y0)))⟩,⟨by show 2<4;decide,X6 (Z3 (N7 _) (Z3 (T9 rfl) (Y0)))⟩,⟨by show 3<4;decide,V2 (l8 (show ((cI (tI (D4 (cR L) (cH B) B.length 0) (0+1))):List AV)=[(nI0 (pkV (Z9 (cR L) (0*2+0)) (Z9 (cR L) (0*2+1)) (cH B) B.length ((0:Int)).toNat))] from by (first|exact (a1g rfl (by unfold D4;rfl)).symm|exact (a1j (by unfold D4;rw [Nat.zero_add];rfl)).symm)) (Z2 _))⟩,trivial⟩) (Hd.en_on (⟨0+1,by omega,trivial⟩) (by show (n+1) - (0+1)<(n+1) - 0;omega) rfl)
 ·have ghqtr22_1:=Z5 hqtr22_1
  exfalso;omega
noncomputable def M3:Code:=M5 a5h
noncomputable def c0s:Code:=(f9 a5h)
noncomputable def b8x:Code:=M5 c0s
noncomputable def b1h:Code:=H3 b8x
noncomputable def a5a:Code:=M5 b1h
noncomputable def H7:Code:=M5 a5a
noncomputable def b3s:Code:=a72 (f9 a5a)
noncomputable def b15:Code:=M5 b3s
noncomputable def s6:Code:=M5 b15
noncomputable def b3L:Code:=(f9 b15)
noncomputable def a6m:Code:=M5 b3L
noncomputable def a7Q:Code:=H3 a6m
theorem c4H(hT:m6 L P0 P1 P2 n)(hB:Q9 B)(h0b:True)(hqtr24_1:(Y2 (((n)+1:Nat):Int) L.length)=false)(hj1:0≤(n+1))(hj2:True):Y7 zP0q 73 a7Q ((a8J B L P0 P1 P2 n v0 v1 v2 y yl zb)) (BaseW.H (bw v 0 eb ec) hs) (Hd.StepC zP0q 73 4 (fun j:{j:Nat // j≤(n+1)∧True}=>Ev.fam0 (a8J B L P0 P1 P2 n v0 v1 v2 y yl zb) (fun j=>(a8V B L P0 P1 P2 j n v0 v1 v2 y yl zb)) j.1) (fun j:{j:Nat // j≤(n+1)∧True}=>(n+1) - j.1) s6 (bw v 0 eb ec) (Hd.AfterB zP0q 73 3 H7 (bw v 0 eb ec) (Hd.StepC zP0q 73 2 (fun i:{i:Nat // i≤3∧True}=>(K7 B L P0 P1 P2 n v0 v1 v2 y yl zb) i.1) (fun i:{i:Nat // i≤3∧True}=>3 - i.1) M3 (bw v 0 eb ec) (T4 zP0q Try.f43 73 ((.agg [.slu 0 0 3 0,.slu 1 0 (n+1) 0])) [(S2 n),(U3 B L n),(U1 B P0 n),(U8 B P1 n),(T8 B P2 n)] (bw v 0 eb ec)) (⟨0,by decide,trivial⟩:{i:Nat // i≤3∧True}))) (⟨0,hj1,hj2⟩:{j:Nat // j≤(n+1)∧True})):=by
 have hcl_P0:=Z7 P0
 have hcl_P1:=Z7 P1
 have hcl_P2:=Z7 P2
 have hcl_L:=Z7 L
 have hcl_B:=Z4 B
 obtain ⟨hn,hn8,hp0,hp1,hp2,hL,hc0,hc1,hc2⟩:=(id hT)
 have ghqtr24_1:=Z5 hqtr24_1
 rcases zB0q (Y2 0 P0.length) with hqtr56_1|hqtr56_1
 ·have ghqtr56_1:=X5 hqtr56_1
  exact Z8 W4 (O5 zC0q (S4) 200 (T':=⟨[(O7 B zb),(2,(.ptr 0 0)),(4,(.ptr 1 0)),(5,(.ptr 2 0)),(6,(nI0 (((n+1)+(0+1):Nat):Int))),(8,(nI0 (.ofNat 0))),(9,(.slu 4 0 (0+1) 0)),(10,(nI0 (((0+1):Nat):Int)))],[],5,[(O6 L P0 P1 P2 v0 v1 v2 y yl),P3,(2,(a0i n)),(M6 B L n),(4,(.row (cI (tI (D4 (cR P0) (cH B) B.length (n+1)) (0+1))) 2 1))]⟩) (e:=.normal) (m:=6) (ps:=[Y2 0 P0.length=true,0<P0.length,W7 zP0q (cR P0) (0*2) 65=some (AV.agg [AV.v (Value.int IntKind.i64 (Z9 (cR P0) (0*2+0))),AV.v (Value.int IntKind.i64 (Z9 (cR P0) (0*2+1)))]),IsH 1 B.length (cH B),0≤Z9 (cR P0) (0*2+0)∧Z9 (cR P0) (0*2+0)≤Z9 (cR P0) (0*2+1)∧Z9 (cR P0) (0*2+1)≤1000,(0:Int)≤((n+1:Nat):Int)∧((n+1:Nat):Int)≤1000,N3 IntKind.i64 (((n+1:Nat):Int)+1),N3 IntKind.i64 (((0:Nat):Int)+1)]) (gH 8 ([.b true]++gH 7 ([.sym,.sym]++gH 11 []))) [0,1,2,3,5] [(.xl (zb) (B.length) 1 (cH B)),(.ptr 0 0),(.ptr 1 0),(.ptr 2 0),(nI0 (((n+1:Nat):Int)+1)),(nI0 (.ofNat 0)),(.slu 5 0 1 0),(nI0 (.ofNat 1))] [(l6 L P0 P1 P2 v0 v1 v2 y yl),A6,(a0i n),(U3 B L n),(.row [(nI0 (pkV (Z9 (cR P0) (0*2+0)) (Z9 (cR P0) (0*2+1)) (cH B) B.length (((n+1:Nat):Int)).toNat))] 2 1)] (by kernel_rfl) (by kernel_rfl) ⟨hqtr56_1,(by omega),(L2 (by omega) 65 (Try.underlying65) rfl (inf:=(Try.prog.info? 65).getD default) (by kernel_rfl) (by kernel_rfl)),⟨rfl,B,rfl,rfl,hB⟩,(by have h9:=hc0 0 (by omega);unfold X7 at h9;omega),(by omega),(a0I (by omega) (by omega)),(a0I (by omega) (by omega)),trivial⟩ rfl rfl (by decide) rfl ⟨N8 (Y4 (J0 B)),V0 rfl,V0 rfl,V0 rfl,J8 (show ((((n+1:Nat):Int)+1):Int)=(((n+1)+(0+1):Nat):Int) from by omega),N7 _,T9 rfl,J8 (show (1:Int)=(((0+1):Nat):Int) from by omega),trivial⟩ ⟨⟨by show 0<5;decide,X6 (Z3 (S5 (W8 (X9 [(v0,P0),(v1,P1),(v2,P2)]))) (Z3 (N8 (Y4 (X4 L))) (Y0)))⟩,⟨by show 1<5;decide,X6 (Z3 (N7 _) (Z3 (N7 _) (Y0)))⟩,⟨by show 2<5;decide,X6 (Z3 (N7 _) (Z3 (T9 rfl) (Y0)))⟩,⟨by show 3<5;decide,V2 (Y4 (Z2 _))⟩,⟨by show 4<5;decide,V2 (l8 (show ((cI (tI (D4 (cR P0) (cH B) B.length (n+1)) (0+1))):List AV)=[(nI0 (pkV (Z9 (cR P0) (0*2+0)) (Z9 (cR P0) (0*2+1)) (cH B) B.length (((n+1:Nat):Int)).toNat))] from by (first|exact (a1g rfl (by unfold D4;rfl)).symm|exact (a1j (by unfold D4;rfl)).symm)) (Z2 _))⟩,trivial⟩) (Hd.en_on (⟨0+1,by omega,trivial⟩) (by show (n+1) - (0+1)<(n+1) - 0;omega) rfl)
 ·have ghqtr56_1:=Z5 hqtr56_1
  exfalso;omega
theorem c5t(hT:m6 L P0 P1 P2 n)(hB:Q9 B)(h0b:True)(hqtr24_1:(Y2 (((n)+1:Nat):Int) L.length)=false)(h4b:True)(hqtr58_1:(Y2 (((n)+1:Nat):Int) P0.length)=false):Y7 zP0q 73 H7 ((b6O B L P0 P1 P2 n v0 v1 v2 y yl zb)) (BaseW.H (bw v 0 eb ec) hs) (Hd.StepC zP0q 73 2 (fun i:{i:Nat // i≤3∧True}=>(K7 B L P0 P1 P2 n v0 v1 v2 y yl zb) i.1) (fun i:{i:Nat // i≤3∧True}=>3 - i.1) M3 (bw v 0 eb ec) (T4 zP0q Try.f43 73 ((.agg [.slu 0 0 3 0,.slu 1 0 (n+1) 0])) [(S2 n),(U3 B L n),(U1 B P0 n),(U8 B P1 n),(T8 B P2 n)] (bw v 0 eb ec)) (⟨0,by decide,trivial⟩:{i:Nat // i≤3∧True})):=by
 have hcl_P0:=Z7 P0
 have hcl_P1:=Z7 P1
 have hcl_P2:=Z7 P2
 have hcl_L:=Z7 L
 have hcl_B:=Z4 B
 obtain ⟨hn,hn8,hp0,hp1,hp2,hL,hc0,hc1,hc2⟩:=(id hT)
 have ghqtr24_1:=Z5 hqtr24_1
 have ghqtr58_1:=Z5 hqtr58_1
 exact Z8 W4 (O5 zC0q (S4) 200 (T':=(b1s B L P0 P1 P2 n v0 v1 v2 y yl zb)) (e:=.normal) (m:=7) (ps:=[N3 IntKind.i64 ((0:Int)+1)]) [.go,.go,.go] [0,1,2,3,6,4] [(.xl (zb) (B.length) 1 (cH B)),(.ptr 0 0),(.ptr 1 0),(.ptr 2 0),(nI0 (((n+1+(n+1):Nat):Int))),(nI0 (.ofNat 1))] [(l6 L P0 P1 P2 v0 v1 v2 y yl),A6,(.cells [(.slu 6 0 1 0),(.slu 3 0 (n+1) 0)] 29),(U3 B L n),(.row [(.slu 4 0 (n+1) 0)] 27 1),(U1 B P0 n)] (by kernel_rfl) (by kernel_rfl) ⟨(a0I (by omega) (by omega)),trivial⟩ rfl rfl (by decide) rfl ⟨N8 (Y4 (J0 B)),V0 rfl,V0 rfl,V0 rfl,J8 (show ((((n+1+(n+1):Nat):Int)):Int)=(((2*(n+1)):Nat):Int) from by omega),J8 (show (1:Int)=((1:Nat):Int) from by omega),trivial⟩ ⟨⟨by show 0<6;decide,X6 (Z3 (S5 (W8 (X9 [(v0,P0),(v1,P1),(v2,P2)]))) (Z3 (N8 (Y4 (X4 L))) (Y0)))⟩,⟨by show 1<6;decide,X6 (Z3 (N7 _) (Z3 (N7 _) (Y0)))⟩,⟨by show 2<6;decide,X6 (Z3 (T9 rfl) (Z3 (T9 rfl) (Y0)))⟩,⟨by show 3<6;decide,V2 (Y4 (Z2 _))⟩,⟨by show 4<6;decide,V2 (Z3 (T9 rfl) (Y0))⟩,⟨by show 5<6;decide,V2 (Y4 (Z2 _))⟩,trivial⟩) (Hd.en_on ⟨0+1,by decide,trivial⟩ (by show 3 - (0+1)<3 - 0;decide) rfl)
theorem c6a(hT:m6 L P0 P1 P2 n)(hB:Q9 B)(h0b:True)(hqtr24_1:(Y2 (((n)+1:Nat):Int) L.length)=false)(h4b:True)(hqtr58_1:(Y2 (((n)+1:Nat):Int) P0.length)=false):Y7 zP0q 73 s6 ((b8z B L P0 P1 P2 n v0 v1 v2 y yl zb)) (BaseW.H (bw v 0 eb ec) hs) (Hd.AfterB zP0q 73 3 H7 (bw v 0 eb ec) (Hd.StepC zP0q 73 2 (fun i:{i:Nat // i≤3∧True}=>(K7 B L P0 P1 P2 n v0 v1 v2 y yl zb) i.1) (fun i:{i:Nat // i≤3∧True}=>3 - i.1) M3 (bw v 0 eb ec) (T4 zP0q Try.f43 73 ((.agg [.slu 0 0 3 0,.slu 1 0 (n+1) 0])) [(S2 n),(U3 B L n),(U1 B P0 n),(U8 B P1 n),(T8 B P2 n)] (bw v 0 eb ec)) (⟨0,by decide,trivial⟩:{i:Nat // i≤3∧True}))):=by
 have hcl_P0:=Z7 P0
 have hcl_P1:=Z7 P1
 have hcl_P2:=Z7 P2
 have hcl_L:=Z7 L
 have hcl_B:=Z4 B
 obtain ⟨hn,hn8,hp0,hp1,hp2,hL,hc0,hc1,hc2⟩:=(id hT)
 have ghqtr24_1:=Z5 hqtr24_1
 have ghqtr58_1:=Z5 hqtr58_1
 exact Z8 W4 (Z6 zC0q (S4) 200 (T':=(b6O B L P0 P1 P2 n v0 v1 v2 y yl zb)) (e:=.normal) (ps:=[]) (gH 7 []) (by kernel_rfl) (by kernel_rfl) trivial rfl) (Hd.en_bn (c5t hT hB h0b hqtr24_1 h4b hqtr58_1))
theorem c8v(hT:m6 L P0 P1 P2 n)(hB:Q9 B)(h0b:True)(hqtr24_1:(Y2 (((n)+1:Nat):Int) L.length)=false)(hj1:(j+1)≤(n+1))(hj2:True):Y7 zP0q 73 a7Q ((a8V B L P0 P1 P2 j n v0 v1 v2 y yl zb)) (BaseW.H (bw v 0 eb ec) hs) (Hd.StepC zP0q 73 4 (fun j:{j:Nat // j≤(n+1)∧True}=>Ev.fam0 (a8J B L P0 P1 P2 n v0 v1 v2 y yl zb) (fun j=>(a8V B L P0 P1 P2 j n v0 v1 v2 y yl zb)) j.1) (fun j:{j:Nat // j≤(n+1)∧True}=>(n+1) - j.1) s6 (bw v 0 eb ec) (Hd.AfterB zP0q 73 3 H7 (bw v 0 eb ec) (Hd.StepC zP0q 73 2 (fun i:{i:Nat // i≤3∧True}=>(K7 B L P0 P1 P2 n v0 v1 v2 y yl zb) i.1) (fun i:{i:Nat // i≤3∧True}=>3 - i.1) M3 (bw v 0 eb ec) (T4 zP0q Try.f43 73 ((.agg [.slu 0 0 3 0,.slu 1 0 (n+1) 0])) [(S2 n),(U3 B L n),(U1 B P0 n),(U8 B P1 n),(T8 B P2 n)] (bw v 0 eb ec)) (⟨0,by decide,trivial⟩:{i:Nat // i≤3∧True}))) (⟨(j+1),hj1,hj2⟩:{j:Nat // j≤(n+1)∧True})):=by
 have hcl_P0:=Z7 P0
 have hcl_P1:=Z7 P1
 have hcl_P2:=Z7 P2
 have hcl_L:=Z7 L
 have hcl_B:=Z4 B
 obtain ⟨hn,hn8,hp0,hp1,hp2,hL,hc0,hc1,hc2⟩:=(id hT)
 have ghqtr24_1:=Z5 hqtr24_1
 rcases zB0q (Y2 ((j+1:Nat):Int) P0.length) with hqtr58_1|hqtr58_1
 ·have ghqtr58_1:=X5 hqtr58_1
  exact Z8 W4 (O5 zC0q (S4) 200 (T':=⟨[(O7 B zb),(2,(.ptr 0 0)),(4,(.ptr 1 0)),(5,(.ptr 2 0)),(6,(nI0 (((n+1)+((j+1)+1):Nat):Int))),(8,(nI0 (.ofNat 0))),(9,(.slu 4 0 ((j+1)+1) 0)),(10,(nI0 ((((j+1)+1):Nat):Int)))],[],5,[(O6 L P0 P1 P2 v0 v1 v2 y yl),P3,(2,(a0i n)),(M6 B L n),(4,(.row (cI (tI (D4 (cR P0) (cH B) B.length (n+1)) ((j+1)+1))) 2 1))]⟩) (e:=.normal) (m:=7) (ps:=[Y2 ((j+1:Nat):Int) P0.length=true,j+1<P0.length,W7 zP0q (cR P0) ((j+1)*2) 65=some (AV.agg [AV.v (Value.int IntKind.i64 (Z9 (cR P0) ((j+1)*2+0))),AV.v (Value.int IntKind.i64 (Z9 (cR P0) ((j+1)*2+1)))]),IsH 1 B.length (cH B),0≤Z9 (cR P0) ((j+1)*2+0)∧Z9 (cR P0) ((j+1)*2+0)≤Z9 (cR P0) ((j+1)*2+1)∧Z9 (cR P0) ((j+1)*2+1)≤1000,(0:Int)≤((n+1+(j+1):Nat):Int)∧((n+1+(j+1):Nat):Int)≤1000,((cI (tI (D4 (cR P0) (cH B) B.length (n+1)) (j+1))):List AV).length=(j+1)*1,j+1+1≤1000000,N3 IntKind.i64 (((n+1+(j+1):Nat):Int)+1),N3 IntKind.i64 (((j+1:Nat):Int)+1)]) (gH 8 ([.b true]++gH 7 ([.sym,.sym,.go,.go,.go,.sym]++gH 7 []))) [0,1,2,3,6] [(.xl (zb) (B.length) 1 (cH B)),(.ptr 0 0),(.ptr 1 0),(.ptr 2 0),(nI0 (((n+1+(j+1):Nat):Int)+1)),(nI0 (.ofNat 0)),(.slu 6 0 (j+1+1) 0),(nI0 (((j+1:Nat):Int)+1))] [(l6 L P0 P1 P2 v0 v1 v2 y yl),A6,(a0i n),(U3 B L n),(.row ((cI (tI (D4 (cR P0) (cH B) B.length (n+1)) (j+1)))++[(nI0 (pkV (Z9 (cR P0) ((j+1)*2+0)) (Z9 (cR P0) ((j+1)*2+1)) (cH B) B.length (((n+1+(j+1):Nat):Int)).toNat))]) 2 1)] (by kernel_rfl) (by kernel_rfl) ⟨hqtr58_1,(by omega),(L2 (by omega) 65 (Try.underlying65) rfl (inf:=(Try.prog.info? 65).getD default) (by kernel_rfl) (by kernel_rfl)),⟨rfl,B,rfl,rfl,hB⟩,(by have h9:=hc0 (j+1) (by omega);unfold X7 at h9;omega),(by omega),(by show (cI _).length=_;rw [Z4,Y9];omega),(by omega),(a0I (by omega) (by omega)),(a0I (by omega) (by omega)),trivial⟩ rfl rfl (by decide) rfl ⟨N8 (Y4 (J0 B)),V0 rfl,V0 rfl,V0 rfl,J8 (show ((((n+1+(j+1):Nat):Int)+1):Int)=(((n+1)+((j+1)+1):Nat):Int) from by omega),N7 _,T9 rfl,J8 (show ((((j+1:Nat):Int)+1):Int)=((((j+1)+1):Nat):Int) from by omega),trivial⟩ ⟨⟨by show 0<5;decide,X6 (Z3 (S5 (W8 (X9 [(v0,P0),(v1,P1),(v2,P2)]))) (Z3 (N8 (Y4 (X4 L))) (Y0)))⟩,⟨by show 1<5;decide,X6 (Z3 (N7 _) (Z3 (N7 _) (Y0)))⟩,⟨by show 2<5;decide,X6 (Z3 (N7 _) (Z3 (T9 rfl) (Y0)))⟩,⟨by show 3<5;decide,V2 (Y4 (Z2 _))⟩,⟨by show 4<5;decide,V2 (l8 (show ((cI (tI (D4 (cR P0) (cH B) B.length (n+1)) ((j+1)+1))):List AV)=((cI (tI (D4 (cR P0) (cH B) B.length (n+1)) (j+1)))++[(nI0 (pkV (Z9 (cR P0) ((j+1)*2+0)) (Z9 (cR P0) ((j+1)*2+1)) (cH B) B.length (((n+1+(j+1):Nat):Int)).toNat))]) from by (first|exact (a1g rfl (by unfold D4;rfl)).symm|exact (a1j (by unfold D4;rfl)).symm)) (Z2 _))⟩,trivial⟩) (Hd.en_on (⟨(j+1)+1,by omega,trivial⟩) (by show (n+1) - ((j+1)+1)<(n+1) - (j+1);omega) rfl)
 ·have ghqtr58_1:=Z5 hqtr58_1
  obtain rfl:n=j:=by omega
  exact Z8 A8 (Z6 zC0q (S4) 200 (T':=(b8z B L P0 P1 P2 n v0 v1 v2 y yl zb)) (e:=.exit 4) (ps:=[Y2 (((n)+1:Nat):Int) P0.length=false]) (gH 8 [.b false]) (by kernel_rfl) (by kernel_rfl) ⟨hqtr58_1,trivial⟩ rfl) (Hd.en_sx (c6a hT hB h0b hqtr24_1 hj2 hqtr58_1))
theorem c82(hT:m6 L P0 P1 P2 n)(hB:Q9 B)(h0b:True)(hqtr24_1:(Y2 (((n)+1:Nat):Int) L.length)=false):Y7 zP0q 73 a6m ((b1q B L P0 P1 P2 n v0 v1 v2 y yl zb)) (BaseW.H (bw v 0 eb ec) hs) (Hd.AfterN zP0q 73 s6 (bw v 0 eb ec) (Hd.AfterB zP0q 73 3 H7 (bw v 0 eb ec) (Hd.StepC zP0q 73 2 (fun i:{i:Nat // i≤3∧True}=>(K7 B L P0 P1 P2 n v0 v1 v2 y yl zb) i.1) (fun i:{i:Nat // i≤3∧True}=>3 - i.1) M3 (bw v 0 eb ec) (T4 zP0q Try.f43 73 ((.agg [.slu 0 0 3 0,.slu 1 0 (n+1) 0])) [(S2 n),(U3 B L n),(U1 B P0 n),(U8 B P1 n),(T8 B P2 n)] (bw v 0 eb ec)) (⟨0,by decide,trivial⟩:{i:Nat // i≤3∧True})))):=by
 have hcl_P0:=Z7 P0
 have hcl_P1:=Z7 P1
 have hcl_P2:=Z7 P2
 have hcl_L:=Z7 L
 have hcl_B:=Z4 B
 obtain ⟨hn,hn8,hp0,hp1,hp2,hL,hc0,hc1,hc2⟩:=(id hT)
 have ghqtr24_1:=Z5 hqtr24_1
 exact Hd.goes_loopA (id:=4) (by kernel_rfl) (by kernel_rfl) (fun j:{j:Nat // j≤(n+1)∧True}=>Ev.fam0 (a8J B L P0 P1 P2 n v0 v1 v2 y yl zb) (fun j=>(a8V B L P0 P1 P2 j n v0 v1 v2 y yl zb)) j.1) (fun j:{j:Nat // j≤(n+1)∧True}=>(n+1) - j.1) (fun i hs=>match i with|⟨0,h1,h2⟩=>c4H hT hB h0b hqtr24_1 h1 h2|⟨j+1,h1,h2⟩=>c8v hT hB h0b hqtr24_1 h1 h2) ⟨0,Nat.zero_le _,trivial⟩ hs
theorem c7s(hT:m6 L P0 P1 P2 n)(hB:Q9 B)(h0b:True)(hqtr24_1:(Y2 (((n)+1:Nat):Int) L.length)=false):Y7 zP0q 73 a6m ((b1q B L P0 P1 P2 n v0 v1 v2 y yl zb)) (BaseW.H (bw v 0 eb ec) hs) (Hd.AfterN zP0q 73 s6 (bw v 0 eb ec) (Hd.AfterB zP0q 73 3 H7 (bw v 0 eb ec) (Hd.StepC zP0q 73 2 (fun i:{i:Nat // i≤3∧True}=>(K7 B L P0 P1 P2 n v0 v1 v2 y yl zb) i.1) (fun i:{i:Nat // i≤3∧True}=>3 - i.1) M3 (bw v 0 eb ec) (T4 zP0q Try.f43 73 ((.agg [.slu 0 0 3 0,.slu 1 0 (n+1) 0])) [(S2 n),(U3 B L n),(U1 B P0 n),(U8 B P1 n),(T8 B P2 n)] (bw v 0 eb ec)) (⟨0,by decide,trivial⟩:{i:Nat // i≤3∧True})))):=by
 exact c82 hT hB h0b hqtr24_1
theorem c5W(hT:m6 L P0 P1 P2 n)(hB:Q9 B)(h0b:True)(hqtr24_1:(Y2 (((n)+1:Nat):Int) L.length)=false):Y7 zP0q 73 b3L ((b2x B L P0 P1 P2 n v0 v1 v2 y yl zb)) (BaseW.H (bw v 0 eb ec) hs) (Hd.AfterN zP0q 73 s6 (bw v 0 eb ec) (Hd.AfterB zP0q 73 3 H7 (bw v 0 eb ec) (Hd.StepC zP0q 73 2 (fun i:{i:Nat // i≤3∧True}=>(K7 B L P0 P1 P2 n v0 v1 v2 y yl zb) i.1) (fun i:{i:Nat // i≤3∧True}=>3 - i.1) M3 (bw v 0 eb ec) (T4 zP0q Try.f43 73 ((.agg [.slu 0 0 3 0,.slu 1 0 (n+1) 0])) [(S2 n),(U3 B L n),(U1 B P0 n),(U8 B P1 n),(T8 B P2 n)] (bw v 0 eb ec)) (⟨0,by decide,trivial⟩:{i:Nat // i≤3∧True})))):=by
 have hcl_P0:=Z7 P0
 have hcl_P1:=Z7 P1
 have hcl_P2:=Z7 P2
 have hcl_L:=Z7 L
 have hcl_B:=Z4 B
 obtain ⟨hn,hn8,hp0,hp1,hp2,hL,hc0,hc1,hc2⟩:=(id hT)
 have ghqtr24_1:=Z5 hqtr24_1
 refine Hd.goes_seqA (by kernel_rfl) ?_
 exact Z8 W4 (Z6 zC0q (S4) 200 (T':=(b1q B L P0 P1 P2 n v0 v1 v2 y yl zb)) (e:=.normal) (ps:=[]) [.go] (by kernel_rfl) (by kernel_rfl) trivial rfl) (Hd.en_n (c7s hT hB h0b hqtr24_1))
theorem c5P(hT:m6 L P0 P1 P2 n)(hB:Q9 B)(h0b:True)(hqtr24_1:(Y2 (((n)+1:Nat):Int) L.length)=false):Y7 zP0q 73 b15 ((b2x B L P0 P1 P2 n v0 v1 v2 y yl zb)) (BaseW.H (bw v 0 eb ec) hs) (Hd.AfterB zP0q 73 3 H7 (bw v 0 eb ec) (Hd.StepC zP0q 73 2 (fun i:{i:Nat // i≤3∧True}=>(K7 B L P0 P1 P2 n v0 v1 v2 y yl zb) i.1) (fun i:{i:Nat // i≤3∧True}=>3 - i.1) M3 (bw v 0 eb ec) (T4 zP0q Try.f43 73 ((.agg [.slu 0 0 3 0,.slu 1 0 (n+1) 0])) [(S2 n),(U3 B L n),(U1 B P0 n),(U8 B P1 n),(T8 B P2 n)] (bw v 0 eb ec)) (⟨0,by decide,trivial⟩:{i:Nat // i≤3∧True}))):=by
 exact Hd.goes_seqA (by kernel_rfl) (c5W hT hB h0b hqtr24_1)
theorem c7o(hT:m6 L P0 P1 P2 n)(hB:Q9 B)(h0b:True)(hqtr24_1:(Y2 (((n)+1:Nat):Int) L.length)=false):Y7 zP0q 73 b3s ((a2J B L P0 P1 P2 n v0 v1 v2 y yl zb)) (BaseW.H (bw v 0 eb ec) hs) (Hd.AfterB zP0q 73 3 H7 (bw v 0 eb ec) (Hd.StepC zP0q 73 2 (fun i:{i:Nat // i≤3∧True}=>(K7 B L P0 P1 P2 n v0 v1 v2 y yl zb) i.1) (fun i:{i:Nat // i≤3∧True}=>3 - i.1) M3 (bw v 0 eb ec) (T4 zP0q Try.f43 73 ((.agg [.slu 0 0 3 0,.slu 1 0 (n+1) 0])) [(S2 n),(U3 B L n),(U1 B P0 n),(U8 B P1 n),(T8 B P2 n)] (bw v 0 eb ec)) (⟨0,by decide,trivial⟩:{i:Nat // i≤3∧True}))):=by
 have hcl_P0:=Z7 P0
 have hcl_P1:=Z7 P1
 have hcl_P2:=Z7 P2
 have hcl_L:=Z7 L
 have hcl_B:=Z4 B
 obtain ⟨hn,hn8,hp0,hp1,hp2,hL,hc0,hc1,hc2⟩:=(id hT)
 have ghqtr24_1:=Z5 hqtr24_1
 refine Hd.goes_seqA (by kernel_rfl) ?_
 exact Z8 W4 (Z6 zC0q (S4) 200 (T':=(b2x B L P0 P1 P2 n v0 v1 v2 y yl zb)) (e:=.normal) (ps:=[]) [.go] (by kernel_rfl) (by kernel_rfl) trivial rfl) (Hd.en_n (c5P hT hB h0b hqtr24_1))
theorem c6V(hT:m6 L P0 P1 P2 n)(hB:Q9 B)(h0b:True)(hqtr24_1:(Y2 (((n)+1:Nat):Int) L.length)=false):Y7 zP0q 73 (f9 a5a) ((a2J B L P0 P1 P2 n v0 v1 v2 y yl zb)) (BaseW.H (bw v 0 eb ec) hs) (Hd.AfterN zP0q 73 H7 (bw v 0 eb ec) (Hd.StepC zP0q 73 2 (fun i:{i:Nat // i≤3∧True}=>(K7 B L P0 P1 P2 n v0 v1 v2 y yl zb) i.1) (fun i:{i:Nat // i≤3∧True}=>3 - i.1) M3 (bw v 0 eb ec) (T4 zP0q Try.f43 73 ((.agg [.slu 0 0 3 0,.slu 1 0 (n+1) 0])) [(S2 n),(U3 B L n),(U1 B P0 n),(U8 B P1 n),(T8 B P2 n)] (bw v 0 eb ec)) (⟨0,by decide,trivial⟩:{i:Nat // i≤3∧True}))):=by
 exact Hd.goes_blkA (id:=3) (by kernel_rfl) (by kernel_rfl) (c7o hT hB h0b hqtr24_1)
theorem c6U(hT:m6 L P0 P1 P2 n)(hB:Q9 B)(h0b:True)(hqtr24_1:(Y2 (((n)+1:Nat):Int) L.length)=false):Y7 zP0q 73 a5a ((a2J B L P0 P1 P2 n v0 v1 v2 y yl zb)) (BaseW.H (bw v 0 eb ec) hs) (Hd.StepC zP0q 73 2 (fun i:{i:Nat // i≤3∧True}=>(K7 B L P0 P1 P2 n v0 v1 v2 y yl zb) i.1) (fun i:{i:Nat // i≤3∧True}=>3 - i.1) M3 (bw v 0 eb ec) (T4 zP0q Try.f43 73 ((.agg [.slu 0 0 3 0,.slu 1 0 (n+1) 0])) [(S2 n),(U3 B L n),(U1 B P0 n),(U8 B P1 n),(T8 B P2 n)] (bw v 0 eb ec)) (⟨0,by decide,trivial⟩:{i:Nat // i≤3∧True})):=by
 exact Hd.goes_seqA (by kernel_rfl) (c6V hT hB h0b hqtr24_1)
theorem c7z(hT:m6 L P0 P1 P2 n)(hB:Q9 B)(h0b:True)(hqtr24_1:(Y2 (((n)+1:Nat):Int) L.length)=false):Y7 zP0q 73 b1h ((b7t B L P0 P1 P2 n v0 v1 v2 y yl zb)) (BaseW.H (bw v 0 eb ec) hs) (Hd.StepC zP0q 73 2 (fun i:{i:Nat // i≤3∧True}=>(K7 B L P0 P1 P2 n v0 v1 v2 y yl zb) i.1) (fun i:{i:Nat // i≤3∧True}=>3 - i.1) M3 (bw v 0 eb ec) (T4 zP0q Try.f43 73 ((.agg [.slu 0 0 3 0,.slu 1 0 (n+1) 0])) [(S2 n),(U3 B L n),(U1 B P0 n),(U8 B P1 n),(T8 B P2 n)] (bw v 0 eb ec)) (⟨0,by decide,trivial⟩:{i:Nat // i≤3∧True})):=by
 have hcl_P0:=Z7 P0
 have hcl_P1:=Z7 P1
 have hcl_P2:=Z7 P2
 have hcl_L:=Z7 L
 have hcl_B:=Z4 B
 obtain ⟨hn,hn8,hp0,hp1,hp2,hL,hc0,hc1,hc2⟩:=(id hT)
 have ghqtr24_1:=Z5 hqtr24_1
 refine Hd.goes_seqA (by kernel_rfl) ?_
 exact Z8 W4 (Z6 zC0q (S4) 200 (T':=(a2J B L P0 P1 P2 n v0 v1 v2 y yl zb)) (e:=.normal) (ps:=[Y2 0 3=true]) (gH 5 [.b true]) (by kernel_rfl) (by kernel_rfl) ⟨rfl,trivial⟩ rfl) (Hd.en_n (c6U hT hB h0b hqtr24_1))
theorem c8j(hT:m6 L P0 P1 P2 n)(hB:Q9 B)(h0b:True)(hqtr24_1:(Y2 (((n)+1:Nat):Int) L.length)=false)(hj1:0≤(n+1))(hj2:True):Y7 zP0q 73 a7Q ((a9r B L P0 P1 P2 n v0 v1 v2 y yl zb)) (BaseW.H (bw v 0 eb ec) hs) (Hd.StepC zP0q 73 4 (fun j:{j:Nat // j≤(n+1)∧True}=>Ev.fam0 (a9r B L P0 P1 P2 n v0 v1 v2 y yl zb) (fun j=>(b3C B L P0 P1 P2 j n v0 v1 v2 y yl zb)) j.1) (fun j:{j:Nat // j≤(n+1)∧True}=>(n+1) - j.1) s6 (bw v 0 eb ec) (Hd.AfterB zP0q 73 3 H7 (bw v 0 eb ec) (Hd.StepC zP0q 73 2 (fun i:{i:Nat // i≤3∧True}=>(K7 B L P0 P1 P2 n v0 v1 v2 y yl zb) i.1) (fun i:{i:Nat // i≤3∧True}=>3 - i.1) M3 (bw v 0 eb ec) (T4 zP0q Try.f43 73 ((.agg [.slu 0 0 3 0,.slu 1 0 (n+1) 0])) [(S2 n),(U3 B L n),(U1 B P0 n),(U8 B P1 n),(T8 B P2 n)] (bw v 0 eb ec)) (⟨1,by decide,trivial⟩:{i:Nat // i≤3∧True}))) (⟨0,hj1,hj2⟩:{j:Nat // j≤(n+1)∧True})):=by
 have hcl_P0:=Z7 P0
 have hcl_P1:=Z7 P1
 have hcl_P2:=Z7 P2
 have hcl_L:=Z7 L
 have hcl_B:=Z4 B
 obtain ⟨hn,hn8,hp0,hp1,hp2,hL,hc0,hc1,hc2⟩:=(id hT)
 have ghqtr24_1:=Z5 hqtr24_1
 rcases zB0q (Y2 0 P1.length) with hqtr76_1|hqtr76_1
 ·have ghqtr76_1:=X5 hqtr76_1
  exact Z8 W4 (O5 zC0q (S4) 200 (T':=⟨[(O7 B zb),(2,(.ptr 0 0)),(4,(.ptr 1 0)),(5,(.ptr 2 0)),(6,(nI0 (((2*(n+1))+(0+1):Nat):Int))),(8,(nI0 (.ofNat 1))),(9,(.slu 6 0 (0+1) 0)),(10,(nI0 (((0+1):Nat):Int)))],[],7,[(O6 L P0 P1 P2 v0 v1 v2 y yl),P3,(2,(b9 n)),(M6 B L n),(4,(.row [(.slu 5 0 (n+1) 0)] 27 1)),(H6 B P0 n),(6,(.row (cI (tI (D4 (cR P1) (cH B) B.length (2*(n+1))) (0+1))) 2 1))]⟩) (e:=.normal) (m:=8) (ps:=[Y2 0 P1.length=true,0<P1.length,W7 zP0q (cR P1) (0*2) 65=some (AV.agg [AV.v (Value.int IntKind.i64 (Z9 (cR P1) (0*2+0))),AV.v (Value.int IntKind.i64 (Z9 (cR P1) (0*2+1)))]),IsH 1 B.length (cH B),0≤Z9 (cR P1) (0*2+0)∧Z9 (cR P1) (0*2+0)≤Z9 (cR P1) (0*2+1)∧Z9 (cR P1) (0*2+1)≤1000,(0:Int)≤((2*(n+1):Nat):Int)∧((2*(n+1):Nat):Int)≤1000,N3 IntKind.i64 (((2*(n+1):Nat):Int)+1),N3 IntKind.i64 (((0:Nat):Int)+1)]) (gH 8 ([.b true]++gH 7 ([.sym,.sym]++gH 11 []))) [0,1,2,3,4,5,7] [(.xl (zb) (B.length) 1 (cH B)),(.ptr 0 0),(.ptr 1 0),(.ptr 2 0),(nI0 (((2*(n+1):Nat):Int)+1)),(nI0 (.ofNat 1)),(.slu 7 0 1 0),(nI0 (.ofNat 1))] [(l6 L P0 P1 P2 v0 v1 v2 y yl),A6,(b9 n),(U3 B L n),(.row [(.slu 5 0 (n+1) 0)] 27 1),(U1 B P0 n),(.row [(nI0 (pkV (Z9 (cR P1) (0*2+0)) (Z9 (cR P1) (0*2+1)) (cH B) B.length (((2*(n+1):Nat):Int)).toNat))] 2 1)] (by kernel_rfl) (by kernel_rfl) ⟨hqtr76_1,(by omega),(L2 (by omega) 65 (Try.underlying65) rfl (inf:=(Try.prog.info? 65).getD default) (by kernel_rfl) (by kernel_rfl)),⟨rfl,B,rfl,rfl,hB⟩,(by have h9:=hc1 0 (by omega);unfold X7 at h9;omega),(by omega),(a0I (by omega) (by omega)),(a0I (by omega) (by omega)),trivial⟩ rfl rfl (by decide) rfl ⟨N8 (Y4 (J0 B)),V0 rfl,V0 rfl,V0 rfl,J8 (show ((((2*(n+1):Nat):Int)+1):Int)=(((2*(n+1))+(0+1):Nat):Int) from by omega),N7 _,T9 rfl,J8 (show (1:Int)=(((0+1):Nat):Int) from by omega),trivial⟩ ⟨⟨by show 0<7;decide,X6 (Z3 (S5 (W8 (X9 [(v0,P0),(v1,P1),(v2,P2)]))) (Z3 (N8 (Y4 (X4 L))) (Y0)))⟩,⟨by show 1<7;decide,X6 (Z3 (N7 _) (Z3 (N7 _) (Y0)))⟩,⟨by show 2<7;decide,X6 (Z3 (T9 rfl) (Z3 (T9 rfl) (Y0)))⟩,⟨by show 3<7;decide,V2 (Y4 (Z2 _))⟩,⟨by show 4<7;decide,V2 (Z3 (T9 rfl) (Y0))⟩,⟨by show 5<7;decide,V2 (Y4 (Z2 _))⟩,⟨by show 6<7;decide,V2 (l8 (show ((cI (tI (D4 (cR P1) (cH B) B.length (2*(n+1))) (0+1))):List AV)=[(nI0 (pkV (Z9 (cR P1) (0*2+0)) (Z9 (cR P1) (0*2+1)) (cH B) B.length (((2*(n+1):Nat):Int)).toNat))] from by (first|exact (a1g rfl (by unfold D4;rfl)).symm|exact (a1j (by unfold D4;rfl)).symm)) (Z2 _))⟩,trivial⟩) (Hd.en_on (⟨0+1,by omega,trivial⟩) (by show (n+1) - (0+1)<(n+1) - 0;omega) rfl)
 ·have ghqtr76_1:=Z5 hqtr76_1
  exfalso;omega
theorem c7Z(hT:m6 L P0 P1 P2 n)(hB:Q9 B)(h0b:True)(hqtr24_1:(Y2 (((n)+1:Nat):Int) L.length)=false)(h4b:True)(hqtr78_1:(Y2 (((n)+1:Nat):Int) P1.length)=false):Y7 zP0q 73 H7 ((b5i B L P0 P1 P2 n v0 v1 v2 y yl zb)) (BaseW.H (bw v 0 eb ec) hs) (Hd.StepC zP0q 73 2 (fun i:{i:Nat // i≤3∧True}=>(K7 B L P0 P1 P2 n v0 v1 v2 y yl zb) i.1) (fun i:{i:Nat // i≤3∧True}=>3 - i.1) M3 (bw v 0 eb ec) (T4 zP0q Try.f43 73 ((.agg [.slu 0 0 3 0,.slu 1 0 (n+1) 0])) [(S2 n),(U3 B L n),(U1 B P0 n),(U8 B P1 n),(T8 B P2 n)] (bw v 0 eb ec)) (⟨1,by decide,trivial⟩:{i:Nat // i≤3∧True})):=by
 have hcl_P0:=Z7 P0
 have hcl_P1:=Z7 P1
 have hcl_P2:=Z7 P2
 have hcl_L:=Z7 L
 have hcl_B:=Z4 B
 obtain ⟨hn,hn8,hp0,hp1,hp2,hL,hc0,hc1,hc2⟩:=(id hT)
 have ghqtr24_1:=Z5 hqtr24_1
 have ghqtr78_1:=Z5 hqtr78_1
 exact Z8 W4 (O5 zC0q (S4) 200 (T':=(b2V B L P0 P1 P2 n v0 v1 v2 y yl zb)) (e:=.normal) (m:=9) (ps:=[N3 IntKind.i64 ((1:Int)+1)]) [.go,.go,.go] [0,1,2,3,8,5,6] [(.xl (zb) (B.length) 1 (cH B)),(.ptr 0 0),(.ptr 1 0),(.ptr 2 0),(nI0 (((2*(n+1)+(n+1):Nat):Int))),(nI0 (.ofNat 2))] [(l6 L P0 P1 P2 v0 v1 v2 y yl),A6,(.cells [(.slu 8 0 2 0),(.slu 3 0 (n+1) 0)] 29),(U3 B L n),(p7 n),(U1 B P0 n),(U8 B P1 n)] (by kernel_rfl) (by kernel_rfl) ⟨(a0I (by omega) (by omega)),trivial⟩ rfl rfl (by decide) rfl ⟨N8 (Y4 (J0 B)),V0 rfl,V0 rfl,V0 rfl,J8 (show ((((2*(n+1)+(n+1):Nat):Int)):Int)=(((3*(n+1)):Nat):Int) from by omega),J8 (show (2:Int)=((2:Nat):Int) from by omega),trivial⟩ ⟨⟨by show 0<7;decide,X6 (Z3 (S5 (W8 (X9 [(v0,P0),(v1,P1),(v2,P2)]))) (Z3 (N8 (Y4 (X4 L))) (Y0)))⟩,⟨by show 1<7;decide,X6 (Z3 (N7 _) (Z3 (N7 _) (Y0)))⟩,⟨by show 2<7;decide,X6 (Z3 (T9 rfl) (Z3 (T9 rfl) (Y0)))⟩,⟨by show 3<7;decide,V2 (Y4 (Z2 _))⟩,⟨by show 4<7;decide,V2 (Z3 (T9 rfl) (Z3 (T9 rfl) (Y0)))⟩,⟨by show 5<7;decide,V2 (Y4 (Z2 _))⟩,⟨by show 6<7;decide,V2 (Y4 (Z2 _))⟩,trivial⟩) (Hd.en_on ⟨1+1,by decide,trivial⟩ (by show 3 - (1+1)<3 - 1;decide) rfl)
theorem c58(hT:m6 L P0 P1 P2 n)(hB:Q9 B)(h0b:True)(hqtr24_1:(Y2 (((n)+1:Nat):Int) L.length)=false)(h4b:True)(hqtr78_1:(Y2 (((n)+1:Nat):Int) P1.length)=false):Y7 zP0q 73 s6 ((b68 B L P0 P1 P2 n v0 v1 v2 y yl zb)) (BaseW.H (bw v 0 eb ec) hs) (Hd.AfterB zP0q 73 3 H7 (bw v 0 eb ec) (Hd.StepC zP0q 73 2 (fun i:{i:Nat // i≤3∧True}=>(K7 B L P0 P1 P2 n v0 v1 v2 y yl zb) i.1) (fun i:{i:Nat // i≤3∧True}=>3 - i.1) M3 (bw v 0 eb ec) (T4 zP0q Try.f43 73 ((.agg [.slu 0 0 3 0,.slu 1 0 (n+1) 0])) [(S2 n),(U3 B L n),(U1 B P0 n),(U8 B P1 n),(T8 B P2 n)] (bw v 0 eb ec)) (⟨1,by decide,trivial⟩:{i:Nat // i≤3∧True}))):=by
 have hcl_P0:=Z7 P0
 have hcl_P1:=Z7 P1
 have hcl_P2:=Z7 P2
 have hcl_L:=Z7 L
 have hcl_B:=Z4 B
 obtain ⟨hn,hn8,hp0,hp1,hp2,hL,hc0,hc1,hc2⟩:=(id hT)
 have ghqtr24_1:=Z5 hqtr24_1
 have ghqtr78_1:=Z5 hqtr78_1
 exact Z8 W4 (Z6 zC0q (S4) 200 (T':=(b5i B L P0 P1 P2 n v0 v1 v2 y yl zb)) (e:=.normal) (ps:=[]) (gH 7 []) (by kernel_rfl) (by kernel_rfl) trivial rfl) (Hd.en_bn (c7Z hT hB h0b hqtr24_1 h4b hqtr78_1))
theorem c6i(hT:m6 L P0 P1 P2 n)(hB:Q9 B)(h0b:True)(hqtr24_1:(Y2 (((n)+1:Nat):Int) L.length)=false)(hj1:(j+1)≤(n+1))(hj2:True):Y7 zP0q 73 a7Q ((b3C B L P0 P1 P2 j n v0 v1 v2 y yl zb)) (BaseW.H (bw v 0 eb ec) hs) (Hd.StepC zP0q 73 4 (fun j:{j:Nat // j≤(n+1)∧True}=>Ev.fam0 (a9r B L P0 P1 P2 n v0 v1 v2 y yl zb) (fun j=>(b3C B L P0 P1 P2 j n v0 v1 v2 y yl zb)) j.1) (fun j:{j:Nat // j≤(n+1)∧True}=>(n+1) - j.1) s6 (bw v 0 eb ec) (Hd.AfterB zP0q 73 3 H7 (bw v 0 eb ec) (Hd.StepC zP0q 73 2 (fun i:{i:Nat // i≤3∧True}=>(K7 B L P0 P1 P2 n v0 v1 v2 y yl zb) i.1) (fun i:{i:Nat // i≤3∧True}=>3 - i.1) M3 (bw v 0 eb ec) (T4 zP0q Try.f43 73 ((.agg [.slu 0 0 3 0,.slu 1 0 (n+1) 0])) [(S2 n),(U3 B L n),(U1 B P0 n),(U8 B P1 n),(T8 B P2 n)] (bw v 0 eb ec)) (⟨1,by decide,trivial⟩:{i:Nat // i≤3∧True}))) (⟨(j+1),hj1,hj2⟩:{j:Nat // j≤(n+1)∧True})):=by
 have hcl_P0:=Z7 P0
 have hcl_P1:=Z7 P1
 have hcl_P2:=Z7 P2
 have hcl_L:=Z7 L
 have hcl_B:=Z4 B
 obtain ⟨hn,hn8,hp0,hp1,hp2,hL,hc0,hc1,hc2⟩:=(id hT)
 have ghqtr24_1:=Z5 hqtr24_1
 rcases zB0q (Y2 ((j+1:Nat):Int) P1.length) with hqtr78_1|hqtr78_1
 ·have ghqtr78_1:=X5 hqtr78_1
  exact Z8 W4 (O5 zC0q (S4) 200 (T':=⟨[(O7 B zb),(2,(.ptr 0 0)),(4,(.ptr 1 0)),(5,(.ptr 2 0)),(6,(nI0 (((2*(n+1))+((j+1)+1):Nat):Int))),(8,(nI0 (.ofNat 1))),(9,(.slu 6 0 ((j+1)+1) 0)),(10,(nI0 ((((j+1)+1):Nat):Int)))],[],7,[(O6 L P0 P1 P2 v0 v1 v2 y yl),P3,(2,(b9 n)),(M6 B L n),(4,(.row [(.slu 5 0 (n+1) 0)] 27 1)),(H6 B P0 n),(6,(.row (cI (tI (D4 (cR P1) (cH B) B.length (2*(n+1))) ((j+1)+1))) 2 1))]⟩) (e:=.normal) (m:=9) (ps:=[Y2 ((j+1:Nat):Int) P1.length=true,j+1<P1.length,W7 zP0q (cR P1) ((j+1)*2) 65=some (AV.agg [AV.v (Value.int IntKind.i64 (Z9 (cR P1) ((j+1)*2+0))),AV.v (Value.int IntKind.i64 (Z9 (cR P1) ((j+1)*2+1)))]),IsH 1 B.length (cH B),0≤Z9 (cR P1) ((j+1)*2+0)∧Z9 (cR P1) ((j+1)*2+0)≤Z9 (cR P1) ((j+1)*2+1)∧Z9 (cR P1) ((j+1)*2+1)≤1000,(0:Int)≤((2*(n+1)+(j+1):Nat):Int)∧((2*(n+1)+(j+1):Nat):Int)≤1000,((cI (tI (D4 (cR P1) (cH B) B.length (2*(n+1))) (j+1))):List AV).length=(j+1)*1,j+1+1≤1000000,N3 IntKind.i64 (((2*(n+1)+(j+1):Nat):Int)+1),N3 IntKind.i64 (((j+1:Nat):Int)+1)]) (gH 8 ([.b true]++gH 7 ([.sym,.sym,.go,.go,.go,.sym]++gH 7 []))) [0,1,2,3,4,5,8] [(.xl (zb) (B.length) 1 (cH B)),(.ptr 0 0),(.ptr 1 0),(.ptr 2 0),(nI0 (((2*(n+1)+(j+1):Nat):Int)+1)),(nI0 (.ofNat 1)),(.slu 8 0 (j+1+1) 0),(nI0 (((j+1:Nat):Int)+1))] [(l6 L P0 P1 P2 v0 v1 v2 y yl),A6,(b9 n),(U3 B L n),(.row [(.slu 5 0 (n+1) 0)] 27 1),(U1 B P0 n),(.row ((cI (tI (D4 (cR P1) (cH B) B.length (2*(n+1))) (j+1)))++[(nI0 (pkV (Z9 (cR P1) ((j+1)*2+0)) (Z9 (cR P1) ((j+1)*2+1)) (cH B) B.length (((2*(n+1)+(j+1):Nat):Int)).toNat))]) 2 1)] (by kernel_rfl) (by kernel_rfl) ⟨hqtr78_1,(by omega),(L2 (by omega) 65 (Try.underlying65) rfl (inf:=(Try.prog.info? 65).getD default) (by kernel_rfl) (by kernel_rfl)),⟨rfl,B,rfl,rfl,hB⟩,(by have h9:=hc1 (j+1) (by omega);unfold X7 at h9;omega),(by omega),(by show (cI _).length=_;rw [Z4,Y9];omega),(by omega),(a0I (by omega) (by omega)),(a0I (by omega) (by omega)),trivial⟩ rfl rfl (by decide) rfl ⟨N8 (Y4 (J0 B)),V0 rfl,V0 rfl,V0 rfl,J8 (show ((((2*(n+1)+(j+1):Nat):Int)+1):Int)=(((2*(n+1))+((j+1)+1):Nat):Int) from by omega),N7 _,T9 rfl,J8 (show ((((j+1:Nat):Int)+1):Int)=((((j+1)+1):Nat):Int) from by omega),trivial⟩ ⟨⟨by show 0<7;decide,X6 (Z3 (S5 (W8 (X9 [(v0,P0),(v1,P1),(v2,P2)]))) (Z3 (N8 (Y4 (X4 L))) (Y0)))⟩,⟨by show 1<7;decide,X6 (Z3 (N7 _) (Z3 (N7 _) (Y0)))⟩,⟨by show 2<7;decide,X6 (Z3 (T9 rfl) (Z3 (T9 rfl) (Y0)))⟩,⟨by show 3<7;decide,V2 (Y4 (Z2 _))⟩,⟨by show 4<7;decide,V2 (Z3 (T9 rfl) (Y0))⟩,⟨by show 5<7;decide,V2 (Y4 (Z2 _))⟩,⟨by show 6<7;decide,V2 (l8 (show ((cI (tI (D4 (cR P1) (cH B) B.length (2*(n+1))) ((j+1)+1))):List AV)=((cI (tI (D4 (cR P1) (cH B) B.length (2*(n+1))) (j+1)))++[(nI0 (pkV (Z9 (cR P1) ((j+1)*2+0)) (Z9 (cR P1) ((j+1)*2+1)) (cH B) B.length (((2*(n+1)+(j+1):Nat):Int)).toNat))]) from by (first|exact (a1g rfl (by unfold D4;rfl)).symm|exact (a1j (by unfold D4;rfl)).symm)) (Z2 _))⟩,trivial⟩) (Hd.en_on (⟨(j+1)+1,by omega,trivial⟩) (by show (n+1) - ((j+1)+1)<(n+1) - (j+1);omega) rfl)
 ·have ghqtr78_1:=Z5 hqtr78_1
  obtain rfl:n=j:=by omega
  exact Z8 A8 (Z6 zC0q (S4) 200 (T':=(b68 B L P0 P1 P2 n v0 v1 v2 y yl zb)) (e:=.exit 4) (ps:=[Y2 (((n)+1:Nat):Int) P1.length=false]) (gH 8 [.b false]) (by kernel_rfl) (by kernel_rfl) ⟨hqtr78_1,trivial⟩ rfl) (Hd.en_sx (c58 hT hB h0b hqtr24_1 hj2 hqtr78_1))
theorem c60(hT:m6 L P0 P1 P2 n)(hB:Q9 B)(h0b:True)(hqtr24_1:(Y2 (((n)+1:Nat):Int) L.length)=false):Y7 zP0q 73 a6m ((b1y B L P0 P1 P2 n v0 v1 v2 y yl zb)) (BaseW.H (bw v 0 eb ec) hs) (Hd.AfterN zP0q 73 s6 (bw v 0 eb ec) (Hd.AfterB zP0q 73 3 H7 (bw v 0 eb ec) (Hd.StepC zP0q 73 2 (fun i:{i:Nat // i≤3∧True}=>(K7 B L P0 P1 P2 n v0 v1 v2 y yl zb) i.1) (fun i:{i:Nat // i≤3∧True}=>3 - i.1) M3 (bw v 0 eb ec) (T4 zP0q Try.f43 73 ((.agg [.slu 0 0 3 0,.slu 1 0 (n+1) 0])) [(S2 n),(U3 B L n),(U1 B P0 n),(U8 B P1 n),(T8 B P2 n)] (bw v 0 eb ec)) (⟨1,by decide,trivial⟩:{i:Nat // i≤3∧True})))):=by
 have hcl_P0:=Z7 P0
 have hcl_P1:=Z7 P1
 have hcl_P2:=Z7 P2
 have hcl_L:=Z7 L
 have hcl_B:=Z4 B
 obtain ⟨hn,hn8,hp0,hp1,hp2,hL,hc0,hc1,hc2⟩:=(id hT)
 have ghqtr24_1:=Z5 hqtr24_1
 exact Hd.goes_loopA (id:=4) (by kernel_rfl) (by kernel_rfl) (fun j:{j:Nat // j≤(n+1)∧True}=>Ev.fam0 (a9r B L P0 P1 P2 n v0 v1 v2 y yl zb) (fun j=>(b3C B L P0 P1 P2 j n v0 v1 v2 y yl zb)) j.1) (fun j:{j:Nat // j≤(n+1)∧True}=>(n+1) - j.1) (fun i hs=>match i with|⟨0,h1,h2⟩=>c8j hT hB h0b hqtr24_1 h1 h2|⟨j+1,h1,h2⟩=>c6i hT hB h0b hqtr24_1 h1 h2) ⟨0,Nat.zero_le _,trivial⟩ hs
theorem c7n(hT:m6 L P0 P1 P2 n)(hB:Q9 B)(h0b:True)(hqtr24_1:(Y2 (((n)+1:Nat):Int) L.length)=false):Y7 zP0q 73 a6m ((b1y B L P0 P1 P2 n v0 v1 v2 y yl zb)) (BaseW.H (bw v 0 eb ec) hs) (Hd.AfterN zP0q 73 s6 (bw v 0 eb ec) (Hd.AfterB zP0q 73 3 H7 (bw v 0 eb ec) (Hd.StepC zP0q 73 2 (fun i:{i:Nat // i≤3∧True}=>(K7 B L P0 P1 P2 n v0 v1 v2 y yl zb) i.1) (fun i:{i:Nat // i≤3∧True}=>3 - i.1) M3 (bw v 0 eb ec) (T4 zP0q Try.f43 73 ((.agg [.slu 0 0 3 0,.slu 1 0 (n+1) 0])) [(S2 n),(U3 B L n),(U1 B P0 n),(U8 B P1 n),(T8 B P2 n)] (bw v 0 eb ec)) (⟨1,by decide,trivial⟩:{i:Nat // i≤3∧True})))):=by
 exact c60 hT hB h0b hqtr24_1
theorem c6l(hT:m6 L P0 P1 P2 n)(hB:Q9 B)(h0b:True)(hqtr24_1:(Y2 (((n)+1:Nat):Int) L.length)=false):Y7 zP0q 73 b3L ((b1o B L P0 P1 P2 n v0 v1 v2 y yl zb)) (BaseW.H (bw v 0 eb ec) hs) (Hd.AfterN zP0q 73 s6 (bw v 0 eb ec) (Hd.AfterB zP0q 73 3 H7 (bw v 0 eb ec) (Hd.StepC zP0q 73 2 (fun i:{i:Nat // i≤3∧True}=>(K7 B L P0 P1 P2 n v0 v1 v2 y yl zb) i.1) (fun i:{i:Nat // i≤3∧True}=>3 - i.1) M3 (bw v 0 eb ec) (T4 zP0q Try.f43 73 ((.agg [.slu 0 0 3 0,.slu 1 0 (n+1) 0])) [(S2 n),(U3 B L n),(U1 B P0 n),(U8 B P1 n),(T8 B P2 n)] (bw v 0 eb ec)) (⟨1,by decide,trivial⟩:{i:Nat // i≤3∧True})))):=by
 have hcl_P0:=Z7 P0
 have hcl_P1:=Z7 P1
 have hcl_P2:=Z7 P2
 have hcl_L:=Z7 L
 have hcl_B:=Z4 B
 obtain ⟨hn,hn8,hp0,hp1,hp2,hL,hc0,hc1,hc2⟩:=(id hT)
 have ghqtr24_1:=Z5 hqtr24_1
 refine Hd.goes_seqA (by kernel_rfl) ?_
 exact Z8 W4 (Z6 zC0q (S4) 200 (T':=(b1y B L P0 P1 P2 n v0 v1 v2 y yl zb)) (e:=.normal) (ps:=[]) [.go] (by kernel_rfl) (by kernel_rfl) trivial rfl) (Hd.en_n (c7n hT hB h0b hqtr24_1))
theorem c65(hT:m6 L P0 P1 P2 n)(hB:Q9 B)(h0b:True)(hqtr24_1:(Y2 (((n)+1:Nat):Int) L.length)=false):Y7 zP0q 73 b15 ((b1o B L P0 P1 P2 n v0 v1 v2 y yl zb)) (BaseW.H (bw v 0 eb ec) hs) (Hd.AfterB zP0q 73 3 H7 (bw v 0 eb ec) (Hd.StepC zP0q 73 2 (fun i:{i:Nat // i≤3∧True}=>(K7 B L P0 P1 P2 n v0 v1 v2 y yl zb) i.1) (fun i:{i:Nat // i≤3∧True}=>3 - i.1) M3 (bw v 0 eb ec) (T4 zP0q Try.f43 73 ((.agg [.slu 0 0 3 0,.slu 1 0 (n+1) 0])) [(S2 n),(U3 B L n),(U1 B P0 n),(U8 B P1 n),(T8 B P2 n)] (bw v 0 eb ec)) (⟨1,by decide,trivial⟩:{i:Nat // i≤3∧True}))):=by
 exact Hd.goes_seqA (by kernel_rfl) (c6l hT hB h0b hqtr24_1)
theorem c4U(hT:m6 L P0 P1 P2 n)(hB:Q9 B)(h0b:True)(hqtr24_1:(Y2 (((n)+1:Nat):Int) L.length)=false):Y7 zP0q 73 b3s ((a9L B L P0 P1 P2 n v0 v1 v2 y yl zb)) (BaseW.H (bw v 0 eb ec) hs) (Hd.AfterB zP0q 73 3 H7 (bw v 0 eb ec) (Hd.StepC zP0q 73 2 (fun i:{i:Nat // i≤3∧True}=>(K7 B L P0 P1 P2 n v0 v1 v2 y yl zb) i.1) (fun i:{i:Nat // i≤3∧True}=>3 - i.1) M3 (bw v 0 eb ec) (T4 zP0q Try.f43 73 ((.agg [.slu 0 0 3 0,.slu 1 0 (n+1) 0])) [(S2 n),(U3 B L n),(U1 B P0 n),(U8 B P1 n),(T8 B P2 n)] (bw v 0 eb ec)) (⟨1,by decide,trivial⟩:{i:Nat // i≤3∧True}))):=by
 have hcl_P0:=Z7 P0
 have hcl_P1:=Z7 P1
 have hcl_P2:=Z7 P2
 have hcl_L:=Z7 L
 have hcl_B:=Z4 B
 obtain ⟨hn,hn8,hp0,hp1,hp2,hL,hc0,hc1,hc2⟩:=(id hT)
 have ghqtr24_1:=Z5 hqtr24_1
 refine Hd.goes_seqA (by kernel_rfl) ?_
 exact Z8 W4 (Z6 zC0q (S4) 200 (T':=(b1o B L P0 P1 P2 n v0 v1 v2 y yl zb)) (e:=.normal) (ps:=[]) [.go] (by kernel_rfl) (by kernel_rfl) trivial rfl) (Hd.en_n (c65 hT hB h0b hqtr24_1))
theorem c7t(hT:m6 L P0 P1 P2 n)(hB:Q9 B)(h0b:True)(hqtr24_1:(Y2 (((n)+1:Nat):Int) L.length)=false):Y7 zP0q 73 (f9 a5a) ((a9L B L P0 P1 P2 n v0 v1 v2 y yl zb)) (BaseW.H (bw v 0 eb ec) hs) (Hd.AfterN zP0q 73 H7 (bw v 0 eb ec) (Hd.StepC zP0q 73 2 (fun i:{i:Nat // i≤3∧True}=>(K7 B L P0 P1 P2 n v0 v1 v2 y yl zb) i.1) (fun i:{i:Nat // i≤3∧True}=>3 - i.1) M3 (bw v 0 eb ec) (T4 zP0q Try.f43 73 ((.agg [.slu 0 0 3 0,.slu 1 0 (n+1) 0])) [(S2 n),(U3 B L n),(U1 B P0 n),(U8 B P1 n),(T8 B P2 n)] (bw v 0 eb ec)) (⟨1,by decide,trivial⟩:{i:Nat // i≤3∧True}))):=by
 exact Hd.goes_blkA (id:=3) (by kernel_rfl) (by kernel_rfl) (c4U hT hB h0b hqtr24_1)
theorem c6w(hT:m6 L P0 P1 P2 n)(hB:Q9 B)(h0b:True)(hqtr24_1:(Y2 (((n)+1:Nat):Int) L.length)=false):Y7 zP0q 73 a5a ((a9L B L P0 P1 P2 n v0 v1 v2 y yl zb)) (BaseW.H (bw v 0 eb ec) hs) (Hd.StepC zP0q 73 2 (fun i:{i:Nat // i≤3∧True}=>(K7 B L P0 P1 P2 n v0 v1 v2 y yl zb) i.1) (fun i:{i:Nat // i≤3∧True}=>3 - i.1) M3 (bw v 0 eb ec) (T4 zP0q Try.f43 73 ((.agg [.slu 0 0 3 0,.slu 1 0 (n+1) 0])) [(S2 n),(U3 B L n),(U1 B P0 n),(U8 B P1 n),(T8 B P2 n)] (bw v 0 eb ec)) (⟨1,by decide,trivial⟩:{i:Nat // i≤3∧True})):=by
 exact Hd.goes_seqA (by kernel_rfl) (c7t hT hB h0b hqtr24_1)
theorem c4l(hT:m6 L P0 P1 P2 n)(hB:Q9 B)(h0b:True)(hqtr24_1:(Y2 (((n)+1:Nat):Int) L.length)=false):Y7 zP0q 73 b1h ((b1s B L P0 P1 P2 n v0 v1 v2 y yl zb)) (BaseW.H (bw v 0 eb ec) hs) (Hd.StepC zP0q 73 2 (fun i:{i:Nat // i≤3∧True}=>(K7 B L P0 P1 P2 n v0 v1 v2 y yl zb) i.1) (fun i:{i:Nat // i≤3∧True}=>3 - i.1) M3 (bw v 0 eb ec) (T4 zP0q Try.f43 73 ((.agg [.slu 0 0 3 0,.slu 1 0 (n+1) 0])) [(S2 n),(U3 B L n),(U1 B P0 n),(U8 B P1 n),(T8 B P2 n)] (bw v 0 eb ec)) (⟨1,by decide,trivial⟩:{i:Nat // i≤3∧True})):=by
 have hcl_P0:=Z7 P0
 have hcl_P1:=Z7 P1
 have hcl_P2:=Z7 P2
 have hcl_L:=Z7 L
 have hcl_B:=Z4 B
 obtain ⟨hn,hn8,hp0,hp1,hp2,hL,hc0,hc1,hc2⟩:=(id hT)
 have ghqtr24_1:=Z5 hqtr24_1
 refine Hd.goes_seqA (by kernel_rfl) ?_
 exact Z8 W4 (Z6 zC0q (S4) 200 (T':=(a9L B L P0 P1 P2 n v0 v1 v2 y yl zb)) (e:=.normal) (ps:=[Y2 1 3=true]) (gH 5 [.b true]) (by kernel_rfl) (by kernel_rfl) ⟨rfl,trivial⟩ rfl) (Hd.en_n (c6w hT hB h0b hqtr24_1))
theorem c8d(hT:m6 L P0 P1 P2 n)(hB:Q9 B)(h0b:True)(hqtr24_1:(Y2 (((n)+1:Nat):Int) L.length)=false)(hj1:0≤(n+1))(hj2:True):Y7 zP0q 73 a7Q ((b3W B L P0 P1 P2 n v0 v1 v2 y yl zb)) (BaseW.H (bw v 0 eb ec) hs) (Hd.StepC zP0q 73 4 (fun j:{j:Nat // j≤(n+1)∧True}=>Ev.fam0 (b3W B L P0 P1 P2 n v0 v1 v2 y yl zb) (fun j=>(b3x B L P0 P1 P2 j n v0 v1 v2 y yl zb)) j.1) (fun j:{j:Nat // j≤(n+1)∧True}=>(n+1) - j.1) s6 (bw v 0 eb ec) (Hd.AfterB zP0q 73 3 H7 (bw v 0 eb ec) (Hd.StepC zP0q 73 2 (fun i:{i:Nat // i≤3∧True}=>(K7 B L P0 P1 P2 n v0 v1 v2 y yl zb) i.1) (fun i:{i:Nat // i≤3∧True}=>3 - i.1) M3 (bw v 0 eb ec) (T4 zP0q Try.f43 73 ((.agg [.slu 0 0 3 0,.slu 1 0 (n+1) 0])) [(S2 n),(U3 B L n),(U1 B P0 n),(U8 B P1 n),(T8 B P2 n)] (bw v 0 eb ec)) (⟨2,by decide,trivial⟩:{i:Nat // i≤3∧True}))) (⟨0,hj1,hj2⟩:{j:Nat // j≤(n+1)∧True})):=by
 have hcl_P0:=Z7 P0
 have hcl_P1:=Z7 P1
 have hcl_P2:=Z7 P2
 have hcl_L:=Z7 L
 have hcl_B:=Z4 B
 obtain ⟨hn,hn8,hp0,hp1,hp2,hL,hc0,hc1,hc2⟩:=(id hT)
 have ghqtr24_1:=Z5 hqtr24_1
 rcases zB0q (Y2 0 P2.length) with hqtr96_1|hqtr96_1
 ·have ghqtr96_1:=X5 hqtr96_1
  exact Z8 W4 (O5 zC0q (S4) 200 (T':=⟨[(O7 B zb),(2,(.ptr 0 0)),(4,(.ptr 1 0)),(5,(.ptr 2 0)),(6,(nI0 (((3*(n+1))+(0+1):Nat):Int))),(8,(nI0 (.ofNat 2))),(9,(.slu 7 0 (0+1) 0)),(10,(nI0 (((0+1):Nat):Int)))],[],8,[(O6 L P0 P1 P2 v0 v1 v2 y yl),P3,(2,(d8 n)),(M6 B L n),(4,(p7 n)),(H6 B P0 n),(6,(U8 B P1 n)),(7,(.row (cI (tI (D4 (cR P2) (cH B) B.length (3*(n+1))) (0+1))) 2 1))]⟩) (e:=.normal) (m:=9) (ps:=[Y2 0 P2.length=true,0<P2.length,W7 zP0q (cR P2) (0*2) 65=some (AV.agg [AV.v (Value.int IntKind.i64 (Z9 (cR P2) (0*2+0))),AV.v (Value.int IntKind.i64 (Z9 (cR P2) (0*2+1)))]),IsH 1 B.length (cH B),0≤Z9 (cR P2) (0*2+0)∧Z9 (cR P2) (0*2+0)≤Z9 (cR P2) (0*2+1)∧Z9 (cR P2) (0*2+1)≤1000,(0:Int)≤((3*(n+1):Nat):Int)∧((3*(n+1):Nat):Int)≤1000,N3 IntKind.i64 (((3*(n+1):Nat):Int)+1),N3 IntKind.i64 (((0:Nat):Int)+1)]) (gH 8 ([.b true]++gH 7 ([.sym,.sym]++gH 11 []))) [0,1,2,3,4,5,6,8] [(.xl (zb) (B.length) 1 (cH B)),(.ptr 0 0),(.ptr 1 0),(.ptr 2 0),(nI0 (((3*(n+1):Nat):Int)+1)),(nI0 (.ofNat 2)),(.slu 8 0 1 0),(nI0 (.ofNat 1))] [(l6 L P0 P1 P2 v0 v1 v2 y yl),A6,(d8 n),(U3 B L n),(p7 n),(U1 B P0 n),(U8 B P1 n),(.row [(nI0 (pkV (Z9 (cR P2) (0*2+0)) (Z9 (cR P2) (0*2+1)) (cH B) B.length (((3*(n+1):Nat):Int)).toNat))] 2 1)] (by kernel_rfl) (by kernel_rfl) ⟨hqtr96_1,(by omega),(L2 (by omega) 65 (Try.underlying65) rfl (inf:=(Try.prog.info? 65).getD default) (by kernel_rfl) (by kernel_rfl)),⟨rfl,B,rfl,rfl,hB⟩,(by have h9:=hc2 0 (by omega);unfold X7 at h9;omega),(by omega),(a0I (by omega) (by omega)),(a0I (by omega) (by omega)),trivial⟩ rfl rfl (by decide) rfl ⟨N8 (Y4 (J0 B)),V0 rfl,V0 rfl,V0 rfl,J8 (show ((((3*(n+1):Nat):Int)+1):Int)=(((3*(n+1))+(0+1):Nat):Int) from by omega),N7 _,T9 rfl,J8 (show (1:Int)=(((0+1):Nat):Int) from by omega),trivial⟩ ⟨⟨by show 0<8;decide,X6 (Z3 (S5 (W8 (X9 [(v0,P0),(v1,P1),(v2,P2)]))) (Z3 (N8 (Y4 (X4 L))) (Y0)))⟩,⟨by show 1<8;decide,X6 (Z3 (N7 _) (Z3 (N7 _) (Y0)))⟩,⟨by show 2<8;decide,X6 (Z3 (T9 rfl) (Z3 (T9 rfl) (Y0)))⟩,⟨by show 3<8;decide,V2 (Y4 (Z2 _))⟩,⟨by show 4<8;decide,V2 (Z3 (T9 rfl) (Z3 (T9 rfl) (Y0)))⟩,⟨by show 5<8;decide,V2 (Y4 (Z2 _))⟩,⟨by show 6<8;decide,V2 (Y4 (Z2 _))⟩,⟨by show 7<8;decide,V2 (l8 (show ((cI (tI (D4 (cR P2) (cH B) B.length (3*(n+1))) (0+1))):List AV)=[(nI0 (pkV (Z9 (cR P2) (0*2+0)) (Z9 (cR P2) (0*2+1)) (cH B) B.length (((3*(n+1):Nat):Int)).toNat))] from by (first|exact (a1g rfl (by unfold D4;rfl)).symm|exact (a1j (by unfold D4;rfl)).symm)) (Z2 _))⟩,trivial⟩) (Hd.en_on (⟨0+1,by omega,trivial⟩) (by show (n+1) - (0+1)<(n+1) - 0;omega) rfl)
 ·have ghqtr96_1:=Z5 hqtr96_1
  exfalso;omega
theorem c1Y(hT:m6 L P0 P1 P2 n)(hB:Q9 B)(h0b:True)(hqtr24_1:(Y2 (((n)+1:Nat):Int) L.length)=false)(h4b:True)(hqtr98_1:(Y2 (((n)+1:Nat):Int) P2.length)=false):Y7 zP0q 73 H7 ((c0i B L P0 P1 P2 n v0 v1 v2 y yl zb)) (BaseW.H (bw v 0 eb ec) hs) (Hd.StepC zP0q 73 2 (fun i:{i:Nat // i≤3∧True}=>(K7 B L P0 P1 P2 n v0 v1 v2 y yl zb) i.1) (fun i:{i:Nat // i≤3∧True}=>3 - i.1) M3 (bw v 0 eb ec) (T4 zP0q Try.f43 73 ((.agg [.slu 0 0 3 0,.slu 1 0 (n+1) 0])) [(S2 n),(U3 B L n),(U1 B P0 n),(U8 B P1 n),(T8 B P2 n)] (bw v 0 eb ec)) (⟨2,by decide,trivial⟩:{i:Nat // i≤3∧True})):=by
 have hcl_P0:=Z7 P0
 have hcl_P1:=Z7 P1
 have hcl_P2:=Z7 P2
 have hcl_L:=Z7 L
 have hcl_B:=Z4 B
 obtain ⟨hn,hn8,hp0,hp1,hp2,hL,hc0,hc1,hc2⟩:=(id hT)
 have ghqtr24_1:=Z5 hqtr24_1
 have ghqtr98_1:=Z5 hqtr98_1
 exact Z8 W4 (O5 zC0q (S4) 200 (T':=(b7D B L P0 P1 P2 n v0 v1 v2 y yl zb)) (e:=.normal) (m:=10) (ps:=[N3 IntKind.i64 ((2:Int)+1)]) [.go,.go,.go] [0,1,2,3,9,5,6,7] [(.xl (zb) (B.length) 1 (cH B)),(.ptr 0 0),(.ptr 1 0),(.ptr 2 0),(nI0 (((3*(n+1)+(n+1):Nat):Int))),(nI0 (.ofNat 3))] [(l6 L P0 P1 P2 v0 v1 v2 y yl),A6,(.cells [(.slu 9 0 3 0),(.slu 3 0 (n+1) 0)] 29),(U3 B L n),(.row [(.slu 5 0 (n+1) 0),(.slu 6 0 (n+1) 0),(.slu 7 0 (n+1) 0)] 27 1),(U1 B P0 n),(U8 B P1 n),(T8 B P2 n)] (by kernel_rfl) (by kernel_rfl) ⟨(a0I (by omega) (by omega)),trivial⟩ rfl rfl (by decide) rfl ⟨N8 (Y4 (J0 B)),V0 rfl,V0 rfl,V0 rfl,J8 (show ((((3*(n+1)+(n+1):Nat):Int)):Int)=(((4*(n+1)):Nat):Int) from by omega),J8 (show (3:Int)=((3:Nat):Int) from by omega),trivial⟩ ⟨⟨by show 0<8;decide,X6 (Z3 (S5 (W8 (X9 [(v0,P0),(v1,P1),(v2,P2)]))) (Z3 (N8 (Y4 (X4 L))) (Y0)))⟩,⟨by show 1<8;decide,X6 (Z3 (N7 _) (Z3 (N7 _) (Y0)))⟩,⟨by show 2<8;decide,X6 (Z3 (T9 rfl) (Z3 (T9 rfl) (Y0)))⟩,⟨by show 3<8;decide,V2 (Y4 (Z2 _))⟩,⟨by show 4<8;decide,V2 (Z3 (T9 rfl) (Z3 (T9 rfl) (Z3 (T9 rfl) (Y0))))⟩,⟨by show 5<8;decide,V2 (Y4 (Z2 _))⟩,⟨by show 6<8;decide,V2 (Y4 (Z2 _))⟩,⟨by show 7<8;decide,V2 (Y4 (Z2 _))⟩,trivial⟩) (Hd.en_on ⟨2+1,by decide,trivial⟩ (by show 3 - (2+1)<3 - 2;decide) rfl)
theorem c5A(hT:m6 L P0 P1 P2 n)(hB:Q9 B)(h0b:True)(hqtr24_1:(Y2 (((n)+1:Nat):Int) L.length)=false)(h4b:True)(hqtr98_1:(Y2 (((n)+1:Nat):Int) P2.length)=false):Y7 zP0q 73 s6 ((b9F B L P0 P1 P2 n v0 v1 v2 y yl zb)) (BaseW.H (bw v 0 eb ec) hs) (Hd.AfterB zP0q 73 3 H7 (bw v 0 eb ec) (Hd.StepC zP0q 73 2 (fun i:{i:Nat // i≤3∧True}=>(K7 B L P0 P1 P2 n v0 v1 v2 y yl zb) i.1) (fun i:{i:Nat // i≤3∧True}=>3 - i.1) M3 (bw v 0 eb ec) (T4 zP0q Try.f43 73 ((.agg [.slu 0 0 3 0,.slu 1 0 (n+1) 0])) [(S2 n),(U3 B L n),(U1 B P0 n),(U8 B P1 n),(T8 B P2 n)] (bw v 0 eb ec)) (⟨2,by decide,trivial⟩:{i:Nat // i≤3∧True}))):=by
 have hcl_P0:=Z7 P0
 have hcl_P1:=Z7 P1
 have hcl_P2:=Z7 P2
 have hcl_L:=Z7 L
 have hcl_B:=Z4 B
 obtain ⟨hn,hn8,hp0,hp1,hp2,hL,hc0,hc1,hc2⟩:=(id hT)
 have ghqtr24_1:=Z5 hqtr24_1
 have ghqtr98_1:=Z5 hqtr98_1
 exact Z8 W4 (Z6 zC0q (S4) 200 (T':=(c0i B L P0 P1 P2 n v0 v1 v2 y yl zb)) (e:=.normal) (ps:=[]) (gH 7 []) (by kernel_rfl) (by kernel_rfl) trivial rfl) (Hd.en_bn (c1Y hT hB h0b hqtr24_1 h4b hqtr98_1))
theorem c7E(hT:m6 L P0 P1 P2 n)(hB:Q9 B)(h0b:True)(hqtr24_1:(Y2 (((n)+1:Nat):Int) L.length)=false)(hj1:(j+1)≤(n+1))(hj2:True):Y7 zP0q 73 a7Q ((b3x B L P0 P1 P2 j n v0 v1 v2 y yl zb)) (BaseW.H (bw v 0 eb ec) hs) (Hd.StepC zP0q 73 4 (fun j:{j:Nat // j≤(n+1)∧True}=>Ev.fam0 (b3W B L P0 P1 P2 n v0 v1 v2 y yl zb) (fun j=>(b3x B L P0 P1 P2 j n v0 v1 v2 y yl zb)) j.1) (fun j:{j:Nat // j≤(n+1)∧True}=>(n+1) - j.1) s6 (bw v 0 eb ec) (Hd.AfterB zP0q 73 3 H7 (bw v 0 eb ec) (Hd.StepC zP0q 73 2 (fun i:{i:Nat // i≤3∧True}=>(K7 B L P0 P1 P2 n v0 v1 v2 y yl zb) i.1) (fun i:{i:Nat // i≤3∧True}=>3 - i.1) M3 (bw v 0 eb ec) (T4 zP0q Try.f43 73 ((.agg [.slu 0 0 3 0,.slu 1 0 (n+1) 0])) [(S2 n),(U3 B L n),(U1 B P0 n),(U8 B P1 n),(T8 B P2 n)] (bw v 0 eb ec)) (⟨2,by decide,trivial⟩:{i:Nat // i≤3∧True}))) (⟨(j+1),hj1,hj2⟩:{j:Nat // j≤(n+1)∧True})):=by
 have hcl_P0:=Z7 P0
 have hcl_P1:=Z7 P1
 have hcl_P2:=Z7 P2
 have hcl_L:=Z7 L
 have hcl_B:=Z4 B
 obtain ⟨hn,hn8,hp0,hp1,hp2,hL,hc0,hc1,hc2⟩:=(id hT)
 have ghqtr24_1:=Z5 hqtr24_1
 rcases zB0q (Y2 ((j+1:Nat):Int) P2.length) with hqtr98_1|hqtr98_1
 ·have ghqtr98_1:=X5 hqtr98_1
  exact Z8 W4 (O5 zC0q (S4) 200 (T':=⟨[(O7 B zb),(2,(.ptr 0 0)),(4,(.ptr 1 0)),(5,(.ptr 2 0)),(6,(nI0 (((3*(n+1))+((j+1)+1):Nat):Int))),(8,(nI0 (.ofNat 2))),(9,(.slu 7 0 ((j+1)+1) 0)),(10,(nI0 ((((j+1)+1):Nat):Int)))],[],8,[(O6 L P0 P1 P2 v0 v1 v2 y yl),P3,(2,(d8 n)),(M6 B L n),(4,(p7 n)),(H6 B P0 n),(6,(U8 B P1 n)),(7,(.row (cI (tI (D4 (cR P2) (cH B) B.length (3*(n+1))) ((j+1)+1))) 2 1))]⟩) (e:=.normal) (m:=10) (ps:=[Y2 ((j+1:Nat):Int) P2.length=true,j+1<P2.length,W7 zP0q (cR P2) ((j+1)*2) 65=some (AV.agg [AV.v (Value.int IntKind.i64 (Z9 (cR P2) ((j+1)*2+0))),AV.v (Value.int IntKind.i64 (Z9 (cR P2) ((j+1)*2+1)))]),IsH 1 B.length (cH B),0≤Z9 (cR P2) ((j+1)*2+0)∧Z9 (cR P2) ((j+1)*2+0)≤Z9 (cR P2) ((j+1)*2+1)∧Z9 (cR P2) ((j+1)*2+1)≤1000,(0:Int)≤((3*(n+1)+(j+1):Nat):Int)∧((3*(n+1)+(j+1):Nat):Int)≤1000,((cI (tI (D4 (cR P2) (cH B) B.length (3*(n+1))) (j+1))):List AV).length=(j+1)*1,j+1+1≤1000000,N3 IntKind.i64 (((3*(n+1)+(j+1):Nat):Int)+1),N3 IntKind.i64 (((j+1:Nat):Int)+1)]) (gH 8 ([.b true]++gH 7 ([.sym,.sym,.go,.go,.go,.sym]++gH 7 []))) [0,1,2,3,4,5,6,9] [(.xl (zb) (B.length) 1 (cH B)),(.ptr 0 0),(.ptr 1 0),(.ptr 2 0),(nI0 (((3*(n+1)+(j+1):Nat):Int)+1)),(nI0 (.ofNat 2)),(.slu 9 0 (j+1+1) 0),(nI0 (((j+1:Nat):Int)+1))] [(l6 L P0 P1 P2 v0 v1 v2 y yl),A6,(d8 n),(U3 B L n),(p7 n),(U1 B P0 n),(U8 B P1 n),(.row ((cI (tI (D4 (cR P2) (cH B) B.length (3*(n+1))) (j+1)))++[(nI0 (pkV (Z9 (cR P2) ((j+1)*2+0)) (Z9 (cR P2) ((j+1)*2+1)) (cH B) B.length (((3*(n+1)+(j+1):Nat):Int)).toNat))]) 2 1)] (by kernel_rfl) (by kernel_rfl) ⟨hqtr98_1,(by omega),(L2 (by omega) 65 (Try.underlying65) rfl (inf:=(Try.prog.info? 65).getD default) (by kernel_rfl) (by kernel_rfl)),⟨rfl,B,rfl,rfl,hB⟩,(by have h9:=hc2 (j+1) (by omega);unfold X7 at h9;omega),(by omega),(by show (cI _).length=_;rw [Z4,Y9];omega),(by omega),(a0I (by omega) (by omega)),(a0I (by omega) (by omega)),trivial⟩ rfl rfl (by decide) rfl ⟨N8 (Y4 (J0 B)),V0 rfl,V0 rfl,V0 rfl,J8 (show ((((3*(n+1)+(j+1):Nat):Int)+1):Int)=(((3*(n+1))+((j+1)+1):Nat):Int) from by omega),N7 _,T9 rfl,J8 (show ((((j+1:Nat):Int)+1):Int)=((((j+1)+1):Nat):Int) from by omega),trivial⟩ ⟨⟨by show 0<8;decide,X6 (Z3 (S5 (W8 (X9 [(v0,P0),(v1,P1),(v2,P2)]))) (Z3 (N8 (Y4 (X4 L))) (Y0)))⟩,⟨by show 1<8;decide,X6 (Z3 (N7 _) (Z3 (N7 _) (Y0)))⟩,⟨by show 2<8;decide,X6 (Z3 (T9 rfl) (Z3 (T9 rfl) (Y0)))⟩,⟨by show 3<8;decide,V2 (Y4 (Z2 _))⟩,⟨by show 4<8;decide,V2 (Z3 (T9 rfl) (Z3 (T9 rfl) (Y0)))⟩,⟨by show 5<8;decide,V2 (Y4 (Z2 _))⟩,⟨by show 6<8;decide,V2 (Y4 (Z2 _))⟩,⟨by show 7<8;decide,V2 (l8 (show ((cI (tI (D4 (cR P2) (cH B) B.length (3*(n+1))) ((j+1)+1))):List AV)=((cI (tI (D4 (cR P2) (cH B) B.length (3*(n+1))) (j+1)))++[(nI0 (pkV (Z9 (cR P2) ((j+1)*2+0)) (Z9 (cR P2) ((j+1)*2+1)) (cH B) B.length (((3*(n+1)+(j+1):Nat):Int)).toNat))]) from by (first|exact (a1g rfl (by unfold D4;rfl)).symm|exact (a1j (by unfold D4;rfl)).symm)) (Z2 _))⟩,trivial⟩) (Hd.en_on (⟨(j+1)+1,by omega,trivial⟩) (by show (n+1) - ((j+1)+1)<(n+1) - (j+1);omega) rfl)
 ·have ghqtr98_1:=Z5 hqtr98_1
  obtain rfl:n=j:=by omega
  exact Z8 A8 (Z6 zC0q (S4) 200 (T':=(b9F B L P0 P1 P2 n v0 v1 v2 y yl zb)) (e:=.exit 4) (ps:=[Y2 (((n)+1:Nat):Int) P2.length=false]) (gH 8 [.b false]) (by kernel_rfl) (by kernel_rfl) ⟨hqtr98_1,trivial⟩ rfl) (Hd.en_sx (c5A hT hB h0b hqtr24_1 hj2 hqtr98_1))
theorem c5N(hT:m6 L P0 P1 P2 n)(hB:Q9 B)(h0b:True)(hqtr24_1:(Y2 (((n)+1:Nat):Int) L.length)=false):Y7 zP0q 73 a6m ((b6r B L P0 P1 P2 n v0 v1 v2 y yl zb)) (BaseW.H (bw v 0 eb ec) hs) (Hd.AfterN zP0q 73 s6 (bw v 0 eb ec) (Hd.AfterB zP0q 73 3 H7 (bw v 0 eb ec) (Hd.StepC zP0q 73 2 (fun i:{i:Nat // i≤3∧True}=>(K7 B L P0 P1 P2 n v0 v1 v2 y yl zb) i.1) (fun i:{i:Nat // i≤3∧True}=>3 - i.1) M3 (bw v 0 eb ec) (T4 zP0q Try.f43 73 ((.agg [.slu 0 0 3 0,.slu 1 0 (n+1) 0])) [(S2 n),(U3 B L n),(U1 B P0 n),(U8 B P1 n),(T8 B P2 n)] (bw v 0 eb ec)) (⟨2,by decide,trivial⟩:{i:Nat // i≤3∧True})))):=by
 have hcl_P0:=Z7 P0
 have hcl_P1:=Z7 P1
 have hcl_P2:=Z7 P2
 have hcl_L:=Z7 L
 have hcl_B:=Z4 B
 obtain ⟨hn,hn8,hp0,hp1,hp2,hL,hc0,hc1,hc2⟩:=(id hT)
 have ghqtr24_1:=Z5 hqtr24_1
 exact Hd.goes_loopA (id:=4) (by kernel_rfl) (by kernel_rfl) (fun j:{j:Nat // j≤(n+1)∧True}=>Ev.fam0 (b3W B L P0 P1 P2 n v0 v1 v2 y yl zb) (fun j=>(b3x B L P0 P1 P2 j n v0 v1 v2 y yl zb)) j.1) (fun j:{j:Nat // j≤(n+1)∧True}=>(n+1) - j.1) (fun i hs=>match i with|⟨0,h1,h2⟩=>c8d hT hB h0b hqtr24_1 h1 h2|⟨j+1,h1,h2⟩=>c7E hT hB h0b hqtr24_1 h1 h2) ⟨0,Nat.zero_le _,trivial⟩ hs
theorem c5j(hT:m6 L P0 P1 P2 n)(hB:Q9 B)(h0b:True)(hqtr24_1:(Y2 (((n)+1:Nat):Int) L.length)=false):Y7 zP0q 73 a6m ((b6r B L P0 P1 P2 n v0 v1 v2 y yl zb)) (BaseW.H (bw v 0 eb ec) hs) (Hd.AfterN zP0q 73 s6 (bw v 0 eb ec) (Hd.AfterB zP0q 73 3 H7 (bw v 0 eb ec) (Hd.StepC zP0q 73 2 (fun i:{i:Nat // i≤3∧True}=>(K7 B L P0 P1 P2 n v0 v1 v2 y yl zb) i.1) (fun i:{i:Nat // i≤3∧True}=>3 - i.1) M3 (bw v 0 eb ec) (T4 zP0q Try.f43 73 ((.agg [.slu 0 0 3 0,.slu 1 0 (n+1) 0])) [(S2 n),(U3 B L n),(U1 B P0 n),(U8 B P1 n),(T8 B P2 n)] (bw v 0 eb ec)) (⟨2,by decide,trivial⟩:{i:Nat // i≤3∧True})))):=by
 exact c5N hT hB h0b hqtr24_1
theorem c6W(hT:m6 L P0 P1 P2 n)(hB:Q9 B)(h0b:True)(hqtr24_1:(Y2 (((n)+1:Nat):Int) L.length)=false):Y7 zP0q 73 b3L ((b76 B L P0 P1 P2 n v0 v1 v2 y yl zb)) (BaseW.H (bw v 0 eb ec) hs) (Hd.AfterN zP0q 73 s6 (bw v 0 eb ec) (Hd.AfterB zP0q 73 3 H7 (bw v 0 eb ec) (Hd.StepC zP0q 73 2 (fun i:{i:Nat // i≤3∧True}=>(K7 B L P0 P1 P2 n v0 v1 v2 y yl zb) i.1) (fun i:{i:Nat // i≤3∧True}=>3 - i.1) M3 (bw v 0 eb ec) (T4 zP0q Try.f43 73 ((.agg [.slu 0 0 3 0,.slu 1 0 (n+1) 0])) [(S2 n),(U3 B L n),(U1 B P0 n),(U8 B P1 n),(T8 B P2 n)] (bw v 0 eb ec)) (⟨2,by decide,trivial⟩:{i:Nat // i≤3∧True})))):=by
 have hcl_P0:=Z7 P0
 have hcl_P1:=Z7 P1
 have hcl_P2:=Z7 P2
 have hcl_L:=Z7 L
 have hcl_B:=Z4 B
 obtain ⟨hn,hn8,hp0,hp1,hp2,hL,hc0,hc1,hc2⟩:=(id hT)
 have ghqtr24_1:=Z5 hqtr24_1
 refine Hd.goes_seqA (by kernel_rfl) ?_
 exact Z8 W4 (Z6 zC0q (S4) 200 (T':=(b6r B L P0 P1 P2 n v0 v1 v2 y yl zb)) (e:=.normal) (ps:=[]) [.go] (by kernel_rfl) (by kernel_rfl) trivial rfl) (Hd.en_n (c5j hT hB h0b hqtr24_1))
theorem c6Q(hT:m6 L P0 P1 P2 n)(hB:Q9 B)(h0b:True)(hqtr24_1:(Y2 (((n)+1:Nat):Int) L.length)=false):Y7 zP0q 73 b15 ((b76 B L P0 P1 P2 n v0 v1 v2 y yl zb)) (BaseW.H (bw v 0 eb ec) hs) (Hd.AfterB zP0q 73 3 H7 (bw v 0 eb ec) (Hd.StepC zP0q 73 2 (fun i:{i:Nat // i≤3∧True}=>(K7 B L P0 P1 P2 n v0 v1 v2 y yl zb) i.1) (fun i:{i:Nat // i≤3∧True}=>3 - i.1) M3 (bw v 0 eb ec) (T4 zP0q Try.f43 73 ((.agg [.slu 0 0 3 0,.slu 1 0 (n+1) 0])) [(S2 n),(U3 B L n),(U1 B P0 n),(U8 B P1 n),(T8 B P2 n)] (bw v 0 eb ec)) (⟨2,by decide,trivial⟩:{i:Nat // i≤3∧True}))):=by
 exact Hd.goes_seqA (by kernel_rfl) (c6W hT hB h0b hqtr24_1)
theorem c7G(hT:m6 L P0 P1 P2 n)(hB:Q9 B)(h0b:True)(hqtr24_1:(Y2 (((n)+1:Nat):Int) L.length)=false):Y7 zP0q 73 b3s ((a9a B L P0 P1 P2 n v0 v1 v2 y yl zb)) (BaseW.H (bw v 0 eb ec) hs) (Hd.AfterB zP0q 73 3 H7 (bw v 0 eb ec) (Hd.StepC zP0q 73 2 (fun i:{i:Nat // i≤3∧True}=>(K7 B L P0 P1 P2 n v0 v1 v2 y yl zb) i.1) (fun i:{i:Nat // i≤3∧True}=>3 - i.1) M3 (bw v 0 eb ec) (T4 zP0q Try.f43 73 ((.agg [.slu 0 0 3 0,.slu 1 0 (n+1) 0])) [(S2 n),(U3 B L n),(U1 B P0 n),(U8 B P1 n),(T8 B P2 n)] (bw v 0 eb ec)) (⟨2,by decide,trivial⟩:{i:Nat // i≤3∧True}))):=by
 have hcl_P0:=Z7 P0
 have hcl_P1:=Z7 P1
 have hcl_P2:=Z7 P2
 have hcl_L:=Z7 L
 have hcl_B:=Z4 B
 obtain ⟨hn,hn8,hp0,hp1,hp2,hL,hc0,hc1,hc2⟩:=(id hT)
 have ghqtr24_1:=Z5 hqtr24_1
 refine Hd.goes_seqA (by kernel_rfl) ?_
 exact Z8 W4 (Z6 zC0q (S4) 200 (T':=(b76 B L P0 P1 P2 n v0 v1 v2 y yl zb)) (e:=.normal) (ps:=[]) [.go] (by kernel_rfl) (by kernel_rfl) trivial rfl) (Hd.en_n (c6Q hT hB h0b hqtr24_1))
theorem c5c(hT:m6 L P0 P1 P2 n)(hB:Q9 B)(h0b:True)(hqtr24_1:(Y2 (((n)+1:Nat):Int) L.length)=false):Y7 zP0q 73 (f9 a5a) ((a9a B L P0 P1 P2 n v0 v1 v2 y yl zb)) (BaseW.H (bw v 0 eb ec) hs) (Hd.AfterN zP0q 73 H7 (bw v 0 eb ec) (Hd.StepC zP0q 73 2 (fun i:{i:Nat // i≤3∧True}=>(K7 B L P0 P1 P2 n v0 v1 v2 y yl zb) i.1) (fun i:{i:Nat // i≤3∧True}=>3 - i.1) M3 (bw v 0 eb ec) (T4 zP0q Try.f43 73 ((.agg [.slu 0 0 3 0,.slu 1 0 (n+1) 0])) [(S2 n),(U3 B L n),(U1 B P0 n),(U8 B P1 n),(T8 B P2 n)] (bw v 0 eb ec)) (⟨2,by decide,trivial⟩:{i:Nat // i≤3∧True}))):=by
 exact Hd.goes_blkA (id:=3) (by kernel_rfl) (by kernel_rfl) (c7G hT hB h0b hqtr24_1)
theorem c4z(hT:m6 L P0 P1 P2 n)(hB:Q9 B)(h0b:True)(hqtr24_1:(Y2 (((n)+1:Nat):Int) L.length)=false):Y7 zP0q 73 a5a ((a9a B L P0 P1 P2 n v0 v1 v2 y yl zb)) (BaseW.H (bw v 0 eb ec) hs) (Hd.StepC zP0q 73 2 (fun i:{i:Nat // i≤3∧True}=>(K7 B L P0 P1 P2 n v0 v1 v2 y yl zb) i.1) (fun i:{i:Nat // i≤3∧True}=>3 - i.1) M3 (bw v 0 eb ec) (T4 zP0q Try.f43 73 ((.agg [.slu 0 0 3 0,.slu 1 0 (n+1) 0])) [(S2 n),(U3 B L n),(U1 B P0 n),(U8 B P1 n),(T8 B P2 n)] (bw v 0 eb ec)) (⟨2,by decide,trivial⟩:{i:Nat // i≤3∧True})):=by
 exact Hd.goes_seqA (by kernel_rfl) (c5c hT hB h0b hqtr24_1)
theorem c6p(hT:m6 L P0 P1 P2 n)(hB:Q9 B)(h0b:True)(hqtr24_1:(Y2 (((n)+1:Nat):Int) L.length)=false):Y7 zP0q 73 b1h ((b2V B L P0 P1 P2 n v0 v1 v2 y yl zb)) (BaseW.H (bw v 0 eb ec) hs) (Hd.StepC zP0q 73 2 (fun i:{i:Nat // i≤3∧True}=>(K7 B L P0 P1 P2 n v0 v1 v2 y yl zb) i.1) (fun i:{i:Nat // i≤3∧True}=>3 - i.1) M3 (bw v 0 eb ec) (T4 zP0q Try.f43 73 ((.agg [.slu 0 0 3 0,.slu 1 0 (n+1) 0])) [(S2 n),(U3 B L n),(U1 B P0 n),(U8 B P1 n),(T8 B P2 n)] (bw v 0 eb ec)) (⟨2,by decide,trivial⟩:{i:Nat // i≤3∧True})):=by
 have hcl_P0:=Z7 P0
 have hcl_P1:=Z7 P1
 have hcl_P2:=Z7 P2
 have hcl_L:=Z7 L
 have hcl_B:=Z4 B
 obtain ⟨hn,hn8,hp0,hp1,hp2,hL,hc0,hc1,hc2⟩:=(id hT)
 have ghqtr24_1:=Z5 hqtr24_1
 refine Hd.goes_seqA (by kernel_rfl) ?_
 exact Z8 W4 (Z6 zC0q (S4) 200 (T':=(a9a B L P0 P1 P2 n v0 v1 v2 y yl zb)) (e:=.normal) (ps:=[Y2 2 3=true]) (gH 5 [.b true]) (by kernel_rfl) (by kernel_rfl) ⟨rfl,trivial⟩ rfl) (Hd.en_n (c4z hT hB h0b hqtr24_1))
theorem c3B(hT:m6 L P0 P1 P2 n)(hB:Q9 B)(h0b:True)(hqtr24_1:(Y2 (((n)+1:Nat):Int) L.length)=false):Y7 zP0q 73 M3 ((b6X B L P0 P1 P2 n)) (BaseW.H (bw v 0 eb ec) hs) (T4 zP0q Try.f43 73 ((.agg [.slu 0 0 3 0,.slu 1 0 (n+1) 0])) [(S2 n),(U3 B L n),(U1 B P0 n),(U8 B P1 n),(T8 B P2 n)] (bw v 0 eb ec)):=by
 have hcl_P0:=Z7 P0
 have hcl_P1:=Z7 P1
 have hcl_P2:=Z7 P2
 have hcl_L:=Z7 L
 have hcl_B:=Z4 B
 obtain ⟨hn,hn8,hp0,hp1,hp2,hL,hc0,hc1,hc2⟩:=(id hT)
 have ghqtr24_1:=Z5 hqtr24_1
 exact Z8 U9 (O5 zC0q (S4) 200 (T':=⟨[(4,(.ptr 5 0))],[],6,[(0,(.row [(.slu 2 0 (n+1) 0),(.slu 3 0 (n+1) 0),(.slu 4 0 (n+1) 0)] 27 1)),(1,(U3 B L n)),(2,(U1 B P0 n)),(3,(U8 B P1 n)),(4,(T8 B P2 n)),(5,(.cells [(.slu 0 0 3 0),(.slu 1 0 (n+1) 0)] 29))]⟩) (e:=.ret) (m:=8) (ps:=[]) [.go,.go] [4,3,5,6,7,1] [(.ptr 1 0)] [(.row [(.slu 5 0 (n+1) 0),(.slu 6 0 (n+1) 0),(.slu 7 0 (n+1) 0)] 27 1),(U3 B L n),(U1 B P0 n),(U8 B P1 n),(T8 B P2 n),(.cells [(.slu 4 0 3 0),(.slu 3 0 (n+1) 0)] 29)] (by kernel_rfl) (by kernel_rfl) trivial rfl rfl (by decide) rfl ⟨V0 rfl,trivial⟩ ⟨⟨by show 0<6;decide,V2 (Z3 (T9 rfl) (Z3 (T9 rfl) (Z3 (T9 rfl) (Y0))))⟩,⟨by show 1<6;decide,V2 (Y4 (Z2 _))⟩,⟨by show 2<6;decide,V2 (Y4 (Z2 _))⟩,⟨by show 3<6;decide,V2 (Y4 (Z2 _))⟩,⟨by show 4<6;decide,V2 (Y4 (Z2 _))⟩,⟨by show 5<6;decide,X6 (Z3 (T9 rfl) (Z3 (T9 rfl) (Y0)))⟩,trivial⟩) (k8 (r:=(.agg [(.slu 0 0 3 0),(.slu 1 0 (n+1) 0)])) (ys:=[(.row [(.slu 2 0 (n+1) 0),(.slu 3 0 (n+1) 0),(.slu 4 0 (n+1) 0)] 27 1),(U3 B L n),(U1 B P0 n),(U8 B P1 n),(T8 B P2 n)]) (by rfl) (by rfl) (z5 (by kernel_rfl) (by kernel_rfl) rfl (.inr rfl)))
theorem c3P(hT:m6 L P0 P1 P2 n)(hB:Q9 B)(h0b:True)(hqtr24_1:(Y2 (((n)+1:Nat):Int) L.length)=false):Y7 zP0q 73 b1h ((b7D B L P0 P1 P2 n v0 v1 v2 y yl zb)) (BaseW.H (bw v 0 eb ec) hs) (Hd.StepC zP0q 73 2 (fun i:{i:Nat // i≤3∧True}=>(K7 B L P0 P1 P2 n v0 v1 v2 y yl zb) i.1) (fun i:{i:Nat // i≤3∧True}=>3 - i.1) M3 (bw v 0 eb ec) (T4 zP0q Try.f43 73 ((.agg [.slu 0 0 3 0,.slu 1 0 (n+1) 0])) [(S2 n),(U3 B L n),(U1 B P0 n),(U8 B P1 n),(T8 B P2 n)] (bw v 0 eb ec)) (⟨3,by decide,trivial⟩:{i:Nat // i≤3∧True})):=by
 have hcl_P0:=Z7 P0
 have hcl_P1:=Z7 P1
 have hcl_P2:=Z7 P2
 have hcl_L:=Z7 L
 have hcl_B:=Z4 B
 obtain ⟨hn,hn8,hp0,hp1,hp2,hL,hc0,hc1,hc2⟩:=(id hT)
 have ghqtr24_1:=Z5 hqtr24_1
 refine Hd.goes_seqA (by kernel_rfl) ?_
 exact Z8 A8 (Z6 zC0q (S4) 200 (T':=(b6X B L P0 P1 P2 n)) (e:=.exit 2) (ps:=[Y2 3 3=false]) (gH 5 [.b false]) (by kernel_rfl) (by kernel_rfl) ⟨rfl,trivial⟩ rfl) (Hd.en_o (by intro h;cases h) (Hd.en_sx (c3B hT hB h0b hqtr24_1)))
theorem c88(hT:m6 L P0 P1 P2 n)(hB:Q9 B)(h0b:True)(hqtr24_1:(Y2 (((n)+1:Nat):Int) L.length)=false):Y7 zP0q 73 b8x ((a2J B L P0 P1 P2 n v0 v1 v2 y yl zb)) (BaseW.H (bw v 0 eb ec) hs) (Hd.AfterN zP0q 73 M3 (bw v 0 eb ec) (T4 zP0q Try.f43 73 ((.agg [.slu 0 0 3 0,.slu 1 0 (n+1) 0])) [(S2 n),(U3 B L n),(U1 B P0 n),(U8 B P1 n),(T8 B P2 n)] (bw v 0 eb ec))):=by
 have hcl_P0:=Z7 P0
 have hcl_P1:=Z7 P1
 have hcl_P2:=Z7 P2
 have hcl_L:=Z7 L
 have hcl_B:=Z4 B
 obtain ⟨hn,hn8,hp0,hp1,hp2,hL,hc0,hc1,hc2⟩:=(id hT)
 have ghqtr24_1:=Z5 hqtr24_1
 exact Hd.goes_loopA (id:=2) (by kernel_rfl) (by kernel_rfl) (fun i:{i:Nat // i≤3∧True}=>(K7 B L P0 P1 P2 n v0 v1 v2 y yl zb) i.1) (fun i:{i:Nat // i≤3∧True}=>3 - i.1) (fun ix_ hs=>match ix_ with|⟨0,_,_⟩=>c7z hT hB h0b hqtr24_1|⟨1,_,_⟩=>c4l hT hB h0b hqtr24_1|⟨2,_,_⟩=>c6p hT hB h0b hqtr24_1|⟨3,_,_⟩=>c3P hT hB h0b hqtr24_1|⟨j_+4,h1_,_⟩=>absurd h1_ (by omega)) ⟨0,Nat.zero_le _,trivial⟩ hs
theorem c8l(hT:m6 L P0 P1 P2 n)(hB:Q9 B)(h0b:True)(hqtr24_1:(Y2 (((n)+1:Nat):Int) L.length)=false):Y7 zP0q 73 b8x ((a2J B L P0 P1 P2 n v0 v1 v2 y yl zb)) (BaseW.H (bw v 0 eb ec) hs) (Hd.AfterN zP0q 73 M3 (bw v 0 eb ec) (T4 zP0q Try.f43 73 ((.agg [.slu 0 0 3 0,.slu 1 0 (n+1) 0])) [(S2 n),(U3 B L n),(U1 B P0 n),(U8 B P1 n),(T8 B P2 n)] (bw v 0 eb ec))):=by
 exact c88 hT hB h0b hqtr24_1
theorem c8e(hT:m6 L P0 P1 P2 n)(hB:Q9 B)(h0b:True)(hqtr24_1:(Y2 (((n)+1:Nat):Int) L.length)=false):Y7 zP0q 73 c0s ((b1J B L P0 P1 P2 n v0 v1 v2 y yl zb)) (BaseW.H (bw v 0 eb ec) hs) (Hd.AfterN zP0q 73 M3 (bw v 0 eb ec) (T4 zP0q Try.f43 73 ((.agg [.slu 0 0 3 0,.slu 1 0 (n+1) 0])) [(S2 n),(U3 B L n),(U1 B P0 n),(U8 B P1 n),(T8 B P2 n)] (bw v 0 eb ec))):=by
 have hcl_P0:=Z7 P0
 have hcl_P1:=Z7 P1
 have hcl_P2:=Z7 P2
 have hcl_L:=Z7 L
 have hcl_B:=Z4 B
 obtain ⟨hn,hn8,hp0,hp1,hp2,hL,hc0,hc1,hc2⟩:=(id hT)
 have ghqtr24_1:=Z5 hqtr24_1
 refine Hd.goes_seqA (by kernel_rfl) ?_
 exact Z8 W4 (Z6 zC0q (S4) 200 (T':=(a2J B L P0 P1 P2 n v0 v1 v2 y yl zb)) (e:=.normal) (ps:=[]) [.go] (by kernel_rfl) (by kernel_rfl) trivial rfl) (Hd.en_n (c8l hT hB h0b hqtr24_1))
theorem c5C(hT:m6 L P0 P1 P2 n)(hB:Q9 B)(h0b:True)(hqtr24_1:(Y2 (((n)+1:Nat):Int) L.length)=false):Y7 zP0q 73 a5h ((b1J B L P0 P1 P2 n v0 v1 v2 y yl zb)) (BaseW.H (bw v 0 eb ec) hs) (T4 zP0q Try.f43 73 ((.agg [.slu 0 0 3 0,.slu 1 0 (n+1) 0])) [(S2 n),(U3 B L n),(U1 B P0 n),(U8 B P1 n),(T8 B P2 n)] (bw v 0 eb ec)):=by
 exact Hd.goes_seqA (by kernel_rfl) (c8e hT hB h0b hqtr24_1)
theorem c4P(hT:m6 L P0 P1 P2 n)(hB:Q9 B)(hi1:(i+1)≤(n+1))(hi2:True):Y7 zP0q 73 b9W ((a9K B L P0 P1 P2 i v0 v1 v2 y yl zb)) (BaseW.H (bw v 0 eb ec) hs) (Hd.StepC zP0q 73 0 (fun i:{i:Nat // i≤(n+1)∧True}=>Ev.fam0 (a98 B L P0 P1 P2 v0 v1 v2 y yl zb) (fun i=>(a9K B L P0 P1 P2 i v0 v1 v2 y yl zb)) i.1) (fun i:{i:Nat // i≤(n+1)∧True}=>(n+1) - i.1) a5h (bw v 0 eb ec) (T4 zP0q Try.f43 73 ((.agg [.slu 0 0 3 0,.slu 1 0 (n+1) 0])) [(S2 n),(U3 B L n),(U1 B P0 n),(U8 B P1 n),(T8 B P2 n)] (bw v 0 eb ec)) (⟨(i+1),hi1,hi2⟩:{i:Nat // i≤(n+1)∧True})):=by
 have hcl_P0:=Z7 P0
 have hcl_P1:=Z7 P1
 have hcl_P2:=Z7 P2
 have hcl_L:=Z7 L
 have hcl_B:=Z4 B
 obtain ⟨hn,hn8,hp0,hp1,hp2,hL,hc0,hc1,hc2⟩:=(id hT)
 rcases zB0q (Y2 ((i+1:Nat):Int) L.length) with hqtr24_1|hqtr24_1
 ·have ghqtr24_1:=X5 hqtr24_1
  exact Z8 W4 (O5 zC0q (S4) 200 (T':=⟨[(O7 B zb),(2,(.ptr 0 0)),(4,(.ptr 1 0)),(5,(.ptr 2 0)),(6,(nI0 ((((i+1)+1):Nat):Int))),(7,(nI0 ((((i+1)+1):Nat):Int)))],[],4,[(O6 L P0 P1 P2 v0 v1 v2 y yl),P3,(2,(.cells [(.v (.slice none 0 0)),(.slu 3 0 ((i+1)+1) 0)] 29)),(3,(.row (cI (tI (D4 (cR L) (cH B) B.length 0) ((i+1)+1))) 2 1))]⟩) (e:=.normal) (m:=6) (ps:=[Y2 ((i+1:Nat):Int) L.length=true,i+1<L.length,W7 zP0q (cR L) ((i+1)*2) 65=some (AV.agg [AV.v (Value.int IntKind.i64 (Z9 (cR L) ((i+1)*2+0))),AV.v (Value.int IntKind.i64 (Z9 (cR L) ((i+1)*2+1)))]),IsH 1 B.length (cH B),0≤Z9 (cR L) ((i+1)*2+0)∧Z9 (cR L) ((i+1)*2+0)≤Z9 (cR L) ((i+1)*2+1)∧Z9 (cR L) ((i+1)*2+1)≤1000,(0:Int)≤((i+1:Nat):Int)∧((i+1:Nat):Int)≤1000,((cI (tI (D4 (cR L) (cH B) B.length 0) (i+1))):List AV).length=(i+1)*1,i+1+1≤1000000,N3 IntKind.i64 (((i+1:Nat):Int)+1),N3 IntKind.i64 (((i+1:Nat):Int)+1)]) (gH 5 ([.b true]++gH 5 ([.sym,.sym,.go,.go,.go,.sym]++gH 8 []))) [0,1,2,5] [(.xl (zb) (B.length) 1 (cH B)),(.ptr 0 0),(.ptr 1 0),(.ptr 2 0),(nI0 (((i+1:Nat):Int)+1)),(nI0 (((i+1:Nat):Int)+1))] [(l6 L P0 P1 P2 v0 v1 v2 y yl),A6,(.cells [(.v (Value.slice none 0 0)),(.slu 5 0 (i+1+1) 0)] 29),(.row ((cI (tI (D4 (cR L) (cH B) B.length 0) (i+1)))++[(nI0 (pkV (Z9 (cR L) ((i+1)*2+0)) (Z9 (cR L) ((i+1)*2+1)) (cH B) B.length (((i+1:Nat):Int)).toNat))]) 2 1)] (by kernel_rfl) (by kernel_rfl) ⟨hqtr24_1,(by omega),(L2 (by omega) 65 (Try.underlying65) rfl (inf:=(Try.prog.info? 65).getD default) (by kernel_rfl) (by kernel_rfl)),⟨rfl,B,rfl,rfl,hB⟩,(by have h9:=hL (i+1) (by omega);unfold X7 at h9;omega),(by omega),(by show (cI _).length=_;rw [Z4,Y9];omega),(by omega),(a0I (by omega) (by omega)),(a0I (by omega) (by omega)),trivial⟩ rfl rfl (by decide) rfl ⟨N8 (Y4 (J0 B)),V0 rfl,V0 rfl,V0 rfl,J8 (show ((((i+1:Nat):Int)+1):Int)=((((i+1)+1):Nat):Int) from by omega),J8 (show ((((i+1:Nat):Int)+1):Int)=((((i+1)+1):Nat):Int) from by omega),trivial⟩ ⟨⟨by show 0<4;decide,X6 (Z3 (S5 (W8 (X9 [(v0,P0),(v1,P1),(v2,P2)]))) (Z3 (N8 (Y4 (X4 L))) (Y0)))⟩,⟨by show 1<4;decide,X6 (Z3 (N7 _) (Z3 (N7 _) (Y0)))⟩,⟨by show 2<4;decide,X6 (Z3 (N7 _) (Z3 (T9 rfl) (Y0)))⟩,⟨by show 3<4;decide,V2 (l8 (show ((cI (tI (D4 (cR L) (cH B) B.length 0) ((i+1)+1))):List AV)=((cI (tI (D4 (cR L) (cH B) B.length 0) (i+1)))++[(nI0 (pkV (Z9 (cR L) ((i+1)*2+0)) (Z9 (cR L) ((i+1)*2+1)) (cH B) B.length (((i+1:Nat):Int)).toNat))]) from by (first|exact (a1g rfl (by unfold D4;rfl)).symm|exact (a1j (by unfold D4;rw [Nat.zero_add];rfl)).symm)) (Z2 _))⟩,trivial⟩) (Hd.en_on (⟨(i+1)+1,by omega,trivial⟩) (by show (n+1) - ((i+1)+1)<(n+1) - (i+1);omega) rfl)
 ·have ghqtr24_1:=Z5 hqtr24_1
  obtain rfl:n=i:=by omega
  exact Z8 A8 (Z6 zC0q (S4) 200 (T':=(b1J B L P0 P1 P2 n v0 v1 v2 y yl zb)) (e:=.exit 0) (ps:=[Y2 (((n)+1:Nat):Int) L.length=false]) (gH 5 [.b false]) (by kernel_rfl) (by kernel_rfl) ⟨hqtr24_1,trivial⟩ rfl) (Hd.en_sx (c5C hT hB hi2 hqtr24_1))
theorem c7r(hT:m6 L P0 P1 P2 n)(hB:Q9 B):Y7 zP0q 73 b8C ((b1H B L P0 P1 P2 v0 v1 v2 y yl zb)) (BaseW.H (bw v 0 eb ec) hs) (Hd.AfterN zP0q 73 a5h (bw v 0 eb ec) (T4 zP0q Try.f43 73 ((.agg [.slu 0 0 3 0,.slu 1 0 (n+1) 0])) [(S2 n),(U3 B L n),(U1 B P0 n),(U8 B P1 n),(T8 B P2 n)] (bw v 0 eb ec))):=by
 have hcl_P0:=Z7 P0
 have hcl_P1:=Z7 P1
 have hcl_P2:=Z7 P2
 have hcl_L:=Z7 L
 have hcl_B:=Z4 B
 obtain ⟨hn,hn8,hp0,hp1,hp2,hL,hc0,hc1,hc2⟩:=(id hT)
 exact Hd.goes_loopA (id:=0) (by kernel_rfl) (by kernel_rfl) (fun i:{i:Nat // i≤(n+1)∧True}=>Ev.fam0 (a98 B L P0 P1 P2 v0 v1 v2 y yl zb) (fun i=>(a9K B L P0 P1 P2 i v0 v1 v2 y yl zb)) i.1) (fun i:{i:Nat // i≤(n+1)∧True}=>(n+1) - i.1) (fun i hs=>match i with|⟨0,h1,h2⟩=>c7h hT hB h1 h2|⟨j+1,h1,h2⟩=>c4P hT hB h1 h2) ⟨0,Nat.zero_le _,trivial⟩ hs
theorem c4Y(hT:m6 L P0 P1 P2 n)(hB:Q9 B):Y7 zP0q 73 b8C ((b1H B L P0 P1 P2 v0 v1 v2 y yl zb)) (BaseW.H (bw v 0 eb ec) hs) (Hd.AfterN zP0q 73 a5h (bw v 0 eb ec) (T4 zP0q Try.f43 73 ((.agg [.slu 0 0 3 0,.slu 1 0 (n+1) 0])) [(S2 n),(U3 B L n),(U1 B P0 n),(U8 B P1 n),(T8 B P2 n)] (bw v 0 eb ec))):=by
 exact c7r hT hB
theorem c4L(hT:m6 L P0 P1 P2 n)(hB:Q9 B):Y7 zP0q 73 c0Q ((b1V B L P0 P1 P2 v0 v1 v2 y yl zb)) (BaseW.H (bw v 0 eb ec) hs) (Hd.AfterN zP0q 73 a5h (bw v 0 eb ec) (T4 zP0q Try.f43 73 ((.agg [.slu 0 0 3 0,.slu 1 0 (n+1) 0])) [(S2 n),(U3 B L n),(U1 B P0 n),(U8 B P1 n),(T8 B P2 n)] (bw v 0 eb ec))):=by
 have hcl_P0:=Z7 P0
 have hcl_P1:=Z7 P1
 have hcl_P2:=Z7 P2
 have hcl_L:=Z7 L
 have hcl_B:=Z4 B
 obtain ⟨hn,hn8,hp0,hp1,hp2,hL,hc0,hc1,hc2⟩:=(id hT)
 refine Hd.goes_seqA (by kernel_rfl) ?_
 exact Z8 W4 (Z6 zC0q (S4) 200 (T':=(b1H B L P0 P1 P2 v0 v1 v2 y yl zb)) (e:=.normal) (ps:=[]) [.go] (by kernel_rfl) (by kernel_rfl) trivial rfl) (Hd.en_n (c4Y hT hB))
theorem c4O(hT:m6 L P0 P1 P2 n)(hB:Q9 B):Y7 zP0q 73 c34 ((b1V B L P0 P1 P2 v0 v1 v2 y yl zb)) (BaseW.H (bw v 0 eb ec) hs) (T4 zP0q Try.f43 73 ((.agg [.slu 0 0 3 0,.slu 1 0 (n+1) 0])) [(S2 n),(U3 B L n),(U1 B P0 n),(U8 B P1 n),(T8 B P2 n)] (bw v 0 eb ec)):=by
 exact Hd.goes_seqA (by kernel_rfl) (c4L hT hB)
theorem c8D(hT:m6 L P0 P1 P2 n)(hB:Q9 B):Y7 zP0q 73 c50 ((b52 B L P0 P1 P2 v0 v1 v2 y yl zb)) (BaseW.H (bw v 0 eb ec) hs) (T4 zP0q Try.f43 73 ((.agg [.slu 0 0 3 0,.slu 1 0 (n+1) 0])) [(S2 n),(U3 B L n),(U1 B P0 n),(U8 B P1 n),(T8 B P2 n)] (bw v 0 eb ec)):=by
 have hcl_P0:=Z7 P0
 have hcl_P1:=Z7 P1
 have hcl_P2:=Z7 P2
 have hcl_L:=Z7 L
 have hcl_B:=Z4 B
 obtain ⟨hn,hn8,hp0,hp1,hp2,hL,hc0,hc1,hc2⟩:=(id hT)
 refine Hd.goes_seqA (by kernel_rfl) ?_
 exact Z8 W4 (Z6 zC0q (S4) 200 (T':=(b1V B L P0 P1 P2 v0 v1 v2 y yl zb)) (e:=.normal) (ps:=[]) [.go] (by kernel_rfl) (by kernel_rfl) trivial rfl) (Hd.en_n (c4O hT hB))
theorem c8Q(hT:m6 L P0 P1 P2 n)(hB:Q9 B):Y7 zP0q 73 c4s ((b8m B L P0 P1 P2 v0 v1 v2 y yl zb)) (BaseW.H (bw v 0 eb ec) hs) (T4 zP0q Try.f43 73 ((.agg [.slu 0 0 3 0,.slu 1 0 (n+1) 0])) [(S2 n),(U3 B L n),(U1 B P0 n),(U8 B P1 n),(T8 B P2 n)] (bw v 0 eb ec)):=by
 have hcl_P0:=Z7 P0
 have hcl_P1:=Z7 P1
 have hcl_P2:=Z7 P2
 have hcl_L:=Z7 L
 have hcl_B:=Z4 B
 obtain ⟨hn,hn8,hp0,hp1,hp2,hL,hc0,hc1,hc2⟩:=(id hT)
 refine Hd.goes_seqA (by kernel_rfl) ?_
 exact Z8 W4 (Z6 zC0q (S4) 200 (T':=(b52 B L P0 P1 P2 v0 v1 v2 y yl zb)) (e:=.normal) (ps:=[]) [.go] (by kernel_rfl) (by kernel_rfl) trivial rfl) (Hd.en_n (c8D hT hB))
end
theorem c9L(y v0:Value)(P0:List (Int×Int))(v1:Value)(P1:List (Int×Int))(v2:Value)(P2:List (Int×Int))(yl:Value)(L:List (Int×Int))(zb:Value)(B:List Int)(n:Nat)(hT:m6 L P0 P1 P2 n)(hB:Q9 B)(v:BaseW)(eb:Nat→Option Nat)(ec:Nat→Nat)(hs:List Nat):Y7 zP0q 73 c59 (⟨[(0,(.agg [.xl y 3 1 [.xl v0 P0.length 2 (cR P0),.xl v1 P1.length 2 (cR P1),.xl v2 P2.length 2 (cR P2)],.xl yl L.length 2 (cR L)])),(1,(.xl zb B.length 1 (cH B)))],[],0,[]⟩) (BaseW.H (bw v 0 eb ec) hs) (T4 zP0q Try.f43 73 ((.agg [.slu 0 0 3 0,.slu 1 0 (n+1) 0])) [(S2 n),(U3 B L n),(U1 B P0 n),(U8 B P1 n),(T8 B P2 n)] (bw v 0 eb ec)):=by
 have hcl_P0:=Z7 P0
 have hcl_P1:=Z7 P1
 have hcl_P2:=Z7 P2
 have hcl_L:=Z7 L
 have hcl_B:=Z4 B
 obtain ⟨hn,hn8,hp0,hp1,hp2,hL,hc0,hc1,hc2⟩:=(id hT)
 refine Hd.goes_seqA (by kernel_rfl) ?_
 exact Z8 W4 (Z6 zC0q (S4) 200 (T':=(b8m B L P0 P1 P2 v0 v1 v2 y yl zb)) (e:=.normal) (ps:=[]) [.go,.go] (by kernel_rfl) (by kernel_rfl) trivial rfl) (Hd.en_n (c8Q hT hB))
theorem c9D(y v0:Value)(P0:List (Int×Int))(v1:Value)(P1:List (Int×Int))(v2:Value)(P2:List (Int×Int))(yl:Value)(L:List (Int×Int))(zb:Value)(B:List Int)(n:Nat)(hT:m6 L P0 P1 P2 n)(hB:Q9 B):A3 zP0q 43 [(.agg [.xl y 3 1 [.xl v0 P0.length 2 (cR P0),.xl v1 P1.length 2 (cR P1),.xl v2 P2.length 2 (cR P2)],.xl yl L.length 2 (cR L)]),(.xl zb B.length 1 (cH B))] [] ((.agg [.slu 0 0 3 0,.slu 1 0 (n+1) 0])) [(.row [.slu 2 0 (n+1) 0,.slu 3 0 (n+1) 0,.slu 4 0 (n+1) 0] 27 1),(.row (cI (tI (D4 (cR L) (cH B) B.length 0) (n+1))) 2 1),(.row (cI (tI (D4 (cR P0) (cH B) B.length (n+1)) (n+1))) 2 1),(.row (cI (tI (D4 (cR P1) (cH B) B.length (2*(n+1))) (n+1))) 2 1),(.row (cI (tI (D4 (cR P2) (cH B) B.length (3*(n+1))) (n+1))) 2 1)] :=
 L1 73 (by kernel_rfl) Try.func43 (by kernel_rfl) (by kernel_rfl) (by kernel_rfl) (fun v eb ec=>V6 (by kernel_rfl) (by kernel_rfl) (by kernel_rfl) (by kernel_rfl) (c9L y v0 P0 v1 P1 v2 P2 yl L zb B n hT hB v eb ec []))
end
end Go.Proofs.Ytegmogadbnfbgaa
namespace Go.Proofs.Ytegmogadbnfbgaa
open Go Ev
noncomputable section
end
end Go.Proofs.Ytegmogadbnfbgaa
namespace Go.Proofs.Ytegmogadbnfbgaa
open Go Ev
noncomputable section
end
end Go.Proofs.Ytegmogadbnfbgaa
namespace Go.Proofs.Ytegmogadbnfbgaa
open Go Ev
noncomputable section
end
end Go.Proofs.Ytegmogadbnfbgaa
namespace Go.Proofs.Ytegmogadbnfbgaa
open Go Ev
noncomputable section
end
end Go.Proofs.Ytegmogadbnfbgaa
namespace Go.Proofs.Ytegmogadbnfbgaa
open Go Ev
noncomputable section
end
end Go.Proofs.Ytegmogadbnfbgaa
set_option maxHeartbeats 2000000
namespace Go.Proofs.Ytegmogadbnfbgaa
open Go Ev
noncomputable section
section
variable (K : List Int) (L : List (Int × Int)) (M : List Int) (P0 P1 P2 : List (Int × Int)) (v0 v1 v2 y yl z zk : Value)
@[reducible] def a0c:=(cI (tI (S6 (cR P0) (W5 (cI M) (cI K) L.length) false) L.length))
@[reducible] def a0o:=(cI (tI (S6 (cR P1) (W5 (cI M) (cI K) L.length) false) L.length))
@[reducible] def a0l:=(cI (tI (S6 (cR P2) (W5 (cI M) (cI K) L.length) false) L.length))
@[reducible] def a0e:=(cI (tI (S6 (cR L) (W5 (cI M) (cI K) L.length) false) L.length))
@[reducible] def b0Z:=(R3 (V5 (K3 (List.take (L.length*(0+1)) (List.drop 0 (a0c K L M P0))) (List.take (L.length*(0+1)) (List.drop 0 (a0o K L M P1))) (List.take (L.length*(0+1)) (List.drop 0 (a0l K L M P2))) (List.take (L.length*(0+1)) (List.drop 0 (a0e K L M))) (W5 (cI M) (cI K) L.length) 0) L.length) 0&&(R3 (V5 (K3 (List.take (L.length*(0+1)) (List.drop 0 (a0c K L M P0))) (List.take (L.length*(0+1)) (List.drop 0 (a0o K L M P1))) (List.take (L.length*(0+1)) (List.drop 0 (a0l K L M P2))) (List.take (L.length*(0+1)) (List.drop 0 (a0e K L M))) (W5 (cI M) (cI K) L.length) 1) L.length) 0&&(R3 (V5 (K3 (List.take (L.length*(0+1)) (List.drop 0 (a0c K L M P0))) (List.take (L.length*(0+1)) (List.drop 0 (a0o K L M P1))) (List.take (L.length*(0+1)) (List.drop 0 (a0l K L M P2))) (List.take (L.length*(0+1)) (List.drop 0 (a0e K L M))) (W5 (cI M) (cI K) L.length) 2) L.length) 0&&true)))
@[reducible] def r5:=(cI (tI (S6 (cR P0) (W5 (cI M) (cI K) L.length) true) L.length))
@[reducible] def r6:=(cI (tI (S6 (cR P1) (W5 (cI M) (cI K) L.length) true) L.length))
@[reducible] def r7:=(cI (tI (S6 (cR P2) (W5 (cI M) (cI K) L.length) true) L.length))
@[reducible] def o8:=(cI (tI (S6 (cR L) (W5 (cI M) (cI K) L.length) true) L.length))
@[reducible] def a8f:=(R3 (V5 (K3 (List.take (L.length*(0+1)) (List.drop 0 (r5 K L M P0))) (List.take (L.length*(0+1)) (List.drop 0 (r6 K L M P1))) (List.take (L.length*(0+1)) (List.drop 0 (r7 K L M P2))) (List.take (L.length*(0+1)) (List.drop 0 (o8 K L M))) (W5 (cI M) (cI K) L.length) 0) L.length) 0&&(R3 (V5 (K3 (List.take (L.length*(0+1)) (List.drop 0 (r5 K L M P0))) (List.take (L.length*(0+1)) (List.drop 0 (r6 K L M P1))) (List.take (L.length*(0+1)) (List.drop 0 (r7 K L M P2))) (List.take (L.length*(0+1)) (List.drop 0 (o8 K L M))) (W5 (cI M) (cI K) L.length) 1) L.length) 0&&(R3 (V5 (K3 (List.take (L.length*(0+1)) (List.drop 0 (r5 K L M P0))) (List.take (L.length*(0+1)) (List.drop 0 (r6 K L M P1))) (List.take (L.length*(0+1)) (List.drop 0 (r7 K L M P2))) (List.take (L.length*(0+1)) (List.drop 0 (o8 K L M))) (W5 (cI M) (cI K) L.length) 2) L.length) 0&&true)))
@[reducible] def a6q:List Ev.AV:=[.xl v0 P0.length 2 (cR P0),.xl v1 P1.length 2 (cR P1),.xl v2 P2.length 2 (cR P2)]
@[reducible] def b3c:Ev.AV:=(.agg [.xl y 3 1 (a6q P0 P1 P2 v0 v1 v2),.xl yl L.length 2 (cR L)])
@[reducible] def b6P:Ev.Lit:=⟨[(0,(b3c L P0 P1 P2 v0 v1 v2 y yl)),(1,(.xl z M.length 1 (cI M))),(2,(.xl zk K.length 1 (cI K)))],[],0,[]⟩
@[reducible] def L8:List Ev.AV:=[AV.xl v0 P0.length 2 (cR P0),AV.xl v1 P1.length 2 (cR P1),AV.xl v2 P2.length 2 (cR P2)]
@[reducible] def b3o:Ev.AB:=(.row [(.slu 2 0 (L.length) 0),(.slu 3 0 (L.length) 0),(.slu 4 0 (L.length) 0)] 27 1)
@[reducible] def b1i:Ev.AB:=(.row (a0l K L M P2) 2 1)
@[reducible] def b0N:Ev.AB:=(.row (a0o K L M P1) 2 1)
@[reducible] def a7e:Ev.AB:=(.row (a0c K L M P0) 2 1)
@[reducible] def a5L:Ev.AB:=(.row (a0e K L M) 2 1)
@[reducible] def a6B:Ev.AB:=(.row (r7 K L M P2) 2 1)
@[reducible] def a6X:Ev.AB:=(.row (r6 K L M P1) 2 1)
@[reducible] def a6U:Ev.AB:=(.row (r5 K L M P0) 2 1)
@[reducible] def a75:Ev.AB:=(.row (o8 K L M) 2 1)
@[reducible] def a90:Ev.AB:=(.row [.slu 2 0 L.length 0,.slu 3 0 L.length 0,.slu 4 0 L.length 0] 27 1)
end
noncomputable def c6u:Code:=O4 Try.f26
theorem c5F(y v0:Value)(P0:List (Int×Int))(v1:Value)(P1:List (Int×Int))(v2:Value)(P2:List (Int×Int))(yl:Value)(L:List (Int×Int))(z:Value)(M:List Int)(zk:Value)(K:List Int)(hC:T6 (a6q P0 P1 P2 v0 v1 v2) 3 (cR L) L.length=0)(hH1:U0 L.length (cI M) M.length=0)(hH2:U0 L.length (cI K) K.length=0)(hZt:(zrB (cR P0) (cR P1) (cR P2) (cR L) (W5 (cI M) (cI K) L.length) L.length true))(hZf:(zrB (cR P0) (cR P1) (cR P2) (cR L) (W5 (cI M) (cI K) L.length) L.length false))(v:BaseW)(eb:Nat→Option Nat)(ec:Nat→Nat)(hs:List Nat):Y7 zP0q 32 c6u ((b6P K L M P0 P1 P2 v0 v1 v2 y yl z zk)) (BaseW.H (bw v 0 eb ec) hs) (T4 zP0q Try.f26 32 ((.tup [.agg [.v (.slice none 0 0),.v (.slice none 0 0)],nI0 5])) [] (bw v 0 eb ec)):=by
 have hcl_P0:=Z7 P0
 have hcl_P1:=Z7 P1
 have hcl_P2:=Z7 P2
 have hcl_L:=Z7 L
 have hcl_M:=Z4 M
 have hcl_K:=Z4 K
 obtain ⟨hn,-,hrow,hlam,hcur⟩:=W3 hC
 have hM:=(W6 hH1).1
 have hK:=(W6 hH2).1
 rcases zB0q (a8f K L M P0 P1 P2) with hqptz3_1|hqptz3_1
 ·rcases zB0q (b0Z K L M P0 P1 P2) with hqptz3_2|hqptz3_2
  ·exact Z8 U9 (O5 zC0q (Y1 q6 (Y1 e8 (Y1 p9 q7))) 200 (T':=⟨[(6,(.ptr 0 0)),(7,(nI0 (.ofNat 5)))],[],1,[(0,(.cells [(.v (Value.slice none 0 0)),(.v (Value.slice none 0 0))] 29))]⟩) (e:=.ret) (m:=36) (ps:=[0+2*(0+1)≤([(.xl (z) (M.length) 1 (cI M)),(.xl (zk) (K.length) 1 (cI K))]:List AV).length,((2:Nat)≤2),U4 1 (L8 P0 P1 P2 v0 v1 v2) 3,Y3 2 L.length (cR L),T7 (0+1) M.length (cI M),T7 (0+1) K.length (cI K),a97 2,((3:Nat)≤1000),M.length≤1000,K.length≤1000,M1 (T6 (L8 P0 P1 P2 v0 v1 v2) 3 (cR L) L.length) (U0 L.length (cI M) M.length) (U0 L.length (cI K) K.length)=0,(!R3 0 0)=false,V4 (L8 P0 P1 P2 v0 v1 v2),V4 (cR L),V4 (cI M),V4 (cI K),U4 1 (L8 P0 P1 P2 v0 v1 v2) 3,Y3 2 L.length (cR L),T7 1 M.length (cI M),T7 1 K.length (cI K),V4 (L8 P0 P1 P2 v0 v1 v2),V4 (cR L),Y2 0 2=true,U4 1 (L8 P0 P1 P2 v0 v1 v2) 3,Y3 2 L.length (cR L),T7 1 M.length (cI M),T7 1 K.length (cI K),Y3 2 L.length (cR L),1≤L.length∧L.length≤8,L.length=L.length,M.length=L.length,K.length=L.length,M8 (cI M) (cI K) L.length,Y2 0 3=true,U4 1 (L8 P0 P1 P2 v0 v1 v2) 3,Y3 2 L.length (cR L),T7 1 M.length (cI M),T7 1 K.length (cI K),Y3 2 P0.length (cR P0),1≤L.length∧L.length≤8,P0.length=L.length,M.length=L.length,K.length=L.length,M8 (cI M) (cI K) L.length,N3 IntKind.i64 (0+1),Y2 (0+1) 3=true,U4 1 (L8 P0 P1 P2 v0 v1 v2) 3,Y3 2 L.length (cR L),T7 1 M.length (cI M),T7 1 K.length (cI K),Y3 2 P1.length (cR P1),1≤L.length∧L.length≤8,P1.length=L.length,M.length=L.length,K.length=L.length,M8 (cI M) (cI K) L.length,N3 IntKind.i64 (0+1+1),Y2 (0+1+1) 3=true,U4 1 (L8 P0 P1 P2 v0 v1 v2) 3,Y3 2 L.length (cR L),T7 1 M.length (cI M),T7 1 K.length (cI K),Y3 2 P2.length (cR P2),1≤L.length∧L.length≤8,P2.length=L.length,M.length=L.length,K.length=L.length,M8 (cI M) (cI K) L.length,N3 IntKind.i64 (0+1+1+1),Y2 (0+1+1+1) 3=false,0+(0+1+1+1)*(0+1)≤([(.slu 11 0 (L.length) 0),(.slu 14 0 (L.length) 0),(.slu 17 0 (L.length) 0)]:List AV).length,0+L.length*(0+1)≤((r5 K L M P0):List AV).length,0+L.length*(0+1)≤((r6 K L M P1):List AV).length,0+L.length*(0+1)≤((r7 K L M P2):List AV).length,0+L.length*(0+1)≤((o8 K L M):List AV).length,U4 1 (L8 P0 P1 P2 v0 v1 v2) 3,Y3 2 L.length (cR L),T7 1 M.length (cI M),T7 1 K.length (cI K),L.length≤8,I9 (0+1) L.length (List.take (L.length*(0+1)) (List.drop 0 (r5 K L M P0))),I9 (0+1) L.length (List.take (L.length*(0+1)) (List.drop 0 (r6 K L M P1))),I9 (0+1) L.length (List.take (L.length*(0+1)) (List.drop 0 (r7 K L M P2))),I9 (0+1) L.length (List.take (L.length*(0+1)) (List.drop 0 (o8 K L M))),L.length=L.length,L.length=L.length,L.length=L.length,L.length=L.length,M.length=L.length,K.length=L.length,w9 (0+1+1+1),a3J (List.take (L.length*(0+1)) (List.drop 0 (r5 K L M P0))) (List.take (L.length*(0+1)) (List.drop 0 (r6 K L M P1))) (List.take (L.length*(0+1)) (List.drop 0 (r7 K L M P2))) (List.take (L.length*(0+1)) (List.drop 0 (o8 K L M))) L.length,M8 (cI M) (cI K) L.length,(!(a8f K L M P0 P1 P2))=false,N3 IntKind.i64 (0+1),Y2 (0+1) 2=true,U4 1 (L8 P0 P1 P2 v0 v1 v2) 3,Y3 2 L.length (cR L),T7 1 M.length (cI M),T7 1 K.length (cI K),Y3 2 L.length (cR L),1≤L.length∧L.length≤8,L.length=L.length,M.length=L.length,K.length=L.length,M8 (cI M) (cI K) L.length,Y2 0 3=true,U4 1 (L8 P0 P1 P2 v0 v1 v2) 3,Y3 2 L.length (cR L),T7 1 M.length (cI M),T7 1 K.length (cI K),Y3 2 P0.length (cR P0),1≤L.length∧L.length≤8,P0.length=L.length,M.length=L.length,K.length=L.length,M8 (cI M) (cI K) L.length,N3 IntKind.i64 (0+1),Y2 (0+1) 3=true,U4 1 (L8 P0 P1 P2 v0 v1 v2) 3,Y3 2 L.length (cR L),T7 1 M.length (cI M),T7 1 K.length (cI K),Y3 2 P1.length (cR P1),1≤L.length∧L.length≤8,P1.length=L.length,M.length=L.length,K.length=L.length,M8 (cI M) (cI K) L.length,N3 IntKind.i64 (0+1+1),Y2 (0+1+1) 3=true,U4 1 (L8 P0 P1 P2 v0 v1 v2) 3,Y3 2 L.length (cR L),T7 1 M.length (cI M),T7 1 K.length (cI K),Y3 2 P2.length (cR P2),1≤L.length∧L.length≤8,P2.length=L.length,M.length=L.length,K.length=L.length,M8 (cI M) (cI K) L.length,N3 IntKind.i64 (0+1+1+1),Y2 (0+1+1+1) 3=false,0+(0+1+1+1)*(0+1)≤([(.slu 25 0 (L.length) 0),(.slu 28 0 (L.length) 0),(.slu 31 0 (L.length) 0)]:List AV).length,0+L.length*(0+1)≤((a0c K L M P0):List AV).length,0+L.length*(0+1)≤((a0o K L M P1):List AV).length,0+L.length*(0+1)≤((a0l K L M P2):List AV).length,0+L.length*(0+1)≤((a0e K L M):List AV).length,U4 1 (L8 P0 P1 P2 v0 v1 v2) 3,Y3 2 L.length (cR L),T7 1 M.length (cI M),T7 1 K.length (cI K),L.length≤8,I9 (0+1) L.length (List.take (L.length*(0+1)) (List.drop 0 (a0c K L M P0))),I9 (0+1) L.length (List.take (L.length*(0+1)) (List.drop 0 (a0o K L M P1))),I9 (0+1) L.length (List.take (L.length*(0+1)) (List.drop 0 (a0l K L M P2))),I9 (0+1) L.length (List.take (L.length*(0+1)) (List.drop 0 (a0e K L M))),L.length=L.length,L.length=L.length,L.length=L.length,L.length=L.length,M.length=L.length,K.length=L.length,w9 (0+1+1+1),a3J (List.take (L.length*(0+1)) (List.drop 0 (a0c K L M P0))) (List.take (L.length*(0+1)) (List.drop 0 (a0o K L M P1))) (List.take (L.length*(0+1)) (List.drop 0 (a0l K L M P2))) (List.take (L.length*(0+1)) (List.drop 0 (a0e K L M))) L.length,M8 (cI M) (cI K) L.length,(!(b0Z K L M P0 P1 P2))=false,N3 IntKind.i64 (0+1+1),Y2 (0+1+1) 2=false,(!false)=true]) (gH 10 ([.b false]++gH 9 ([.b true]++gH 20 ([.b true]++gH 15 ([.b true]++gH 15 ([.b true]++gH 15 ([.b false]++gH 8 ([.b false,.go,.go,.go,.b true]++gH 20 ([.b true]++gH 15 ([.b true]++gH 15 ([.b true]++gH 15 ([.b false]++gH 8 ([.b false,.go,.go,.go,.b false]++gH 11 [.b true,.go,.go,.go]))))))))))))) [1] [(.ptr 1 0),(nI0 (.ofNat 5))] [(.cells [(.v (Value.slice none 0 0)),(.v (Value.slice none 0 0))] 29)] (by kernel_rfl) (by kernel_rfl) ⟨(by show 0+2*(0+1)≤2;decide),(by decide),⟨rfl,[(v0,P0),(v1,P1),(v2,P2)],rfl,rfl⟩,⟨rfl,L,rfl,rfl⟩,⟨rfl,M,rfl,rfl⟩,⟨rfl,K,rfl,rfl⟩,rfl,(by decide),(by omega),(by omega),((a19 hC hH1).trans hH2),rfl,(X9 [(v0,P0),(v1,P1),(v2,P2)]),(Y8 (X4 _)),(Y8 (Z2 _)),(Y8 (Z2 _)),⟨rfl,[(v0,P0),(v1,P1),(v2,P2)],rfl,rfl⟩,⟨rfl,L,rfl,rfl⟩,⟨rfl,M,rfl,rfl⟩,⟨rfl,K,rfl,rfl⟩,(X9 [(v0,P0),(v1,P1),(v2,P2)]),(Y8 (X4 _)),rfl,⟨rfl,[(v0,P0),(v1,P1),(v2,P2)],rfl,rfl⟩,⟨rfl,L,rfl,rfl⟩,⟨rfl,M,rfl,rfl⟩,⟨rfl,K,rfl,rfl⟩,⟨rfl,L,rfl,rfl⟩,hn,rfl,hM,hK,(R0 hH1 hH2),rfl,⟨rfl,[(v0,P0),(v1,P1),(v2,P2)],rfl,rfl⟩,⟨rfl,L,rfl,rfl⟩,⟨rfl,M,rfl,rfl⟩,⟨rfl,K,rfl,rfl⟩,⟨rfl,P0,rfl,rfl⟩,hn,(hrow 0 (by decide)),hM,hK,(R0 hH1 hH2),(by show -9223372036854775808≤(_:Int)∧(_:Int)≤9223372036854775807;constructor<;>decide),rfl,⟨rfl,[(v0,P0),(v1,P1),(v2,P2)],rfl,rfl⟩,⟨rfl,L,rfl,rfl⟩,⟨rfl,M,rfl,rfl⟩,⟨rfl,K,rfl,rfl⟩,⟨rfl,P1,rfl,rfl⟩,hn,(hrow 1 (by decide)),hM,hK,(R0 hH1 hH2),(by show -9223372036854775808≤(_:Int)∧(_:Int)≤9223372036854775807;constructor<;>decide),rfl,⟨rfl,[(v0,P0),(v1,P1),(v2,P2)],rfl,rfl⟩,⟨rfl,L,rfl,rfl⟩,⟨rfl,M,rfl,rfl⟩,⟨rfl,K,rfl,rfl⟩,⟨rfl,P2,rfl,rfl⟩,hn,(hrow 2 (by decide)),hM,hK,(R0 hH1 hH2),(by show -9223372036854775808≤(_:Int)∧(_:Int)≤9223372036854775807;constructor<;>decide),rfl,(by show 0+3*(0+1)≤3;decide),(by rw [Z4,Y9];omega),(by rw [Z4,Y9];omega),(by rw [Z4,Y9];omega),(by rw [Z4,Y9];omega),⟨rfl,[(v0,P0),(v1,P1),(v2,P2)],rfl,rfl⟩,⟨rfl,L,rfl,rfl⟩,⟨rfl,M,rfl,rfl⟩,⟨rfl,K,rfl,rfl⟩,hn.2,⟨rfl,_,Z1,(Y9 _ _).symm⟩,⟨rfl,_,Z1,(Y9 _ _).symm⟩,⟨rfl,_,Z1,(Y9 _ _).symm⟩,⟨rfl,_,Z1,(Y9 _ _).symm⟩,rfl,rfl,rfl,rfl,hM,hK,rfl,(by rw [Z1,Z1,Z1,Z1];exact j9 (hcur 0 (by decide)) (hcur 1 (by decide)) (hcur 2 (by decide)) hlam),(R0 hH1 hH2),(by rw [hqptz3_1];rfl),(by show -9223372036854775808≤(_:Int)∧(_:Int)≤9223372036854775807;constructor<;>decide),rfl,⟨rfl,[(v0,P0),(v1,P1),(v2,P2)],rfl,rfl⟩,⟨rfl,L,rfl,rfl⟩,⟨rfl,M,rfl,rfl⟩,⟨rfl,K,rfl,rfl⟩,⟨rfl,L,rfl,rfl⟩,hn,rfl,hM,hK,(R0 hH1 hH2),rfl,⟨rfl,[(v0,P0),(v1,P1),(v2,P2)],rfl,rfl⟩,⟨rfl,L,rfl,rfl⟩,⟨rfl,M,rfl,rfl⟩,⟨rfl,K,rfl,rfl⟩,⟨rfl,P0,rfl,rfl⟩,hn,(hrow 0 (by decide)),hM,hK,(R0 hH1 hH2),(by show -9223372036854775808≤(_:Int)∧(_:Int)≤9223372036854775807;constructor<;>decide),rfl,⟨rfl,[(v0,P0),(v1,P1),(v2,P2)],rfl,rfl⟩,⟨rfl,L,rfl,rfl⟩,⟨rfl,M,rfl,rfl⟩,⟨rfl,K,rfl,rfl⟩,⟨rfl,P1,rfl,rfl⟩,hn,(hrow 1 (by decide)),hM,hK,(R0 hH1 hH2),(by show -9223372036854775808≤(_:Int)∧(_:Int)≤9223372036854775807;constructor<;>decide),rfl,⟨rfl,[(v0,P0),(v1,P1),(v2,P2)],rfl,rfl⟩,⟨rfl,L,rfl,rfl⟩,⟨rfl,M,rfl,rfl⟩,⟨rfl,K,rfl,rfl⟩,⟨rfl,P2,rfl,rfl⟩,hn,(hrow 2 (by decide)),hM,hK,(R0 hH1 hH2),(by show -9223372036854775808≤(_:Int)∧(_:Int)≤9223372036854775807;constructor<;>decide),rfl,(by show 0+3*(0+1)≤3;decide),(by rw [Z4,Y9];omega),(by rw [Z4,Y9];omega),(by rw [Z4,Y9];omega),(by rw [Z4,Y9];omega),⟨rfl,[(v0,P0),(v1,P1),(v2,P2)],rfl,rfl⟩,⟨rfl,L,rfl,rfl⟩,⟨rfl,M,rfl,rfl⟩,⟨rfl,K,rfl,rfl⟩,hn.2,⟨rfl,_,Z1,(Y9 _ _).symm⟩,⟨rfl,_,Z1,(Y9 _ _).symm⟩,⟨rfl,_,Z1,(Y9 _ _).symm⟩,⟨rfl,_,Z1,(Y9 _ _).symm⟩,rfl,rfl,rfl,rfl,hM,hK,rfl,(by rw [Z1,Z1,Z1,Z1];exact j9 (hcur 0 (by decide)) (hcur 1 (by decide)) (hcur 2 (by decide)) hlam),(R0 hH1 hH2),(by rw [hqptz3_2];rfl),(by show -9223372036854775808≤(_:Int)∧(_:Int)≤9223372036854775807;constructor<;>decide),rfl,rfl,trivial⟩ rfl rfl (by decide) rfl ⟨V0 rfl,N7 _,trivial⟩ ⟨⟨by show 0<1;decide,X6 (Z3 (N7 _) (Z3 (N7 _) (Y0)))⟩,trivial⟩) (k8 (r:=(.tup [(.agg [(.v (Value.slice none 0 0)),(.v (Value.slice none 0 0))]),(nI0 (.ofNat 5))])) (ys:=[]) (by rfl) (by rfl) (z5 (by kernel_rfl) (by kernel_rfl) rfl (.inr rfl)))
  ·exact absurd hZf (b02 hqptz3_2)
 ·exact absurd hZt (b02 hqptz3_1)
theorem c6D(y v0:Value)(P0:List (Int×Int))(v1:Value)(P1:List (Int×Int))(v2:Value)(P2:List (Int×Int))(yl:Value)(L:List (Int×Int))(z:Value)(M:List Int)(zk:Value)(K:List Int)(hC:T6 (a6q P0 P1 P2 v0 v1 v2) 3 (cR L) L.length=0)(hH1:U0 L.length (cI M) M.length=0)(hH2:U0 L.length (cI K) K.length=0)(hZt:(zrB (cR P0) (cR P1) (cR P2) (cR L) (W5 (cI M) (cI K) L.length) L.length true))(hZf:(zrB (cR P0) (cR P1) (cR P2) (cR L) (W5 (cI M) (cI K) L.length) L.length false)):A3 zP0q 26 [(b3c L P0 P1 P2 v0 v1 v2 y yl),(.xl z M.length 1 (cI M)),(.xl zk K.length 1 (cI K))] [] ((.tup [.agg [.v (.slice none 0 0),.v (.slice none 0 0)],nI0 5])) [] :=
 L1 32 (by kernel_rfl) Try.func26 (by kernel_rfl) (by kernel_rfl) (by kernel_rfl) (fun v eb ec=>V6 (by kernel_rfl) (by kernel_rfl) (by kernel_rfl) (by kernel_rfl) (c5F y v0 P0 v1 P1 v2 P2 yl L z M zk K hC hH1 hH2 hZt hZf v eb ec []))
noncomputable def c4G:Code:=O4 Try.f26
theorem c4A(y v0:Value)(P0:List (Int×Int))(v1:Value)(P1:List (Int×Int))(v2:Value)(P2:List (Int×Int))(yl:Value)(L:List (Int×Int))(z:Value)(M:List Int)(zk:Value)(K:List Int)(hC:T6 (a6q P0 P1 P2 v0 v1 v2) 3 (cR L) L.length=0)(hH1:U0 L.length (cI M) M.length=0)(hH2:U0 L.length (cI K) K.length=0)(hZt:¬ (zrB (cR P0) (cR P1) (cR P2) (cR L) (W5 (cI M) (cI K) L.length) L.length true))(v:BaseW)(eb:Nat→Option Nat)(ec:Nat→Nat)(hs:List Nat):Y7 zP0q 32 c4G ((b6P K L M P0 P1 P2 v0 v1 v2 y yl z zk)) (BaseW.H (bw v 0 eb ec) hs) (T4 zP0q Try.f26 32 ((.tup [.agg [.slu 0 0 3 0,.slu 1 0 L.length 0],nI0 0])) [(a90 L),(a75 K L M),(a6U K L M P0),(a6X K L M P1),(a6B K L M P2)] (bw v 0 eb ec)):=by
 have hcl_P0:=Z7 P0
 have hcl_P1:=Z7 P1
 have hcl_P2:=Z7 P2
 have hcl_L:=Z7 L
 have hcl_M:=Z4 M
 have hcl_K:=Z4 K
 obtain ⟨hn,-,hrow,hlam,hcur⟩:=W3 hC
 have hM:=(W6 hH1).1
 have hK:=(W6 hH2).1
 rcases zB0q (a8f K L M P0 P1 P2) with hqptt3_1|hqptt3_1
 ·rcases zB0q (b0Z K L M P0 P1 P2) with hqptt3_2|hqptt3_2
  ·exact absurd (zr_iff.1 hqptt3_1) hZt
  ·exact absurd (zr_iff.1 hqptt3_1) hZt
 ·exact Z8 U9 (O5 zC0q (Y1 q6 (Y1 e8 (Y1 p9 q7))) 200 (T':=⟨[(6,(.ptr 5 0)),(7,(nI0 (.ofNat 0)))],[],6,[(0,(b3o L)),(1,(a75 K L M)),(2,(a6U K L M P0)),(3,(a6X K L M P1)),(4,(a6B K L M P2)),(5,(.cells [(.slu 0 0 3 0),(.slu 1 0 (L.length) 0)] 29))]⟩) (e:=.ret) (m:=22) (ps:=[0+2*(0+1)≤([(.xl (z) (M.length) 1 (cI M)),(.xl (zk) (K.length) 1 (cI K))]:List AV).length,((2:Nat)≤2),U4 1 (L8 P0 P1 P2 v0 v1 v2) 3,Y3 2 L.length (cR L),T7 (0+1) M.length (cI M),T7 (0+1) K.length (cI K),a97 2,((3:Nat)≤1000),M.length≤1000,K.length≤1000,M1 (T6 (L8 P0 P1 P2 v0 v1 v2) 3 (cR L) L.length) (U0 L.length (cI M) M.length) (U0 L.length (cI K) K.length)=0,(!R3 0 0)=false,V4 (L8 P0 P1 P2 v0 v1 v2),V4 (cR L),V4 (cI M),V4 (cI K),U4 1 (L8 P0 P1 P2 v0 v1 v2) 3,Y3 2 L.length (cR L),T7 1 M.length (cI M),T7 1 K.length (cI K),V4 (L8 P0 P1 P2 v0 v1 v2),V4 (cR L),Y2 0 2=true,U4 1 (L8 P0 P1 P2 v0 v1 v2) 3,Y3 2 L.length (cR L),T7 1 M.length (cI M),T7 1 K.length (cI K),Y3 2 L.length (cR L),1≤L.length∧L.length≤8,L.length=L.length,M.length=L.length,K.length=L.length,M8 (cI M) (cI K) L.length,Y2 0 3=true,U4 1 (L8 P0 P1 P2 v0 v1 v2) 3,Y3 2 L.length (cR L),T7 1 M.length (cI M),T7 1 K.length (cI K),Y3 2 P0.length (cR P0),1≤L.length∧L.length≤8,P0.length=L.length,M.length=L.length,K.length=L.length,M8 (cI M) (cI K) L.length,N3 IntKind.i64 (0+1),Y2 (0+1) 3=true,U4 1 (L8 P0 P1 P2 v0 v1 v2) 3,Y3 2 L.length (cR L),T7 1 M.length (cI M),T7 1 K.length (cI K),Y3 2 P1.length (cR P1),1≤L.length∧L.length≤8,P1.length=L.length,M.length=L.length,K.length=L.length,M8 (cI M) (cI K) L.length,N3 IntKind.i64 (0+1+1),Y2 (0+1+1) 3=true,U4 1 (L8 P0 P1 P2 v0 v1 v2) 3,Y3 2 L.length (cR L),T7 1 M.length (cI M),T7 1 K.length (cI K),Y3 2 P2.length (cR P2),1≤L.length∧L.length≤8,P2.length=L.length,M.length=L.length,K.length=L.length,M8 (cI M) (cI K) L.length,N3 IntKind.i64 (0+1+1+1),Y2 (0+1+1+1) 3=false,0+(0+1+1+1)*(0+1)≤([(.slu 11 0 (L.length) 0),(.slu 14 0 (L.length) 0),(.slu 17 0 (L.length) 0)]:List AV).length,0+L.length*(0+1)≤((r5 K L M P0):List AV).length,0+L.length*(0+1)≤((r6 K L M P1):List AV).length,0+L.length*(0+1)≤((r7 K L M P2):List AV).length,0+L.length*(0+1)≤((o8 K L M):List AV).length,U4 1 (L8 P0 P1 P2 v0 v1 v2) 3,Y3 2 L.length (cR L),T7 1 M.length (cI M),T7 1 K.length (cI K),L.length≤8,I9 (0+1) L.length (List.take (L.length*(0+1)) (List.drop 0 (r5 K L M P0))),I9 (0+1) L.length (List.take (L.length*(0+1)) (List.drop 0 (r6 K L M P1))),I9 (0+1) L.length (List.take (L.length*(0+1)) (List.drop 0 (r7 K L M P2))),I9 (0+1) L.length (List.take (L.length*(0+1)) (List.drop 0 (o8 K L M))),L.length=L.length,L.length=L.length,L.length=L.length,L.length=L.length,M.length=L.length,K.length=L.length,w9 (0+1+1+1),a3J (List.take (L.length*(0+1)) (List.drop 0 (r5 K L M P0))) (List.take (L.length*(0+1)) (List.drop 0 (r6 K L M P1))) (List.take (L.length*(0+1)) (List.drop 0 (r7 K L M P2))) (List.take (L.length*(0+1)) (List.drop 0 (o8 K L M))) L.length,M8 (cI M) (cI K) L.length,(!(a8f K L M P0 P1 P2))=true,(!true)=false]) (gH 10 ([.b false]++gH 9 ([.b true]++gH 20 ([.b true]++gH 15 ([.b true]++gH 15 ([.b true]++gH 15 ([.b false]++gH 8 ([.b true]++gH 11 [.b false,.go,.go,.go])))))))) [19,9,11,14,17,1] [(.ptr 1 0),(nI0 (.ofNat 0))] [(.row [(.slu 11 0 (L.length) 0),(.slu 14 0 (L.length) 0),(.slu 17 0 (L.length) 0)] 27 1),(a75 K L M),(a6U K L M P0),(a6X K L M P1),(a6B K L M P2),(.cells [(.slu 19 0 3 0),(.slu 9 0 (L.length) 0)] 29)] (by kernel_rfl) (by kernel_rfl) ⟨(by show 0+2*(0+1)≤2;decide),(by decide),⟨rfl,[(v0,P0),(v1,P1),(v2,P2)],rfl,rfl⟩,⟨rfl,L,rfl,rfl⟩,⟨rfl,M,rfl,rfl⟩,⟨rfl,K,rfl,rfl⟩,rfl,(by decide),(by omega),(by omega),((a19 hC hH1).trans hH2),rfl,(X9 [(v0,P0),(v1,P1),(v2,P2)]),(Y8 (X4 _)),(Y8 (Z2 _)),(Y8 (Z2 _)),⟨rfl,[(v0,P0),(v1,P1),(v2,P2)],rfl,rfl⟩,⟨rfl,L,rfl,rfl⟩,⟨rfl,M,rfl,rfl⟩,⟨rfl,K,rfl,rfl⟩,(X9 [(v0,P0),(v1,P1),(v2,P2)]),(Y8 (X4 _)),rfl,⟨rfl,[(v0,P0),(v1,P1),(v2,P2)],rfl,rfl⟩,⟨rfl,L,rfl,rfl⟩,⟨rfl,M,rfl,rfl⟩,⟨rfl,K,rfl,rfl⟩,⟨rfl,L,rfl,rfl⟩,hn,rfl,hM,hK,(R0 hH1 hH2),rfl,⟨rfl,[(v0,P0),(v1,P1),(v2,P2)],rfl,rfl⟩,⟨rfl,L,rfl,rfl⟩,⟨rfl,M,rfl,rfl⟩,⟨rfl,K,rfl,rfl⟩,⟨rfl,P0,rfl,rfl⟩,hn,(hrow 0 (by decide)),hM,hK,(R0 hH1 hH2),(by show -9223372036854775808≤(_:Int)∧(_:Int)≤9223372036854775807;constructor<;>decide),rfl,⟨rfl,[(v0,P0),(v1,P1),(v2,P2)],rfl,rfl⟩,⟨rfl,L,rfl,rfl⟩,⟨rfl,M,rfl,rfl⟩,⟨rfl,K,rfl,rfl⟩,⟨rfl,P1,rfl,rfl⟩,hn,(hrow 1 (by decide)),hM,hK,(R0 hH1 hH2),(by show -9223372036854775808≤(_:Int)∧(_:Int)≤9223372036854775807;constructor<;>decide),rfl,⟨rfl,[(v0,P0),(v1,P1),(v2,P2)],rfl,rfl⟩,⟨rfl,L,rfl,rfl⟩,⟨rfl,M,rfl,rfl⟩,⟨rfl,K,rfl,rfl⟩,⟨rfl,P2,rfl,rfl⟩,hn,(hrow 2 (by decide)),hM,hK,(R0 hH1 hH2),(by show -9223372036854775808≤(_:Int)∧(_:Int)≤9223372036854775807;constructor<;>decide),rfl,(by show 0+3*(0+1)≤3;decide),(by rw [Z4,Y9];omega),(by rw [Z4,Y9];omega),(by rw [Z4,Y9];omega),(by rw [Z4,Y9];omega),⟨rfl,[(v0,P0),(v1,P1),(v2,P2)],rfl,rfl⟩,⟨rfl,L,rfl,rfl⟩,⟨rfl,M,rfl,rfl⟩,⟨rfl,K,rfl,rfl⟩,hn.2,⟨rfl,_,Z1,(Y9 _ _).symm⟩,⟨rfl,_,Z1,(Y9 _ _).symm⟩,⟨rfl,_,Z1,(Y9 _ _).symm⟩,⟨rfl,_,Z1,(Y9 _ _).symm⟩,rfl,rfl,rfl,rfl,hM,hK,rfl,(by rw [Z1,Z1,Z1,Z1];exact j9 (hcur 0 (by decide)) (hcur 1 (by decide)) (hcur 2 (by decide)) hlam),(R0 hH1 hH2),(by rw [hqptt3_1];rfl),rfl,trivial⟩ rfl rfl (by decide) rfl ⟨V0 rfl,N7 _,trivial⟩ ⟨⟨by show 0<6;decide,V2 (Z3 (T9 rfl) (Z3 (T9 rfl) (Z3 (T9 rfl) (Y0))))⟩,⟨by show 1<6;decide,V2 (Y4 (Z2 _))⟩,⟨by show 2<6;decide,V2 (Y4 (Z2 _))⟩,⟨by show 3<6;decide,V2 (Y4 (Z2 _))⟩,⟨by show 4<6;decide,V2 (Y4 (Z2 _))⟩,⟨by show 5<6;decide,X6 (Z3 (T9 rfl) (Z3 (T9 rfl) (Y0)))⟩,trivial⟩) (k8 (r:=(.tup [(.agg [(.slu 0 0 3 0),(.slu 1 0 (L.length) 0)]),(nI0 (.ofNat 0))])) (ys:=[(b3o L),(a75 K L M),(a6U K L M P0),(a6X K L M P1),(a6B K L M P2)]) (by rfl) (by (simp only [Z1])) (z5 (by kernel_rfl) (by kernel_rfl) rfl (.inr rfl)))
theorem c7U(y v0:Value)(P0:List (Int×Int))(v1:Value)(P1:List (Int×Int))(v2:Value)(P2:List (Int×Int))(yl:Value)(L:List (Int×Int))(z:Value)(M:List Int)(zk:Value)(K:List Int)(hC:T6 (a6q P0 P1 P2 v0 v1 v2) 3 (cR L) L.length=0)(hH1:U0 L.length (cI M) M.length=0)(hH2:U0 L.length (cI K) K.length=0)(hZt:¬ (zrB (cR P0) (cR P1) (cR P2) (cR L) (W5 (cI M) (cI K) L.length) L.length true)):A3 zP0q 26 [(b3c L P0 P1 P2 v0 v1 v2 y yl),(.xl z M.length 1 (cI M)),(.xl zk K.length 1 (cI K))] [] ((.tup [.agg [.slu 0 0 3 0,.slu 1 0 L.length 0],nI0 0])) [(a90 L),(a75 K L M),(a6U K L M P0),(a6X K L M P1),(a6B K L M P2)] :=
 L1 32 (by kernel_rfl) Try.func26 (by kernel_rfl) (by kernel_rfl) (by kernel_rfl) (fun v eb ec=>V6 (by kernel_rfl) (by kernel_rfl) (by kernel_rfl) (by kernel_rfl) (c4A y v0 P0 v1 P1 v2 P2 yl L z M zk K hC hH1 hH2 hZt v eb ec []))
noncomputable def c7F:Code:=O4 Try.f26
theorem c56(y v0:Value)(P0:List (Int×Int))(v1:Value)(P1:List (Int×Int))(v2:Value)(P2:List (Int×Int))(yl:Value)(L:List (Int×Int))(z:Value)(M:List Int)(zk:Value)(K:List Int)(hC:T6 (a6q P0 P1 P2 v0 v1 v2) 3 (cR L) L.length=0)(hH1:U0 L.length (cI M) M.length=0)(hH2:U0 L.length (cI K) K.length=0)(hZt:(zrB (cR P0) (cR P1) (cR P2) (cR L) (W5 (cI M) (cI K) L.length) L.length true))(hZf:¬ (zrB (cR P0) (cR P1) (cR P2) (cR L) (W5 (cI M) (cI K) L.length) L.length false))(v:BaseW)(eb:Nat→Option Nat)(ec:Nat→Nat)(hs:List Nat):Y7 zP0q 32 c7F ((b6P K L M P0 P1 P2 v0 v1 v2 y yl z zk)) (BaseW.H (bw v 0 eb ec) hs) (T4 zP0q Try.f26 32 ((.tup [.agg [.slu 0 0 3 0,.slu 1 0 L.length 0],nI0 0])) [(a90 L),(a5L K L M),(a7e K L M P0),(b0N K L M P1),(b1i K L M P2)] (bw v 0 eb ec)):=by
 have hcl_P0:=Z7 P0
 have hcl_P1:=Z7 P1
 have hcl_P2:=Z7 P2
 have hcl_L:=Z7 L
 have hcl_M:=Z4 M
 have hcl_K:=Z4 K
 obtain ⟨hn,-,hrow,hlam,hcur⟩:=W3 hC
 have hM:=(W6 hH1).1
 have hK:=(W6 hH2).1
 rcases zB0q (a8f K L M P0 P1 P2) with hqptf3_1|hqptf3_1
 ·rcases zB0q (b0Z K L M P0 P1 P2) with hqptf3_2|hqptf3_2
  ·exact absurd (zr_iff.1 hqptf3_2) hZf
  ·exact Z8 U9 (O5 zC0q (Y1 q6 (Y1 e8 (Y1 p9 q7))) 200 (T':=⟨[(6,(.ptr 5 0)),(7,(nI0 (.ofNat 0)))],[],6,[(0,(b3o L)),(1,(a5L K L M)),(2,(a7e K L M P0)),(3,(b0N K L M P1)),(4,(b1i K L M P2)),(5,(.cells [(.slu 0 0 3 0),(.slu 1 0 (L.length) 0)] 29))]⟩) (e:=.ret) (m:=36) (ps:=[0+2*(0+1)≤([(.xl (z) (M.length) 1 (cI M)),(.xl (zk) (K.length) 1 (cI K))]:List AV).length,((2:Nat)≤2),U4 1 (L8 P0 P1 P2 v0 v1 v2) 3,Y3 2 L.length (cR L),T7 (0+1) M.length (cI M),T7 (0+1) K.length (cI K),a97 2,((3:Nat)≤1000),M.length≤1000,K.length≤1000,M1 (T6 (L8 P0 P1 P2 v0 v1 v2) 3 (cR L) L.length) (U0 L.length (cI M) M.length) (U0 L.length (cI K) K.length)=0,(!R3 0 0)=false,V4 (L8 P0 P1 P2 v0 v1 v2),V4 (cR L),V4 (cI M),V4 (cI K),U4 1 (L8 P0 P1 P2 v0 v1 v2) 3,Y3 2 L.length (cR L),T7 1 M.length (cI M),T7 1 K.length (cI K),V4 (L8 P0 P1 P2 v0 v1 v2),V4 (cR L),Y2 0 2=true,U4 1 (L8 P0 P1 P2 v0 v1 v2) 3,Y3 2 L.length (cR L),T7 1 M.length (cI M),T7 1 K.length (cI K),Y3 2 L.length (cR L),1≤L.length∧L.length≤8,L.length=L.length,M.length=L.length,K.length=L.length,M8 (cI M) (cI K) L.length,Y2 0 3=true,U4 1 (L8 P0 P1 P2 v0 v1 v2) 3,Y3 2 L.length (cR L),T7 1 M.length (cI M),T7 1 K.length (cI K),Y3 2 P0.length (cR P0),1≤L.length∧L.length≤8,P0.length=L.length,M.length=L.length,K.length=L.length,M8 (cI M) (cI K) L.length,N3 IntKind.i64 (0+1),Y2 (0+1) 3=true,U4 1 (L8 P0 P1 P2 v0 v1 v2) 3,Y3 2 L.length (cR L),T7 1 M.length (cI M),T7 1 K.length (cI K),Y3 2 P1.length (cR P1),1≤L.length∧L.length≤8,P1.length=L.length,M.length=L.length,K.length=L.length,M8 (cI M) (cI K) L.length,N3 IntKind.i64 (0+1+1),Y2 (0+1+1) 3=true,U4 1 (L8 P0 P1 P2 v0 v1 v2) 3,Y3 2 L.length (cR L),T7 1 M.length (cI M),T7 1 K.length (cI K),Y3 2 P2.length (cR P2),1≤L.length∧L.length≤8,P2.length=L.length,M.length=L.length,K.length=L.length,M8 (cI M) (cI K) L.length,N3 IntKind.i64 (0+1+1+1),Y2 (0+1+1+1) 3=false,0+(0+1+1+1)*(0+1)≤([(.slu 11 0 (L.length) 0),(.slu 14 0 (L.length) 0),(.slu 17 0 (L.length) 0)]:List AV).length,0+L.length*(0+1)≤((r5 K L M P0):List AV).length,0+L.length*(0+1)≤((r6 K L M P1):List AV).length,0+L.length*(0+1)≤((r7 K L M P2):List AV).length,0+L.length*(0+1)≤((o8 K L M):List AV).length,U4 1 (L8 P0 P1 P2 v0 v1 v2) 3,Y3 2 L.length (cR L),T7 1 M.length (cI M),T7 1 K.length (cI K),L.length≤8,I9 (0+1) L.length (List.take (L.length*(0+1)) (List.drop 0 (r5 K L M P0))),I9 (0+1) L.length (List.take (L.length*(0+1)) (List.drop 0 (r6 K L M P1))),I9 (0+1) L.length (List.take (L.length*(0+1)) (List.drop 0 (r7 K L M P2))),I9 (0+1) L.length (List.take (L.length*(0+1)) (List.drop 0 (o8 K L M))),L.length=L.length,L.length=L.length,L.length=L.length,L.length=L.length,M.length=L.length,K.length=L.length,w9 (0+1+1+1),a3J (List.take (L.length*(0+1)) (List.drop 0 (r5 K L M P0))) (List.take (L.length*(0+1)) (List.drop 0 (r6 K L M P1))) (List.take (L.length*(0+1)) (List.drop 0 (r7 K L M P2))) (List.take (L.length*(0+1)) (List.drop 0 (o8 K L M))) L.length,M8 (cI M) (cI K) L.length,(!(a8f K L M P0 P1 P2))=false,N3 IntKind.i64 (0+1),Y2 (0+1) 2=true,U4 1 (L8 P0 P1 P2 v0 v1 v2) 3,Y3 2 L.length (cR L),T7 1 M.length (cI M),T7 1 K.length (cI K),Y3 2 L.length (cR L),1≤L.length∧L.length≤8,L.length=L.length,M.length=L.length,K.length=L.length,M8 (cI M) (cI K) L.length,Y2 0 3=true,U4 1 (L8 P0 P1 P2 v0 v1 v2) 3,Y3 2 L.length (cR L),T7 1 M.length (cI M),T7 1 K.length (cI K),Y3 2 P0.length (cR P0),1≤L.length∧L.length≤8,P0.length=L.length,M.length=L.length,K.length=L.length,M8 (cI M) (cI K) L.length,N3 IntKind.i64 (0+1),Y2 (0+1) 3=true,U4 1 (L8 P0 P1 P2 v0 v1 v2) 3,Y3 2 L.length (cR L),T7 1 M.length (cI M),T7 1 K.length (cI K),Y3 2 P1.length (cR P1),1≤L.length∧L.length≤8,P1.length=L.length,M.length=L.length,K.length=L.length,M8 (cI M) (cI K) L.length,N3 IntKind.i64 (0+1+1),Y2 (0+1+1) 3=true,U4 1 (L8 P0 P1 P2 v0 v1 v2) 3,Y3 2 L.length (cR L),T7 1 M.length (cI M),T7 1 K.length (cI K),Y3 2 P2.length (cR P2),1≤L.length∧L.length≤8,P2.length=L.length,M.length=L.length,K.length=L.length,M8 (cI M) (cI K) L.length,N3 IntKind.i64 (0+1+1+1),Y2 (0+1+1+1) 3=false,0+(0+1+1+1)*(0+1)≤([(.slu 25 0 (L.length) 0),(.slu 28 0 (L.length) 0),(.slu 31 0 (L.length) 0)]:List AV).length,0+L.length*(0+1)≤((a0c K L M P0):List AV).length,0+L.length*(0+1)≤((a0o K L M P1):List AV).length,0+L.length*(0+1)≤((a0l K L M P2):List AV).length,0+L.length*(0+1)≤((a0e K L M):List AV).length,U4 1 (L8 P0 P1 P2 v0 v1 v2) 3,Y3 2 L.length (cR L),T7 1 M.length (cI M),T7 1 K.length (cI K),L.length≤8,I9 (0+1) L.length (List.take (L.length*(0+1)) (List.drop 0 (a0c K L M P0))),I9 (0+1) L.length (List.take (L.length*(0+1)) (List.drop 0 (a0o K L M P1))),I9 (0+1) L.length (List.take (L.length*(0+1)) (List.drop 0 (a0l K L M P2))),I9 (0+1) L.length (List.take (L.length*(0+1)) (List.drop 0 (a0e K L M))),L.length=L.length,L.length=L.length,L.length=L.length,L.length=L.length,M.length=L.length,K.length=L.length,w9 (0+1+1+1),a3J (List.take (L.length*(0+1)) (List.drop 0 (a0c K L M P0))) (List.take (L.length*(0+1)) (List.drop 0 (a0o K L M P1))) (List.take (L.length*(0+1)) (List.drop 0 (a0l K L M P2))) (List.take (L.length*(0+1)) (List.drop 0 (a0e K L M))) L.length,M8 (cI M) (cI K) L.length,(!(b0Z K L M P0 P1 P2))=true,(!true)=false]) (gH 10 ([.b false]++gH 9 ([.b true]++gH 20 ([.b true]++gH 15 ([.b true]++gH 15 ([.b true]++gH 15 ([.b false]++gH 8 ([.b false,.go,.go,.go,.b true]++gH 20 ([.b true]++gH 15 ([.b true]++gH 15 ([.b true]++gH 15 ([.b false]++gH 8 ([.b true]++gH 11 [.b false,.go,.go,.go]))))))))))))) [33,23,25,28,31,1] [(.ptr 1 0),(nI0 (.ofNat 0))] [(.row [(.slu 25 0 (L.length) 0),(.slu 28 0 (L.length) 0),(.slu 31 0 (L.length) 0)] 27 1),(a5L K L M),(a7e K L M P0),(b0N K L M P1),(b1i K L M P2),(.cells [(.slu 33 0 3 0),(.slu 23 0 (L.length) 0)] 29)] (by kernel_rfl) (by kernel_rfl) ⟨(by show 0+2*(0+1)≤2;decide),(by decide),⟨rfl,[(v0,P0),(v1,P1),(v2,P2)],rfl,rfl⟩,⟨rfl,L,rfl,rfl⟩,⟨rfl,M,rfl,rfl⟩,⟨rfl,K,rfl,rfl⟩,rfl,(by decide),(by omega),(by omega),((a19 hC hH1).trans hH2),rfl,(X9 [(v0,P0),(v1,P1),(v2,P2)]),(Y8 (X4 _)),(Y8 (Z2 _)),(Y8 (Z2 _)),⟨rfl,[(v0,P0),(v1,P1),(v2,P2)],rfl,rfl⟩,⟨rfl,L,rfl,rfl⟩,⟨rfl,M,rfl,rfl⟩,⟨rfl,K,rfl,rfl⟩,(X9 [(v0,P0),(v1,P1),(v2,P2)]),(Y8 (X4 _)),rfl,⟨rfl,[(v0,P0),(v1,P1),(v2,P2)],rfl,rfl⟩,⟨rfl,L,rfl,rfl⟩,⟨rfl,M,rfl,rfl⟩,⟨rfl,K,rfl,rfl⟩,⟨rfl,L,rfl,rfl⟩,hn,rfl,hM,hK,(R0 hH1 hH2),rfl,⟨rfl,[(v0,P0),(v1,P1),(v2,P2)],rfl,rfl⟩,⟨rfl,L,rfl,rfl⟩,⟨rfl,M,rfl,rfl⟩,⟨rfl,K,rfl,rfl⟩,⟨rfl,P0,rfl,rfl⟩,hn,(hrow 0 (by decide)),hM,hK,(R0 hH1 hH2),(by show -9223372036854775808≤(_:Int)∧(_:Int)≤9223372036854775807;constructor<;>decide),rfl,⟨rfl,[(v0,P0),(v1,P1),(v2,P2)],rfl,rfl⟩,⟨rfl,L,rfl,rfl⟩,⟨rfl,M,rfl,rfl⟩,⟨rfl,K,rfl,rfl⟩,⟨rfl,P1,rfl,rfl⟩,hn,(hrow 1 (by decide)),hM,hK,(R0 hH1 hH2),(by show -9223372036854775808≤(_:Int)∧(_:Int)≤9223372036854775807;constructor<;>decide),rfl,⟨rfl,[(v0,P0),(v1,P1),(v2,P2)],rfl,rfl⟩,⟨rfl,L,rfl,rfl⟩,⟨rfl,M,rfl,rfl⟩,⟨rfl,K,rfl,rfl⟩,⟨rfl,P2,rfl,rfl⟩,hn,(hrow 2 (by decide)),hM,hK,(R0 hH1 hH2),(by show -9223372036854775808≤(_:Int)∧(_:Int)≤9223372036854775807;constructor<;>decide),rfl,(by show 0+3*(0+1)≤3;decide),(by rw [Z4,Y9];omega),(by rw [Z4,Y9];omega),(by rw [Z4,Y9];omega),(by rw [Z4,Y9];omega),⟨rfl,[(v0,P0),(v1,P1),(v2,P2)],rfl,rfl⟩,⟨rfl,L,rfl,rfl⟩,⟨rfl,M,rfl,rfl⟩,⟨rfl,K,rfl,rfl⟩,hn.2,⟨rfl,_,Z1,(Y9 _ _).symm⟩,⟨rfl,_,Z1,(Y9 _ _).symm⟩,⟨rfl,_,Z1,(Y9 _ _).symm⟩,⟨rfl,_,Z1,(Y9 _ _).symm⟩,rfl,rfl,rfl,rfl,hM,hK,rfl,(by rw [Z1,Z1,Z1,Z1];exact j9 (hcur 0 (by decide)) (hcur 1 (by decide)) (hcur 2 (by decide)) hlam),(R0 hH1 hH2),(by rw [hqptf3_1];rfl),(by show -9223372036854775808≤(_:Int)∧(_:Int)≤9223372036854775807;constructor<;>decide),rfl,⟨rfl,[(v0,P0),(v1,P1),(v2,P2)],rfl,rfl⟩,⟨rfl,L,rfl,rfl⟩,⟨rfl,M,rfl,rfl⟩,⟨rfl,K,rfl,rfl⟩,⟨rfl,L,rfl,rfl⟩,hn,rfl,hM,hK,(R0 hH1 hH2),rfl,⟨rfl,[(v0,P0),(v1,P1),(v2,P2)],rfl,rfl⟩,⟨rfl,L,rfl,rfl⟩,⟨rfl,M,rfl,rfl⟩,⟨rfl,K,rfl,rfl⟩,⟨rfl,P0,rfl,rfl⟩,hn,(hrow 0 (by decide)),hM,hK,(R0 hH1 hH2),(by show -9223372036854775808≤(_:Int)∧(_:Int)≤9223372036854775807;constructor<;>decide),rfl,⟨rfl,[(v0,P0),(v1,P1),(v2,P2)],rfl,rfl⟩,⟨rfl,L,rfl,rfl⟩,⟨rfl,M,rfl,rfl⟩,⟨rfl,K,rfl,rfl⟩,⟨rfl,P1,rfl,rfl⟩,hn,(hrow 1 (by decide)),hM,hK,(R0 hH1 hH2),(by show -9223372036854775808≤(_:Int)∧(_:Int)≤9223372036854775807;constructor<;>decide),rfl,⟨rfl,[(v0,P0),(v1,P1),(v2,P2)],rfl,rfl⟩,⟨rfl,L,rfl,rfl⟩,⟨rfl,M,rfl,rfl⟩,⟨rfl,K,rfl,rfl⟩,⟨rfl,P2,rfl,rfl⟩,hn,(hrow 2 (by decide)),hM,hK,(R0 hH1 hH2),(by show -9223372036854775808≤(_:Int)∧(_:Int)≤9223372036854775807;constructor<;>decide),rfl,(by show 0+3*(0+1)≤3;decide),(by rw [Z4,Y9];omega),(by rw [Z4,Y9];omega),(by rw [Z4,Y9];omega),(by rw [Z4,Y9];omega),⟨rfl,[(v0,P0),(v1,P1),(v2,P2)],rfl,rfl⟩,⟨rfl,L,rfl,rfl⟩,⟨rfl,M,rfl,rfl⟩,⟨rfl,K,rfl,rfl⟩,hn.2,⟨rfl,_,Z1,(Y9 _ _).symm⟩,⟨rfl,_,Z1,(Y9 _ _).symm⟩,⟨rfl,_,Z1,(Y9 _ _).symm⟩,⟨rfl,_,Z1,(Y9 _ _).symm⟩,rfl,rfl,rfl,rfl,hM,hK,rfl,(by rw [Z1,Z1,Z1,Z1];exact j9 (hcur 0 (by decide)) (hcur 1 (by decide)) (hcur 2 (by decide)) hlam),(R0 hH1 hH2),(by rw [hqptf3_2];rfl),rfl,trivial⟩ rfl rfl (by decide) rfl ⟨V0 rfl,N7 _,trivial⟩ ⟨⟨by show 0<6;decide,V2 (Z3 (T9 rfl) (Z3 (T9 rfl) (Z3 (T9 rfl) (Y0))))⟩,⟨by show 1<6;decide,V2 (Y4 (Z2 _))⟩,⟨by show 2<6;decide,V2 (Y4 (Z2 _))⟩,⟨by show 3<6;decide,V2 (Y4 (Z2 _))⟩,⟨by show 4<6;decide,V2 (Y4 (Z2 _))⟩,⟨by show 5<6;decide,X6 (Z3 (T9 rfl) (Z3 (T9 rfl) (Y0)))⟩,trivial⟩) (k8 (r:=(.tup [(.agg [(.slu 0 0 3 0),(.slu 1 0 (L.length) 0)]),(nI0 (.ofNat 0))])) (ys:=[(b3o L),(a5L K L M),(a7e K L M P0),(b0N K L M P1),(b1i K L M P2)]) (by rfl) (by (simp only [Z1])) (z5 (by kernel_rfl) (by kernel_rfl) rfl (.inr rfl)))
 ·exact absurd hZt (b02 hqptf3_1)
theorem c6P(y v0:Value)(P0:List (Int×Int))(v1:Value)(P1:List (Int×Int))(v2:Value)(P2:List (Int×Int))(yl:Value)(L:List (Int×Int))(z:Value)(M:List Int)(zk:Value)(K:List Int)(hC:T6 (a6q P0 P1 P2 v0 v1 v2) 3 (cR L) L.length=0)(hH1:U0 L.length (cI M) M.length=0)(hH2:U0 L.length (cI K) K.length=0)(hZt:(zrB (cR P0) (cR P1) (cR P2) (cR L) (W5 (cI M) (cI K) L.length) L.length true))(hZf:¬ (zrB (cR P0) (cR P1) (cR P2) (cR L) (W5 (cI M) (cI K) L.length) L.length false)):A3 zP0q 26 [(b3c L P0 P1 P2 v0 v1 v2 y yl),(.xl z M.length 1 (cI M)),(.xl zk K.length 1 (cI K))] [] ((.tup [.agg [.slu 0 0 3 0,.slu 1 0 L.length 0],nI0 0])) [(a90 L),(a5L K L M),(a7e K L M P0),(b0N K L M P1),(b1i K L M P2)] :=
 L1 32 (by kernel_rfl) Try.func26 (by kernel_rfl) (by kernel_rfl) (by kernel_rfl) (fun v eb ec=>V6 (by kernel_rfl) (by kernel_rfl) (by kernel_rfl) (by kernel_rfl) (c56 y v0 P0 v1 P1 v2 P2 yl L z M zk K hC hH1 hH2 hZt hZf v eb ec []))
end
end Go.Proofs.Ytegmogadbnfbgaa
namespace Go.Proofs.Ytegmogadbnfbgaa
open Go Ev
noncomputable section
noncomputable def c9Q:Code:=O4 Try.f22
set_option maxHeartbeats 2000000 in
theorem c8y(y z:Value)(a0 a1 a2 b0 b1 b2:Int)(hN:¬ (a0=b0∧a1=b1∧a2=b2))(w:World)(hs:List Nat):Y7 zP0q 26 c9Q (⟨[(0,(.xl y 3 1 [nI0 a0,nI0 a1,nI0 a2])),(1,(.xl z 3 1 [nI0 b0,nI0 b1,nI0 b2]))],[],0,[]⟩) (BaseW.H w hs) (V8 zP0q Try.f22 26 (.bool false) w):=by
 rcases zB0q (R3 a0 b0) with hqlf3_1|hqlf3_1
 ·have ghqlf3_1:=X8 hqlf3_1
  rcases zB0q (R3 a1 b1) with hqlf3_2|hqlf3_2
  ·have ghqlf3_2:=X8 hqlf3_2
   rcases zB0q (R3 a2 b2) with hqlf3_3|hqlf3_3
   ·have ghqlf3_3:=X8 hqlf3_3
    exact absurd ⟨X8 hqlf3_1,X8 hqlf3_2,X8 hqlf3_3⟩ hN
   ·have ghqlf3_3:=V7 hqlf3_3
    exact Z8 U9 (Z6 zC0q (Z0) 200 (T':=⟨[(4,(.v (.bool .false)))],[],0,[]⟩) (e:=.ret) (ps:=[(!R3 3 3)=false,Y2 0 3=true,(!R3 a0 b0)=false,N3 IntKind.i64 (0+1),Y2 (0+1) 3=true,(!R3 a1 b1)=false,N3 IntKind.i64 (0+1+1),Y2 (0+1+1) 3=true,(!R3 a2 b2)=true]) (gH 6 ([.b false]++gH 5 ([.b true]++gH 9 ([.b false]++gH 7 ([.b true]++gH 9 ([.b false]++gH 7 ([.b true]++gH 9 [.b true,.go]))))))) (by kernel_rfl) (by kernel_rfl) ⟨(by simp [v8]),rfl,(by rw [hqlf3_1];rfl),(by show -9223372036854775808≤(_:Int)∧(_:Int)≤9223372036854775807;constructor<;>decide),rfl,(by rw [hqlf3_2];rfl),(by show -9223372036854775808≤(_:Int)∧(_:Int)≤9223372036854775807;constructor<;>decide),rfl,(by rw [hqlf3_3];rfl),trivial⟩ rfl) (Hd.en_eq (r:=(.bool .false)) (by rfl) (Hd.en_ret (v:=(.v (.bool .false))) (by kernel_rfl) rfl))
  ·have ghqlf3_2:=V7 hqlf3_2
   exact Z8 U9 (Z6 zC0q (Z0) 200 (T':=⟨[(4,(.v (.bool .false)))],[],0,[]⟩) (e:=.ret) (ps:=[(!R3 3 3)=false,Y2 0 3=true,(!R3 a0 b0)=false,N3 IntKind.i64 (0+1),Y2 (0+1) 3=true,(!R3 a1 b1)=true]) (gH 6 ([.b false]++gH 5 ([.b true]++gH 9 ([.b false]++gH 7 ([.b true]++gH 9 [.b true,.go]))))) (by kernel_rfl) (by kernel_rfl) ⟨(by simp [v8]),rfl,(by rw [hqlf3_1];rfl),(by show -9223372036854775808≤(_:Int)∧(_:Int)≤9223372036854775807;constructor<;>decide),rfl,(by rw [hqlf3_2];rfl),trivial⟩ rfl) (Hd.en_eq (r:=(.bool .false)) (by rfl) (Hd.en_ret (v:=(.v (.bool .false))) (by kernel_rfl) rfl))
 ·have ghqlf3_1:=V7 hqlf3_1
  exact Z8 U9 (Z6 zC0q (Z0) 200 (T':=⟨[(4,(.v (.bool .false)))],[],0,[]⟩) (e:=.ret) (ps:=[(!R3 3 3)=false,Y2 0 3=true,(!R3 a0 b0)=true]) (gH 6 ([.b false]++gH 5 ([.b true]++gH 9 [.b true,.go]))) (by kernel_rfl) (by kernel_rfl) ⟨(by simp [v8]),rfl,(by rw [hqlf3_1];rfl),trivial⟩ rfl) (Hd.en_eq (r:=(.bool .false)) (by rfl) (Hd.en_ret (v:=(.v (.bool .false))) (by kernel_rfl) rfl))
theorem c8m(y z:Value)(a0 a1 a2 b0 b1 b2:Int)(hN:¬ (a0=b0∧a1=b1∧a2=b2)):GivesA zP0q 22 [(.xl y 3 1 [nI0 a0,nI0 a1,nI0 a2]),(.xl z 3 1 [nI0 b0,nI0 b1,nI0 b2])] (.bool false) :=
 U5 26 Try.func22 (by kernel_rfl) (by kernel_rfl) (by kernel_rfl) (fun w=>V6 (by kernel_rfl) (by kernel_rfl) (by kernel_rfl) (by kernel_rfl) (c8y y z a0 a1 a2 b0 b1 b2 hN w []))
def d0d:List AV→List AB→Option ((AV×List AB)×List Prop):=fun args xs =>
 match args,xs with
 |[.agg [.xl y m k1 cE,.xl yl n k2 cL],.xl z r k5 cM,.xl zk s k6 cK],[]=>some ((.tup [.v (.slice none 0 0),.v (.int .i64 (M1 (T6 cE m cL n) (U0 n cM r) (U0 n cK s)))],[]),[U4 k1 cE m,Y3 k2 n cL,T7 k5 r cM,T7 k6 s cK,m≤1000,r≤1000,s≤1000,¬ M1 (T6 cE m cL n) (U0 n cM r) (U0 n cK s)=0])
 |_,_=>none
def c5X:List AV→List AB→Option ((AV×List AB)×List Prop):=fun args xs =>
 match args,xs with
 |[.agg [.xl y m k1 [.xl v0 n0 j0 c0,.xl v1 n1 j1 c1,.xl v2 n2 j2 c2],.xl yl n k2 cL],.xl z r k5 cM,.xl zk s k6 cK],[]=>some ((.tup [.slu 0 0 3 0,.v (.int .i64 0)],[.row [.v (.int .i64 (spN c0 c1 c2 cL (W5 cM cK n) n false 0)),.v (.int .i64 (spN c0 c1 c2 cL (W5 cM cK n) n true 0)),.v (.int .i64 (spN c0 c1 c2 cL (W5 cM cK n) n false 1)),.v (.int .i64 (spN c0 c1 c2 cL (W5 cM cK n) n true 1)),.v (.int .i64 (spN c0 c1 c2 cL (W5 cM cK n) n false 2)),.v (.int .i64 (spN c0 c1 c2 cL (W5 cM cK n) n true 2))] 65 2]),[Is1 k1,w9 m,Y3 j0 n0 c0,Y3 j1 n1 c1,Y3 j2 n2 c2,Y3 k2 n cL,T7 k5 r cM,T7 k6 s cK,T6 [.xl v0 n0 j0 c0,.xl v1 n1 j1 c1,.xl v2 n2 j2 c2] m cL n=0,U0 n cM r=0,U0 n cK s=0])
 |_,_=>none
def c28:O8:=a3D 24 c5X
theorem a8D:Known zP0q (clsO c28):=u9 (fun args xs r ys ps h hp=>by
 unfold c5X at h
 split at h
 ·cases h
  obtain ⟨rfl,rfl,⟨rfl,P0,rfl,rfl⟩,⟨rfl,P1,rfl,rfl⟩,⟨rfl,P2,rfl,rfl⟩,⟨rfl,L,rfl,rfl⟩,⟨rfl,M,rfl,rfl⟩,⟨rfl,K,rfl,rfl⟩,h1,h2,h3,-⟩:=hp
  exact ⟨fun x hx=>absurd hx List.not_mem_nil,fun x hx=>by rw [List.mem_singleton.1 hx];exact B2 (Y8 (show N4 [nI0 (spN (cR P0) (cR P1) (cR P2) (cR L) (W5 (cI M) (cI K) L.length) L.length false 0),nI0 (spN (cR P0) (cR P1) (cR P2) (cR L) (W5 (cI M) (cI K) L.length) L.length true 0),nI0 (spN (cR P0) (cR P1) (cR P2) (cR L) (W5 (cI M) (cI K) L.length) L.length false 1),nI0 (spN (cR P0) (cR P1) (cR P2) (cR L) (W5 (cI M) (cI K) L.length) L.length true 1),nI0 (spN (cR P0) (cR P1) (cR P2) (cR L) (W5 (cI M) (cI K) L.length) L.length false 2),nI0 (spN (cR P0) (cR P1) (cR P2) (cR L) (W5 (cI M) (cI K) L.length) L.length true 2)]=some _ from rfl)),c7W _ _ P0 _ P1 _ P2 _ L _ M _ K h1 h2 h3⟩
 ·cases h)
def c6c:List AV→List AB→Option ((AV×List AB)×List Prop):=fun args xs =>
 match args,xs with
 |[.agg [.xl y m k1 [.xl v0 n0 j0 c0,.xl v1 n1 j1 c1,.xl v2 n2 j2 c2],.xl yl n k2 cL],.xl z r k5 cM,.xl zk s k6 cK],[]=>some ((.tup [.agg [.v (.slice none 0 0),.v (.slice none 0 0)],.v (.int .i64 5)],[]),[Is1 k1,w9 m,Y3 j0 n0 c0,Y3 j1 n1 c1,Y3 j2 n2 c2,Y3 k2 n cL,T7 k5 r cM,T7 k6 s cK,T6 [.xl v0 n0 j0 c0,.xl v1 n1 j1 c1,.xl v2 n2 j2 c2] m cL n=0,U0 n cM r=0,U0 n cK s=0,zrB c0 c1 c2 cL (W5 cM cK n) n true,zrB c0 c1 c2 cL (W5 cM cK n) n false])
 |_,_=>none
def c6I:O8:=a3D 26 c6c
theorem b4F:Known zP0q (clsO c6I):=u9 (fun args xs r ys ps h hp=>by
 unfold c6c at h
 split at h
 ·cases h
  obtain ⟨rfl,rfl,⟨rfl,P0,rfl,rfl⟩,⟨rfl,P1,rfl,rfl⟩,⟨rfl,P2,rfl,rfl⟩,⟨rfl,L,rfl,rfl⟩,⟨rfl,M,rfl,rfl⟩,⟨rfl,K,rfl,rfl⟩,h1,h2,h3,h4,h5,-⟩:=hp
  exact ⟨fun x hx=>absurd hx List.not_mem_nil,fun x hx=>absurd hx List.not_mem_nil,c6D _ _ P0 _ P1 _ P2 _ L _ M _ K h1 h2 h3 h4 h5⟩
 ·cases h)
def c3S(k n:Nat)(c:List AV)(k2 m:Nat)(d:List AV):Prop:=∃ R:List (Int×Int),k=2∧k2=2∧c=cR R∧d=cR R∧n=R.length∧m=R.length∧R.length≤1000
def d0c:List Yw→Option (A0×List Prop):=fun vs =>
 match vs with
 |[.one (.lst n k c),.one (.lst m k2 d)]=>some (.val (.v (.bool true)),[c3S k n c k2 m d])
 |_=>none
def c1j(c d:List AV):Prop:=∃ a0 a1 a2 b0 b1 b2:Int,c=[nI0 a0,nI0 a1,nI0 a2]∧d=[nI0 b0,nI0 b1,nI0 b2]∧¬ (a0=b0∧a1=b1∧a2=b2)
def c8c:List Yw→Option (A0×List Prop):=fun vs =>
 match vs with
 |[.one (.lst n k c),.one (.lst m k2 d)]=>some (.val (.v (.bool false)),[Is1 k,Is1 k2,w9 n,w9 m,c1j c d])
 |_=>none
def c6E:O8:=e7 22 [.one (.lst 0),.one (.lst 0)] c8c
theorem b4g:Known zP0q (clsO c6E):=x6 (fun vs r ps h hp=>by
 unfold c8c at h
 split at h
 ·cases h
  obtain ⟨rfl,rfl,rfl,rfl,⟨a0,a1,a2,b0,b1,b2,rfl,rfl,hN⟩,-⟩:=hp
  refine ⟨⟨⟨_,Z2 [a0,a1,a2]⟩,⟨_,Z2 [b0,b1,b2]⟩,trivial⟩,⟨[[[undef]],[[undef]]],⟨trivial,trivial,trivial⟩⟩,fun ys hy=>?_⟩
  match ys,hy with
  |[zs,us],_=>exact ⟨_,rfl,c8m _ _ a0 a1 a2 b0 b1 b2 hN⟩
 ·cases h)
theorem b47{c0 c1 c2 cL cM cK:List AV}{n:Nat}{g:Bool}(h:¬ zrB c0 c1 c2 cL (W5 cM cK n) n g):¬ (V5 (K3 (cI (tI (S6 c0 (W5 cM cK n) g) n)) (cI (tI (S6 c1 (W5 cM cK n) g) n)) (cI (tI (S6 c2 (W5 cM cK n) g) n)) (cI (tI (S6 cL (W5 cM cK n) g) n)) cM 0) n=V5 (K3 (cI (tI (S6 c0 (W5 cM cK n) g) n)) (cI (tI (S6 c1 (W5 cM cK n) g) n)) (cI (tI (S6 c2 (W5 cM cK n) g) n)) (cI (tI (S6 cL (W5 cM cK n) g) n)) cK 0) n∧V5 (K3 (cI (tI (S6 c0 (W5 cM cK n) g) n)) (cI (tI (S6 c1 (W5 cM cK n) g) n)) (cI (tI (S6 c2 (W5 cM cK n) g) n)) (cI (tI (S6 cL (W5 cM cK n) g) n)) cM 1) n=V5 (K3 (cI (tI (S6 c0 (W5 cM cK n) g) n)) (cI (tI (S6 c1 (W5 cM cK n) g) n)) (cI (tI (S6 c2 (W5 cM cK n) g) n)) (cI (tI (S6 cL (W5 cM cK n) g) n)) cK 1) n∧V5 (K3 (cI (tI (S6 c0 (W5 cM cK n) g) n)) (cI (tI (S6 c1 (W5 cM cK n) g) n)) (cI (tI (S6 c2 (W5 cM cK n) g) n)) (cI (tI (S6 cL (W5 cM cK n) g) n)) cM 2) n=V5 (K3 (cI (tI (S6 c0 (W5 cM cK n) g) n)) (cI (tI (S6 c1 (W5 cM cK n) g) n)) (cI (tI (S6 c2 (W5 cM cK n) g) n)) (cI (tI (S6 cL (W5 cM cK n) g) n)) cK 2) n):=fun q=>h (by
 unfold zrB spN
 rw [← a9v,← a9v,← a9v]
 exact ⟨by have:=q.1;omega,by have:=q.2.1;omega,by have:=q.2.2;omega⟩)
end
end Go.Proofs.Ytegmogadbnfbgaa
namespace Go.Proofs.Ytegmogadbnfbgaa
open Go Ev
noncomputable section
section
variable (P0 P1 P2 : List (Int × Int)) (v0 v1 v2 : Value)
@[reducible] def b34:List Ev.AV:=[.xl v0 P0.length 2 (cR P0),.xl v1 P1.length 2 (cR P1),.xl v2 P2.length 2 (cR P2)]
end
def c8p(c d:List AV):Prop:=∃ a0 a1 a2 b0 b1 b2:Int,c=[.v (.int .i64 a0),.v (.int .i64 a1),.v (.int .i64 a2)]∧d=[.v (.int .i64 b0),.v (.int .i64 b1),.v (.int .i64 b2)]∧a0=b0∧a1=b1∧a2=b2
def c7B:List Yw→Option (A0×List Prop):=fun vs =>
 match vs with
 |[.one (.lst n k c),.one (.lst m k2 d)]=>some (.val (.v (.bool true)),[Is1 k,Is1 k2,w9 n,w9 m,c8p c d])
 |_=>none
def c6R:O8:=e7 22 [.one (.lst 0),.one (.lst 0)] c7B
theorem b4S:Known zP0q (clsO c6R):=x6 (fun vs r ps h hp=>by
 unfold c7B at h
 split at h
 ·cases h
  obtain ⟨rfl,rfl,rfl,rfl,⟨a0,a1,a2,b0,b1,b2,rfl,rfl,rfl,rfl,rfl⟩,-⟩:=hp
  refine ⟨⟨⟨_,Z2 [a0,a1,a2]⟩,⟨_,Z2 [a0,a1,a2]⟩,trivial⟩,⟨[[[undef]],[[undef]]],⟨trivial,trivial,trivial⟩⟩,fun ys hy=>?_⟩
  match ys,hy with
  |[zs,us],_=>exact ⟨_,rfl,c7N _ _ a0 a1 a2⟩
 ·cases h)
def trS:List AV→List AB→Option ((AV×List AB)×List Prop):=fun args xs =>
 match args,xs with
 |[.agg [.xl y m k1 [.xl v0 n0 j0 c0,.xl v1 n1 j1 c1,.xl v2 n2 j2 c2],.xl yl n k2 cL],.xl zb j k3 cB],[]=>some ((.agg [.slu 0 0 3 0,.slu 1 0 n 0],[.row [.slu 2 0 n 0,.slu 3 0 n 0,.slu 4 0 n 0] 27 1,.row (cI (tI (D4 cL cB j 0) n)) 2 1,.row (cI (tI (D4 c0 cB j n) n)) 2 1,.row (cI (tI (D4 c1 cB j (2*n)) n)) 2 1,.row (cI (tI (D4 c2 cB j (3*n)) n)) 2 1]),[Is1 k1,w9 m,Y3 j0 n0 c0,Y3 j1 n1 c1,Y3 j2 n2 c2,Y3 k2 n cL,IsH k3 j cB,T6 [.xl v0 n0 j0 c0,.xl v1 n1 j1 c1,.xl v2 n2 j2 c2] m cL n=0])
 |_,_=>none
def trO:O8:=b77 43 [] [0] trS
theorem b0q:Known zP0q (clsO trO):=b35 (fun args xs r ys ps h hp=>by
 unfold trS at h
 split at h
 ·cases h
  obtain ⟨rfl,rfl,⟨rfl,P0,rfl,rfl⟩,⟨rfl,P1,rfl,rfl⟩,⟨rfl,P2,rfl,rfl⟩,⟨rfl,L,rfl,rfl⟩,⟨rfl,B,rfl,rfl,hB⟩,hC,-⟩:=hp
  rename_i y v0 v1 v2 yl zb
  obtain ⟨hn,-,hrow,hlam,hcur⟩:=W3 hC
  obtain ⟨n,hL⟩:∃ n,L.length=n+1:=⟨L.length - 1,by omega⟩
  refine ⟨fun i x hi hx=>by simp at hx,fun i x hi hx=>?_,?_⟩
  ·match i,hi with
   |1,_=>cases hx;exact B2 (Y8 (Z2 _))
   |2,_=>cases hx;exact B2 (Y8 (Z2 _))
   |3,_=>cases hx;exact B2 (Y8 (Z2 _))
   |4,_=>cases hx;exact B2 (Y8 (Z2 _))
   |i+5,_=>simp at hx
  ·have hg:=c9D y v0 P0 v1 P1 v2 P2 yl L zb B n ⟨hL,by omega,(hrow 0 (by decide)).trans hL,(hrow 1 (by decide)).trans hL,(hrow 2 (by decide)).trans hL,fun b hb=>hlam b (by omega),fun b hb=>hcur 0 (by decide) b (by omega),fun b hb=>hcur 1 (by decide) b (by omega),fun b hb=>hcur 2 (by decide) b (by omega)⟩ hB
   rw [← hL] at hg
   exact hg
 ·cases h)
theorem c0j(y v0:Value)(P0:List (Int×Int))(v1:Value)(P1:List (Int×Int))(v2:Value)(P2:List (Int×Int))(yl:Value)(L:List (Int×Int))(z:Value)(M:List Int)(zk:Value)(K:List Int)(hC:T6 (b34 P0 P1 P2 v0 v1 v2) 3 (cR L) L.length=0)(hH1:U0 L.length (cI M) M.length=0)(hH2:U0 L.length (cI K) K.length=0){e:Int}(he:suN (cR P0) (cR P1) (cR P2) (cR L) (W5 (cI M) (cI K) L.length) L.length=e):GivesA zP0q 27 [(.agg [.xl y 3 1 (b34 P0 P1 P2 v0 v1 v2),.xl yl L.length 2 (cR L)]),(.xl z M.length 1 (cI M)),(.xl zk K.length 1 (cI K))] (.int .i64 e):=by
 have hg:=c4r y v0 P0 v1 P1 v2 P2 yl L z M zk K hC hH1 hH2
 rw [he] at hg
 exact hg
def c5w:List AV→Option (A0×List Prop):=fun vs =>
 match vs with
 |[.agg [.xl y m k1 cE,.xl yl n k2 cL],.xl z r k5 cM,.xl zk s k6 cK]=>some (.val (.v (.bool true)),[U4 k1 cE m,Y3 k2 n cL,T7 k5 r cM,T7 k6 s cK,B0 cE m n=false∧r≤20∧s≤20∧M1 (T6 cE m cL n) (U0 n cM r) (U0 n cK s)=0])
 |_=>none
def b9p:O8:=E8 42 c5w
theorem a4q:Known zP0q (clsO b9p):=K8 (fun vs r ps h hp=>by
 unfold c5w at h
 split at h
 ·cases h
  obtain ⟨⟨rfl,E,rfl,rfl⟩,⟨rfl,L,rfl,rfl⟩,⟨rfl,M,rfl,rfl⟩,⟨rfl,K,rfl,rfl⟩,h1,-⟩:=hp
  exact ⟨X3 (y9 (X3 (S3 (L5 E)) (X3 (S3 (V3 (X4 L))) R4))) (X3 (S3 (V3 (Z2 M))) (X3 (S3 (V3 (Z2 K))) R4)),_,rfl,c7k _ E _ L _ M _ K h1⟩
 ·cases h)
def c6G:List AV→Option (A0×List Prop):=fun vs =>
 match vs with
 |[.agg [.xl y m k1 cE,.xl yl n k2 cL],.xl z r k5 cM,.xl zk s k6 cK]=>some (.val (.v (.bool false)),[U4 k1 cE m,Y3 k2 n cL,T7 k5 r cM,T7 k6 s cK,¬ (B0 cE m n=false∧r≤20∧s≤20∧M1 (T6 cE m cL n) (U0 n cM r) (U0 n cK s)=0)])
 |_=>none
def c7A:O8:=E8 42 c6G
theorem b51:Known zP0q (clsO c7A):=K8 (fun vs r ps h hp=>by
 unfold c6G at h
 split at h
 ·cases h
  obtain ⟨⟨rfl,E,rfl,rfl⟩,⟨rfl,L,rfl,rfl⟩,⟨rfl,M,rfl,rfl⟩,⟨rfl,K,rfl,rfl⟩,h1,-⟩:=hp
  exact ⟨X3 (y9 (X3 (S3 (L5 E)) (X3 (S3 (V3 (X4 L))) R4))) (X3 (S3 (V3 (Z2 M))) (X3 (S3 (V3 (Z2 K))) R4)),_,rfl,c4R _ E _ L _ M _ K h1⟩
 ·cases h)
def c8s:List AV→Option (A0×List Prop):=fun vs =>
 match vs with
 |[.agg [.xl y m k1 [.xl v0 n0 j0 c0,.xl v1 n1 j1 c1,.xl v2 n2 j2 c2],.xl yl n k2 cL],.xl z r k5 cM,.xl zk s k6 cK]=>some (.val (.v (.int .i64 (0))),[Is1 k1,w9 m,Y3 j0 n0 c0,Y3 j1 n1 c1,Y3 j2 n2 c2,Y3 k2 n cL,T7 k5 r cM,T7 k6 s cK,T6 [.xl v0 n0 j0 c0,.xl v1 n1 j1 c1,.xl v2 n2 j2 c2] m cL n=0,U0 n cM r=0,U0 n cK s=0,suN c0 c1 c2 cL (W5 cM cK n) n=0])
 |_=>none
def c4u:O8:=E8 27 c8s
theorem b4s:Known zP0q (clsO c4u):=K8 (fun vs r ps h hp=>by
 unfold c8s at h
 split at h
 ·cases h
  obtain ⟨rfl,rfl,⟨rfl,P0,rfl,rfl⟩,⟨rfl,P1,rfl,rfl⟩,⟨rfl,P2,rfl,rfl⟩,⟨rfl,L,rfl,rfl⟩,⟨rfl,M,rfl,rfl⟩,⟨rfl,K,rfl,rfl⟩,h1,h2,h3,h4,-⟩:=hp
  exact ⟨X3 (y9 (X3 (S3 (L5 [(_,P0),(_,P1),(_,P2)])) (X3 (S3 (V3 (X4 L))) R4))) (X3 (S3 (V3 (Z2 M))) (X3 (S3 (V3 (Z2 K))) R4)),_,rfl,c0j _ _ P0 _ P1 _ P2 _ L _ M _ K h1 h2 h3 h4⟩
 ·cases h)
def c5n:List AV→Option (A0×List Prop):=fun vs =>
 match vs with
 |[.agg [.xl y m k1 [.xl v0 n0 j0 c0,.xl v1 n1 j1 c1,.xl v2 n2 j2 c2],.xl yl n k2 cL],.xl z r k5 cM,.xl zk s k6 cK]=>some (.val (.v (.int .i64 (19))),[Is1 k1,w9 m,Y3 j0 n0 c0,Y3 j1 n1 c1,Y3 j2 n2 c2,Y3 k2 n cL,T7 k5 r cM,T7 k6 s cK,T6 [.xl v0 n0 j0 c0,.xl v1 n1 j1 c1,.xl v2 n2 j2 c2] m cL n=0,U0 n cM r=0,U0 n cK s=0,suN c0 c1 c2 cL (W5 cM cK n) n=19])
 |_=>none
def c54:O8:=E8 27 c5n
theorem b4d:Known zP0q (clsO c54):=K8 (fun vs r ps h hp=>by
 unfold c5n at h
 split at h
 ·cases h
  obtain ⟨rfl,rfl,⟨rfl,P0,rfl,rfl⟩,⟨rfl,P1,rfl,rfl⟩,⟨rfl,P2,rfl,rfl⟩,⟨rfl,L,rfl,rfl⟩,⟨rfl,M,rfl,rfl⟩,⟨rfl,K,rfl,rfl⟩,h1,h2,h3,h4,-⟩:=hp
  exact ⟨X3 (y9 (X3 (S3 (L5 [(_,P0),(_,P1),(_,P2)])) (X3 (S3 (V3 (X4 L))) R4))) (X3 (S3 (V3 (Z2 M))) (X3 (S3 (V3 (Z2 K))) R4)),_,rfl,c0j _ _ P0 _ P1 _ P2 _ L _ M _ K h1 h2 h3 h4⟩
 ·cases h)
def gP(c0 c1 c2 cL d:List AV)(n:Nat):Bool:=!decide (zrB c0 c1 c2 cL d n true)
theorem b9Y{c0 c1 c2 cL d:List AV}{n:Nat}(h:suN c0 c1 c2 cL d n=19):¬ zrB c0 c1 c2 cL d n (gP c0 c1 c2 cL d n):=fun k=>by
 unfold gP at k
 by_cases ht:zrB c0 c1 c2 cL d n true
 ·rw [decide_eq_true ht] at k
  rw [a66 ht k] at h
  cases h
 ·rw [decide_eq_false ht] at k
  exact ht k
theorem c6B(y v0:Value)(P0:List (Int×Int))(v1:Value)(P1:List (Int×Int))(v2:Value)(P2:List (Int×Int))(yl:Value)(L:List (Int×Int))(z:Value)(M:List Int)(zk:Value)(K:List Int)(hC:T6 (b34 P0 P1 P2 v0 v1 v2) 3 (cR L) L.length=0)(hH1:U0 L.length (cI M) M.length=0)(hH2:U0 L.length (cI K) K.length=0)(he:suN (cR P0) (cR P1) (cR P2) (cR L) (W5 (cI M) (cI K) L.length) L.length=19):A3 zP0q 26 [(.agg [.xl y 3 1 (b34 P0 P1 P2 v0 v1 v2),.xl yl L.length 2 (cR L)]),(.xl z M.length 1 (cI M)),(.xl zk K.length 1 (cI K))] [] (.tup [.agg [.slu 0 0 3 0,.slu 1 0 L.length 0],.v (.int .i64 0)]) [.row [.slu 2 0 L.length 0,.slu 3 0 L.length 0,.slu 4 0 L.length 0] 27 1,.row (cI (tI (S6 (cR L) (W5 (cI M) (cI K) L.length) (gP (cR P0) (cR P1) (cR P2) (cR L) (W5 (cI M) (cI K) L.length) L.length)) L.length)) 2 1,.row (cI (tI (S6 (cR P0) (W5 (cI M) (cI K) L.length) (gP (cR P0) (cR P1) (cR P2) (cR L) (W5 (cI M) (cI K) L.length) L.length)) L.length)) 2 1,.row (cI (tI (S6 (cR P1) (W5 (cI M) (cI K) L.length) (gP (cR P0) (cR P1) (cR P2) (cR L) (W5 (cI M) (cI K) L.length) L.length)) L.length)) 2 1,.row (cI (tI (S6 (cR P2) (W5 (cI M) (cI K) L.length) (gP (cR P0) (cR P1) (cR P2) (cR L) (W5 (cI M) (cI K) L.length) L.length)) L.length)) 2 1]:=by
 by_cases ht:zrB (cR P0) (cR P1) (cR P2) (cR L) (W5 (cI M) (cI K) L.length) L.length true
 ·have e:(gP (cR P0) (cR P1) (cR P2) (cR L) (W5 (cI M) (cI K) L.length) L.length)=false:=by unfold gP;rw [decide_eq_true ht];rfl
  rw [e]
  exact c6P y v0 P0 v1 P1 v2 P2 yl L z M zk K hC hH1 hH2 ht (fun hf=>by rw [a66 ht hf] at he;cases he)
 ·have e:(gP (cR P0) (cR P1) (cR P2) (cR L) (W5 (cI M) (cI K) L.length) L.length)=true:=by unfold gP;rw [decide_eq_false ht];rfl
  rw [e]
  exact c7U y v0 P0 v1 P1 v2 P2 yl L z M zk K hC hH1 hH2 ht
def c4X:List AV→List AB→Option ((AV×List AB)×List Prop):=fun args xs =>
 match args,xs with
 |[.agg [.xl y m k1 [.xl v0 n0 j0 c0,.xl v1 n1 j1 c1,.xl v2 n2 j2 c2],.xl yl n k2 cL],.xl z r k5 cM,.xl zk s k6 cK],[]=>some ((.tup [.agg [.slu 0 0 3 0,.slu 1 0 n 0],.v (.int .i64 0)],[.row [.slu 2 0 n 0,.slu 3 0 n 0,.slu 4 0 n 0] 27 1,.row (cI (tI (S6 cL (W5 cM cK n) (gP c0 c1 c2 cL (W5 cM cK n) n)) n)) 2 1,.row (cI (tI (S6 c0 (W5 cM cK n) (gP c0 c1 c2 cL (W5 cM cK n) n)) n)) 2 1,.row (cI (tI (S6 c1 (W5 cM cK n) (gP c0 c1 c2 cL (W5 cM cK n) n)) n)) 2 1,.row (cI (tI (S6 c2 (W5 cM cK n) (gP c0 c1 c2 cL (W5 cM cK n) n)) n)) 2 1]),[Is1 k1,w9 m,Y3 j0 n0 c0,Y3 j1 n1 c1,Y3 j2 n2 c2,Y3 k2 n cL,T7 k5 r cM,T7 k6 s cK,T6 [.xl v0 n0 j0 c0,.xl v1 n1 j1 c1,.xl v2 n2 j2 c2] m cL n=0,U0 n cM r=0,U0 n cK s=0,suN c0 c1 c2 cL (W5 cM cK n) n=19])
 |_,_=>none
def c4v:O8:=b77 26 [] [0] c4X
theorem b4V:Known zP0q (clsO c4v):=b35 (fun args xs r ys ps h hp=>by
 unfold c4X at h
 split at h
 ·cases h
  obtain ⟨rfl,rfl,⟨rfl,P0,rfl,rfl⟩,⟨rfl,P1,rfl,rfl⟩,⟨rfl,P2,rfl,rfl⟩,⟨rfl,L,rfl,rfl⟩,⟨rfl,M,rfl,rfl⟩,⟨rfl,K,rfl,rfl⟩,h1,h2,h3,h4,-⟩:=hp
  refine ⟨fun i x hi hx=>by simp at hx,fun i x hi hx=>?_,c6B _ _ P0 _ P1 _ P2 _ L _ M _ K h1 h2 h3 h4⟩
  match i,hi with
  |1,_=>cases hx;exact B2 (Y8 (Z2 _))
  |2,_=>cases hx;exact B2 (Y8 (Z2 _))
  |3,_=>cases hx;exact B2 (Y8 (Z2 _))
  |4,_=>cases hx;exact B2 (Y8 (Z2 _))
  |i+5,_=>simp at hx
 ·cases h)
end
end Go.Proofs.Ytegmogadbnfbgaa
