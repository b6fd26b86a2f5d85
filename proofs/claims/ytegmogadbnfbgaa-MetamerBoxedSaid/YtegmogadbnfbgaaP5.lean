/- Texts of this proof, put together. -/
import Derived.Test.YtegmogadbnfbgaaP4
import Derived.Test.YtegmogadbnfbgaaP3
import Derived.Test.YtegmogadbnfbgaaP2
set_option linter.all false
namespace Go.Proofs.Ytegmogadbnfbgaa
open Go Ev
noncomputable section
section
variable (E : List (Value × List (Int × Int))) (K : List Int) (L : List (Int × Int)) (M : List Int) (y yl z zk : Value)
@[reducible] def b9M:Ev.AV:=(.agg [.xl y E.length 1 (Y1 E),.xl yl L.length 2 (cR L)])
@[reducible] def c2O:Ev.Lit:=⟨[(0,(b9M E L y yl)),(1,(.xl z M.length 1 (cI M))),(2,(.xl zk K.length 1 (cI K)))],[],0,[]⟩
end
noncomputable def c95:Code:=O6 Try.f42
set_option maxHeartbeats 16000000 in
theorem c8S(y:Value)(E:List (Value×List (Int×Int)))(yl:Value)(L:List (Int×Int))(z:Value)(M:List Int)(zk:Value)(K:List Int)(hF:gwB (Y1 E) E.length L.length=false∧M.length≤20∧K.length≤20∧a1D (J0 (Y1 E) E.length (cR L) L.length) (F2 L.length (cI M) M.length) (F2 L.length (cI K) K.length)=0)(w:World)(hs:List Nat):Y8 zP0q 27 c95 ((c2O E K L M y yl z zk)) (BaseW.H w hs) (D9 zP0q Try.f42 27 (.bool true) w):=by
 have hcl_L:=Z2 L
 have hcl_M:=Z3 M
 have hcl_K:=Z3 K
 rcases zB0q (gwB (Y1 E) E.length L.length) with hqfit3_1|hqfit3_1
 ·exact absurd hqfit3_1 (by rw [hF.1];decide)
 ·have hE6:=c1X (show ¬ gwB (Y1 E) E.length L.length=true by rw [hqfit3_1];decide)
  rcases zB0q (Y3 20 M.length) with hqfit3_2|hqfit3_2
  ·have ghqfit3_2:=X3 hqfit3_2
   exfalso
   have h9:=X3 hqfit3_2
   have h8:=hF.2.1
   omega
  ·have ghqfit3_2:=Z5 hqfit3_2
   rcases zB0q (Y3 20 K.length) with hqfit3_3|hqfit3_3
   ·have ghqfit3_3:=X3 hqfit3_3
    exfalso
    have h9:=X3 hqfit3_3
    have h8:=hF.2.2.1
    omega
   ·have ghqfit3_3:=Z5 hqfit3_3
    rcases zB0q (N5 (J0 (Y1 E) E.length (cR L) L.length) 0) with hqfit3_4|hqfit3_4
    ·have ghqfit3_4:=U7 hqfit3_4
     have hnE:=(V0 (U7 hqfit3_4)).1
     rcases zB0q (N5 (F2 L.length (cI M) M.length) 0) with hqfit3_5|hqfit3_5
     ·have ghqfit3_5:=U7 hqfit3_5
      exact Z7 T7 (Z6 zC0q (V9 n7 (V9 a0d a0e)) 200 (T':=⟨[(6,(.v (.bool (N5 (F2 L.length (cI K) K.length) 0))))],[],2,[]⟩) (e:=.ret) (ps:=[P8 1 (Y1 E) E.length,W9 2 L.length (cR L),(!gwB (Y1 E) E.length L.length)=true,true=true,true=true,(!Y3 20 M.length)=true,true=true,true=true,(!Y3 20 K.length)=true,true=true,true=true,true=true,P8 1 (Y1 E) E.length,W9 2 L.length (cR L),E.length≤1000,(!N5 (J0 (Y1 E) E.length (cR L) L.length) 0)=false,P8 1 (Y1 E) E.length,W9 2 L.length (cR L),I8 1 M.length (cI M),L.length≤1000,(!N5 (F2 L.length (cI M) M.length) 0)=false,P8 1 (Y1 E) E.length,W9 2 L.length (cR L),I8 1 K.length (cI K),L.length≤1000,true=true]) (gH 5 ([.b true,.go,.b true,.go,.b true,.go,.go,.go,.b true,.go,.b true,.go,.b true,.go,.go,.go,.b true,.go,.b true,.go,.b true,.go,.b true]++gH 4 [.b false,.go,.go,.go,.b false,.go,.go,.go,.b true,.go,.go,.go])) (by kernel_rfl) (by kernel_rfl) ⟨⟨rfl,E,rfl,rfl⟩,⟨rfl,L,rfl,rfl⟩,(by rw [hqfit3_1];rfl),rfl,rfl,(by rw [hqfit3_2];rfl),rfl,rfl,(by rw [hqfit3_3];rfl),rfl,rfl,rfl,⟨rfl,E,rfl,rfl⟩,⟨rfl,L,rfl,rfl⟩,(by omega),(by rw [hqfit3_4];rfl),⟨rfl,E,rfl,rfl⟩,⟨rfl,L,rfl,rfl⟩,⟨rfl,M,rfl,rfl⟩,(by omega),(by rw [hqfit3_5];rfl),⟨rfl,E,rfl,rfl⟩,⟨rfl,L,rfl,rfl⟩,⟨rfl,K,rfl,rfl⟩,(by omega),rfl,trivial⟩ rfl) (Hd.en_eq (r:=(.bool (N5 (F2 L.length (cI K) K.length) 0))) (by (rw [a3C,decide_eq_true (a3B hF.2.2.2).2.2])) (Hd.en_ret (v:=(.v (.bool (N5 (F2 L.length (cI K) K.length) 0)))) (by kernel_rfl) rfl))
     ·have ghqfit3_5:=S2 hqfit3_5
      exact absurd (a3B hF.2.2.2).2.1 (S2 hqfit3_5)
    ·have ghqfit3_4:=S2 hqfit3_4
     exact absurd (a3B hF.2.2.2).1 (S2 hqfit3_4)
theorem c7T(y:Value)(E:List (Value×List (Int×Int)))(yl:Value)(L:List (Int×Int))(z:Value)(M:List Int)(zk:Value)(K:List Int)(hF:gwB (Y1 E) E.length L.length=false∧M.length≤20∧K.length≤20∧a1D (J0 (Y1 E) E.length (cR L) L.length) (F2 L.length (cI M) M.length) (F2 L.length (cI K) K.length)=0):GivesA zP0q 42 [(b9M E L y yl),(.xl z M.length 1 (cI M)),(.xl zk K.length 1 (cI K))] (.bool true) :=
 R6 27 Try.func42 (by kernel_rfl) (by kernel_rfl) (by kernel_rfl) (fun w=>V1 (by kernel_rfl) (by kernel_rfl) (by kernel_rfl) (by kernel_rfl) (c8S y E yl L z M zk K hF w []))
noncomputable def c7K:Code:=O6 Try.f42
set_option maxHeartbeats 16000000 in
theorem c98(y:Value)(E:List (Value×List (Int×Int)))(yl:Value)(L:List (Int×Int))(z:Value)(M:List Int)(zk:Value)(K:List Int)(hF:¬ (gwB (Y1 E) E.length L.length=false∧M.length≤20∧K.length≤20∧a1D (J0 (Y1 E) E.length (cR L) L.length) (F2 L.length (cI M) M.length) (F2 L.length (cI K) K.length)=0))(w:World)(hs:List Nat):Y8 zP0q 27 c7K ((c2O E K L M y yl z zk)) (BaseW.H w hs) (D9 zP0q Try.f42 27 (.bool false) w):=by
 have hcl_L:=Z2 L
 have hcl_M:=Z3 M
 have hcl_K:=Z3 K
 rcases zB0q (gwB (Y1 E) E.length L.length) with hqfif3_1|hqfif3_1
 ·exact Z7 T7 (Z6 zC0q (V9 n7 (V9 a0d a0e)) 200 (T':=⟨[(6,(.v (.bool .false)))],[],1,[]⟩) (e:=.ret) (ps:=[P8 1 (Y1 E) E.length,W9 2 L.length (cR L),(!gwB (Y1 E) E.length L.length)=false,false=false,false=false,false=false,false=false,false=false,false=false,false=false,false=false,false=false,false=false]) (gH 5 [.b false,.b false,.b false,.go,.go,.b false,.b false,.b false,.go,.go,.b false,.b false,.b false,.b false,.b false,.go,.go]) (by kernel_rfl) (by kernel_rfl) ⟨⟨rfl,E,rfl,rfl⟩,⟨rfl,L,rfl,rfl⟩,(by rw [hqfif3_1];rfl),rfl,rfl,rfl,rfl,rfl,rfl,rfl,rfl,rfl,rfl,trivial⟩ rfl) (Hd.en_eq (r:=(.bool .false)) (by rfl) (Hd.en_ret (v:=(.v (.bool .false))) (by kernel_rfl) rfl))
 ·have hE6:=c1X (show ¬ gwB (Y1 E) E.length L.length=true by rw [hqfif3_1];decide)
  rcases zB0q (Y3 20 M.length) with hqfif3_2|hqfif3_2
  ·have ghqfif3_2:=X3 hqfif3_2
   exact Z7 T7 (Z6 zC0q (V9 n7 (V9 a0d a0e)) 200 (T':=⟨[(6,(.v (.bool .false)))],[],1,[]⟩) (e:=.ret) (ps:=[P8 1 (Y1 E) E.length,W9 2 L.length (cR L),(!gwB (Y1 E) E.length L.length)=true,true=true,true=true,(!Y3 20 M.length)=false,false=false,false=false,false=false,false=false,false=false,false=false,false=false]) (gH 5 [.b true,.go,.b true,.go,.b true,.go,.go,.go,.b false,.b false,.b false,.go,.go,.b false,.b false,.b false,.b false,.b false,.go,.go]) (by kernel_rfl) (by kernel_rfl) ⟨⟨rfl,E,rfl,rfl⟩,⟨rfl,L,rfl,rfl⟩,(by rw [hqfif3_1];rfl),rfl,rfl,(by rw [hqfif3_2];rfl),rfl,rfl,rfl,rfl,rfl,rfl,rfl,trivial⟩ rfl) (Hd.en_eq (r:=(.bool .false)) (by rfl) (Hd.en_ret (v:=(.v (.bool .false))) (by kernel_rfl) rfl))
  ·have ghqfif3_2:=Z5 hqfif3_2
   rcases zB0q (Y3 20 K.length) with hqfif3_3|hqfif3_3
   ·have ghqfif3_3:=X3 hqfif3_3
    exact Z7 T7 (Z6 zC0q (V9 n7 (V9 a0d a0e)) 200 (T':=⟨[(6,(.v (.bool .false)))],[],1,[]⟩) (e:=.ret) (ps:=[P8 1 (Y1 E) E.length,W9 2 L.length (cR L),(!gwB (Y1 E) E.length L.length)=true,true=true,true=true,(!Y3 20 M.length)=true,true=true,true=true,(!Y3 20 K.length)=false,false=false,false=false,false=false,false=false]) (gH 5 [.b true,.go,.b true,.go,.b true,.go,.go,.go,.b true,.go,.b true,.go,.b true,.go,.go,.go,.b false,.b false,.b false,.b false,.b false,.go,.go]) (by kernel_rfl) (by kernel_rfl) ⟨⟨rfl,E,rfl,rfl⟩,⟨rfl,L,rfl,rfl⟩,(by rw [hqfif3_1];rfl),rfl,rfl,(by rw [hqfif3_2];rfl),rfl,rfl,(by rw [hqfif3_3];rfl),rfl,rfl,rfl,rfl,trivial⟩ rfl) (Hd.en_eq (r:=(.bool .false)) (by rfl) (Hd.en_ret (v:=(.v (.bool .false))) (by kernel_rfl) rfl))
   ·have ghqfif3_3:=Z5 hqfif3_3
    rcases zB0q (N5 (J0 (Y1 E) E.length (cR L) L.length) 0) with hqfif3_4|hqfif3_4
    ·have ghqfif3_4:=U7 hqfif3_4
     have hnE:=(V0 (U7 hqfif3_4)).1
     rcases zB0q (N5 (F2 L.length (cI M) M.length) 0) with hqfif3_5|hqfif3_5
     ·have ghqfif3_5:=U7 hqfif3_5
      exact Z7 T7 (Z6 zC0q (V9 n7 (V9 a0d a0e)) 200 (T':=⟨[(6,(.v (.bool (N5 (F2 L.length (cI K) K.length) 0))))],[],2,[]⟩) (e:=.ret) (ps:=[P8 1 (Y1 E) E.length,W9 2 L.length (cR L),(!gwB (Y1 E) E.length L.length)=true,true=true,true=true,(!Y3 20 M.length)=true,true=true,true=true,(!Y3 20 K.length)=true,true=true,true=true,true=true,P8 1 (Y1 E) E.length,W9 2 L.length (cR L),E.length≤1000,(!N5 (J0 (Y1 E) E.length (cR L) L.length) 0)=false,P8 1 (Y1 E) E.length,W9 2 L.length (cR L),I8 1 M.length (cI M),L.length≤1000,(!N5 (F2 L.length (cI M) M.length) 0)=false,P8 1 (Y1 E) E.length,W9 2 L.length (cR L),I8 1 K.length (cI K),L.length≤1000,true=true]) (gH 5 ([.b true,.go,.b true,.go,.b true,.go,.go,.go,.b true,.go,.b true,.go,.b true,.go,.go,.go,.b true,.go,.b true,.go,.b true,.go,.b true]++gH 4 [.b false,.go,.go,.go,.b false,.go,.go,.go,.b true,.go,.go,.go])) (by kernel_rfl) (by kernel_rfl) ⟨⟨rfl,E,rfl,rfl⟩,⟨rfl,L,rfl,rfl⟩,(by rw [hqfif3_1];rfl),rfl,rfl,(by rw [hqfif3_2];rfl),rfl,rfl,(by rw [hqfif3_3];rfl),rfl,rfl,rfl,⟨rfl,E,rfl,rfl⟩,⟨rfl,L,rfl,rfl⟩,(by omega),(by rw [hqfif3_4];rfl),⟨rfl,E,rfl,rfl⟩,⟨rfl,L,rfl,rfl⟩,⟨rfl,M,rfl,rfl⟩,(by omega),(by rw [hqfif3_5];rfl),⟨rfl,E,rfl,rfl⟩,⟨rfl,L,rfl,rfl⟩,⟨rfl,K,rfl,rfl⟩,(by omega),rfl,trivial⟩ rfl) (Hd.en_eq (r:=(.bool (N5 (F2 L.length (cI K) K.length) 0))) (by (rw [a3C,decide_eq_false (fun h7=>hF ⟨hqfif3_1,by have h9:=Z5 hqfif3_2;omega,by have h9:=Z5 hqfif3_3;omega,(a8L (U7 hqfif3_4) (U7 hqfif3_5)).trans h7⟩)])) (Hd.en_ret (v:=(.v (.bool (N5 (F2 L.length (cI K) K.length) 0)))) (by kernel_rfl) rfl))
     ·have ghqfif3_5:=S2 hqfif3_5
      exact Z7 T7 (Z6 zC0q (V9 n7 (V9 a0d a0e)) 200 (T':=⟨[(6,(.v (.bool (N5 (F2 L.length (cI M) M.length) 0))))],[],2,[]⟩) (e:=.ret) (ps:=[P8 1 (Y1 E) E.length,W9 2 L.length (cR L),(!gwB (Y1 E) E.length L.length)=true,true=true,true=true,(!Y3 20 M.length)=true,true=true,true=true,(!Y3 20 K.length)=true,true=true,true=true,true=true,P8 1 (Y1 E) E.length,W9 2 L.length (cR L),E.length≤1000,(!N5 (J0 (Y1 E) E.length (cR L) L.length) 0)=false,P8 1 (Y1 E) E.length,W9 2 L.length (cR L),I8 1 M.length (cI M),L.length≤1000,(!N5 (F2 L.length (cI M) M.length) 0)=true,P8 1 (Y1 E) E.length,W9 2 L.length (cR L),I8 1 M.length (cI M),L.length≤1000,true=true]) (gH 5 ([.b true,.go,.b true,.go,.b true,.go,.go,.go,.b true,.go,.b true,.go,.b true,.go,.go,.go,.b true,.go,.b true,.go,.b true,.go,.b true]++gH 4 [.b false,.go,.go,.go,.b true,.go,.go,.go,.b true,.go,.go,.go])) (by kernel_rfl) (by kernel_rfl) ⟨⟨rfl,E,rfl,rfl⟩,⟨rfl,L,rfl,rfl⟩,(by rw [hqfif3_1];rfl),rfl,rfl,(by rw [hqfif3_2];rfl),rfl,rfl,(by rw [hqfif3_3];rfl),rfl,rfl,rfl,⟨rfl,E,rfl,rfl⟩,⟨rfl,L,rfl,rfl⟩,(by omega),(by rw [hqfif3_4];rfl),⟨rfl,E,rfl,rfl⟩,⟨rfl,L,rfl,rfl⟩,⟨rfl,M,rfl,rfl⟩,(by omega),(by rw [hqfif3_5];rfl),⟨rfl,E,rfl,rfl⟩,⟨rfl,L,rfl,rfl⟩,⟨rfl,M,rfl,rfl⟩,(by omega),rfl,trivial⟩ rfl) (Hd.en_eq (r:=(.bool (N5 (F2 L.length (cI M) M.length) 0))) (by (rw [hqfif3_5])) (Hd.en_ret (v:=(.v (.bool (N5 (F2 L.length (cI M) M.length) 0)))) (by kernel_rfl) rfl))
    ·have ghqfif3_4:=S2 hqfif3_4
     exact Z7 T7 (Z6 zC0q (V9 n7 (V9 a0d a0e)) 200 (T':=⟨[(6,(.v (.bool (N5 (J0 (Y1 E) E.length (cR L) L.length) 0))))],[],2,[]⟩) (e:=.ret) (ps:=[P8 1 (Y1 E) E.length,W9 2 L.length (cR L),(!gwB (Y1 E) E.length L.length)=true,true=true,true=true,(!Y3 20 M.length)=true,true=true,true=true,(!Y3 20 K.length)=true,true=true,true=true,true=true,P8 1 (Y1 E) E.length,W9 2 L.length (cR L),E.length≤1000,(!N5 (J0 (Y1 E) E.length (cR L) L.length) 0)=true,P8 1 (Y1 E) E.length,W9 2 L.length (cR L),E.length≤1000,true=true]) (gH 5 ([.b true,.go,.b true,.go,.b true,.go,.go,.go,.b true,.go,.b true,.go,.b true,.go,.go,.go,.b true,.go,.b true,.go,.b true,.go,.b true]++gH 4 [.b true,.go,.go,.b true,.go,.go,.go])) (by kernel_rfl) (by kernel_rfl) ⟨⟨rfl,E,rfl,rfl⟩,⟨rfl,L,rfl,rfl⟩,(by rw [hqfif3_1];rfl),rfl,rfl,(by rw [hqfif3_2];rfl),rfl,rfl,(by rw [hqfif3_3];rfl),rfl,rfl,rfl,⟨rfl,E,rfl,rfl⟩,⟨rfl,L,rfl,rfl⟩,(by omega),(by rw [hqfif3_4];rfl),⟨rfl,E,rfl,rfl⟩,⟨rfl,L,rfl,rfl⟩,(by omega),rfl,trivial⟩ rfl) (Hd.en_eq (r:=(.bool (N5 (J0 (Y1 E) E.length (cR L) L.length) 0))) (by (rw [hqfif3_4])) (Hd.en_ret (v:=(.v (.bool (N5 (J0 (Y1 E) E.length (cR L) L.length) 0)))) (by kernel_rfl) rfl))
theorem c9f(y:Value)(E:List (Value×List (Int×Int)))(yl:Value)(L:List (Int×Int))(z:Value)(M:List Int)(zk:Value)(K:List Int)(hF:¬ (gwB (Y1 E) E.length L.length=false∧M.length≤20∧K.length≤20∧a1D (J0 (Y1 E) E.length (cR L) L.length) (F2 L.length (cI M) M.length) (F2 L.length (cI K) K.length)=0)):GivesA zP0q 42 [(b9M E L y yl),(.xl z M.length 1 (cI M)),(.xl zk K.length 1 (cI K))] (.bool false) :=
 R6 27 Try.func42 (by kernel_rfl) (by kernel_rfl) (by kernel_rfl) (fun w=>V1 (by kernel_rfl) (by kernel_rfl) (by kernel_rfl) (by kernel_rfl) (c98 y E yl L z M zk K hF w []))
end
end Go.Proofs.Ytegmogadbnfbgaa
namespace Go.Proofs.Ytegmogadbnfbgaa
open Go Ev
noncomputable section
noncomputable def d1y:Code:=O6 Try.f47
set_option maxHeartbeats 16000000 in
theorem d0o(lo hi:Int)(zb:Value)(B:List Int)(k:Nat)(hr:0≤lo∧lo≤hi∧hi≤1000)(hB:M0 B)(hk:k≤1000)(w:World)(hs:List Nat):Y8 zP0q 30 d1y (⟨[(0,(.agg [nI0 lo,nI0 hi])),(1,(.xl zb B.length 1 (cH B))),(2,(nI0 k))],[],0,[]⟩) (BaseW.H w hs) (D9 zP0q Try.f47 30 (.int .i64 (pkV lo hi (cH B) B.length k)) w):=by
 have hcl_B:=Z3 B
 rcases zB0q (N5 B.length 0) with hqpk3_1|hqpk3_1
 ·have ghqpk3_1:=U7 hqpk3_1
  exact Z7 T7 (Z6 zC0q (Z0) 200 (T':=⟨[(6,(nI0 (lo)))],[],1,[]⟩) (e:=.ret) (ps:=[N5 B.length 0=true]) (gH 5 [.b true,.go,.go,.go]) (by kernel_rfl) (by kernel_rfl) ⟨hqpk3_1,trivial⟩ rfl) (Hd.en_eq (r:=(.int .i64 (lo))) (by (rw [b4v (by omega)])) (Hd.en_ret (v:=(nI0 (lo))) (by kernel_rfl) rfl))
 ·have ghqpk3_1:=S2 hqpk3_1
  exact Z7 T7 (Z6 zC0q (Z0) 200 (T':=⟨[(6,(nI0 (lo+(IntKind.i64.wrap (Z9 (cH B) (k % B.length*1))).tmod (hi - lo+1))))],[],1,[]⟩) (e:=.ret) (ps:=[N5 B.length 0=false,(B.length:Int)≠0,k % B.length<B.length,W7 zP0q (cH B) (k % B.length*1) 73=some (AV.v (Value.int IntKind.u16 (Z9 (cH B) (k % B.length*1)))),K4 IntKind.i64 (hi - lo),K4 IntKind.i64 (hi - lo+1),hi - lo+1≠0,K4 IntKind.i64 (lo+(IntKind.i64.wrap (Z9 (cH B) (k % B.length*1))).tmod (hi - lo+1))]) (gH 5 ([.b false]++gH 7 ([.sym,.sym]++gH 10 []))) (by kernel_rfl) (by kernel_rfl) ⟨hqpk3_1,(by omega),(Nat.mod_lt _ (by omega)),(c0R (by rw [Nat.mul_one];exact Nat.mod_lt _ (by omega)) 73 (Try.underlying73) rfl),(by show -9223372036854775808≤_∧_≤9223372036854775807;constructor<;>omega),(by show -9223372036854775808≤_∧_≤9223372036854775807;constructor<;>omega),(by omega),(by have h8:=a9O hB (i:=k % B.length*1) (by rw [Nat.mul_one];exact Nat.mod_lt _ (by omega));rw [b13 h8];have h7:=Int.tmod_nonneg (hi - lo+1) h8.1;have h6:=Int.tmod_lt_of_pos (Z9 (cH B) (k % B.length*1)) (show 0<hi - lo+1 by omega);show -9223372036854775808≤_∧_≤9223372036854775807;constructor<;>omega),trivial⟩ rfl) (Hd.en_eq (r:=(.int .i64 (lo+(IntKind.i64.wrap (Z9 (cH B) (k % B.length*1))).tmod (hi - lo+1)))) (by (have h8:=a9O hB (i:=k % B.length*1) (by rw [Nat.mul_one];exact Nat.mod_lt _ (by omega));unfold pkV;rw [if_neg (by omega),b13 h8])) (Hd.en_ret (v:=(nI0 (lo+(IntKind.i64.wrap (Z9 (cH B) (k % B.length*1))).tmod (hi - lo+1)))) (by kernel_rfl) rfl))
theorem d0I(lo hi:Int)(zb:Value)(B:List Int)(k:Nat)(hr:0≤lo∧lo≤hi∧hi≤1000)(hB:M0 B)(hk:k≤1000):GivesA zP0q 47 [(.agg [nI0 lo,nI0 hi]),(.xl zb B.length 1 (cH B)),(nI0 k)] (.int .i64 (pkV lo hi (cH B) B.length k)) :=
 R6 30 Try.func47 (by kernel_rfl) (by kernel_rfl) (by kernel_rfl) (fun w=>V1 (by kernel_rfl) (by kernel_rfl) (by kernel_rfl) (by kernel_rfl) (d0o lo hi zb B k hr hB hk w []))
end
end Go.Proofs.Ytegmogadbnfbgaa
namespace Go.Proofs.Ytegmogadbnfbgaa
open Go Ev
noncomputable section
def IsH(j m:Nat)(c:List AV):Prop:=j=1∧∃ B,c=cH B∧m=B.length∧M0 B
def pkS:List AV→Option (j7×List Prop):=fun vs =>
 match vs with
 |[.agg [.v a0,.v a1],.xl z m j c,.v a2]=>match a3U a0,a3U a1,a3U a2 with
  |some lo,some hi,some k=>some (.val (.v (.int .i64 (pkV lo hi c m k.toNat))),[IsH j m c,0≤lo∧lo≤hi∧hi≤1000,0≤k∧k≤1000])
  |_,_,_=>none
 |_=>none
def pkO:N7:=A4 47 pkS
theorem R7:Known zP0q (clsO pkO):=I3 (fun vs r ps h hp=>by
 unfold pkS at h
 split at h
 ·split at h
  ·rename_i lo hi k e1 e2 e3
   cases h
   obtain ⟨⟨rfl,B,rfl,rfl,hB⟩,h1,h2,-⟩:=hp
   rw [w6 e1,w6 e2,w6 e3]
   obtain ⟨k,rfl⟩:∃ q:Nat,k=((q:Nat):Int):=⟨k.toNat,by omega⟩
   exact ⟨W6 (m5 (W6 (a28 _) (W6 (a28 _) R1))) (W6 (R0 (U1 (G7 B))) (W6 (a28 _) R1)),_,rfl,d0I lo hi _ B k h1 hB (by omega)⟩
  ·cases h
 ·cases h)
end
end Go.Proofs.Ytegmogadbnfbgaa
set_option maxHeartbeats 4000000
namespace Go.Proofs.Ytegmogadbnfbgaa
open Go Ev
noncomputable section
theorem a0R{a:Int}(h : -9223372036854775808≤a)(k:a≤9223372036854775807):K4 .i64 a:=⟨h,k⟩
section
variable (B : List Int) (L P0 P1 P2 : List (Int × Int)) (i j n : Nat) (v0 v1 v2 y yl zb : Value)
@[reducible] def Q0:Nat×Ev.AV:=(1,(.xl (zb) (B.length) 1 (cH B)))
@[reducible] def g5:Ev.AB:=(.cells [(.xl (y) (3) 1 [(.xl (v0) (P0.length) 2 (cR P0)),(.xl (v1) (P1.length) 2 (cR P1)),(.xl (v2) (P2.length) 2 (cR P2))]),(.xl (yl) (L.length) 2 (cR L))] 25)
@[reducible] def P7:Nat×Ev.AB:=(0,(g5 L P0 P1 P2 v0 v1 v2 y yl))
@[reducible] def x7:Ev.AB:=(.cells [(.v (Value.slice none 0 0)),(.v (Value.slice none 0 0))] 29)
@[reducible] def Q2:Nat×Ev.AB:=(1,x7)
@[reducible] def J2:Ev.AB:=(.row (cI (tI (H0 (cR L) (cH B) B.length 0) (n+1))) 2 1)
@[reducible] def L6:Nat×Ev.AB:=(3,(J2 B L n))
@[reducible] def b86:Ev.Lit:=⟨[(Q0 B zb),(2,(.ptr 0 0)),(4,(.ptr 1 0)),(5,(.ptr 2 0)),(6,(nI0 (((n+1):Nat):Int))),(8,(nI0 0))],[],4,[(P7 L P0 P1 P2 v0 v1 v2 y yl),Q2,(2,(.cells [(.v (.slice none 0 0)),(.slu 3 0 (n+1) 0)] 29)),(L6 B L n)]⟩
@[reducible] def a0a:Ev.AB:=(.cells [(.slu 4 0 1 0),(.slu 3 0 (n+1) 0)] 29)
@[reducible] def I7:Ev.AB:=(.row (cI (tI (H0 (cR P0) (cH B) B.length (n+1)) (n+1))) 2 1)
@[reducible] def G1:Nat×Ev.AB:=(5,(I7 B P0 n))
@[reducible] def b3O:Ev.Lit:=⟨[(Q0 B zb),(2,(.ptr 0 0)),(4,(.ptr 1 0)),(5,(.ptr 2 0)),(6,(nI0 (((2*(n+1)):Nat):Int))),(8,(nI0 1))],[],6,[(P7 L P0 P1 P2 v0 v1 v2 y yl),Q2,(2,(a0a n)),(L6 B L n),(4,(.row [(.slu 5 0 (n+1) 0)] 27 1)),(G1 B P0 n)]⟩
@[reducible] def c6:Ev.AB:=(.cells [(.slu 4 0 2 0),(.slu 3 0 (n+1) 0)] 29)
@[reducible] def n5:Ev.AB:=(.row [(.slu 5 0 (n+1) 0),(.slu 6 0 (n+1) 0)] 27 1)
@[reducible] def M9:Ev.AB:=(.row (cI (tI (H0 (cR P1) (cH B) B.length (2*(n+1))) (n+1))) 2 1)
@[reducible] def b2R:Ev.Lit:=⟨[(Q0 B zb),(2,(.ptr 0 0)),(4,(.ptr 1 0)),(5,(.ptr 2 0)),(6,(nI0 (((3*(n+1)):Nat):Int))),(8,(nI0 2))],[],7,[(P7 L P0 P1 P2 v0 v1 v2 y yl),Q2,(2,(c6 n)),(L6 B L n),(4,(n5 n)),(G1 B P0 n),(6,(M9 B P1 n))]⟩
@[reducible] def F3:Ev.AB:=(.row (cI (tI (H0 (cR P2) (cH B) B.length (3*(n+1))) (n+1))) 2 1)
@[reducible] def b9h:Ev.Lit:=⟨[(Q0 B zb),(2,(.ptr 0 0)),(4,(.ptr 1 0)),(5,(.ptr 2 0)),(6,(nI0 (((4*(n+1)):Nat):Int))),(8,(nI0 3))],[],8,[(P7 L P0 P1 P2 v0 v1 v2 y yl),Q2,(2,(.cells [(.slu 4 0 3 0),(.slu 3 0 (n+1) 0)] 29)),(L6 B L n),(4,(.row [(.slu 5 0 (n+1) 0),(.slu 6 0 (n+1) 0),(.slu 7 0 (n+1) 0)] 27 1)),(G1 B P0 n),(6,(M9 B P1 n)),(7,(F3 B P2 n))]⟩
@[reducible] def a1J:=(Ev.fam0 ((b86 B L P0 P1 P2 n v0 v1 v2 y yl zb):Ev.Lit) (Ev.fam0 ((b3O B L P0 P1 P2 n v0 v1 v2 y yl zb):Ev.Lit) (Ev.fam0 ((b2R B L P0 P1 P2 n v0 v1 v2 y yl zb):Ev.Lit) (fun _=>((b9h B L P0 P1 P2 n v0 v1 v2 y yl zb):Ev.Lit)))))
@[reducible] def b9w:Ev.Lit:=⟨[(Q0 B zb),(2,(.ptr 0 0)),(4,(.ptr 1 0)),(5,(.ptr 2 0)),(6,(nI0 (((3*(n+1))+(j+1):Nat):Int))),(8,(nN 2)),(9,(.slu 7 0 (j+1) 0)),(10,(nI0 (((j+1):Nat):Int)))],[],8,[(P7 L P0 P1 P2 v0 v1 v2 y yl),Q2,(2,(c6 n)),(L6 B L n),(4,(n5 n)),(G1 B P0 n),(6,(M9 B P1 n)),(7,(.row (cI (tI (H0 (cR P2) (cH B) B.length (3*(n+1))) (j+1))) 2 1))]⟩
@[reducible] def c2K:Ev.Lit:=⟨[(Q0 B zb),(2,(.ptr 0 0)),(4,(.ptr 1 0)),(5,(.ptr 2 0)),(6,(nI0 (((3*(n+1)+((n)+1):Nat):Int)))),(8,(nN 2)),(9,(.slu 7 0 ((n)+1) 0))],[],8,[(P7 L P0 P1 P2 v0 v1 v2 y yl),Q2,(2,(c6 n)),(L6 B L n),(4,(n5 n)),(G1 B P0 n),(6,(M9 B P1 n)),(7,(.row (cI (tI (H0 (cR P2) (cH B) B.length (3*(n+1))) ((n)+1))) 2 1))]⟩
@[reducible] def c1G:Ev.Lit:=⟨[(Q0 B zb),(2,(.ptr 0 0)),(4,(.ptr 1 0)),(5,(.ptr 2 0)),(6,(nI0 (((3*(n+1)+(n+1):Nat):Int)))),(8,(nN 2))],[],10,[(P7 L P0 P1 P2 v0 v1 v2 y yl),Q2,(2,(.cells [(.slu 9 0 3 0),(.slu 3 0 (n+1) 0)] 29)),(L6 B L n),(G1 B P0 n),(6,(M9 B P1 n)),(7,(F3 B P2 n)),(9,(.row [(.slu 5 0 (n+1) 0),(.slu 6 0 (n+1) 0),(.slu 7 0 (n+1) 0)] 27 1))]⟩
@[reducible] def b97:Ev.Lit:=⟨[(Q0 B zb),(2,(.ptr 0 0)),(4,(.ptr 1 0)),(5,(.ptr 2 0)),(6,(nI0 (((3*(n+1):Nat):Int)))),(8,(nN 2)),(9,(.v (Value.slice none 0 0))),(10,(nI0 0))],[],7,[(P7 L P0 P1 P2 v0 v1 v2 y yl),Q2,(2,(c6 n)),(L6 B L n),(4,(n5 n)),(G1 B P0 n),(6,(M9 B P1 n))]⟩
@[reducible] def b6o:Ev.Lit:=⟨[(Q0 B zb),(2,(.ptr 0 0)),(4,(.ptr 1 0)),(5,(.ptr 2 0)),(6,(nI0 (((3*(n+1):Nat):Int)))),(8,(nN 2)),(9,(.v (Value.slice none 0 0))),(10,(nN 0))],[],7,[(P7 L P0 P1 P2 v0 v1 v2 y yl),Q2,(2,(c6 n)),(L6 B L n),(4,(n5 n)),(G1 B P0 n),(6,(M9 B P1 n))]⟩
@[reducible] def b9S:Ev.Lit:=⟨[(Q0 B zb),(2,(.ptr 0 0)),(4,(.ptr 1 0)),(5,(.ptr 2 0)),(6,(nI0 (((2*(n+1))+(j+1):Nat):Int))),(8,(nN 1)),(9,(.slu 6 0 (j+1) 0)),(10,(nI0 (((j+1):Nat):Int)))],[],7,[(P7 L P0 P1 P2 v0 v1 v2 y yl),Q2,(2,(a0a n)),(L6 B L n),(4,(.row [(.slu 5 0 (n+1) 0)] 27 1)),(G1 B P0 n),(6,(.row (cI (tI (H0 (cR P1) (cH B) B.length (2*(n+1))) (j+1))) 2 1))]⟩
@[reducible] def b8t:Ev.Lit:=⟨[(Q0 B zb),(2,(.ptr 0 0)),(4,(.ptr 1 0)),(5,(.ptr 2 0)),(6,(nI0 (((3*(n+1):Nat):Int)))),(8,(nN 2)),(9,(.v (Value.slice none 0 0)))],[],7,[(P7 L P0 P1 P2 v0 v1 v2 y yl),Q2,(2,(c6 n)),(L6 B L n),(4,(n5 n)),(G1 B P0 n),(6,(M9 B P1 n))]⟩
@[reducible] def b8D:Ev.Lit:=⟨[(Q0 B zb),(2,(.ptr 0 0)),(4,(.ptr 1 0)),(5,(.ptr 2 0)),(6,(nI0 (((2*(n+1)+((n)+1):Nat):Int)))),(8,(nN 1)),(9,(.slu 6 0 ((n)+1) 0))],[],7,[(P7 L P0 P1 P2 v0 v1 v2 y yl),Q2,(2,(a0a n)),(L6 B L n),(4,(.row [(.slu 5 0 (n+1) 0)] 27 1)),(G1 B P0 n),(6,(.row (cI (tI (H0 (cR P1) (cH B) B.length (2*(n+1))) ((n)+1))) 2 1))]⟩
@[reducible] def b81:Ev.Lit:=⟨[(Q0 B zb),(2,(.ptr 0 0)),(4,(.ptr 1 0)),(5,(.ptr 2 0)),(6,(nI0 (((2*(n+1)+(n+1):Nat):Int)))),(8,(nN 1))],[],9,[(P7 L P0 P1 P2 v0 v1 v2 y yl),Q2,(2,(.cells [(.slu 8 0 2 0),(.slu 3 0 (n+1) 0)] 29)),(L6 B L n),(G1 B P0 n),(6,(M9 B P1 n)),(8,(n5 n))]⟩
@[reducible] def a9s:Ev.Lit:=⟨[(Q0 B zb),(2,(.ptr 0 0)),(4,(.ptr 1 0)),(5,(.ptr 2 0)),(6,(nI0 (((3*(n+1):Nat):Int)))),(8,(nN 2))],[],7,[(P7 L P0 P1 P2 v0 v1 v2 y yl),Q2,(2,(c6 n)),(L6 B L n),(4,(n5 n)),(G1 B P0 n),(6,(M9 B P1 n))]⟩
@[reducible] def b34:Ev.Lit:=⟨[(Q0 B zb),(2,(.ptr 0 0)),(4,(.ptr 1 0)),(5,(.ptr 2 0)),(6,(nI0 (((2*(n+1):Nat):Int)))),(8,(nN 1)),(9,(.v (Value.slice none 0 0))),(10,(nI0 0))],[],6,[(P7 L P0 P1 P2 v0 v1 v2 y yl),Q2,(2,(a0a n)),(L6 B L n),(4,(.row [(.slu 5 0 (n+1) 0)] 27 1)),(G1 B P0 n)]⟩
@[reducible] def b36:Ev.Lit:=⟨[(Q0 B zb),(2,(.ptr 0 0)),(4,(.ptr 1 0)),(5,(.ptr 2 0)),(6,(nI0 (((2*(n+1):Nat):Int)))),(8,(nN 1)),(9,(.v (Value.slice none 0 0))),(10,(nN 0))],[],6,[(P7 L P0 P1 P2 v0 v1 v2 y yl),Q2,(2,(a0a n)),(L6 B L n),(4,(.row [(.slu 5 0 (n+1) 0)] 27 1)),(G1 B P0 n)]⟩
@[reducible] def a0v:Ev.AB:=(.cells [(.v (Value.slice none 0 0)),(.slu 3 0 (n+1) 0)] 29)
@[reducible] def b2D:Ev.Lit:=⟨[(Q0 B zb),(2,(.ptr 0 0)),(4,(.ptr 1 0)),(5,(.ptr 2 0)),(6,(nI0 (((n+1)+(j+1):Nat):Int))),(8,(nN 0)),(9,(.slu 4 0 (j+1) 0)),(10,(nI0 (((j+1):Nat):Int)))],[],5,[(P7 L P0 P1 P2 v0 v1 v2 y yl),Q2,(2,(a0v n)),(L6 B L n),(4,(.row (cI (tI (H0 (cR P0) (cH B) B.length (n+1)) (j+1))) 2 1))]⟩
@[reducible] def b4c:Ev.Lit:=⟨[(Q0 B zb),(2,(.ptr 0 0)),(4,(.ptr 1 0)),(5,(.ptr 2 0)),(6,(nI0 (((2*(n+1):Nat):Int)))),(8,(nN 1)),(9,(.v (Value.slice none 0 0)))],[],6,[(P7 L P0 P1 P2 v0 v1 v2 y yl),Q2,(2,(a0a n)),(L6 B L n),(4,(.row [(.slu 5 0 (n+1) 0)] 27 1)),(G1 B P0 n)]⟩
@[reducible] def b9y:Ev.Lit:=⟨[(Q0 B zb),(2,(.ptr 0 0)),(4,(.ptr 1 0)),(5,(.ptr 2 0)),(6,(nI0 (((n+1+((n)+1):Nat):Int)))),(8,(nN 0)),(9,(.slu 4 0 ((n)+1) 0))],[],5,[(P7 L P0 P1 P2 v0 v1 v2 y yl),Q2,(2,(a0v n)),(L6 B L n),(4,(.row (cI (tI (H0 (cR P0) (cH B) B.length (n+1)) ((n)+1))) 2 1))]⟩
@[reducible] def b73:Ev.Lit:=⟨[(Q0 B zb),(2,(.ptr 0 0)),(4,(.ptr 1 0)),(5,(.ptr 2 0)),(6,(nI0 (((n+1+(n+1):Nat):Int)))),(8,(nN 0))],[],7,[(P7 L P0 P1 P2 v0 v1 v2 y yl),Q2,(2,(.cells [(.slu 6 0 1 0),(.slu 3 0 (n+1) 0)] 29)),(L6 B L n),(4,(I7 B P0 n)),(6,(.row [(.slu 4 0 (n+1) 0)] 27 1))]⟩
@[reducible] def b0z:Ev.Lit:=⟨[(Q0 B zb),(2,(.ptr 0 0)),(4,(.ptr 1 0)),(5,(.ptr 2 0)),(6,(nI0 (((2*(n+1):Nat):Int)))),(8,(nN 1))],[],6,[(P7 L P0 P1 P2 v0 v1 v2 y yl),Q2,(2,(a0a n)),(L6 B L n),(4,(.row [(.slu 5 0 (n+1) 0)] 27 1)),(G1 B P0 n)]⟩
@[reducible] def b3z:Ev.Lit:=⟨[(Q0 B zb),(2,(.ptr 0 0)),(4,(.ptr 1 0)),(5,(.ptr 2 0)),(6,(nI0 (((n+1:Nat):Int)))),(8,(nN 0)),(9,(.v (Value.slice none 0 0))),(10,(nI0 0))],[],4,[(P7 L P0 P1 P2 v0 v1 v2 y yl),Q2,(2,(a0v n)),(L6 B L n)]⟩
@[reducible] def b2h:Ev.Lit:=⟨[(Q0 B zb),(2,(.ptr 0 0)),(4,(.ptr 1 0)),(5,(.ptr 2 0)),(6,(nI0 (((n+1:Nat):Int)))),(8,(nN 0)),(9,(.v (Value.slice none 0 0))),(10,(nN 0))],[],4,[(P7 L P0 P1 P2 v0 v1 v2 y yl),Q2,(2,(a0v n)),(L6 B L n)]⟩
@[reducible] def b2t:Ev.Lit:=⟨[(Q0 B zb),(2,(.ptr 0 0)),(4,(.ptr 1 0)),(5,(.ptr 2 0)),(6,(nI0 (((n+1:Nat):Int)))),(8,(nN 0)),(9,(.v (Value.slice none 0 0)))],[],4,[(P7 L P0 P1 P2 v0 v1 v2 y yl),Q2,(2,(a0v n)),(L6 B L n)]⟩
@[reducible] def b2f:Ev.Lit:=⟨[(Q0 B zb),(2,(.ptr 0 0)),(4,(.ptr 1 0)),(5,(.ptr 2 0)),(6,(nI0 (((i+1):Nat):Int))),(7,(nI0 (((i+1):Nat):Int)))],[],4,[(P7 L P0 P1 P2 v0 v1 v2 y yl),Q2,(2,(.cells [(.v (.slice none 0 0)),(.slu 3 0 (i+1) 0)] 29)),(3,(.row (cI (tI (H0 (cR L) (cH B) B.length 0) (i+1))) 2 1))]⟩
@[reducible] def a3p:Ev.Lit:=⟨[(Q0 B zb),(2,(.ptr 0 0)),(4,(.ptr 1 0)),(5,(.ptr 2 0)),(6,(nI0 (((n+1:Nat):Int)))),(8,(nN 0))],[],4,[(P7 L P0 P1 P2 v0 v1 v2 y yl),Q2,(2,(a0v n)),(L6 B L n)]⟩
@[reducible] def b9H:Ev.Lit:=⟨[(4,(.ptr 1 0)),(5,(.ptr 2 0))],[],8,[Q2,(2,(.cells [(.slu 4 0 3 0),(.slu 3 0 (n+1) 0)] 29)),(L6 B L n),(4,(.row [(.slu 5 0 (n+1) 0),(.slu 6 0 (n+1) 0),(.slu 7 0 (n+1) 0)] 27 1)),(G1 B P0 n),(6,(M9 B P1 n)),(7,(F3 B P2 n))]⟩
@[reducible] def b3r:Ev.Lit:=⟨[(Q0 B zb),(2,(.ptr 0 0)),(4,(.ptr 1 0)),(5,(.ptr 2 0)),(6,(nI0 ((((n)+1:Nat):Int))))],[],4,[(P7 L P0 P1 P2 v0 v1 v2 y yl),Q2,(2,(.cells [(.v (Value.slice none 0 0)),(.slu 3 0 ((n)+1) 0)] 29)),(3,(.row (cI (tI (H0 (cR L) (cH B) B.length 0) ((n)+1))) 2 1))]⟩
@[reducible] def b25:Ev.Lit:=⟨[(Q0 B zb),(2,(.ptr 0 0)),(4,(.ptr 1 0)),(5,(.ptr 2 0)),(6,(nN 0)),(7,(nI0 0))],[],3,[(P7 L P0 P1 P2 v0 v1 v2 y yl),Q2,(2,x7)]⟩
@[reducible] def b26:Ev.Lit:=⟨[(Q0 B zb),(2,(.ptr 0 0)),(4,(.ptr 1 0)),(5,(.ptr 2 0)),(6,(nN 0)),(7,(nN 0))],[],3,[(P7 L P0 P1 P2 v0 v1 v2 y yl),Q2,(2,x7)]⟩
@[reducible] def b2l:Ev.Lit:=⟨[(Q0 B zb),(2,(.ptr 0 0)),(4,(.ptr 1 0)),(5,(.ptr 2 0)),(6,(nN 0))],[],3,[(P7 L P0 P1 P2 v0 v1 v2 y yl),Q2,(2,x7)]⟩
@[reducible] def b9Y:Ev.Lit:=⟨[(Q0 B zb),(2,(.ptr 0 0)),(4,(.ptr 1 0)),(5,(.ptr 2 0))],[],3,[(P7 L P0 P1 P2 v0 v1 v2 y yl),Q2,(2,x7)]⟩
@[reducible] def b8J:Ev.Lit:=⟨[(Q0 B zb),(2,(.ptr 0 0)),(4,(.ptr 1 0))],[],2,[(P7 L P0 P1 P2 v0 v1 v2 y yl),Q2]⟩
@[reducible] def r8:Ev.AB:=(.row [.slu 2 0 (n+1) 0,.slu 3 0 (n+1) 0,.slu 4 0 (n+1) 0] 27 1)
end
noncomputable def c7G:Code:=O6 Try.f43
noncomputable def c8s:Code:=L2 c7G
noncomputable def c9t:Code:=L2 c8s
noncomputable def c6b:Code:=L2 c9t
noncomputable def b16:Code:=L2 c6b
noncomputable def c1M:Code:=(d9 c6b)
noncomputable def b6B:Code:=L2 c1M
noncomputable def c32:Code:=G5 b6B
@[reducible] def b4y(B:List Int)(L P0 P1 P2:List (Int×Int))(eb:Nat→Option Nat)(ec:Nat→Nat)(n:Nat)(v:BaseW)(v0 v1 v2 y yl zb:Value):=Hd.StepC zP0q 73 0 (fun i:{i:Nat // i≤(n+1)∧True}=>Ev.fam0 (b25 B L P0 P1 P2 v0 v1 v2 y yl zb) (fun i=>(b2f B L P0 P1 P2 i v0 v1 v2 y yl zb)) i.1) (fun i:{i:Nat // i≤(n+1)∧True}=>(n+1) - i.1) b16 (bw v 0 eb ec) (D3 zP0q Try.f43 73 ((.agg [.slu 0 0 3 0,.slu 1 0 (n+1) 0])) [(r8 n),(J2 B L n),(I7 B P0 n),(M9 B P1 n),(F3 B P2 n)] (bw v 0 eb ec))
@[reducible] def a2k(B:List Int)(L P0 P1 P2:List (Int×Int))(eb:Nat→Option Nat)(ec:Nat→Nat)(n:Nat)(v:BaseW):=(D3 zP0q Try.f43 73 ((.agg [.slu 0 0 3 0,.slu 1 0 (n+1) 0])) [(r8 n),(J2 B L n),(I7 B P0 n),(M9 B P1 n),(F3 B P2 n)] (bw v 0 eb ec))
section
variable {B:List Int} {L P0 P1 P2:List (Int×Int)} {eb:Nat→Option Nat} {ec:Nat→Nat} {hs:List Nat} {i j n:Nat} {v:BaseW} {v0 v1 v2 y yl zb:Value}
theorem c8X(hT:k9 L P0 P1 P2 n)(hB:M0 B)(hi1:0≤(n+1))(hi2:True):Y8 zP0q 73 c32 ((b25 B L P0 P1 P2 v0 v1 v2 y yl zb)) (BaseW.H (bw v 0 eb ec) hs) (b4y B L P0 P1 P2 eb ec n v v0 v1 v2 y yl zb (⟨0,hi1,hi2⟩:{i:Nat // i≤(n+1)∧True})):=by
 have hcl_P0:=Z2 P0
 have hcl_P1:=Z2 P1
 have hcl_P2:=Z2 P2
 have hcl_L:=Z2 L
 have hcl_B:=Z3 B
 obtain ⟨hn,hn8,hp0,hp1,hp2,hL,hc0,hc1,hc2⟩:=(id hT)
 rcases zB0q (Y3 0 L.length) with hqtr22_1|hqtr22_1
 ·have ghqtr22_1:=X3 hqtr22_1
  exact Z7 W4 (R5 zC0q (R7) 200 (T':=⟨[(Q0 B zb),(2,(.ptr 0 0)),(4,(.ptr 1 0)),(5,(.ptr 2 0)),(6,(nI0 (((0+1):Nat):Int))),(7,(nI0 (((0+1):Nat):Int)))],[],4,[(P7 L P0 P1 P2 v0 v1 v2 y yl),Q2,(2,(.cells [(.v (.slice none 0 0)),(.slu 3 0 (0+1) 0)] 29)),(3,(.row (cI (tI (H0 (cR L) (cH B) B.length 0) (0+1))) 2 1))]⟩) (e:=.normal) (m:=5) (ps:=[Y3 0 L.length=true,0<L.length,W7 zP0q (cR L) (0*2) 65=some (AV.agg [AV.v (Value.int IntKind.i64 (Z9 (cR L) (0*2+0))),AV.v (Value.int IntKind.i64 (Z9 (cR L) (0*2+1)))]),IsH 1 B.length (cH B),0≤Z9 (cR L) (0*2+0)∧Z9 (cR L) (0*2+0)≤Z9 (cR L) (0*2+1)∧Z9 (cR L) (0*2+1)≤1000,0≤(0:Int)∧(0:Int)≤1000,K4 IntKind.i64 ((0:Int)+1),K4 IntKind.i64 (((0:Nat):Int)+1)]) (gH 5 ([.b true]++gH 5 ([.sym,.sym]++gH 12 []))) [0,1,2,4] [(.xl (zb) (B.length) 1 (cH B)),(.ptr 0 0),(.ptr 1 0),(.ptr 2 0),(nN 1),(nN 1)] [(g5 L P0 P1 P2 v0 v1 v2 y yl),x7,(.cells [(.v (Value.slice none 0 0)),(.slu 4 0 1 0)] 29),(.row [(nI0 (pkV (Z9 (cR L) (0*2+0)) (Z9 (cR L) (0*2+1)) (cH B) B.length ((0:Int)).toNat))] 2 1)] (by kernel_rfl) (by kernel_rfl) ⟨hqtr22_1,(by omega),(K0 (by omega) 65 (Try.underlying65) rfl (inf:=(Try.prog.info? 65).getD default) (by kernel_rfl) (by kernel_rfl)),⟨rfl,B,rfl,rfl,hB⟩,(by have h9:=hL 0 (by omega);unfold X9 at h9;omega),(by constructor<;>omega),(a0R (by omega) (by omega)),(a0R (by omega) (by omega)),trivial⟩ rfl rfl (by decide) rfl ⟨T6 (Y7 (G7 B)),W5 rfl,W5 rfl,W5 rfl,O1 (show (1:Int)=(((0+1):Nat):Int) from by omega),O1 (show (1:Int)=(((0+1):Nat):Int) from by omega),trivial⟩ ⟨⟨by show 0<4;decide,Y6 (Z8 (U0 (X7 (Y4 [(v0,P0),(v1,P1),(v2,P2)]))) (Z8 (T6 (Y7 (Y0 L))) (Y9)))⟩,⟨by show 1<4;decide,Y6 (Z8 (U9 _) (Z8 (U9 _) (Y9)))⟩,⟨by show 2<4;decide,Y6 (Z8 (U9 _) (Z8 (V2 rfl) (Y9)))⟩,⟨by show 3<4;decide,W0 (E8 (show ((cI (tI (H0 (cR L) (cH B) B.length 0) (0+1))):List AV)=[(nI0 (pkV (Z9 (cR L) (0*2+0)) (Z9 (cR L) (0*2+1)) (cH B) B.length ((0:Int)).toNat))] from by (first|exact (a1T rfl (by unfold H0;rfl)).symm|exact (a1G (by unfold H0;rw [Nat.zero_add];rfl)).symm)) (Z4 _))⟩,trivial⟩) (Hd.en_on (⟨0+1,by omega,trivial⟩) (by show (n+1) - (0+1)<(n+1) - 0;omega) rfl)
 ·have ghqtr22_1:=Z5 hqtr22_1
  exfalso;omega
noncomputable def a1n:Code:=L2 b16
noncomputable def c1w:Code:=(d9 b16)
noncomputable def b8R:Code:=L2 c1w
noncomputable def b19:Code:=G5 b8R
noncomputable def a5v:Code:=L2 b19
noncomputable def a08:Code:=L2 a5v
noncomputable def b5a:Code:=a5U (d9 a5v)
noncomputable def b1I:Code:=L2 b5a
noncomputable def a41:Code:=L2 b1I
noncomputable def b4E:Code:=(d9 b1I)
noncomputable def a7s:Code:=L2 b4E
noncomputable def a8l:Code:=G5 a7s
@[reducible] def b7h(B:List Int)(L P0 P1 P2:List (Int×Int))(eb:Nat→Option Nat)(ec:Nat→Nat)(n:Nat)(v:BaseW)(v0 v1 v2 y yl zb:Value):=Hd.StepC zP0q 73 4 (fun j:{j:Nat // j≤(n+1)∧True}=>Ev.fam0 (b3z B L P0 P1 P2 n v0 v1 v2 y yl zb) (fun j=>(b2D B L P0 P1 P2 j n v0 v1 v2 y yl zb)) j.1) (fun j:{j:Nat // j≤(n+1)∧True}=>(n+1) - j.1) a41 (bw v 0 eb ec) (Hd.AfterB zP0q 73 3 a08 (bw v 0 eb ec) (Hd.StepC zP0q 73 2 (fun i:{i:Nat // i≤3∧True}=>(a1J B L P0 P1 P2 n v0 v1 v2 y yl zb) i.1) (fun i:{i:Nat // i≤3∧True}=>3 - i.1) a1n (bw v 0 eb ec) (D3 zP0q Try.f43 73 ((.agg [.slu 0 0 3 0,.slu 1 0 (n+1) 0])) [(r8 n),(J2 B L n),(I7 B P0 n),(M9 B P1 n),(F3 B P2 n)] (bw v 0 eb ec)) (⟨0,by decide,trivial⟩:{i:Nat // i≤3∧True})))
@[reducible] def b3h(B:List Int)(L P0 P1 P2:List (Int×Int))(eb:Nat→Option Nat)(ec:Nat→Nat)(n:Nat)(v:BaseW)(v0 v1 v2 y yl zb:Value):=(Hd.AfterB zP0q 73 3 a08 (bw v 0 eb ec) (Hd.StepC zP0q 73 2 (fun i:{i:Nat // i≤3∧True}=>(a1J B L P0 P1 P2 n v0 v1 v2 y yl zb) i.1) (fun i:{i:Nat // i≤3∧True}=>3 - i.1) a1n (bw v 0 eb ec) (D3 zP0q Try.f43 73 ((.agg [.slu 0 0 3 0,.slu 1 0 (n+1) 0])) [(r8 n),(J2 B L n),(I7 B P0 n),(M9 B P1 n),(F3 B P2 n)] (bw v 0 eb ec)) (⟨0,by decide,trivial⟩:{i:Nat // i≤3∧True})))
@[reducible] def z0(B:List Int)(L P0 P1 P2:List (Int×Int))(eb:Nat→Option Nat)(ec:Nat→Nat)(n:Nat)(v:BaseW)(v0 v1 v2 y yl zb:Value):=Hd.StepC zP0q 73 2 (fun i:{i:Nat // i≤3∧True}=>(a1J B L P0 P1 P2 n v0 v1 v2 y yl zb) i.1) (fun i:{i:Nat // i≤3∧True}=>3 - i.1) a1n (bw v 0 eb ec) (D3 zP0q Try.f43 73 ((.agg [.slu 0 0 3 0,.slu 1 0 (n+1) 0])) [(r8 n),(J2 B L n),(I7 B P0 n),(M9 B P1 n),(F3 B P2 n)] (bw v 0 eb ec))
theorem d09(hT:k9 L P0 P1 P2 n)(hB:M0 B)(h0b:True)(hqtr24_1:(Y3 (((n)+1:Nat):Int) L.length)=false)(hj1:0≤(n+1))(hj2:True):Y8 zP0q 73 a8l ((b3z B L P0 P1 P2 n v0 v1 v2 y yl zb)) (BaseW.H (bw v 0 eb ec) hs) (b7h B L P0 P1 P2 eb ec n v v0 v1 v2 y yl zb (⟨0,hj1,hj2⟩:{j:Nat // j≤(n+1)∧True})):=by
 have hcl_P0:=Z2 P0
 have hcl_P1:=Z2 P1
 have hcl_P2:=Z2 P2
 have hcl_L:=Z2 L
 have hcl_B:=Z3 B
 obtain ⟨hn,hn8,hp0,hp1,hp2,hL,hc0,hc1,hc2⟩:=(id hT)
 have ghqtr24_1:=Z5 hqtr24_1
 rcases zB0q (Y3 0 P0.length) with hqtr56_1|hqtr56_1
 ·have ghqtr56_1:=X3 hqtr56_1
  exact Z7 W4 (R5 zC0q (R7) 200 (T':=⟨[(Q0 B zb),(2,(.ptr 0 0)),(4,(.ptr 1 0)),(5,(.ptr 2 0)),(6,(nI0 (((n+1)+(0+1):Nat):Int))),(8,(nN 0)),(9,(.slu 4 0 (0+1) 0)),(10,(nI0 (((0+1):Nat):Int)))],[],5,[(P7 L P0 P1 P2 v0 v1 v2 y yl),Q2,(2,(a0v n)),(L6 B L n),(4,(.row (cI (tI (H0 (cR P0) (cH B) B.length (n+1)) (0+1))) 2 1))]⟩) (e:=.normal) (m:=6) (ps:=[Y3 0 P0.length=true,0<P0.length,W7 zP0q (cR P0) (0*2) 65=some (AV.agg [AV.v (Value.int IntKind.i64 (Z9 (cR P0) (0*2+0))),AV.v (Value.int IntKind.i64 (Z9 (cR P0) (0*2+1)))]),IsH 1 B.length (cH B),0≤Z9 (cR P0) (0*2+0)∧Z9 (cR P0) (0*2+0)≤Z9 (cR P0) (0*2+1)∧Z9 (cR P0) (0*2+1)≤1000,(0:Int)≤((n+1:Nat):Int)∧((n+1:Nat):Int)≤1000,K4 IntKind.i64 (((n+1:Nat):Int)+1),K4 IntKind.i64 (((0:Nat):Int)+1)]) (gH 8 ([.b true]++gH 7 ([.sym,.sym]++gH 11 []))) [0,1,2,3,5] [(.xl (zb) (B.length) 1 (cH B)),(.ptr 0 0),(.ptr 1 0),(.ptr 2 0),(nI0 (((n+1:Nat):Int)+1)),(nN 0),(.slu 5 0 1 0),(nN 1)] [(g5 L P0 P1 P2 v0 v1 v2 y yl),x7,(a0v n),(J2 B L n),(.row [(nI0 (pkV (Z9 (cR P0) (0*2+0)) (Z9 (cR P0) (0*2+1)) (cH B) B.length (((n+1:Nat):Int)).toNat))] 2 1)] (by kernel_rfl) (by kernel_rfl) ⟨hqtr56_1,(by omega),(K0 (by omega) 65 (Try.underlying65) rfl (inf:=(Try.prog.info? 65).getD default) (by kernel_rfl) (by kernel_rfl)),⟨rfl,B,rfl,rfl,hB⟩,(by have h9:=hc0 0 (by omega);unfold X9 at h9;omega),(by omega),(a0R (by omega) (by omega)),(a0R (by omega) (by omega)),trivial⟩ rfl rfl (by decide) rfl ⟨T6 (Y7 (G7 B)),W5 rfl,W5 rfl,W5 rfl,O1 (show ((((n+1:Nat):Int)+1):Int)=(((n+1)+(0+1):Nat):Int) from by omega),U9 _,V2 rfl,O1 (show (1:Int)=(((0+1):Nat):Int) from by omega),trivial⟩ ⟨⟨by show 0<5;decide,Y6 (Z8 (U0 (X7 (Y4 [(v0,P0),(v1,P1),(v2,P2)]))) (Z8 (T6 (Y7 (Y0 L))) (Y9)))⟩,⟨by show 1<5;decide,Y6 (Z8 (U9 _) (Z8 (U9 _) (Y9)))⟩,⟨by show 2<5;decide,Y6 (Z8 (U9 _) (Z8 (V2 rfl) (Y9)))⟩,⟨by show 3<5;decide,W0 (Y7 (Z4 _))⟩,⟨by show 4<5;decide,W0 (E8 (show ((cI (tI (H0 (cR P0) (cH B) B.length (n+1)) (0+1))):List AV)=[(nI0 (pkV (Z9 (cR P0) (0*2+0)) (Z9 (cR P0) (0*2+1)) (cH B) B.length (((n+1:Nat):Int)).toNat))] from by (first|exact (a1T rfl (by unfold H0;rfl)).symm|exact (a1G (by unfold H0;rfl)).symm)) (Z4 _))⟩,trivial⟩) (Hd.en_on (⟨0+1,by omega,trivial⟩) (by show (n+1) - (0+1)<(n+1) - 0;omega) rfl)
 ·have ghqtr56_1:=Z5 hqtr56_1
  exfalso;omega
theorem c82(hT:k9 L P0 P1 P2 n)(hB:M0 B)(h0b:True)(hqtr24_1:(Y3 (((n)+1:Nat):Int) L.length)=false)(h4b:True)(hqtr58_1:(Y3 (((n)+1:Nat):Int) P0.length)=false):Y8 zP0q 73 a08 ((b73 B L P0 P1 P2 n v0 v1 v2 y yl zb)) (BaseW.H (bw v 0 eb ec) hs) (z0 B L P0 P1 P2 eb ec n v v0 v1 v2 y yl zb (⟨0,by decide,trivial⟩:{i:Nat // i≤3∧True})):=by
 have hcl_P0:=Z2 P0
 have hcl_P1:=Z2 P1
 have hcl_P2:=Z2 P2
 have hcl_L:=Z2 L
 have hcl_B:=Z3 B
 obtain ⟨hn,hn8,hp0,hp1,hp2,hL,hc0,hc1,hc2⟩:=(id hT)
 have ghqtr24_1:=Z5 hqtr24_1
 have ghqtr58_1:=Z5 hqtr58_1
 exact Z7 W4 (R5 zC0q (R7) 200 (T':=(b3O B L P0 P1 P2 n v0 v1 v2 y yl zb)) (e:=.normal) (m:=7) (ps:=[K4 IntKind.i64 ((0:Int)+1)]) [.go,.go,.go] [0,1,2,3,6,4] [(.xl (zb) (B.length) 1 (cH B)),(.ptr 0 0),(.ptr 1 0),(.ptr 2 0),(nI0 (((n+1+(n+1):Nat):Int))),(nN 1)] [(g5 L P0 P1 P2 v0 v1 v2 y yl),x7,(.cells [(.slu 6 0 1 0),(.slu 3 0 (n+1) 0)] 29),(J2 B L n),(.row [(.slu 4 0 (n+1) 0)] 27 1),(I7 B P0 n)] (by kernel_rfl) (by kernel_rfl) ⟨(a0R (by omega) (by omega)),trivial⟩ rfl rfl (by decide) rfl ⟨T6 (Y7 (G7 B)),W5 rfl,W5 rfl,W5 rfl,O1 (show ((((n+1+(n+1):Nat):Int)):Int)=(((2*(n+1)):Nat):Int) from by omega),O1 (show (1:Int)=((1:Nat):Int) from by omega),trivial⟩ ⟨⟨by show 0<6;decide,Y6 (Z8 (U0 (X7 (Y4 [(v0,P0),(v1,P1),(v2,P2)]))) (Z8 (T6 (Y7 (Y0 L))) (Y9)))⟩,⟨by show 1<6;decide,Y6 (Z8 (U9 _) (Z8 (U9 _) (Y9)))⟩,⟨by show 2<6;decide,Y6 (Z8 (V2 rfl) (Z8 (V2 rfl) (Y9)))⟩,⟨by show 3<6;decide,W0 (Y7 (Z4 _))⟩,⟨by show 4<6;decide,W0 (Z8 (V2 rfl) (Y9))⟩,⟨by show 5<6;decide,W0 (Y7 (Z4 _))⟩,trivial⟩) (Hd.en_on ⟨0+1,by decide,trivial⟩ (by show 3 - (0+1)<3 - 0;decide) rfl)
theorem c85(hT:k9 L P0 P1 P2 n)(hB:M0 B)(h0b:True)(hqtr24_1:(Y3 (((n)+1:Nat):Int) L.length)=false)(h4b:True)(hqtr58_1:(Y3 (((n)+1:Nat):Int) P0.length)=false):Y8 zP0q 73 a41 ((b9y B L P0 P1 P2 n v0 v1 v2 y yl zb)) (BaseW.H (bw v 0 eb ec) hs) (b3h B L P0 P1 P2 eb ec n v v0 v1 v2 y yl zb):=by
 exact Z7 W4 (Z6 zC0q (R7) 200 (T':=(b73 B L P0 P1 P2 n v0 v1 v2 y yl zb)) (e:=.normal) (ps:=[]) (gH 7 []) (by kernel_rfl) (by kernel_rfl) trivial rfl) (Hd.en_bn (c82 hT hB h0b hqtr24_1 h4b hqtr58_1))
theorem c8O(hT:k9 L P0 P1 P2 n)(hB:M0 B)(h0b:True)(hqtr24_1:(Y3 (((n)+1:Nat):Int) L.length)=false)(hj1:(j+1)≤(n+1))(hj2:True):Y8 zP0q 73 a8l ((b2D B L P0 P1 P2 j n v0 v1 v2 y yl zb)) (BaseW.H (bw v 0 eb ec) hs) (b7h B L P0 P1 P2 eb ec n v v0 v1 v2 y yl zb (⟨(j+1),hj1,hj2⟩:{j:Nat // j≤(n+1)∧True})):=by
 have hcl_P0:=Z2 P0
 have hcl_P1:=Z2 P1
 have hcl_P2:=Z2 P2
 have hcl_L:=Z2 L
 have hcl_B:=Z3 B
 obtain ⟨hn,hn8,hp0,hp1,hp2,hL,hc0,hc1,hc2⟩:=(id hT)
 have ghqtr24_1:=Z5 hqtr24_1
 rcases zB0q (Y3 ((j+1:Nat):Int) P0.length) with hqtr58_1|hqtr58_1
 ·have ghqtr58_1:=X3 hqtr58_1
  exact Z7 W4 (R5 zC0q (R7) 200 (T':=⟨[(Q0 B zb),(2,(.ptr 0 0)),(4,(.ptr 1 0)),(5,(.ptr 2 0)),(6,(nI0 (((n+1)+((j+1)+1):Nat):Int))),(8,(nN 0)),(9,(.slu 4 0 ((j+1)+1) 0)),(10,(nI0 ((((j+1)+1):Nat):Int)))],[],5,[(P7 L P0 P1 P2 v0 v1 v2 y yl),Q2,(2,(a0v n)),(L6 B L n),(4,(.row (cI (tI (H0 (cR P0) (cH B) B.length (n+1)) ((j+1)+1))) 2 1))]⟩) (e:=.normal) (m:=7) (ps:=[Y3 ((j+1:Nat):Int) P0.length=true,j+1<P0.length,W7 zP0q (cR P0) ((j+1)*2) 65=some (AV.agg [AV.v (Value.int IntKind.i64 (Z9 (cR P0) ((j+1)*2+0))),AV.v (Value.int IntKind.i64 (Z9 (cR P0) ((j+1)*2+1)))]),IsH 1 B.length (cH B),0≤Z9 (cR P0) ((j+1)*2+0)∧Z9 (cR P0) ((j+1)*2+0)≤Z9 (cR P0) ((j+1)*2+1)∧Z9 (cR P0) ((j+1)*2+1)≤1000,(0:Int)≤((n+1+(j+1):Nat):Int)∧((n+1+(j+1):Nat):Int)≤1000,((cI (tI (H0 (cR P0) (cH B) B.length (n+1)) (j+1))):List AV).length=(j+1)*1,j+1+1≤1000000,K4 IntKind.i64 (((n+1+(j+1):Nat):Int)+1),K4 IntKind.i64 (((j+1:Nat):Int)+1)]) (gH 8 ([.b true]++gH 7 ([.sym,.sym,.go,.go,.go,.sym]++gH 7 []))) [0,1,2,3,6] [(.xl (zb) (B.length) 1 (cH B)),(.ptr 0 0),(.ptr 1 0),(.ptr 2 0),(nI0 (((n+1+(j+1):Nat):Int)+1)),(nN 0),(.slu 6 0 (j+1+1) 0),(nI0 (((j+1:Nat):Int)+1))] [(g5 L P0 P1 P2 v0 v1 v2 y yl),x7,(a0v n),(J2 B L n),(.row ((cI (tI (H0 (cR P0) (cH B) B.length (n+1)) (j+1)))++[(nI0 (pkV (Z9 (cR P0) ((j+1)*2+0)) (Z9 (cR P0) ((j+1)*2+1)) (cH B) B.length (((n+1+(j+1):Nat):Int)).toNat))]) 2 1)] (by kernel_rfl) (by kernel_rfl) ⟨hqtr58_1,(by omega),(K0 (by omega) 65 (Try.underlying65) rfl (inf:=(Try.prog.info? 65).getD default) (by kernel_rfl) (by kernel_rfl)),⟨rfl,B,rfl,rfl,hB⟩,(by have h9:=hc0 (j+1) (by omega);unfold X9 at h9;omega),(by omega),(by show (cI _).length=_;rw [Z3,Z1];omega),(by omega),(a0R (by omega) (by omega)),(a0R (by omega) (by omega)),trivial⟩ rfl rfl (by decide) rfl ⟨T6 (Y7 (G7 B)),W5 rfl,W5 rfl,W5 rfl,O1 (show ((((n+1+(j+1):Nat):Int)+1):Int)=(((n+1)+((j+1)+1):Nat):Int) from by omega),U9 _,V2 rfl,O1 (show ((((j+1:Nat):Int)+1):Int)=((((j+1)+1):Nat):Int) from by omega),trivial⟩ ⟨⟨by show 0<5;decide,Y6 (Z8 (U0 (X7 (Y4 [(v0,P0),(v1,P1),(v2,P2)]))) (Z8 (T6 (Y7 (Y0 L))) (Y9)))⟩,⟨by show 1<5;decide,Y6 (Z8 (U9 _) (Z8 (U9 _) (Y9)))⟩,⟨by show 2<5;decide,Y6 (Z8 (U9 _) (Z8 (V2 rfl) (Y9)))⟩,⟨by show 3<5;decide,W0 (Y7 (Z4 _))⟩,⟨by show 4<5;decide,W0 (E8 (show ((cI (tI (H0 (cR P0) (cH B) B.length (n+1)) ((j+1)+1))):List AV)=((cI (tI (H0 (cR P0) (cH B) B.length (n+1)) (j+1)))++[(nI0 (pkV (Z9 (cR P0) ((j+1)*2+0)) (Z9 (cR P0) ((j+1)*2+1)) (cH B) B.length (((n+1+(j+1):Nat):Int)).toNat))]) from by (first|exact (a1T rfl (by unfold H0;rfl)).symm|exact (a1G (by unfold H0;rfl)).symm)) (Z4 _))⟩,trivial⟩) (Hd.en_on (⟨(j+1)+1,by omega,trivial⟩) (by show (n+1) - ((j+1)+1)<(n+1) - (j+1);omega) rfl)
 ·have ghqtr58_1:=Z5 hqtr58_1
  obtain rfl:n=j:=by omega
  exact Z7 A5 (Z6 zC0q (R7) 200 (T':=(b9y B L P0 P1 P2 n v0 v1 v2 y yl zb)) (e:=.exit 4) (ps:=[Y3 (((n)+1:Nat):Int) P0.length=false]) (gH 8 [.b false]) (by kernel_rfl) (by kernel_rfl) ⟨hqtr58_1,trivial⟩ rfl) (Hd.en_sx (c85 hT hB h0b hqtr24_1 hj2 hqtr58_1))
@[reducible] def b33(B:List Int)(L P0 P1 P2:List (Int×Int))(eb:Nat→Option Nat)(ec:Nat→Nat)(n:Nat)(v:BaseW)(v0 v1 v2 y yl zb:Value):=(Hd.AfterN zP0q 73 a41 (bw v 0 eb ec) (Hd.AfterB zP0q 73 3 a08 (bw v 0 eb ec) (Hd.StepC zP0q 73 2 (fun i:{i:Nat // i≤3∧True}=>(a1J B L P0 P1 P2 n v0 v1 v2 y yl zb) i.1) (fun i:{i:Nat // i≤3∧True}=>3 - i.1) a1n (bw v 0 eb ec) (D3 zP0q Try.f43 73 ((.agg [.slu 0 0 3 0,.slu 1 0 (n+1) 0])) [(r8 n),(J2 B L n),(I7 B P0 n),(M9 B P1 n),(F3 B P2 n)] (bw v 0 eb ec)) (⟨0,by decide,trivial⟩:{i:Nat // i≤3∧True}))))
theorem c8d(hT:k9 L P0 P1 P2 n)(hB:M0 B)(h0b:True)(hqtr24_1:(Y3 (((n)+1:Nat):Int) L.length)=false):Y8 zP0q 73 a7s ((b2h B L P0 P1 P2 n v0 v1 v2 y yl zb)) (BaseW.H (bw v 0 eb ec) hs) (b33 B L P0 P1 P2 eb ec n v v0 v1 v2 y yl zb):=by
 exact Hd.goes_loopA (id:=4) (by kernel_rfl) (by kernel_rfl) (fun j:{j:Nat // j≤(n+1)∧True}=>Ev.fam0 (b3z B L P0 P1 P2 n v0 v1 v2 y yl zb) (fun j=>(b2D B L P0 P1 P2 j n v0 v1 v2 y yl zb)) j.1) (fun j:{j:Nat // j≤(n+1)∧True}=>(n+1) - j.1) (fun i hs=>match i with|⟨0,h1,h2⟩=>d09 hT hB h0b hqtr24_1 h1 h2|⟨j+1,h1,h2⟩=>c8O hT hB h0b hqtr24_1 h1 h2) ⟨0,Nat.zero_le _,trivial⟩ hs
theorem c8w(hT:k9 L P0 P1 P2 n)(hB:M0 B)(h0b:True)(hqtr24_1:(Y3 (((n)+1:Nat):Int) L.length)=false):Y8 zP0q 73 a7s ((b2h B L P0 P1 P2 n v0 v1 v2 y yl zb)) (BaseW.H (bw v 0 eb ec) hs) (b33 B L P0 P1 P2 eb ec n v v0 v1 v2 y yl zb):=by
 exact c8d hT hB h0b hqtr24_1
theorem c7C(hT:k9 L P0 P1 P2 n)(hB:M0 B)(h0b:True)(hqtr24_1:(Y3 (((n)+1:Nat):Int) L.length)=false):Y8 zP0q 73 b4E ((b2t B L P0 P1 P2 n v0 v1 v2 y yl zb)) (BaseW.H (bw v 0 eb ec) hs) (b33 B L P0 P1 P2 eb ec n v v0 v1 v2 y yl zb):=by
 refine Hd.goes_seqA (by kernel_rfl) ?_
 exact Z7 W4 (Z6 zC0q (R7) 200 (T':=(b2h B L P0 P1 P2 n v0 v1 v2 y yl zb)) (e:=.normal) (ps:=[]) [.go] (by kernel_rfl) (by kernel_rfl) trivial rfl) (Hd.en_n (c8w hT hB h0b hqtr24_1))
theorem c9b(hT:k9 L P0 P1 P2 n)(hB:M0 B)(h0b:True)(hqtr24_1:(Y3 (((n)+1:Nat):Int) L.length)=false):Y8 zP0q 73 b1I ((b2t B L P0 P1 P2 n v0 v1 v2 y yl zb)) (BaseW.H (bw v 0 eb ec) hs) (b3h B L P0 P1 P2 eb ec n v v0 v1 v2 y yl zb):=by
 exact Hd.goes_seqA (by kernel_rfl) (c7C hT hB h0b hqtr24_1)
theorem c7k(hT:k9 L P0 P1 P2 n)(hB:M0 B)(h0b:True)(hqtr24_1:(Y3 (((n)+1:Nat):Int) L.length)=false):Y8 zP0q 73 b5a ((a3p B L P0 P1 P2 n v0 v1 v2 y yl zb)) (BaseW.H (bw v 0 eb ec) hs) (b3h B L P0 P1 P2 eb ec n v v0 v1 v2 y yl zb):=by
 refine Hd.goes_seqA (by kernel_rfl) ?_
 exact Z7 W4 (Z6 zC0q (R7) 200 (T':=(b2t B L P0 P1 P2 n v0 v1 v2 y yl zb)) (e:=.normal) (ps:=[]) [.go] (by kernel_rfl) (by kernel_rfl) trivial rfl) (Hd.en_n (c9b hT hB h0b hqtr24_1))
theorem c9c(hT:k9 L P0 P1 P2 n)(hB:M0 B)(h0b:True)(hqtr24_1:(Y3 (((n)+1:Nat):Int) L.length)=false):Y8 zP0q 73 (d9 a5v) ((a3p B L P0 P1 P2 n v0 v1 v2 y yl zb)) (BaseW.H (bw v 0 eb ec) hs) (Hd.AfterN zP0q 73 a08 (bw v 0 eb ec) (z0 B L P0 P1 P2 eb ec n v v0 v1 v2 y yl zb (⟨0,by decide,trivial⟩:{i:Nat // i≤3∧True}))):=by
 exact Hd.goes_blkA (id:=3) (by kernel_rfl) (by kernel_rfl) (c7k hT hB h0b hqtr24_1)
theorem c9h(hT:k9 L P0 P1 P2 n)(hB:M0 B)(h0b:True)(hqtr24_1:(Y3 (((n)+1:Nat):Int) L.length)=false):Y8 zP0q 73 a5v ((a3p B L P0 P1 P2 n v0 v1 v2 y yl zb)) (BaseW.H (bw v 0 eb ec) hs) (z0 B L P0 P1 P2 eb ec n v v0 v1 v2 y yl zb (⟨0,by decide,trivial⟩:{i:Nat // i≤3∧True})):=by
 exact Hd.goes_seqA (by kernel_rfl) (c9c hT hB h0b hqtr24_1)
theorem c6A(hT:k9 L P0 P1 P2 n)(hB:M0 B)(h0b:True)(hqtr24_1:(Y3 (((n)+1:Nat):Int) L.length)=false):Y8 zP0q 73 b19 ((b86 B L P0 P1 P2 n v0 v1 v2 y yl zb)) (BaseW.H (bw v 0 eb ec) hs) (z0 B L P0 P1 P2 eb ec n v v0 v1 v2 y yl zb (⟨0,by decide,trivial⟩:{i:Nat // i≤3∧True})):=by
 refine Hd.goes_seqA (by kernel_rfl) ?_
 exact Z7 W4 (Z6 zC0q (R7) 200 (T':=(a3p B L P0 P1 P2 n v0 v1 v2 y yl zb)) (e:=.normal) (ps:=[Y3 0 3=true]) (gH 5 [.b true]) (by kernel_rfl) (by kernel_rfl) ⟨rfl,trivial⟩ rfl) (Hd.en_n (c9h hT hB h0b hqtr24_1))
@[reducible] def b8O(B:List Int)(L P0 P1 P2:List (Int×Int))(eb:Nat→Option Nat)(ec:Nat→Nat)(n:Nat)(v:BaseW)(v0 v1 v2 y yl zb:Value):=Hd.StepC zP0q 73 4 (fun j:{j:Nat // j≤(n+1)∧True}=>Ev.fam0 (b34 B L P0 P1 P2 n v0 v1 v2 y yl zb) (fun j=>(b9S B L P0 P1 P2 j n v0 v1 v2 y yl zb)) j.1) (fun j:{j:Nat // j≤(n+1)∧True}=>(n+1) - j.1) a41 (bw v 0 eb ec) (Hd.AfterB zP0q 73 3 a08 (bw v 0 eb ec) (Hd.StepC zP0q 73 2 (fun i:{i:Nat // i≤3∧True}=>(a1J B L P0 P1 P2 n v0 v1 v2 y yl zb) i.1) (fun i:{i:Nat // i≤3∧True}=>3 - i.1) a1n (bw v 0 eb ec) (D3 zP0q Try.f43 73 ((.agg [.slu 0 0 3 0,.slu 1 0 (n+1) 0])) [(r8 n),(J2 B L n),(I7 B P0 n),(M9 B P1 n),(F3 B P2 n)] (bw v 0 eb ec)) (⟨1,by decide,trivial⟩:{i:Nat // i≤3∧True})))
@[reducible] def b3w(B:List Int)(L P0 P1 P2:List (Int×Int))(eb:Nat→Option Nat)(ec:Nat→Nat)(n:Nat)(v:BaseW)(v0 v1 v2 y yl zb:Value):=(Hd.AfterB zP0q 73 3 a08 (bw v 0 eb ec) (Hd.StepC zP0q 73 2 (fun i:{i:Nat // i≤3∧True}=>(a1J B L P0 P1 P2 n v0 v1 v2 y yl zb) i.1) (fun i:{i:Nat // i≤3∧True}=>3 - i.1) a1n (bw v 0 eb ec) (D3 zP0q Try.f43 73 ((.agg [.slu 0 0 3 0,.slu 1 0 (n+1) 0])) [(r8 n),(J2 B L n),(I7 B P0 n),(M9 B P1 n),(F3 B P2 n)] (bw v 0 eb ec)) (⟨1,by decide,trivial⟩:{i:Nat // i≤3∧True})))
theorem c8G(hT:k9 L P0 P1 P2 n)(hB:M0 B)(h0b:True)(hqtr24_1:(Y3 (((n)+1:Nat):Int) L.length)=false)(hj1:0≤(n+1))(hj2:True):Y8 zP0q 73 a8l ((b34 B L P0 P1 P2 n v0 v1 v2 y yl zb)) (BaseW.H (bw v 0 eb ec) hs) (b8O B L P0 P1 P2 eb ec n v v0 v1 v2 y yl zb (⟨0,hj1,hj2⟩:{j:Nat // j≤(n+1)∧True})):=by
 have hcl_P0:=Z2 P0
 have hcl_P1:=Z2 P1
 have hcl_P2:=Z2 P2
 have hcl_L:=Z2 L
 have hcl_B:=Z3 B
 obtain ⟨hn,hn8,hp0,hp1,hp2,hL,hc0,hc1,hc2⟩:=(id hT)
 have ghqtr24_1:=Z5 hqtr24_1
 rcases zB0q (Y3 0 P1.length) with hqtr76_1|hqtr76_1
 ·have ghqtr76_1:=X3 hqtr76_1
  exact Z7 W4 (R5 zC0q (R7) 200 (T':=⟨[(Q0 B zb),(2,(.ptr 0 0)),(4,(.ptr 1 0)),(5,(.ptr 2 0)),(6,(nI0 (((2*(n+1))+(0+1):Nat):Int))),(8,(nN 1)),(9,(.slu 6 0 (0+1) 0)),(10,(nI0 (((0+1):Nat):Int)))],[],7,[(P7 L P0 P1 P2 v0 v1 v2 y yl),Q2,(2,(a0a n)),(L6 B L n),(4,(.row [(.slu 5 0 (n+1) 0)] 27 1)),(G1 B P0 n),(6,(.row (cI (tI (H0 (cR P1) (cH B) B.length (2*(n+1))) (0+1))) 2 1))]⟩) (e:=.normal) (m:=8) (ps:=[Y3 0 P1.length=true,0<P1.length,W7 zP0q (cR P1) (0*2) 65=some (AV.agg [AV.v (Value.int IntKind.i64 (Z9 (cR P1) (0*2+0))),AV.v (Value.int IntKind.i64 (Z9 (cR P1) (0*2+1)))]),IsH 1 B.length (cH B),0≤Z9 (cR P1) (0*2+0)∧Z9 (cR P1) (0*2+0)≤Z9 (cR P1) (0*2+1)∧Z9 (cR P1) (0*2+1)≤1000,(0:Int)≤((2*(n+1):Nat):Int)∧((2*(n+1):Nat):Int)≤1000,K4 IntKind.i64 (((2*(n+1):Nat):Int)+1),K4 IntKind.i64 (((0:Nat):Int)+1)]) (gH 8 ([.b true]++gH 7 ([.sym,.sym]++gH 11 []))) [0,1,2,3,4,5,7] [(.xl (zb) (B.length) 1 (cH B)),(.ptr 0 0),(.ptr 1 0),(.ptr 2 0),(nI0 (((2*(n+1):Nat):Int)+1)),(nN 1),(.slu 7 0 1 0),(nN 1)] [(g5 L P0 P1 P2 v0 v1 v2 y yl),x7,(a0a n),(J2 B L n),(.row [(.slu 5 0 (n+1) 0)] 27 1),(I7 B P0 n),(.row [(nI0 (pkV (Z9 (cR P1) (0*2+0)) (Z9 (cR P1) (0*2+1)) (cH B) B.length (((2*(n+1):Nat):Int)).toNat))] 2 1)] (by kernel_rfl) (by kernel_rfl) ⟨hqtr76_1,(by omega),(K0 (by omega) 65 (Try.underlying65) rfl (inf:=(Try.prog.info? 65).getD default) (by kernel_rfl) (by kernel_rfl)),⟨rfl,B,rfl,rfl,hB⟩,(by have h9:=hc1 0 (by omega);unfold X9 at h9;omega),(by omega),(a0R (by omega) (by omega)),(a0R (by omega) (by omega)),trivial⟩ rfl rfl (by decide) rfl ⟨T6 (Y7 (G7 B)),W5 rfl,W5 rfl,W5 rfl,O1 (show ((((2*(n+1):Nat):Int)+1):Int)=(((2*(n+1))+(0+1):Nat):Int) from by omega),U9 _,V2 rfl,O1 (show (1:Int)=(((0+1):Nat):Int) from by omega),trivial⟩ ⟨⟨by show 0<7;decide,Y6 (Z8 (U0 (X7 (Y4 [(v0,P0),(v1,P1),(v2,P2)]))) (Z8 (T6 (Y7 (Y0 L))) (Y9)))⟩,⟨by show 1<7;decide,Y6 (Z8 (U9 _) (Z8 (U9 _) (Y9)))⟩,⟨by show 2<7;decide,Y6 (Z8 (V2 rfl) (Z8 (V2 rfl) (Y9)))⟩,⟨by show 3<7;decide,W0 (Y7 (Z4 _))⟩,⟨by show 4<7;decide,W0 (Z8 (V2 rfl) (Y9))⟩,⟨by show 5<7;decide,W0 (Y7 (Z4 _))⟩,⟨by show 6<7;decide,W0 (E8 (show ((cI (tI (H0 (cR P1) (cH B) B.length (2*(n+1))) (0+1))):List AV)=[(nI0 (pkV (Z9 (cR P1) (0*2+0)) (Z9 (cR P1) (0*2+1)) (cH B) B.length (((2*(n+1):Nat):Int)).toNat))] from by (first|exact (a1T rfl (by unfold H0;rfl)).symm|exact (a1G (by unfold H0;rfl)).symm)) (Z4 _))⟩,trivial⟩) (Hd.en_on (⟨0+1,by omega,trivial⟩) (by show (n+1) - (0+1)<(n+1) - 0;omega) rfl)
 ·have ghqtr76_1:=Z5 hqtr76_1
  exfalso;omega
theorem c8I(hT:k9 L P0 P1 P2 n)(hB:M0 B)(h0b:True)(hqtr24_1:(Y3 (((n)+1:Nat):Int) L.length)=false)(h4b:True)(hqtr78_1:(Y3 (((n)+1:Nat):Int) P1.length)=false):Y8 zP0q 73 a08 ((b81 B L P0 P1 P2 n v0 v1 v2 y yl zb)) (BaseW.H (bw v 0 eb ec) hs) (z0 B L P0 P1 P2 eb ec n v v0 v1 v2 y yl zb (⟨1,by decide,trivial⟩:{i:Nat // i≤3∧True})):=by
 have hcl_P0:=Z2 P0
 have hcl_P1:=Z2 P1
 have hcl_P2:=Z2 P2
 have hcl_L:=Z2 L
 have hcl_B:=Z3 B
 obtain ⟨hn,hn8,hp0,hp1,hp2,hL,hc0,hc1,hc2⟩:=(id hT)
 have ghqtr24_1:=Z5 hqtr24_1
 have ghqtr78_1:=Z5 hqtr78_1
 exact Z7 W4 (R5 zC0q (R7) 200 (T':=(b2R B L P0 P1 P2 n v0 v1 v2 y yl zb)) (e:=.normal) (m:=9) (ps:=[K4 IntKind.i64 ((1:Int)+1)]) [.go,.go,.go] [0,1,2,3,8,5,6] [(.xl (zb) (B.length) 1 (cH B)),(.ptr 0 0),(.ptr 1 0),(.ptr 2 0),(nI0 (((2*(n+1)+(n+1):Nat):Int))),(nN 2)] [(g5 L P0 P1 P2 v0 v1 v2 y yl),x7,(.cells [(.slu 8 0 2 0),(.slu 3 0 (n+1) 0)] 29),(J2 B L n),(n5 n),(I7 B P0 n),(M9 B P1 n)] (by kernel_rfl) (by kernel_rfl) ⟨(a0R (by omega) (by omega)),trivial⟩ rfl rfl (by decide) rfl ⟨T6 (Y7 (G7 B)),W5 rfl,W5 rfl,W5 rfl,O1 (show ((((2*(n+1)+(n+1):Nat):Int)):Int)=(((3*(n+1)):Nat):Int) from by omega),O1 (show (2:Int)=((2:Nat):Int) from by omega),trivial⟩ ⟨⟨by show 0<7;decide,Y6 (Z8 (U0 (X7 (Y4 [(v0,P0),(v1,P1),(v2,P2)]))) (Z8 (T6 (Y7 (Y0 L))) (Y9)))⟩,⟨by show 1<7;decide,Y6 (Z8 (U9 _) (Z8 (U9 _) (Y9)))⟩,⟨by show 2<7;decide,Y6 (Z8 (V2 rfl) (Z8 (V2 rfl) (Y9)))⟩,⟨by show 3<7;decide,W0 (Y7 (Z4 _))⟩,⟨by show 4<7;decide,W0 (Z8 (V2 rfl) (Z8 (V2 rfl) (Y9)))⟩,⟨by show 5<7;decide,W0 (Y7 (Z4 _))⟩,⟨by show 6<7;decide,W0 (Y7 (Z4 _))⟩,trivial⟩) (Hd.en_on ⟨1+1,by decide,trivial⟩ (by show 3 - (1+1)<3 - 1;decide) rfl)
theorem c8a(hT:k9 L P0 P1 P2 n)(hB:M0 B)(h0b:True)(hqtr24_1:(Y3 (((n)+1:Nat):Int) L.length)=false)(h4b:True)(hqtr78_1:(Y3 (((n)+1:Nat):Int) P1.length)=false):Y8 zP0q 73 a41 ((b8D B L P0 P1 P2 n v0 v1 v2 y yl zb)) (BaseW.H (bw v 0 eb ec) hs) (b3w B L P0 P1 P2 eb ec n v v0 v1 v2 y yl zb):=by
 exact Z7 W4 (Z6 zC0q (R7) 200 (T':=(b81 B L P0 P1 P2 n v0 v1 v2 y yl zb)) (e:=.normal) (ps:=[]) (gH 7 []) (by kernel_rfl) (by kernel_rfl) trivial rfl) (Hd.en_bn (c8I hT hB h0b hqtr24_1 h4b hqtr78_1))
theorem c9i(hT:k9 L P0 P1 P2 n)(hB:M0 B)(h0b:True)(hqtr24_1:(Y3 (((n)+1:Nat):Int) L.length)=false)(hj1:(j+1)≤(n+1))(hj2:True):Y8 zP0q 73 a8l ((b9S B L P0 P1 P2 j n v0 v1 v2 y yl zb)) (BaseW.H (bw v 0 eb ec) hs) (b8O B L P0 P1 P2 eb ec n v v0 v1 v2 y yl zb (⟨(j+1),hj1,hj2⟩:{j:Nat // j≤(n+1)∧True})):=by
 have hcl_P0:=Z2 P0
 have hcl_P1:=Z2 P1
 have hcl_P2:=Z2 P2
 have hcl_L:=Z2 L
 have hcl_B:=Z3 B
 obtain ⟨hn,hn8,hp0,hp1,hp2,hL,hc0,hc1,hc2⟩:=(id hT)
 have ghqtr24_1:=Z5 hqtr24_1
 rcases zB0q (Y3 ((j+1:Nat):Int) P1.length) with hqtr78_1|hqtr78_1
 ·have ghqtr78_1:=X3 hqtr78_1
  exact Z7 W4 (R5 zC0q (R7) 200 (T':=⟨[(Q0 B zb),(2,(.ptr 0 0)),(4,(.ptr 1 0)),(5,(.ptr 2 0)),(6,(nI0 (((2*(n+1))+((j+1)+1):Nat):Int))),(8,(nN 1)),(9,(.slu 6 0 ((j+1)+1) 0)),(10,(nI0 ((((j+1)+1):Nat):Int)))],[],7,[(P7 L P0 P1 P2 v0 v1 v2 y yl),Q2,(2,(a0a n)),(L6 B L n),(4,(.row [(.slu 5 0 (n+1) 0)] 27 1)),(G1 B P0 n),(6,(.row (cI (tI (H0 (cR P1) (cH B) B.length (2*(n+1))) ((j+1)+1))) 2 1))]⟩) (e:=.normal) (m:=9) (ps:=[Y3 ((j+1:Nat):Int) P1.length=true,j+1<P1.length,W7 zP0q (cR P1) ((j+1)*2) 65=some (AV.agg [AV.v (Value.int IntKind.i64 (Z9 (cR P1) ((j+1)*2+0))),AV.v (Value.int IntKind.i64 (Z9 (cR P1) ((j+1)*2+1)))]),IsH 1 B.length (cH B),0≤Z9 (cR P1) ((j+1)*2+0)∧Z9 (cR P1) ((j+1)*2+0)≤Z9 (cR P1) ((j+1)*2+1)∧Z9 (cR P1) ((j+1)*2+1)≤1000,(0:Int)≤((2*(n+1)+(j+1):Nat):Int)∧((2*(n+1)+(j+1):Nat):Int)≤1000,((cI (tI (H0 (cR P1) (cH B) B.length (2*(n+1))) (j+1))):List AV).length=(j+1)*1,j+1+1≤1000000,K4 IntKind.i64 (((2*(n+1)+(j+1):Nat):Int)+1),K4 IntKind.i64 (((j+1:Nat):Int)+1)]) (gH 8 ([.b true]++gH 7 ([.sym,.sym,.go,.go,.go,.sym]++gH 7 []))) [0,1,2,3,4,5,8] [(.xl (zb) (B.length) 1 (cH B)),(.ptr 0 0),(.ptr 1 0),(.ptr 2 0),(nI0 (((2*(n+1)+(j+1):Nat):Int)+1)),(nN 1),(.slu 8 0 (j+1+1) 0),(nI0 (((j+1:Nat):Int)+1))] [(g5 L P0 P1 P2 v0 v1 v2 y yl),x7,(a0a n),(J2 B L n),(.row [(.slu 5 0 (n+1) 0)] 27 1),(I7 B P0 n),(.row ((cI (tI (H0 (cR P1) (cH B) B.length (2*(n+1))) (j+1)))++[(nI0 (pkV (Z9 (cR P1) ((j+1)*2+0)) (Z9 (cR P1) ((j+1)*2+1)) (cH B) B.length (((2*(n+1)+(j+1):Nat):Int)).toNat))]) 2 1)] (by kernel_rfl) (by kernel_rfl) ⟨hqtr78_1,(by omega),(K0 (by omega) 65 (Try.underlying65) rfl (inf:=(Try.prog.info? 65).getD default) (by kernel_rfl) (by kernel_rfl)),⟨rfl,B,rfl,rfl,hB⟩,(by have h9:=hc1 (j+1) (by omega);unfold X9 at h9;omega),(by omega),(by show (cI _).length=_;rw [Z3,Z1];omega),(by omega),(a0R (by omega) (by omega)),(a0R (by omega) (by omega)),trivial⟩ rfl rfl (by decide) rfl ⟨T6 (Y7 (G7 B)),W5 rfl,W5 rfl,W5 rfl,O1 (show ((((2*(n+1)+(j+1):Nat):Int)+1):Int)=(((2*(n+1))+((j+1)+1):Nat):Int) from by omega),U9 _,V2 rfl,O1 (show ((((j+1:Nat):Int)+1):Int)=((((j+1)+1):Nat):Int) from by omega),trivial⟩ ⟨⟨by show 0<7;decide,Y6 (Z8 (U0 (X7 (Y4 [(v0,P0),(v1,P1),(v2,P2)]))) (Z8 (T6 (Y7 (Y0 L))) (Y9)))⟩,⟨by show 1<7;decide,Y6 (Z8 (U9 _) (Z8 (U9 _) (Y9)))⟩,⟨by show 2<7;decide,Y6 (Z8 (V2 rfl) (Z8 (V2 rfl) (Y9)))⟩,⟨by show 3<7;decide,W0 (Y7 (Z4 _))⟩,⟨by show 4<7;decide,W0 (Z8 (V2 rfl) (Y9))⟩,⟨by show 5<7;decide,W0 (Y7 (Z4 _))⟩,⟨by show 6<7;decide,W0 (E8 (show ((cI (tI (H0 (cR P1) (cH B) B.length (2*(n+1))) ((j+1)+1))):List AV)=((cI (tI (H0 (cR P1) (cH B) B.length (2*(n+1))) (j+1)))++[(nI0 (pkV (Z9 (cR P1) ((j+1)*2+0)) (Z9 (cR P1) ((j+1)*2+1)) (cH B) B.length (((2*(n+1)+(j+1):Nat):Int)).toNat))]) from by (first|exact (a1T rfl (by unfold H0;rfl)).symm|exact (a1G (by unfold H0;rfl)).symm)) (Z4 _))⟩,trivial⟩) (Hd.en_on (⟨(j+1)+1,by omega,trivial⟩) (by show (n+1) - ((j+1)+1)<(n+1) - (j+1);omega) rfl)
 ·have ghqtr78_1:=Z5 hqtr78_1
  obtain rfl:n=j:=by omega
  exact Z7 A5 (Z6 zC0q (R7) 200 (T':=(b8D B L P0 P1 P2 n v0 v1 v2 y yl zb)) (e:=.exit 4) (ps:=[Y3 (((n)+1:Nat):Int) P1.length=false]) (gH 8 [.b false]) (by kernel_rfl) (by kernel_rfl) ⟨hqtr78_1,trivial⟩ rfl) (Hd.en_sx (c8a hT hB h0b hqtr24_1 hj2 hqtr78_1))
@[reducible] def b2I(B:List Int)(L P0 P1 P2:List (Int×Int))(eb:Nat→Option Nat)(ec:Nat→Nat)(n:Nat)(v:BaseW)(v0 v1 v2 y yl zb:Value):=(Hd.AfterN zP0q 73 a41 (bw v 0 eb ec) (Hd.AfterB zP0q 73 3 a08 (bw v 0 eb ec) (Hd.StepC zP0q 73 2 (fun i:{i:Nat // i≤3∧True}=>(a1J B L P0 P1 P2 n v0 v1 v2 y yl zb) i.1) (fun i:{i:Nat // i≤3∧True}=>3 - i.1) a1n (bw v 0 eb ec) (D3 zP0q Try.f43 73 ((.agg [.slu 0 0 3 0,.slu 1 0 (n+1) 0])) [(r8 n),(J2 B L n),(I7 B P0 n),(M9 B P1 n),(F3 B P2 n)] (bw v 0 eb ec)) (⟨1,by decide,trivial⟩:{i:Nat // i≤3∧True}))))
theorem c6L(hT:k9 L P0 P1 P2 n)(hB:M0 B)(h0b:True)(hqtr24_1:(Y3 (((n)+1:Nat):Int) L.length)=false):Y8 zP0q 73 a7s ((b36 B L P0 P1 P2 n v0 v1 v2 y yl zb)) (BaseW.H (bw v 0 eb ec) hs) (b2I B L P0 P1 P2 eb ec n v v0 v1 v2 y yl zb):=by
 exact Hd.goes_loopA (id:=4) (by kernel_rfl) (by kernel_rfl) (fun j:{j:Nat // j≤(n+1)∧True}=>Ev.fam0 (b34 B L P0 P1 P2 n v0 v1 v2 y yl zb) (fun j=>(b9S B L P0 P1 P2 j n v0 v1 v2 y yl zb)) j.1) (fun j:{j:Nat // j≤(n+1)∧True}=>(n+1) - j.1) (fun i hs=>match i with|⟨0,h1,h2⟩=>c8G hT hB h0b hqtr24_1 h1 h2|⟨j+1,h1,h2⟩=>c9i hT hB h0b hqtr24_1 h1 h2) ⟨0,Nat.zero_le _,trivial⟩ hs
theorem c7Y(hT:k9 L P0 P1 P2 n)(hB:M0 B)(h0b:True)(hqtr24_1:(Y3 (((n)+1:Nat):Int) L.length)=false):Y8 zP0q 73 a7s ((b36 B L P0 P1 P2 n v0 v1 v2 y yl zb)) (BaseW.H (bw v 0 eb ec) hs) (b2I B L P0 P1 P2 eb ec n v v0 v1 v2 y yl zb):=by
 exact c6L hT hB h0b hqtr24_1
theorem c8l(hT:k9 L P0 P1 P2 n)(hB:M0 B)(h0b:True)(hqtr24_1:(Y3 (((n)+1:Nat):Int) L.length)=false):Y8 zP0q 73 b4E ((b4c B L P0 P1 P2 n v0 v1 v2 y yl zb)) (BaseW.H (bw v 0 eb ec) hs) (b2I B L P0 P1 P2 eb ec n v v0 v1 v2 y yl zb):=by
 refine Hd.goes_seqA (by kernel_rfl) ?_
 exact Z7 W4 (Z6 zC0q (R7) 200 (T':=(b36 B L P0 P1 P2 n v0 v1 v2 y yl zb)) (e:=.normal) (ps:=[]) [.go] (by kernel_rfl) (by kernel_rfl) trivial rfl) (Hd.en_n (c7Y hT hB h0b hqtr24_1))
theorem c8f(hT:k9 L P0 P1 P2 n)(hB:M0 B)(h0b:True)(hqtr24_1:(Y3 (((n)+1:Nat):Int) L.length)=false):Y8 zP0q 73 b1I ((b4c B L P0 P1 P2 n v0 v1 v2 y yl zb)) (BaseW.H (bw v 0 eb ec) hs) (b3w B L P0 P1 P2 eb ec n v v0 v1 v2 y yl zb):=by
 exact Hd.goes_seqA (by kernel_rfl) (c8l hT hB h0b hqtr24_1)
theorem c86(hT:k9 L P0 P1 P2 n)(hB:M0 B)(h0b:True)(hqtr24_1:(Y3 (((n)+1:Nat):Int) L.length)=false):Y8 zP0q 73 b5a ((b0z B L P0 P1 P2 n v0 v1 v2 y yl zb)) (BaseW.H (bw v 0 eb ec) hs) (b3w B L P0 P1 P2 eb ec n v v0 v1 v2 y yl zb):=by
 refine Hd.goes_seqA (by kernel_rfl) ?_
 exact Z7 W4 (Z6 zC0q (R7) 200 (T':=(b4c B L P0 P1 P2 n v0 v1 v2 y yl zb)) (e:=.normal) (ps:=[]) [.go] (by kernel_rfl) (by kernel_rfl) trivial rfl) (Hd.en_n (c8f hT hB h0b hqtr24_1))
theorem c7q(hT:k9 L P0 P1 P2 n)(hB:M0 B)(h0b:True)(hqtr24_1:(Y3 (((n)+1:Nat):Int) L.length)=false):Y8 zP0q 73 (d9 a5v) ((b0z B L P0 P1 P2 n v0 v1 v2 y yl zb)) (BaseW.H (bw v 0 eb ec) hs) (Hd.AfterN zP0q 73 a08 (bw v 0 eb ec) (z0 B L P0 P1 P2 eb ec n v v0 v1 v2 y yl zb (⟨1,by decide,trivial⟩:{i:Nat // i≤3∧True}))):=by
 exact Hd.goes_blkA (id:=3) (by kernel_rfl) (by kernel_rfl) (c86 hT hB h0b hqtr24_1)
theorem c7S(hT:k9 L P0 P1 P2 n)(hB:M0 B)(h0b:True)(hqtr24_1:(Y3 (((n)+1:Nat):Int) L.length)=false):Y8 zP0q 73 a5v ((b0z B L P0 P1 P2 n v0 v1 v2 y yl zb)) (BaseW.H (bw v 0 eb ec) hs) (z0 B L P0 P1 P2 eb ec n v v0 v1 v2 y yl zb (⟨1,by decide,trivial⟩:{i:Nat // i≤3∧True})):=by
 exact Hd.goes_seqA (by kernel_rfl) (c7q hT hB h0b hqtr24_1)
theorem d00(hT:k9 L P0 P1 P2 n)(hB:M0 B)(h0b:True)(hqtr24_1:(Y3 (((n)+1:Nat):Int) L.length)=false):Y8 zP0q 73 b19 ((b3O B L P0 P1 P2 n v0 v1 v2 y yl zb)) (BaseW.H (bw v 0 eb ec) hs) (z0 B L P0 P1 P2 eb ec n v v0 v1 v2 y yl zb (⟨1,by decide,trivial⟩:{i:Nat // i≤3∧True})):=by
 refine Hd.goes_seqA (by kernel_rfl) ?_
 exact Z7 W4 (Z6 zC0q (R7) 200 (T':=(b0z B L P0 P1 P2 n v0 v1 v2 y yl zb)) (e:=.normal) (ps:=[Y3 1 3=true]) (gH 5 [.b true]) (by kernel_rfl) (by kernel_rfl) ⟨rfl,trivial⟩ rfl) (Hd.en_n (c7S hT hB h0b hqtr24_1))
@[reducible] def b8X(B:List Int)(L P0 P1 P2:List (Int×Int))(eb:Nat→Option Nat)(ec:Nat→Nat)(n:Nat)(v:BaseW)(v0 v1 v2 y yl zb:Value):=Hd.StepC zP0q 73 4 (fun j:{j:Nat // j≤(n+1)∧True}=>Ev.fam0 (b97 B L P0 P1 P2 n v0 v1 v2 y yl zb) (fun j=>(b9w B L P0 P1 P2 j n v0 v1 v2 y yl zb)) j.1) (fun j:{j:Nat // j≤(n+1)∧True}=>(n+1) - j.1) a41 (bw v 0 eb ec) (Hd.AfterB zP0q 73 3 a08 (bw v 0 eb ec) (Hd.StepC zP0q 73 2 (fun i:{i:Nat // i≤3∧True}=>(a1J B L P0 P1 P2 n v0 v1 v2 y yl zb) i.1) (fun i:{i:Nat // i≤3∧True}=>3 - i.1) a1n (bw v 0 eb ec) (D3 zP0q Try.f43 73 ((.agg [.slu 0 0 3 0,.slu 1 0 (n+1) 0])) [(r8 n),(J2 B L n),(I7 B P0 n),(M9 B P1 n),(F3 B P2 n)] (bw v 0 eb ec)) (⟨2,by decide,trivial⟩:{i:Nat // i≤3∧True})))
@[reducible] def b2F(B:List Int)(L P0 P1 P2:List (Int×Int))(eb:Nat→Option Nat)(ec:Nat→Nat)(n:Nat)(v:BaseW)(v0 v1 v2 y yl zb:Value):=(Hd.AfterB zP0q 73 3 a08 (bw v 0 eb ec) (Hd.StepC zP0q 73 2 (fun i:{i:Nat // i≤3∧True}=>(a1J B L P0 P1 P2 n v0 v1 v2 y yl zb) i.1) (fun i:{i:Nat // i≤3∧True}=>3 - i.1) a1n (bw v 0 eb ec) (D3 zP0q Try.f43 73 ((.agg [.slu 0 0 3 0,.slu 1 0 (n+1) 0])) [(r8 n),(J2 B L n),(I7 B P0 n),(M9 B P1 n),(F3 B P2 n)] (bw v 0 eb ec)) (⟨2,by decide,trivial⟩:{i:Nat // i≤3∧True})))
theorem c8t(hT:k9 L P0 P1 P2 n)(hB:M0 B)(h0b:True)(hqtr24_1:(Y3 (((n)+1:Nat):Int) L.length)=false)(hj1:0≤(n+1))(hj2:True):Y8 zP0q 73 a8l ((b97 B L P0 P1 P2 n v0 v1 v2 y yl zb)) (BaseW.H (bw v 0 eb ec) hs) (b8X B L P0 P1 P2 eb ec n v v0 v1 v2 y yl zb (⟨0,hj1,hj2⟩:{j:Nat // j≤(n+1)∧True})):=by
 have hcl_P0:=Z2 P0
 have hcl_P1:=Z2 P1
 have hcl_P2:=Z2 P2
 have hcl_L:=Z2 L
 have hcl_B:=Z3 B
 obtain ⟨hn,hn8,hp0,hp1,hp2,hL,hc0,hc1,hc2⟩:=(id hT)
 have ghqtr24_1:=Z5 hqtr24_1
 rcases zB0q (Y3 0 P2.length) with hqtr96_1|hqtr96_1
 ·have ghqtr96_1:=X3 hqtr96_1
  exact Z7 W4 (R5 zC0q (R7) 200 (T':=⟨[(Q0 B zb),(2,(.ptr 0 0)),(4,(.ptr 1 0)),(5,(.ptr 2 0)),(6,(nI0 (((3*(n+1))+(0+1):Nat):Int))),(8,(nN 2)),(9,(.slu 7 0 (0+1) 0)),(10,(nI0 (((0+1):Nat):Int)))],[],8,[(P7 L P0 P1 P2 v0 v1 v2 y yl),Q2,(2,(c6 n)),(L6 B L n),(4,(n5 n)),(G1 B P0 n),(6,(M9 B P1 n)),(7,(.row (cI (tI (H0 (cR P2) (cH B) B.length (3*(n+1))) (0+1))) 2 1))]⟩) (e:=.normal) (m:=9) (ps:=[Y3 0 P2.length=true,0<P2.length,W7 zP0q (cR P2) (0*2) 65=some (AV.agg [AV.v (Value.int IntKind.i64 (Z9 (cR P2) (0*2+0))),AV.v (Value.int IntKind.i64 (Z9 (cR P2) (0*2+1)))]),IsH 1 B.length (cH B),0≤Z9 (cR P2) (0*2+0)∧Z9 (cR P2) (0*2+0)≤Z9 (cR P2) (0*2+1)∧Z9 (cR P2) (0*2+1)≤1000,(0:Int)≤((3*(n+1):Nat):Int)∧((3*(n+1):Nat):Int)≤1000,K4 IntKind.i64 (((3*(n+1):Nat):Int)+1),K4 IntKind.i64 (((0:Nat):Int)+1)]) (gH 8 ([.b true]++gH 7 ([.sym,.sym]++gH 11 []))) [0,1,2,3,4,5,6,8] [(.xl (zb) (B.length) 1 (cH B)),(.ptr 0 0),(.ptr 1 0),(.ptr 2 0),(nI0 (((3*(n+1):Nat):Int)+1)),(nN 2),(.slu 8 0 1 0),(nN 1)] [(g5 L P0 P1 P2 v0 v1 v2 y yl),x7,(c6 n),(J2 B L n),(n5 n),(I7 B P0 n),(M9 B P1 n),(.row [(nI0 (pkV (Z9 (cR P2) (0*2+0)) (Z9 (cR P2) (0*2+1)) (cH B) B.length (((3*(n+1):Nat):Int)).toNat))] 2 1)] (by kernel_rfl) (by kernel_rfl) ⟨hqtr96_1,(by omega),(K0 (by omega) 65 (Try.underlying65) rfl (inf:=(Try.prog.info? 65).getD default) (by kernel_rfl) (by kernel_rfl)),⟨rfl,B,rfl,rfl,hB⟩,(by have h9:=hc2 0 (by omega);unfold X9 at h9;omega),(by omega),(a0R (by omega) (by omega)),(a0R (by omega) (by omega)),trivial⟩ rfl rfl (by decide) rfl ⟨T6 (Y7 (G7 B)),W5 rfl,W5 rfl,W5 rfl,O1 (show ((((3*(n+1):Nat):Int)+1):Int)=(((3*(n+1))+(0+1):Nat):Int) from by omega),U9 _,V2 rfl,O1 (show (1:Int)=(((0+1):Nat):Int) from by omega),trivial⟩ ⟨⟨by show 0<8;decide,Y6 (Z8 (U0 (X7 (Y4 [(v0,P0),(v1,P1),(v2,P2)]))) (Z8 (T6 (Y7 (Y0 L))) (Y9)))⟩,⟨by show 1<8;decide,Y6 (Z8 (U9 _) (Z8 (U9 _) (Y9)))⟩,⟨by show 2<8;decide,Y6 (Z8 (V2 rfl) (Z8 (V2 rfl) (Y9)))⟩,⟨by show 3<8;decide,W0 (Y7 (Z4 _))⟩,⟨by show 4<8;decide,W0 (Z8 (V2 rfl) (Z8 (V2 rfl) (Y9)))⟩,⟨by show 5<8;decide,W0 (Y7 (Z4 _))⟩,⟨by show 6<8;decide,W0 (Y7 (Z4 _))⟩,⟨by show 7<8;decide,W0 (E8 (show ((cI (tI (H0 (cR P2) (cH B) B.length (3*(n+1))) (0+1))):List AV)=[(nI0 (pkV (Z9 (cR P2) (0*2+0)) (Z9 (cR P2) (0*2+1)) (cH B) B.length (((3*(n+1):Nat):Int)).toNat))] from by (first|exact (a1T rfl (by unfold H0;rfl)).symm|exact (a1G (by unfold H0;rfl)).symm)) (Z4 _))⟩,trivial⟩) (Hd.en_on (⟨0+1,by omega,trivial⟩) (by show (n+1) - (0+1)<(n+1) - 0;omega) rfl)
 ·have ghqtr96_1:=Z5 hqtr96_1
  exfalso;omega
theorem c4x(hT:k9 L P0 P1 P2 n)(hB:M0 B)(h0b:True)(hqtr24_1:(Y3 (((n)+1:Nat):Int) L.length)=false)(h4b:True)(hqtr98_1:(Y3 (((n)+1:Nat):Int) P2.length)=false):Y8 zP0q 73 a08 ((c1G B L P0 P1 P2 n v0 v1 v2 y yl zb)) (BaseW.H (bw v 0 eb ec) hs) (z0 B L P0 P1 P2 eb ec n v v0 v1 v2 y yl zb (⟨2,by decide,trivial⟩:{i:Nat // i≤3∧True})):=by
 have hcl_P0:=Z2 P0
 have hcl_P1:=Z2 P1
 have hcl_P2:=Z2 P2
 have hcl_L:=Z2 L
 have hcl_B:=Z3 B
 obtain ⟨hn,hn8,hp0,hp1,hp2,hL,hc0,hc1,hc2⟩:=(id hT)
 have ghqtr24_1:=Z5 hqtr24_1
 have ghqtr98_1:=Z5 hqtr98_1
 exact Z7 W4 (R5 zC0q (R7) 200 (T':=(b9h B L P0 P1 P2 n v0 v1 v2 y yl zb)) (e:=.normal) (m:=10) (ps:=[K4 IntKind.i64 ((2:Int)+1)]) [.go,.go,.go] [0,1,2,3,9,5,6,7] [(.xl (zb) (B.length) 1 (cH B)),(.ptr 0 0),(.ptr 1 0),(.ptr 2 0),(nI0 (((3*(n+1)+(n+1):Nat):Int))),(nN 3)] [(g5 L P0 P1 P2 v0 v1 v2 y yl),x7,(.cells [(.slu 9 0 3 0),(.slu 3 0 (n+1) 0)] 29),(J2 B L n),(.row [(.slu 5 0 (n+1) 0),(.slu 6 0 (n+1) 0),(.slu 7 0 (n+1) 0)] 27 1),(I7 B P0 n),(M9 B P1 n),(F3 B P2 n)] (by kernel_rfl) (by kernel_rfl) ⟨(a0R (by omega) (by omega)),trivial⟩ rfl rfl (by decide) rfl ⟨T6 (Y7 (G7 B)),W5 rfl,W5 rfl,W5 rfl,O1 (show ((((3*(n+1)+(n+1):Nat):Int)):Int)=(((4*(n+1)):Nat):Int) from by omega),O1 (show (3:Int)=((3:Nat):Int) from by omega),trivial⟩ ⟨⟨by show 0<8;decide,Y6 (Z8 (U0 (X7 (Y4 [(v0,P0),(v1,P1),(v2,P2)]))) (Z8 (T6 (Y7 (Y0 L))) (Y9)))⟩,⟨by show 1<8;decide,Y6 (Z8 (U9 _) (Z8 (U9 _) (Y9)))⟩,⟨by show 2<8;decide,Y6 (Z8 (V2 rfl) (Z8 (V2 rfl) (Y9)))⟩,⟨by show 3<8;decide,W0 (Y7 (Z4 _))⟩,⟨by show 4<8;decide,W0 (Z8 (V2 rfl) (Z8 (V2 rfl) (Z8 (V2 rfl) (Y9))))⟩,⟨by show 5<8;decide,W0 (Y7 (Z4 _))⟩,⟨by show 6<8;decide,W0 (Y7 (Z4 _))⟩,⟨by show 7<8;decide,W0 (Y7 (Z4 _))⟩,trivial⟩) (Hd.en_on ⟨2+1,by decide,trivial⟩ (by show 3 - (2+1)<3 - 2;decide) rfl)
theorem d0e(hT:k9 L P0 P1 P2 n)(hB:M0 B)(h0b:True)(hqtr24_1:(Y3 (((n)+1:Nat):Int) L.length)=false)(h4b:True)(hqtr98_1:(Y3 (((n)+1:Nat):Int) P2.length)=false):Y8 zP0q 73 a41 ((c2K B L P0 P1 P2 n v0 v1 v2 y yl zb)) (BaseW.H (bw v 0 eb ec) hs) (b2F B L P0 P1 P2 eb ec n v v0 v1 v2 y yl zb):=by
 exact Z7 W4 (Z6 zC0q (R7) 200 (T':=(c1G B L P0 P1 P2 n v0 v1 v2 y yl zb)) (e:=.normal) (ps:=[]) (gH 7 []) (by kernel_rfl) (by kernel_rfl) trivial rfl) (Hd.en_bn (c4x hT hB h0b hqtr24_1 h4b hqtr98_1))
theorem c9n(hT:k9 L P0 P1 P2 n)(hB:M0 B)(h0b:True)(hqtr24_1:(Y3 (((n)+1:Nat):Int) L.length)=false)(hj1:(j+1)≤(n+1))(hj2:True):Y8 zP0q 73 a8l ((b9w B L P0 P1 P2 j n v0 v1 v2 y yl zb)) (BaseW.H (bw v 0 eb ec) hs) (b8X B L P0 P1 P2 eb ec n v v0 v1 v2 y yl zb (⟨(j+1),hj1,hj2⟩:{j:Nat // j≤(n+1)∧True})):=by
 have hcl_P0:=Z2 P0
 have hcl_P1:=Z2 P1
 have hcl_P2:=Z2 P2
 have hcl_L:=Z2 L
 have hcl_B:=Z3 B
 obtain ⟨hn,hn8,hp0,hp1,hp2,hL,hc0,hc1,hc2⟩:=(id hT)
 have ghqtr24_1:=Z5 hqtr24_1
 rcases zB0q (Y3 ((j+1:Nat):Int) P2.length) with hqtr98_1|hqtr98_1
 ·have ghqtr98_1:=X3 hqtr98_1
  exact Z7 W4 (R5 zC0q (R7) 200 (T':=⟨[(Q0 B zb),(2,(.ptr 0 0)),(4,(.ptr 1 0)),(5,(.ptr 2 0)),(6,(nI0 (((3*(n+1))+((j+1)+1):Nat):Int))),(8,(nN 2)),(9,(.slu 7 0 ((j+1)+1) 0)),(10,(nI0 ((((j+1)+1):Nat):Int)))],[],8,[(P7 L P0 P1 P2 v0 v1 v2 y yl),Q2,(2,(c6 n)),(L6 B L n),(4,(n5 n)),(G1 B P0 n),(6,(M9 B P1 n)),(7,(.row (cI (tI (H0 (cR P2) (cH B) B.length (3*(n+1))) ((j+1)+1))) 2 1))]⟩) (e:=.normal) (m:=10) (ps:=[Y3 ((j+1:Nat):Int) P2.length=true,j+1<P2.length,W7 zP0q (cR P2) ((j+1)*2) 65=some (AV.agg [AV.v (Value.int IntKind.i64 (Z9 (cR P2) ((j+1)*2+0))),AV.v (Value.int IntKind.i64 (Z9 (cR P2) ((j+1)*2+1)))]),IsH 1 B.length (cH B),0≤Z9 (cR P2) ((j+1)*2+0)∧Z9 (cR P2) ((j+1)*2+0)≤Z9 (cR P2) ((j+1)*2+1)∧Z9 (cR P2) ((j+1)*2+1)≤1000,(0:Int)≤((3*(n+1)+(j+1):Nat):Int)∧((3*(n+1)+(j+1):Nat):Int)≤1000,((cI (tI (H0 (cR P2) (cH B) B.length (3*(n+1))) (j+1))):List AV).length=(j+1)*1,j+1+1≤1000000,K4 IntKind.i64 (((3*(n+1)+(j+1):Nat):Int)+1),K4 IntKind.i64 (((j+1:Nat):Int)+1)]) (gH 8 ([.b true]++gH 7 ([.sym,.sym,.go,.go,.go,.sym]++gH 7 []))) [0,1,2,3,4,5,6,9] [(.xl (zb) (B.length) 1 (cH B)),(.ptr 0 0),(.ptr 1 0),(.ptr 2 0),(nI0 (((3*(n+1)+(j+1):Nat):Int)+1)),(nN 2),(.slu 9 0 (j+1+1) 0),(nI0 (((j+1:Nat):Int)+1))] [(g5 L P0 P1 P2 v0 v1 v2 y yl),x7,(c6 n),(J2 B L n),(n5 n),(I7 B P0 n),(M9 B P1 n),(.row ((cI (tI (H0 (cR P2) (cH B) B.length (3*(n+1))) (j+1)))++[(nI0 (pkV (Z9 (cR P2) ((j+1)*2+0)) (Z9 (cR P2) ((j+1)*2+1)) (cH B) B.length (((3*(n+1)+(j+1):Nat):Int)).toNat))]) 2 1)] (by kernel_rfl) (by kernel_rfl) ⟨hqtr98_1,(by omega),(K0 (by omega) 65 (Try.underlying65) rfl (inf:=(Try.prog.info? 65).getD default) (by kernel_rfl) (by kernel_rfl)),⟨rfl,B,rfl,rfl,hB⟩,(by have h9:=hc2 (j+1) (by omega);unfold X9 at h9;omega),(by omega),(by show (cI _).length=_;rw [Z3,Z1];omega),(by omega),(a0R (by omega) (by omega)),(a0R (by omega) (by omega)),trivial⟩ rfl rfl (by decide) rfl ⟨T6 (Y7 (G7 B)),W5 rfl,W5 rfl,W5 rfl,O1 (show ((((3*(n+1)+(j+1):Nat):Int)+1):Int)=(((3*(n+1))+((j+1)+1):Nat):Int) from by omega),U9 _,V2 rfl,O1 (show ((((j+1:Nat):Int)+1):Int)=((((j+1)+1):Nat):Int) from by omega),trivial⟩ ⟨⟨by show 0<8;decide,Y6 (Z8 (U0 (X7 (Y4 [(v0,P0),(v1,P1),(v2,P2)]))) (Z8 (T6 (Y7 (Y0 L))) (Y9)))⟩,⟨by show 1<8;decide,Y6 (Z8 (U9 _) (Z8 (U9 _) (Y9)))⟩,⟨by show 2<8;decide,Y6 (Z8 (V2 rfl) (Z8 (V2 rfl) (Y9)))⟩,⟨by show 3<8;decide,W0 (Y7 (Z4 _))⟩,⟨by show 4<8;decide,W0 (Z8 (V2 rfl) (Z8 (V2 rfl) (Y9)))⟩,⟨by show 5<8;decide,W0 (Y7 (Z4 _))⟩,⟨by show 6<8;decide,W0 (Y7 (Z4 _))⟩,⟨by show 7<8;decide,W0 (E8 (show ((cI (tI (H0 (cR P2) (cH B) B.length (3*(n+1))) ((j+1)+1))):List AV)=((cI (tI (H0 (cR P2) (cH B) B.length (3*(n+1))) (j+1)))++[(nI0 (pkV (Z9 (cR P2) ((j+1)*2+0)) (Z9 (cR P2) ((j+1)*2+1)) (cH B) B.length (((3*(n+1)+(j+1):Nat):Int)).toNat))]) from by (first|exact (a1T rfl (by unfold H0;rfl)).symm|exact (a1G (by unfold H0;rfl)).symm)) (Z4 _))⟩,trivial⟩) (Hd.en_on (⟨(j+1)+1,by omega,trivial⟩) (by show (n+1) - ((j+1)+1)<(n+1) - (j+1);omega) rfl)
 ·have ghqtr98_1:=Z5 hqtr98_1
  obtain rfl:n=j:=by omega
  exact Z7 A5 (Z6 zC0q (R7) 200 (T':=(c2K B L P0 P1 P2 n v0 v1 v2 y yl zb)) (e:=.exit 4) (ps:=[Y3 (((n)+1:Nat):Int) P2.length=false]) (gH 8 [.b false]) (by kernel_rfl) (by kernel_rfl) ⟨hqtr98_1,trivial⟩ rfl) (Hd.en_sx (d0e hT hB h0b hqtr24_1 hj2 hqtr98_1))
@[reducible] def b47(B:List Int)(L P0 P1 P2:List (Int×Int))(eb:Nat→Option Nat)(ec:Nat→Nat)(n:Nat)(v:BaseW)(v0 v1 v2 y yl zb:Value):=(Hd.AfterN zP0q 73 a41 (bw v 0 eb ec) (Hd.AfterB zP0q 73 3 a08 (bw v 0 eb ec) (Hd.StepC zP0q 73 2 (fun i:{i:Nat // i≤3∧True}=>(a1J B L P0 P1 P2 n v0 v1 v2 y yl zb) i.1) (fun i:{i:Nat // i≤3∧True}=>3 - i.1) a1n (bw v 0 eb ec) (D3 zP0q Try.f43 73 ((.agg [.slu 0 0 3 0,.slu 1 0 (n+1) 0])) [(r8 n),(J2 B L n),(I7 B P0 n),(M9 B P1 n),(F3 B P2 n)] (bw v 0 eb ec)) (⟨2,by decide,trivial⟩:{i:Nat // i≤3∧True}))))
theorem c6E(hT:k9 L P0 P1 P2 n)(hB:M0 B)(h0b:True)(hqtr24_1:(Y3 (((n)+1:Nat):Int) L.length)=false):Y8 zP0q 73 a7s ((b6o B L P0 P1 P2 n v0 v1 v2 y yl zb)) (BaseW.H (bw v 0 eb ec) hs) (b47 B L P0 P1 P2 eb ec n v v0 v1 v2 y yl zb):=by
 exact Hd.goes_loopA (id:=4) (by kernel_rfl) (by kernel_rfl) (fun j:{j:Nat // j≤(n+1)∧True}=>Ev.fam0 (b97 B L P0 P1 P2 n v0 v1 v2 y yl zb) (fun j=>(b9w B L P0 P1 P2 j n v0 v1 v2 y yl zb)) j.1) (fun j:{j:Nat // j≤(n+1)∧True}=>(n+1) - j.1) (fun i hs=>match i with|⟨0,h1,h2⟩=>c8t hT hB h0b hqtr24_1 h1 h2|⟨j+1,h1,h2⟩=>c9n hT hB h0b hqtr24_1 h1 h2) ⟨0,Nat.zero_le _,trivial⟩ hs
theorem c7l(hT:k9 L P0 P1 P2 n)(hB:M0 B)(h0b:True)(hqtr24_1:(Y3 (((n)+1:Nat):Int) L.length)=false):Y8 zP0q 73 a7s ((b6o B L P0 P1 P2 n v0 v1 v2 y yl zb)) (BaseW.H (bw v 0 eb ec) hs) (b47 B L P0 P1 P2 eb ec n v v0 v1 v2 y yl zb):=by
 exact c6E hT hB h0b hqtr24_1
theorem c9w(hT:k9 L P0 P1 P2 n)(hB:M0 B)(h0b:True)(hqtr24_1:(Y3 (((n)+1:Nat):Int) L.length)=false):Y8 zP0q 73 b4E ((b8t B L P0 P1 P2 n v0 v1 v2 y yl zb)) (BaseW.H (bw v 0 eb ec) hs) (b47 B L P0 P1 P2 eb ec n v v0 v1 v2 y yl zb):=by
 refine Hd.goes_seqA (by kernel_rfl) ?_
 exact Z7 W4 (Z6 zC0q (R7) 200 (T':=(b6o B L P0 P1 P2 n v0 v1 v2 y yl zb)) (e:=.normal) (ps:=[]) [.go] (by kernel_rfl) (by kernel_rfl) trivial rfl) (Hd.en_n (c7l hT hB h0b hqtr24_1))
theorem c9R(hT:k9 L P0 P1 P2 n)(hB:M0 B)(h0b:True)(hqtr24_1:(Y3 (((n)+1:Nat):Int) L.length)=false):Y8 zP0q 73 b1I ((b8t B L P0 P1 P2 n v0 v1 v2 y yl zb)) (BaseW.H (bw v 0 eb ec) hs) (b2F B L P0 P1 P2 eb ec n v v0 v1 v2 y yl zb):=by
 exact Hd.goes_seqA (by kernel_rfl) (c9w hT hB h0b hqtr24_1)
theorem c9U(hT:k9 L P0 P1 P2 n)(hB:M0 B)(h0b:True)(hqtr24_1:(Y3 (((n)+1:Nat):Int) L.length)=false):Y8 zP0q 73 b5a ((a9s B L P0 P1 P2 n v0 v1 v2 y yl zb)) (BaseW.H (bw v 0 eb ec) hs) (b2F B L P0 P1 P2 eb ec n v v0 v1 v2 y yl zb):=by
 refine Hd.goes_seqA (by kernel_rfl) ?_
 exact Z7 W4 (Z6 zC0q (R7) 200 (T':=(b8t B L P0 P1 P2 n v0 v1 v2 y yl zb)) (e:=.normal) (ps:=[]) [.go] (by kernel_rfl) (by kernel_rfl) trivial rfl) (Hd.en_n (c9R hT hB h0b hqtr24_1))
theorem c74(hT:k9 L P0 P1 P2 n)(hB:M0 B)(h0b:True)(hqtr24_1:(Y3 (((n)+1:Nat):Int) L.length)=false):Y8 zP0q 73 (d9 a5v) ((a9s B L P0 P1 P2 n v0 v1 v2 y yl zb)) (BaseW.H (bw v 0 eb ec) hs) (Hd.AfterN zP0q 73 a08 (bw v 0 eb ec) (z0 B L P0 P1 P2 eb ec n v v0 v1 v2 y yl zb (⟨2,by decide,trivial⟩:{i:Nat // i≤3∧True}))):=by
 exact Hd.goes_blkA (id:=3) (by kernel_rfl) (by kernel_rfl) (c9U hT hB h0b hqtr24_1)
theorem c8Q(hT:k9 L P0 P1 P2 n)(hB:M0 B)(h0b:True)(hqtr24_1:(Y3 (((n)+1:Nat):Int) L.length)=false):Y8 zP0q 73 a5v ((a9s B L P0 P1 P2 n v0 v1 v2 y yl zb)) (BaseW.H (bw v 0 eb ec) hs) (z0 B L P0 P1 P2 eb ec n v v0 v1 v2 y yl zb (⟨2,by decide,trivial⟩:{i:Nat // i≤3∧True})):=by
 exact Hd.goes_seqA (by kernel_rfl) (c74 hT hB h0b hqtr24_1)
theorem c7a(hT:k9 L P0 P1 P2 n)(hB:M0 B)(h0b:True)(hqtr24_1:(Y3 (((n)+1:Nat):Int) L.length)=false):Y8 zP0q 73 b19 ((b2R B L P0 P1 P2 n v0 v1 v2 y yl zb)) (BaseW.H (bw v 0 eb ec) hs) (z0 B L P0 P1 P2 eb ec n v v0 v1 v2 y yl zb (⟨2,by decide,trivial⟩:{i:Nat // i≤3∧True})):=by
 refine Hd.goes_seqA (by kernel_rfl) ?_
 exact Z7 W4 (Z6 zC0q (R7) 200 (T':=(a9s B L P0 P1 P2 n v0 v1 v2 y yl zb)) (e:=.normal) (ps:=[Y3 2 3=true]) (gH 5 [.b true]) (by kernel_rfl) (by kernel_rfl) ⟨rfl,trivial⟩ rfl) (Hd.en_n (c8Q hT hB h0b hqtr24_1))
theorem c3H(hT:k9 L P0 P1 P2 n)(hB:M0 B)(h0b:True)(hqtr24_1:(Y3 (((n)+1:Nat):Int) L.length)=false):Y8 zP0q 73 a1n ((b9H B L P0 P1 P2 n)) (BaseW.H (bw v 0 eb ec) hs) (a2k B L P0 P1 P2 eb ec n v):=by
 exact Z7 T7 (R5 zC0q (R7) 200 (T':=⟨[(4,(.ptr 5 0))],[],6,[(0,(.row [(.slu 2 0 (n+1) 0),(.slu 3 0 (n+1) 0),(.slu 4 0 (n+1) 0)] 27 1)),(1,(J2 B L n)),(2,(I7 B P0 n)),(3,(M9 B P1 n)),(4,(F3 B P2 n)),(5,(.cells [(.slu 0 0 3 0),(.slu 1 0 (n+1) 0)] 29))]⟩) (e:=.ret) (m:=8) (ps:=[]) [.go,.go] [4,3,5,6,7,1] [(.ptr 1 0)] [(.row [(.slu 5 0 (n+1) 0),(.slu 6 0 (n+1) 0),(.slu 7 0 (n+1) 0)] 27 1),(J2 B L n),(I7 B P0 n),(M9 B P1 n),(F3 B P2 n),(.cells [(.slu 4 0 3 0),(.slu 3 0 (n+1) 0)] 29)] (by kernel_rfl) (by kernel_rfl) trivial rfl rfl (by decide) rfl ⟨W5 rfl,trivial⟩ ⟨⟨by show 0<6;decide,W0 (Z8 (V2 rfl) (Z8 (V2 rfl) (Z8 (V2 rfl) (Y9))))⟩,⟨by show 1<6;decide,W0 (Y7 (Z4 _))⟩,⟨by show 2<6;decide,W0 (Y7 (Z4 _))⟩,⟨by show 3<6;decide,W0 (Y7 (Z4 _))⟩,⟨by show 4<6;decide,W0 (Y7 (Z4 _))⟩,⟨by show 5<6;decide,Y6 (Z8 (V2 rfl) (Z8 (V2 rfl) (Y9)))⟩,trivial⟩) (r7 (r:=(.agg [(.slu 0 0 3 0),(.slu 1 0 (n+1) 0)])) (ys:=[(.row [(.slu 2 0 (n+1) 0),(.slu 3 0 (n+1) 0),(.slu 4 0 (n+1) 0)] 27 1),(J2 B L n),(I7 B P0 n),(M9 B P1 n),(F3 B P2 n)]) (by rfl) (by rfl) (B0 (by kernel_rfl) (by kernel_rfl) rfl (.inr rfl)))
theorem c5M(hT:k9 L P0 P1 P2 n)(hB:M0 B)(h0b:True)(hqtr24_1:(Y3 (((n)+1:Nat):Int) L.length)=false):Y8 zP0q 73 b19 ((b9h B L P0 P1 P2 n v0 v1 v2 y yl zb)) (BaseW.H (bw v 0 eb ec) hs) (z0 B L P0 P1 P2 eb ec n v v0 v1 v2 y yl zb (⟨3,by decide,trivial⟩:{i:Nat // i≤3∧True})):=by
 refine Hd.goes_seqA (by kernel_rfl) ?_
 exact Z7 A5 (Z6 zC0q (R7) 200 (T':=(b9H B L P0 P1 P2 n)) (e:=.exit 2) (ps:=[Y3 3 3=false]) (gH 5 [.b false]) (by kernel_rfl) (by kernel_rfl) ⟨rfl,trivial⟩ rfl) (Hd.en_o (by intro h;cases h) (Hd.en_sx (c3H hT hB h0b hqtr24_1)))
@[reducible] def b0x(B:List Int)(L P0 P1 P2:List (Int×Int))(eb:Nat→Option Nat)(ec:Nat→Nat)(n:Nat)(v:BaseW):=(Hd.AfterN zP0q 73 a1n (bw v 0 eb ec) (D3 zP0q Try.f43 73 ((.agg [.slu 0 0 3 0,.slu 1 0 (n+1) 0])) [(r8 n),(J2 B L n),(I7 B P0 n),(M9 B P1 n),(F3 B P2 n)] (bw v 0 eb ec)))
theorem c7I(hT:k9 L P0 P1 P2 n)(hB:M0 B)(h0b:True)(hqtr24_1:(Y3 (((n)+1:Nat):Int) L.length)=false):Y8 zP0q 73 b8R ((a3p B L P0 P1 P2 n v0 v1 v2 y yl zb)) (BaseW.H (bw v 0 eb ec) hs) (b0x B L P0 P1 P2 eb ec n v):=by
 have hcl_P0:=Z2 P0
 have hcl_P1:=Z2 P1
 have hcl_P2:=Z2 P2
 have hcl_L:=Z2 L
 have hcl_B:=Z3 B
 obtain ⟨hn,hn8,hp0,hp1,hp2,hL,hc0,hc1,hc2⟩:=(id hT)
 have ghqtr24_1:=Z5 hqtr24_1
 exact Hd.goes_loopA (id:=2) (by kernel_rfl) (by kernel_rfl) (fun i:{i:Nat // i≤3∧True}=>(a1J B L P0 P1 P2 n v0 v1 v2 y yl zb) i.1) (fun i:{i:Nat // i≤3∧True}=>3 - i.1) (fun ix_ hs=>match ix_ with|⟨0,_,_⟩=>c6A hT hB h0b hqtr24_1|⟨1,_,_⟩=>d00 hT hB h0b hqtr24_1|⟨2,_,_⟩=>c7a hT hB h0b hqtr24_1|⟨3,_,_⟩=>c5M hT hB h0b hqtr24_1|⟨j_+4,h1_,_⟩=>absurd h1_ (by omega)) ⟨0,Nat.zero_le _,trivial⟩ hs
theorem c8J(hT:k9 L P0 P1 P2 n)(hB:M0 B)(h0b:True)(hqtr24_1:(Y3 (((n)+1:Nat):Int) L.length)=false):Y8 zP0q 73 b8R ((a3p B L P0 P1 P2 n v0 v1 v2 y yl zb)) (BaseW.H (bw v 0 eb ec) hs) (b0x B L P0 P1 P2 eb ec n v):=by
 exact c7I hT hB h0b hqtr24_1
theorem c6F(hT:k9 L P0 P1 P2 n)(hB:M0 B)(h0b:True)(hqtr24_1:(Y3 (((n)+1:Nat):Int) L.length)=false):Y8 zP0q 73 c1w ((b3r B L P0 P1 P2 n v0 v1 v2 y yl zb)) (BaseW.H (bw v 0 eb ec) hs) (b0x B L P0 P1 P2 eb ec n v):=by
 refine Hd.goes_seqA (by kernel_rfl) ?_
 exact Z7 W4 (Z6 zC0q (R7) 200 (T':=(a3p B L P0 P1 P2 n v0 v1 v2 y yl zb)) (e:=.normal) (ps:=[]) [.go] (by kernel_rfl) (by kernel_rfl) trivial rfl) (Hd.en_n (c8J hT hB h0b hqtr24_1))
theorem c9z(hT:k9 L P0 P1 P2 n)(hB:M0 B)(h0b:True)(hqtr24_1:(Y3 (((n)+1:Nat):Int) L.length)=false):Y8 zP0q 73 b16 ((b3r B L P0 P1 P2 n v0 v1 v2 y yl zb)) (BaseW.H (bw v 0 eb ec) hs) (a2k B L P0 P1 P2 eb ec n v):=by
 exact Hd.goes_seqA (by kernel_rfl) (c6F hT hB h0b hqtr24_1)
theorem c9I(hT:k9 L P0 P1 P2 n)(hB:M0 B)(hi1:(i+1)≤(n+1))(hi2:True):Y8 zP0q 73 c32 ((b2f B L P0 P1 P2 i v0 v1 v2 y yl zb)) (BaseW.H (bw v 0 eb ec) hs) (b4y B L P0 P1 P2 eb ec n v v0 v1 v2 y yl zb (⟨(i+1),hi1,hi2⟩:{i:Nat // i≤(n+1)∧True})):=by
 have hcl_P0:=Z2 P0
 have hcl_P1:=Z2 P1
 have hcl_P2:=Z2 P2
 have hcl_L:=Z2 L
 have hcl_B:=Z3 B
 obtain ⟨hn,hn8,hp0,hp1,hp2,hL,hc0,hc1,hc2⟩:=(id hT)
 rcases zB0q (Y3 ((i+1:Nat):Int) L.length) with hqtr24_1|hqtr24_1
 ·have ghqtr24_1:=X3 hqtr24_1
  exact Z7 W4 (R5 zC0q (R7) 200 (T':=⟨[(Q0 B zb),(2,(.ptr 0 0)),(4,(.ptr 1 0)),(5,(.ptr 2 0)),(6,(nI0 ((((i+1)+1):Nat):Int))),(7,(nI0 ((((i+1)+1):Nat):Int)))],[],4,[(P7 L P0 P1 P2 v0 v1 v2 y yl),Q2,(2,(.cells [(.v (.slice none 0 0)),(.slu 3 0 ((i+1)+1) 0)] 29)),(3,(.row (cI (tI (H0 (cR L) (cH B) B.length 0) ((i+1)+1))) 2 1))]⟩) (e:=.normal) (m:=6) (ps:=[Y3 ((i+1:Nat):Int) L.length=true,i+1<L.length,W7 zP0q (cR L) ((i+1)*2) 65=some (AV.agg [AV.v (Value.int IntKind.i64 (Z9 (cR L) ((i+1)*2+0))),AV.v (Value.int IntKind.i64 (Z9 (cR L) ((i+1)*2+1)))]),IsH 1 B.length (cH B),0≤Z9 (cR L) ((i+1)*2+0)∧Z9 (cR L) ((i+1)*2+0)≤Z9 (cR L) ((i+1)*2+1)∧Z9 (cR L) ((i+1)*2+1)≤1000,(0:Int)≤((i+1:Nat):Int)∧((i+1:Nat):Int)≤1000,((cI (tI (H0 (cR L) (cH B) B.length 0) (i+1))):List AV).length=(i+1)*1,i+1+1≤1000000,K4 IntKind.i64 (((i+1:Nat):Int)+1),K4 IntKind.i64 (((i+1:Nat):Int)+1)]) (gH 5 ([.b true]++gH 5 ([.sym,.sym,.go,.go,.go,.sym]++gH 8 []))) [0,1,2,5] [(.xl (zb) (B.length) 1 (cH B)),(.ptr 0 0),(.ptr 1 0),(.ptr 2 0),(nI0 (((i+1:Nat):Int)+1)),(nI0 (((i+1:Nat):Int)+1))] [(g5 L P0 P1 P2 v0 v1 v2 y yl),x7,(.cells [(.v (Value.slice none 0 0)),(.slu 5 0 (i+1+1) 0)] 29),(.row ((cI (tI (H0 (cR L) (cH B) B.length 0) (i+1)))++[(nI0 (pkV (Z9 (cR L) ((i+1)*2+0)) (Z9 (cR L) ((i+1)*2+1)) (cH B) B.length (((i+1:Nat):Int)).toNat))]) 2 1)] (by kernel_rfl) (by kernel_rfl) ⟨hqtr24_1,(by omega),(K0 (by omega) 65 (Try.underlying65) rfl (inf:=(Try.prog.info? 65).getD default) (by kernel_rfl) (by kernel_rfl)),⟨rfl,B,rfl,rfl,hB⟩,(by have h9:=hL (i+1) (by omega);unfold X9 at h9;omega),(by omega),(by show (cI _).length=_;rw [Z3,Z1];omega),(by omega),(a0R (by omega) (by omega)),(a0R (by omega) (by omega)),trivial⟩ rfl rfl (by decide) rfl ⟨T6 (Y7 (G7 B)),W5 rfl,W5 rfl,W5 rfl,O1 (show ((((i+1:Nat):Int)+1):Int)=((((i+1)+1):Nat):Int) from by omega),O1 (show ((((i+1:Nat):Int)+1):Int)=((((i+1)+1):Nat):Int) from by omega),trivial⟩ ⟨⟨by show 0<4;decide,Y6 (Z8 (U0 (X7 (Y4 [(v0,P0),(v1,P1),(v2,P2)]))) (Z8 (T6 (Y7 (Y0 L))) (Y9)))⟩,⟨by show 1<4;decide,Y6 (Z8 (U9 _) (Z8 (U9 _) (Y9)))⟩,⟨by show 2<4;decide,Y6 (Z8 (U9 _) (Z8 (V2 rfl) (Y9)))⟩,⟨by show 3<4;decide,W0 (E8 (show ((cI (tI (H0 (cR L) (cH B) B.length 0) ((i+1)+1))):List AV)=((cI (tI (H0 (cR L) (cH B) B.length 0) (i+1)))++[(nI0 (pkV (Z9 (cR L) ((i+1)*2+0)) (Z9 (cR L) ((i+1)*2+1)) (cH B) B.length (((i+1:Nat):Int)).toNat))]) from by (first|exact (a1T rfl (by unfold H0;rfl)).symm|exact (a1G (by unfold H0;rw [Nat.zero_add];rfl)).symm)) (Z4 _))⟩,trivial⟩) (Hd.en_on (⟨(i+1)+1,by omega,trivial⟩) (by show (n+1) - ((i+1)+1)<(n+1) - (i+1);omega) rfl)
 ·have ghqtr24_1:=Z5 hqtr24_1
  obtain rfl:n=i:=by omega
  exact Z7 A5 (Z6 zC0q (R7) 200 (T':=(b3r B L P0 P1 P2 n v0 v1 v2 y yl zb)) (e:=.exit 0) (ps:=[Y3 (((n)+1:Nat):Int) L.length=false]) (gH 5 [.b false]) (by kernel_rfl) (by kernel_rfl) ⟨hqtr24_1,trivial⟩ rfl) (Hd.en_sx (c9z hT hB hi2 hqtr24_1))
@[reducible] def b07(B:List Int)(L P0 P1 P2:List (Int×Int))(eb:Nat→Option Nat)(ec:Nat→Nat)(n:Nat)(v:BaseW):=(Hd.AfterN zP0q 73 b16 (bw v 0 eb ec) (D3 zP0q Try.f43 73 ((.agg [.slu 0 0 3 0,.slu 1 0 (n+1) 0])) [(r8 n),(J2 B L n),(I7 B P0 n),(M9 B P1 n),(F3 B P2 n)] (bw v 0 eb ec)))
theorem c7t(hT:k9 L P0 P1 P2 n)(hB:M0 B):Y8 zP0q 73 b6B ((b26 B L P0 P1 P2 v0 v1 v2 y yl zb)) (BaseW.H (bw v 0 eb ec) hs) (b07 B L P0 P1 P2 eb ec n v):=by
 exact Hd.goes_loopA (id:=0) (by kernel_rfl) (by kernel_rfl) (fun i:{i:Nat // i≤(n+1)∧True}=>Ev.fam0 (b25 B L P0 P1 P2 v0 v1 v2 y yl zb) (fun i=>(b2f B L P0 P1 P2 i v0 v1 v2 y yl zb)) i.1) (fun i:{i:Nat // i≤(n+1)∧True}=>(n+1) - i.1) (fun i hs=>match i with|⟨0,h1,h2⟩=>c8X hT hB h1 h2|⟨j+1,h1,h2⟩=>c9I hT hB h1 h2) ⟨0,Nat.zero_le _,trivial⟩ hs
theorem c8K(hT:k9 L P0 P1 P2 n)(hB:M0 B):Y8 zP0q 73 b6B ((b26 B L P0 P1 P2 v0 v1 v2 y yl zb)) (BaseW.H (bw v 0 eb ec) hs) (b07 B L P0 P1 P2 eb ec n v):=by
 exact c7t hT hB
theorem c7Z(hT:k9 L P0 P1 P2 n)(hB:M0 B):Y8 zP0q 73 c1M ((b2l B L P0 P1 P2 v0 v1 v2 y yl zb)) (BaseW.H (bw v 0 eb ec) hs) (b07 B L P0 P1 P2 eb ec n v):=by
 refine Hd.goes_seqA (by kernel_rfl) ?_
 exact Z7 W4 (Z6 zC0q (R7) 200 (T':=(b26 B L P0 P1 P2 v0 v1 v2 y yl zb)) (e:=.normal) (ps:=[]) [.go] (by kernel_rfl) (by kernel_rfl) trivial rfl) (Hd.en_n (c8K hT hB))
theorem c9L(hT:k9 L P0 P1 P2 n)(hB:M0 B):Y8 zP0q 73 c6b ((b2l B L P0 P1 P2 v0 v1 v2 y yl zb)) (BaseW.H (bw v 0 eb ec) hs) (a2k B L P0 P1 P2 eb ec n v):=by
 exact Hd.goes_seqA (by kernel_rfl) (c7Z hT hB)
theorem d0M(hT:k9 L P0 P1 P2 n)(hB:M0 B):Y8 zP0q 73 c9t ((b9Y B L P0 P1 P2 v0 v1 v2 y yl zb)) (BaseW.H (bw v 0 eb ec) hs) (a2k B L P0 P1 P2 eb ec n v):=by
 refine Hd.goes_seqA (by kernel_rfl) ?_
 exact Z7 W4 (Z6 zC0q (R7) 200 (T':=(b2l B L P0 P1 P2 v0 v1 v2 y yl zb)) (e:=.normal) (ps:=[]) [.go] (by kernel_rfl) (by kernel_rfl) trivial rfl) (Hd.en_n (c9L hT hB))
theorem d0p(hT:k9 L P0 P1 P2 n)(hB:M0 B):Y8 zP0q 73 c8s ((b8J B L P0 P1 P2 v0 v1 v2 y yl zb)) (BaseW.H (bw v 0 eb ec) hs) (a2k B L P0 P1 P2 eb ec n v):=by
 refine Hd.goes_seqA (by kernel_rfl) ?_
 exact Z7 W4 (Z6 zC0q (R7) 200 (T':=(b9Y B L P0 P1 P2 v0 v1 v2 y yl zb)) (e:=.normal) (ps:=[]) [.go] (by kernel_rfl) (by kernel_rfl) trivial rfl) (Hd.en_n (d0M hT hB))
end
theorem d1l(y v0:Value)(P0:List (Int×Int))(v1:Value)(P1:List (Int×Int))(v2:Value)(P2:List (Int×Int))(yl:Value)(L:List (Int×Int))(zb:Value)(B:List Int)(n:Nat)(hT:k9 L P0 P1 P2 n)(hB:M0 B)(v:BaseW)(eb:Nat→Option Nat)(ec:Nat→Nat)(hs:List Nat):Y8 zP0q 73 c7G (⟨[(0,(.agg [.xl y 3 1 [.xl v0 P0.length 2 (cR P0),.xl v1 P1.length 2 (cR P1),.xl v2 P2.length 2 (cR P2)],.xl yl L.length 2 (cR L)])),(1,(.xl zb B.length 1 (cH B)))],[],0,[]⟩) (BaseW.H (bw v 0 eb ec) hs) (a2k B L P0 P1 P2 eb ec n v):=by
 refine Hd.goes_seqA (by kernel_rfl) ?_
 exact Z7 W4 (Z6 zC0q (R7) 200 (T':=(b8J B L P0 P1 P2 v0 v1 v2 y yl zb)) (e:=.normal) (ps:=[]) [.go,.go] (by kernel_rfl) (by kernel_rfl) trivial rfl) (Hd.en_n (d0p hT hB))
theorem c6P(y v0:Value)(P0:List (Int×Int))(v1:Value)(P1:List (Int×Int))(v2:Value)(P2:List (Int×Int))(yl:Value)(L:List (Int×Int))(zb:Value)(B:List Int)(n:Nat)(hT:k9 L P0 P1 P2 n)(hB:M0 B):D2 zP0q 43 [(.agg [.xl y 3 1 [.xl v0 P0.length 2 (cR P0),.xl v1 P1.length 2 (cR P1),.xl v2 P2.length 2 (cR P2)],.xl yl L.length 2 (cR L)]),(.xl zb B.length 1 (cH B))] [] ((.agg [.slu 0 0 3 0,.slu 1 0 (n+1) 0])) [(.row [.slu 2 0 (n+1) 0,.slu 3 0 (n+1) 0,.slu 4 0 (n+1) 0] 27 1),(.row (cI (tI (H0 (cR L) (cH B) B.length 0) (n+1))) 2 1),(.row (cI (tI (H0 (cR P0) (cH B) B.length (n+1)) (n+1))) 2 1),(.row (cI (tI (H0 (cR P1) (cH B) B.length (2*(n+1))) (n+1))) 2 1),(.row (cI (tI (H0 (cR P2) (cH B) B.length (3*(n+1))) (n+1))) 2 1)] :=
 O0 73 (by kernel_rfl) Try.func43 (by kernel_rfl) (by kernel_rfl) (by kernel_rfl) (fun v eb ec=>V1 (by kernel_rfl) (by kernel_rfl) (by kernel_rfl) (by kernel_rfl) (d1l y v0 P0 v1 P1 v2 P2 yl L zb B n hT hB v eb ec []))
end
end Go.Proofs.Ytegmogadbnfbgaa
namespace Go.Proofs.Ytegmogadbnfbgaa
open Go Ev
noncomputable section
end
end Go.Proofs.Ytegmogadbnfbgaa
namespace Go.Proofs.Ytegmogadbnfbgaa
open Go Ev
noncomputable section
end
end Go.Proofs.Ytegmogadbnfbgaa
namespace Go.Proofs.Ytegmogadbnfbgaa
open Go Ev
noncomputable section
end
end Go.Proofs.Ytegmogadbnfbgaa
namespace Go.Proofs.Ytegmogadbnfbgaa
open Go Ev
noncomputable section
end
end Go.Proofs.Ytegmogadbnfbgaa
namespace Go.Proofs.Ytegmogadbnfbgaa
open Go Ev
noncomputable section
end
end Go.Proofs.Ytegmogadbnfbgaa
namespace Go.Proofs.Ytegmogadbnfbgaa
open Go Ev
noncomputable section
end
end Go.Proofs.Ytegmogadbnfbgaa
namespace Go.Proofs.Ytegmogadbnfbgaa
open Go Ev
noncomputable section
theorem c4B{c0 c1 c2 cL d:List AV}{n:Nat}:[AV.v (.int .i64 (V7 (U2 (List.take (n*(0+1)) (List.drop 0 (cI (tI (X8 c0 d false) n)))) (List.take (n*(0+1)) (List.drop 0 (cI (tI (X8 c1 d false) n)))) (List.take (n*(0+1)) (List.drop 0 (cI (tI (X8 c2 d false) n)))) (List.take (n*(0+1)) (List.drop 0 (cI (tI (X8 cL d false) n)))) d 0) n)),AV.v (.int .i64 (V7 (U2 (List.take (n*(0+1)) (List.drop 0 (cI (tI (X8 c0 d true) n)))) (List.take (n*(0+1)) (List.drop 0 (cI (tI (X8 c1 d true) n)))) (List.take (n*(0+1)) (List.drop 0 (cI (tI (X8 c2 d true) n)))) (List.take (n*(0+1)) (List.drop 0 (cI (tI (X8 cL d true) n)))) d 0) n)),AV.v (.int .i64 (V7 (U2 (List.take (n*(0+1)) (List.drop 0 (cI (tI (X8 c0 d false) n)))) (List.take (n*(0+1)) (List.drop 0 (cI (tI (X8 c1 d false) n)))) (List.take (n*(0+1)) (List.drop 0 (cI (tI (X8 c2 d false) n)))) (List.take (n*(0+1)) (List.drop 0 (cI (tI (X8 cL d false) n)))) d 1) n)),AV.v (.int .i64 (V7 (U2 (List.take (n*(0+1)) (List.drop 0 (cI (tI (X8 c0 d true) n)))) (List.take (n*(0+1)) (List.drop 0 (cI (tI (X8 c1 d true) n)))) (List.take (n*(0+1)) (List.drop 0 (cI (tI (X8 c2 d true) n)))) (List.take (n*(0+1)) (List.drop 0 (cI (tI (X8 cL d true) n)))) d 1) n)),AV.v (.int .i64 (V7 (U2 (List.take (n*(0+1)) (List.drop 0 (cI (tI (X8 c0 d false) n)))) (List.take (n*(0+1)) (List.drop 0 (cI (tI (X8 c1 d false) n)))) (List.take (n*(0+1)) (List.drop 0 (cI (tI (X8 c2 d false) n)))) (List.take (n*(0+1)) (List.drop 0 (cI (tI (X8 cL d false) n)))) d 2) n)),AV.v (.int .i64 (V7 (U2 (List.take (n*(0+1)) (List.drop 0 (cI (tI (X8 c0 d true) n)))) (List.take (n*(0+1)) (List.drop 0 (cI (tI (X8 c1 d true) n)))) (List.take (n*(0+1)) (List.drop 0 (cI (tI (X8 c2 d true) n)))) (List.take (n*(0+1)) (List.drop 0 (cI (tI (X8 cL d true) n)))) d 2) n))]=[AV.v (.int .i64 (N6 c0 c1 c2 cL d n false 0)),AV.v (.int .i64 (N6 c0 c1 c2 cL d n true 0)),AV.v (.int .i64 (N6 c0 c1 c2 cL d n false 1)),AV.v (.int .i64 (N6 c0 c1 c2 cL d n true 1)),AV.v (.int .i64 (N6 c0 c1 c2 cL d n false 2)),AV.v (.int .i64 (N6 c0 c1 c2 cL d n true 2))]:=by
 unfold N6
 simp only [Y2]
noncomputable def c7x:Code:=O6 Try.f24
set_option maxHeartbeats 16000000 in
theorem c6D(y v0:Value)(P0:List (Int×Int))(v1:Value)(P1:List (Int×Int))(v2:Value)(P2:List (Int×Int))(yl:Value)(L:List (Int×Int))(z:Value)(M:List Int)(zk:Value)(K:List Int)(hC:J0 [.xl v0 P0.length 2 (cR P0),.xl v1 P1.length 2 (cR P1),.xl v2 P2.length 2 (cR P2)] 3 (cR L) L.length=0)(hH1:F2 L.length (cI M) M.length=0)(hH2:F2 L.length (cI K) K.length=0)(v:BaseW)(eb:Nat→Option Nat)(ec:Nat→Nat)(hs:List Nat):Y8 zP0q 22 c7x (⟨[(0,(.agg [.xl y 3 1 [.xl v0 P0.length 2 (cR P0),.xl v1 P1.length 2 (cR P1),.xl v2 P2.length 2 (cR P2)],.xl yl L.length 2 (cR L)])),(1,(.xl z M.length 1 (cI M))),(2,(.xl zk K.length 1 (cI K)))],[],0,[]⟩) (BaseW.H (bw v 0 eb ec) hs) (D3 zP0q Try.f24 22 ((.tup [.slu 0 0 3 0,nI0 0])) [(.row [nI0 (N6 (cR P0) (cR P1) (cR P2) (cR L) (X6 (cI M) (cI K) L.length) L.length false 0),nI0 (N6 (cR P0) (cR P1) (cR P2) (cR L) (X6 (cI M) (cI K) L.length) L.length true 0),nI0 (N6 (cR P0) (cR P1) (cR P2) (cR L) (X6 (cI M) (cI K) L.length) L.length false 1),nI0 (N6 (cR P0) (cR P1) (cR P2) (cR L) (X6 (cI M) (cI K) L.length) L.length true 1),nI0 (N6 (cR P0) (cR P1) (cR P2) (cR L) (X6 (cI M) (cI K) L.length) L.length false 2),nI0 (N6 (cR P0) (cR P1) (cR P2) (cR L) (X6 (cI M) (cI K) L.length) L.length true 2)] 65 2)] (bw v 0 eb ec)):=by
 have hcl_P0:=Z2 P0
 have hcl_P1:=Z2 P1
 have hcl_P2:=Z2 P2
 have hcl_L:=Z2 L
 have hcl_M:=Z3 M
 have hcl_K:=Z3 K
 obtain ⟨hn,-,hrow,hlam,hcur⟩:=V0 hC
 have hM:=(W8 hH1).1
 have hK:=(W8 hH2).1
 exact Z7 T7 (R5 zC0q (V9 b60 (V9 b8G (V9 b5D b5A))) 200 (T':=⟨[(6,(.slu 0 0 3 0)),(7,(nN 0))],[],1,[(0,(.row [(nI0 (V7 (U2 (List.take (L.length*(0+1)) (List.drop 0 (cI (tI (X8 (cR P0) (X6 (cI M) (cI K) L.length) false) L.length)))) (List.take (L.length*(0+1)) (List.drop 0 (cI (tI (X8 (cR P1) (X6 (cI M) (cI K) L.length) false) L.length)))) (List.take (L.length*(0+1)) (List.drop 0 (cI (tI (X8 (cR P2) (X6 (cI M) (cI K) L.length) false) L.length)))) (List.take (L.length*(0+1)) (List.drop 0 (cI (tI (X8 (cR L) (X6 (cI M) (cI K) L.length) false) L.length)))) (X6 (cI M) (cI K) L.length) 0) L.length)),(nI0 (V7 (U2 (List.take (L.length*(0+1)) (List.drop 0 (cI (tI (X8 (cR P0) (X6 (cI M) (cI K) L.length) true) L.length)))) (List.take (L.length*(0+1)) (List.drop 0 (cI (tI (X8 (cR P1) (X6 (cI M) (cI K) L.length) true) L.length)))) (List.take (L.length*(0+1)) (List.drop 0 (cI (tI (X8 (cR P2) (X6 (cI M) (cI K) L.length) true) L.length)))) (List.take (L.length*(0+1)) (List.drop 0 (cI (tI (X8 (cR L) (X6 (cI M) (cI K) L.length) true) L.length)))) (X6 (cI M) (cI K) L.length) 0) L.length)),(nI0 (V7 (U2 (List.take (L.length*(0+1)) (List.drop 0 (cI (tI (X8 (cR P0) (X6 (cI M) (cI K) L.length) false) L.length)))) (List.take (L.length*(0+1)) (List.drop 0 (cI (tI (X8 (cR P1) (X6 (cI M) (cI K) L.length) false) L.length)))) (List.take (L.length*(0+1)) (List.drop 0 (cI (tI (X8 (cR P2) (X6 (cI M) (cI K) L.length) false) L.length)))) (List.take (L.length*(0+1)) (List.drop 0 (cI (tI (X8 (cR L) (X6 (cI M) (cI K) L.length) false) L.length)))) (X6 (cI M) (cI K) L.length) 1) L.length)),(nI0 (V7 (U2 (List.take (L.length*(0+1)) (List.drop 0 (cI (tI (X8 (cR P0) (X6 (cI M) (cI K) L.length) true) L.length)))) (List.take (L.length*(0+1)) (List.drop 0 (cI (tI (X8 (cR P1) (X6 (cI M) (cI K) L.length) true) L.length)))) (List.take (L.length*(0+1)) (List.drop 0 (cI (tI (X8 (cR P2) (X6 (cI M) (cI K) L.length) true) L.length)))) (List.take (L.length*(0+1)) (List.drop 0 (cI (tI (X8 (cR L) (X6 (cI M) (cI K) L.length) true) L.length)))) (X6 (cI M) (cI K) L.length) 1) L.length)),(nI0 (V7 (U2 (List.take (L.length*(0+1)) (List.drop 0 (cI (tI (X8 (cR P0) (X6 (cI M) (cI K) L.length) false) L.length)))) (List.take (L.length*(0+1)) (List.drop 0 (cI (tI (X8 (cR P1) (X6 (cI M) (cI K) L.length) false) L.length)))) (List.take (L.length*(0+1)) (List.drop 0 (cI (tI (X8 (cR P2) (X6 (cI M) (cI K) L.length) false) L.length)))) (List.take (L.length*(0+1)) (List.drop 0 (cI (tI (X8 (cR L) (X6 (cI M) (cI K) L.length) false) L.length)))) (X6 (cI M) (cI K) L.length) 2) L.length)),(nI0 (V7 (U2 (List.take (L.length*(0+1)) (List.drop 0 (cI (tI (X8 (cR P0) (X6 (cI M) (cI K) L.length) true) L.length)))) (List.take (L.length*(0+1)) (List.drop 0 (cI (tI (X8 (cR P1) (X6 (cI M) (cI K) L.length) true) L.length)))) (List.take (L.length*(0+1)) (List.drop 0 (cI (tI (X8 (cR P2) (X6 (cI M) (cI K) L.length) true) L.length)))) (List.take (L.length*(0+1)) (List.drop 0 (cI (tI (X8 (cR L) (X6 (cI M) (cI K) L.length) true) L.length)))) (X6 (cI M) (cI K) L.length) 2) L.length))] 65 2))]⟩) (e:=.ret) (m:=39) (ps:=[0+2*(0+1)≤([(.xl (z) (M.length) 1 (cI M)),(.xl (zk) (K.length) 1 (cI K))]:List AV).length,((2:Nat)≤2),P8 1 [AV.xl v0 P0.length 2 (cR P0),AV.xl v1 P1.length 2 (cR P1),AV.xl v2 P2.length 2 (cR P2)] 3,W9 2 L.length (cR L),I8 (0+1) M.length (cI M),I8 (0+1) K.length (cI K),c7J 2,((3:Nat)≤1000),M.length≤1000,K.length≤1000,a1D (J0 [AV.xl v0 P0.length 2 (cR P0),AV.xl v1 P1.length 2 (cR P1),AV.xl v2 P2.length 2 (cR P2)] 3 (cR L) L.length) (F2 L.length (cI M) M.length) (F2 L.length (cI K) K.length)=0,(!N5 0 0)=false,R8 [AV.xl v0 P0.length 2 (cR P0),AV.xl v1 P1.length 2 (cR P1),AV.xl v2 P2.length 2 (cR P2)],R8 (cR L),R8 (cI M),R8 (cI K),P8 1 [AV.xl v0 P0.length 2 (cR P0),AV.xl v1 P1.length 2 (cR P1),AV.xl v2 P2.length 2 (cR P2)] 3,W9 2 L.length (cR L),I8 1 M.length (cI M),I8 1 K.length (cI K),R8 [AV.xl v0 P0.length 2 (cR P0),AV.xl v1 P1.length 2 (cR P1),AV.xl v2 P2.length 2 (cR P2)],R8 (cR L),P8 1 [AV.xl v0 P0.length 2 (cR P0),AV.xl v1 P1.length 2 (cR P1),AV.xl v2 P2.length 2 (cR P2)] 3,W9 2 L.length (cR L),I8 1 M.length (cI M),I8 1 K.length (cI K),W9 2 L.length (cR L),1≤L.length∧L.length≤8,L.length=L.length,M.length=L.length,K.length=L.length,a3P (cI M) (cI K) L.length,Y3 0 3=true,P8 1 [AV.xl v0 P0.length 2 (cR P0),AV.xl v1 P1.length 2 (cR P1),AV.xl v2 P2.length 2 (cR P2)] 3,W9 2 L.length (cR L),I8 1 M.length (cI M),I8 1 K.length (cI K),W9 2 P0.length (cR P0),1≤L.length∧L.length≤8,P0.length=L.length,M.length=L.length,K.length=L.length,a3P (cI M) (cI K) L.length,K4 IntKind.i64 (0+1),Y3 (0+1) 3=true,P8 1 [AV.xl v0 P0.length 2 (cR P0),AV.xl v1 P1.length 2 (cR P1),AV.xl v2 P2.length 2 (cR P2)] 3,W9 2 L.length (cR L),I8 1 M.length (cI M),I8 1 K.length (cI K),W9 2 P1.length (cR P1),1≤L.length∧L.length≤8,P1.length=L.length,M.length=L.length,K.length=L.length,a3P (cI M) (cI K) L.length,K4 IntKind.i64 (0+1+1),Y3 (0+1+1) 3=true,P8 1 [AV.xl v0 P0.length 2 (cR P0),AV.xl v1 P1.length 2 (cR P1),AV.xl v2 P2.length 2 (cR P2)] 3,W9 2 L.length (cR L),I8 1 M.length (cI M),I8 1 K.length (cI K),W9 2 P2.length (cR P2),1≤L.length∧L.length≤8,P2.length=L.length,M.length=L.length,K.length=L.length,a3P (cI M) (cI K) L.length,K4 IntKind.i64 (0+1+1+1),Y3 (0+1+1+1) 3=false,0+(0+1+1+1)*(0+1)≤([(.slu 9 0 (L.length) 0),(.slu 12 0 (L.length) 0),(.slu 15 0 (L.length) 0)]:List AV).length,0+L.length*(0+1)≤((cI (tI (X8 (cR P0) (X6 (cI M) (cI K) L.length) false) L.length)):List AV).length,0+L.length*(0+1)≤((cI (tI (X8 (cR P1) (X6 (cI M) (cI K) L.length) false) L.length)):List AV).length,0+L.length*(0+1)≤((cI (tI (X8 (cR P2) (X6 (cI M) (cI K) L.length) false) L.length)):List AV).length,0+L.length*(0+1)≤((cI (tI (X8 (cR L) (X6 (cI M) (cI K) L.length) false) L.length)):List AV).length,P8 1 [AV.xl v0 P0.length 2 (cR P0),AV.xl v1 P1.length 2 (cR P1),AV.xl v2 P2.length 2 (cR P2)] 3,W9 2 L.length (cR L),I8 1 M.length (cI M),I8 1 K.length (cI K),L.length≤8,F0 (0+1) L.length (List.take (L.length*(0+1)) (List.drop 0 (cI (tI (X8 (cR P0) (X6 (cI M) (cI K) L.length) false) L.length)))),F0 (0+1) L.length (List.take (L.length*(0+1)) (List.drop 0 (cI (tI (X8 (cR P1) (X6 (cI M) (cI K) L.length) false) L.length)))),F0 (0+1) L.length (List.take (L.length*(0+1)) (List.drop 0 (cI (tI (X8 (cR P2) (X6 (cI M) (cI K) L.length) false) L.length)))),F0 (0+1) L.length (List.take (L.length*(0+1)) (List.drop 0 (cI (tI (X8 (cR L) (X6 (cI M) (cI K) L.length) false) L.length)))),L.length=L.length,L.length=L.length,L.length=L.length,L.length=L.length,M.length=L.length,K.length=L.length,Is3 (0+1+1+1),c1b (List.take (L.length*(0+1)) (List.drop 0 (cI (tI (X8 (cR P0) (X6 (cI M) (cI K) L.length) false) L.length)))) (List.take (L.length*(0+1)) (List.drop 0 (cI (tI (X8 (cR P1) (X6 (cI M) (cI K) L.length) false) L.length)))) (List.take (L.length*(0+1)) (List.drop 0 (cI (tI (X8 (cR P2) (X6 (cI M) (cI K) L.length) false) L.length)))) (List.take (L.length*(0+1)) (List.drop 0 (cI (tI (X8 (cR L) (X6 (cI M) (cI K) L.length) false) L.length)))) L.length,a3P (cI M) (cI K) L.length,P8 1 [AV.xl v0 P0.length 2 (cR P0),AV.xl v1 P1.length 2 (cR P1),AV.xl v2 P2.length 2 (cR P2)] 3,W9 2 L.length (cR L),I8 1 M.length (cI M),I8 1 K.length (cI K),W9 2 L.length (cR L),1≤L.length∧L.length≤8,L.length=L.length,M.length=L.length,K.length=L.length,a3P (cI M) (cI K) L.length,Y3 0 3=true,P8 1 [AV.xl v0 P0.length 2 (cR P0),AV.xl v1 P1.length 2 (cR P1),AV.xl v2 P2.length 2 (cR P2)] 3,W9 2 L.length (cR L),I8 1 M.length (cI M),I8 1 K.length (cI K),W9 2 P0.length (cR P0),1≤L.length∧L.length≤8,P0.length=L.length,M.length=L.length,K.length=L.length,a3P (cI M) (cI K) L.length,K4 IntKind.i64 (0+1),Y3 (0+1) 3=true,P8 1 [AV.xl v0 P0.length 2 (cR P0),AV.xl v1 P1.length 2 (cR P1),AV.xl v2 P2.length 2 (cR P2)] 3,W9 2 L.length (cR L),I8 1 M.length (cI M),I8 1 K.length (cI K),W9 2 P1.length (cR P1),1≤L.length∧L.length≤8,P1.length=L.length,M.length=L.length,K.length=L.length,a3P (cI M) (cI K) L.length,K4 IntKind.i64 (0+1+1),Y3 (0+1+1) 3=true,P8 1 [AV.xl v0 P0.length 2 (cR P0),AV.xl v1 P1.length 2 (cR P1),AV.xl v2 P2.length 2 (cR P2)] 3,W9 2 L.length (cR L),I8 1 M.length (cI M),I8 1 K.length (cI K),W9 2 P2.length (cR P2),1≤L.length∧L.length≤8,P2.length=L.length,M.length=L.length,K.length=L.length,a3P (cI M) (cI K) L.length,K4 IntKind.i64 (0+1+1+1),Y3 (0+1+1+1) 3=false,0+(0+1+1+1)*(0+1)≤([(.slu 22 0 (L.length) 0),(.slu 25 0 (L.length) 0),(.slu 28 0 (L.length) 0)]:List AV).length,0+L.length*(0+1)≤((cI (tI (X8 (cR P0) (X6 (cI M) (cI K) L.length) true) L.length)):List AV).length,0+L.length*(0+1)≤((cI (tI (X8 (cR P1) (X6 (cI M) (cI K) L.length) true) L.length)):List AV).length,0+L.length*(0+1)≤((cI (tI (X8 (cR P2) (X6 (cI M) (cI K) L.length) true) L.length)):List AV).length,0+L.length*(0+1)≤((cI (tI (X8 (cR L) (X6 (cI M) (cI K) L.length) true) L.length)):List AV).length,P8 1 [AV.xl v0 P0.length 2 (cR P0),AV.xl v1 P1.length 2 (cR P1),AV.xl v2 P2.length 2 (cR P2)] 3,W9 2 L.length (cR L),I8 1 M.length (cI M),I8 1 K.length (cI K),L.length≤8,F0 (0+1) L.length (List.take (L.length*(0+1)) (List.drop 0 (cI (tI (X8 (cR P0) (X6 (cI M) (cI K) L.length) true) L.length)))),F0 (0+1) L.length (List.take (L.length*(0+1)) (List.drop 0 (cI (tI (X8 (cR P1) (X6 (cI M) (cI K) L.length) true) L.length)))),F0 (0+1) L.length (List.take (L.length*(0+1)) (List.drop 0 (cI (tI (X8 (cR P2) (X6 (cI M) (cI K) L.length) true) L.length)))),F0 (0+1) L.length (List.take (L.length*(0+1)) (List.drop 0 (cI (tI (X8 (cR L) (X6 (cI M) (cI K) L.length) true) L.length)))),L.length=L.length,L.length=L.length,L.length=L.length,L.length=L.length,M.length=L.length,K.length=L.length,Is3 (0+1+1+1),c1b (List.take (L.length*(0+1)) (List.drop 0 (cI (tI (X8 (cR P0) (X6 (cI M) (cI K) L.length) true) L.length)))) (List.take (L.length*(0+1)) (List.drop 0 (cI (tI (X8 (cR P1) (X6 (cI M) (cI K) L.length) true) L.length)))) (List.take (L.length*(0+1)) (List.drop 0 (cI (tI (X8 (cR P2) (X6 (cI M) (cI K) L.length) true) L.length)))) (List.take (L.length*(0+1)) (List.drop 0 (cI (tI (X8 (cR L) (X6 (cI M) (cI K) L.length) true) L.length)))) L.length,a3P (cI M) (cI K) L.length,Y3 0 3=true,K4 IntKind.i64 (0+1),Y3 (0+1) 3=true,K4 IntKind.i64 (0+1+1),Y3 (0+1+1) 3=true,K4 IntKind.i64 (0+1+1+1),Y3 (0+1+1+1) 3=false]) (gH 10 ([.b false]++gH 23 ([.b true]++gH 15 ([.b true]++gH 15 ([.b true]++gH 15 ([.b false]++gH 20 ([.b true]++gH 15 ([.b true]++gH 15 ([.b true]++gH 15 ([.b false]++gH 9 ([.b true]++gH 16 ([.b true]++gH 16 ([.b true]++gH 16 ([.b false]++gH 4 [])))))))))))))) [38] [(.slu 38 0 3 0),(nN 0)] [(.row [(nI0 (V7 (U2 (List.take (L.length*(0+1)) (List.drop 0 (cI (tI (X8 (cR P0) (X6 (cI M) (cI K) L.length) false) L.length)))) (List.take (L.length*(0+1)) (List.drop 0 (cI (tI (X8 (cR P1) (X6 (cI M) (cI K) L.length) false) L.length)))) (List.take (L.length*(0+1)) (List.drop 0 (cI (tI (X8 (cR P2) (X6 (cI M) (cI K) L.length) false) L.length)))) (List.take (L.length*(0+1)) (List.drop 0 (cI (tI (X8 (cR L) (X6 (cI M) (cI K) L.length) false) L.length)))) (X6 (cI M) (cI K) L.length) 0) L.length)),(nI0 (V7 (U2 (List.take (L.length*(0+1)) (List.drop 0 (cI (tI (X8 (cR P0) (X6 (cI M) (cI K) L.length) true) L.length)))) (List.take (L.length*(0+1)) (List.drop 0 (cI (tI (X8 (cR P1) (X6 (cI M) (cI K) L.length) true) L.length)))) (List.take (L.length*(0+1)) (List.drop 0 (cI (tI (X8 (cR P2) (X6 (cI M) (cI K) L.length) true) L.length)))) (List.take (L.length*(0+1)) (List.drop 0 (cI (tI (X8 (cR L) (X6 (cI M) (cI K) L.length) true) L.length)))) (X6 (cI M) (cI K) L.length) 0) L.length)),(nI0 (V7 (U2 (List.take (L.length*(0+1)) (List.drop 0 (cI (tI (X8 (cR P0) (X6 (cI M) (cI K) L.length) false) L.length)))) (List.take (L.length*(0+1)) (List.drop 0 (cI (tI (X8 (cR P1) (X6 (cI M) (cI K) L.length) false) L.length)))) (List.take (L.length*(0+1)) (List.drop 0 (cI (tI (X8 (cR P2) (X6 (cI M) (cI K) L.length) false) L.length)))) (List.take (L.length*(0+1)) (List.drop 0 (cI (tI (X8 (cR L) (X6 (cI M) (cI K) L.length) false) L.length)))) (X6 (cI M) (cI K) L.length) 1) L.length)),(nI0 (V7 (U2 (List.take (L.length*(0+1)) (List.drop 0 (cI (tI (X8 (cR P0) (X6 (cI M) (cI K) L.length) true) L.length)))) (List.take (L.length*(0+1)) (List.drop 0 (cI (tI (X8 (cR P1) (X6 (cI M) (cI K) L.length) true) L.length)))) (List.take (L.length*(0+1)) (List.drop 0 (cI (tI (X8 (cR P2) (X6 (cI M) (cI K) L.length) true) L.length)))) (List.take (L.length*(0+1)) (List.drop 0 (cI (tI (X8 (cR L) (X6 (cI M) (cI K) L.length) true) L.length)))) (X6 (cI M) (cI K) L.length) 1) L.length)),(nI0 (V7 (U2 (List.take (L.length*(0+1)) (List.drop 0 (cI (tI (X8 (cR P0) (X6 (cI M) (cI K) L.length) false) L.length)))) (List.take (L.length*(0+1)) (List.drop 0 (cI (tI (X8 (cR P1) (X6 (cI M) (cI K) L.length) false) L.length)))) (List.take (L.length*(0+1)) (List.drop 0 (cI (tI (X8 (cR P2) (X6 (cI M) (cI K) L.length) false) L.length)))) (List.take (L.length*(0+1)) (List.drop 0 (cI (tI (X8 (cR L) (X6 (cI M) (cI K) L.length) false) L.length)))) (X6 (cI M) (cI K) L.length) 2) L.length)),(nI0 (V7 (U2 (List.take (L.length*(0+1)) (List.drop 0 (cI (tI (X8 (cR P0) (X6 (cI M) (cI K) L.length) true) L.length)))) (List.take (L.length*(0+1)) (List.drop 0 (cI (tI (X8 (cR P1) (X6 (cI M) (cI K) L.length) true) L.length)))) (List.take (L.length*(0+1)) (List.drop 0 (cI (tI (X8 (cR P2) (X6 (cI M) (cI K) L.length) true) L.length)))) (List.take (L.length*(0+1)) (List.drop 0 (cI (tI (X8 (cR L) (X6 (cI M) (cI K) L.length) true) L.length)))) (X6 (cI M) (cI K) L.length) 2) L.length))] 65 2)] (by kernel_rfl) (by kernel_rfl) ⟨(by show 0+2*(0+1)≤2;decide),(by decide),⟨rfl,[(v0,P0),(v1,P1),(v2,P2)],rfl,rfl⟩,⟨rfl,L,rfl,rfl⟩,⟨rfl,M,rfl,rfl⟩,⟨rfl,K,rfl,rfl⟩,rfl,(by decide),(by omega),(by omega),((a8L hC hH1).trans hH2),rfl,(Y4 [(v0,P0),(v1,P1),(v2,P2)]),(Y5 (Y0 _)),(Y5 (Z4 _)),(Y5 (Z4 _)),⟨rfl,[(v0,P0),(v1,P1),(v2,P2)],rfl,rfl⟩,⟨rfl,L,rfl,rfl⟩,⟨rfl,M,rfl,rfl⟩,⟨rfl,K,rfl,rfl⟩,(Y4 [(v0,P0),(v1,P1),(v2,P2)]),(Y5 (Y0 _)),⟨rfl,[(v0,P0),(v1,P1),(v2,P2)],rfl,rfl⟩,⟨rfl,L,rfl,rfl⟩,⟨rfl,M,rfl,rfl⟩,⟨rfl,K,rfl,rfl⟩,⟨rfl,L,rfl,rfl⟩,hn,rfl,hM,hK,(a2R hH1 hH2),rfl,⟨rfl,[(v0,P0),(v1,P1),(v2,P2)],rfl,rfl⟩,⟨rfl,L,rfl,rfl⟩,⟨rfl,M,rfl,rfl⟩,⟨rfl,K,rfl,rfl⟩,⟨rfl,P0,rfl,rfl⟩,hn,(hrow 0 (by decide)),hM,hK,(a2R hH1 hH2),(by show -9223372036854775808≤(_:Int)∧(_:Int)≤9223372036854775807;constructor<;>decide),rfl,⟨rfl,[(v0,P0),(v1,P1),(v2,P2)],rfl,rfl⟩,⟨rfl,L,rfl,rfl⟩,⟨rfl,M,rfl,rfl⟩,⟨rfl,K,rfl,rfl⟩,⟨rfl,P1,rfl,rfl⟩,hn,(hrow 1 (by decide)),hM,hK,(a2R hH1 hH2),(by show -9223372036854775808≤(_:Int)∧(_:Int)≤9223372036854775807;constructor<;>decide),rfl,⟨rfl,[(v0,P0),(v1,P1),(v2,P2)],rfl,rfl⟩,⟨rfl,L,rfl,rfl⟩,⟨rfl,M,rfl,rfl⟩,⟨rfl,K,rfl,rfl⟩,⟨rfl,P2,rfl,rfl⟩,hn,(hrow 2 (by decide)),hM,hK,(a2R hH1 hH2),(by show -9223372036854775808≤(_:Int)∧(_:Int)≤9223372036854775807;constructor<;>decide),rfl,(by show 0+3*(0+1)≤3;decide),(by rw [Z3,Z1];omega),(by rw [Z3,Z1];omega),(by rw [Z3,Z1];omega),(by rw [Z3,Z1];omega),⟨rfl,[(v0,P0),(v1,P1),(v2,P2)],rfl,rfl⟩,⟨rfl,L,rfl,rfl⟩,⟨rfl,M,rfl,rfl⟩,⟨rfl,K,rfl,rfl⟩,hn.2,⟨rfl,_,Y2,(Z1 _ _).symm⟩,⟨rfl,_,Y2,(Z1 _ _).symm⟩,⟨rfl,_,Y2,(Z1 _ _).symm⟩,⟨rfl,_,Y2,(Z1 _ _).symm⟩,rfl,rfl,rfl,rfl,hM,hK,rfl,(by rw [Y2,Y2,Y2,Y2];exact b77 (hcur 0 (by decide)) (hcur 1 (by decide)) (hcur 2 (by decide)) hlam),(a2R hH1 hH2),⟨rfl,[(v0,P0),(v1,P1),(v2,P2)],rfl,rfl⟩,⟨rfl,L,rfl,rfl⟩,⟨rfl,M,rfl,rfl⟩,⟨rfl,K,rfl,rfl⟩,⟨rfl,L,rfl,rfl⟩,hn,rfl,hM,hK,(a2R hH1 hH2),rfl,⟨rfl,[(v0,P0),(v1,P1),(v2,P2)],rfl,rfl⟩,⟨rfl,L,rfl,rfl⟩,⟨rfl,M,rfl,rfl⟩,⟨rfl,K,rfl,rfl⟩,⟨rfl,P0,rfl,rfl⟩,hn,(hrow 0 (by decide)),hM,hK,(a2R hH1 hH2),(by show -9223372036854775808≤(_:Int)∧(_:Int)≤9223372036854775807;constructor<;>decide),rfl,⟨rfl,[(v0,P0),(v1,P1),(v2,P2)],rfl,rfl⟩,⟨rfl,L,rfl,rfl⟩,⟨rfl,M,rfl,rfl⟩,⟨rfl,K,rfl,rfl⟩,⟨rfl,P1,rfl,rfl⟩,hn,(hrow 1 (by decide)),hM,hK,(a2R hH1 hH2),(by show -9223372036854775808≤(_:Int)∧(_:Int)≤9223372036854775807;constructor<;>decide),rfl,⟨rfl,[(v0,P0),(v1,P1),(v2,P2)],rfl,rfl⟩,⟨rfl,L,rfl,rfl⟩,⟨rfl,M,rfl,rfl⟩,⟨rfl,K,rfl,rfl⟩,⟨rfl,P2,rfl,rfl⟩,hn,(hrow 2 (by decide)),hM,hK,(a2R hH1 hH2),(by show -9223372036854775808≤(_:Int)∧(_:Int)≤9223372036854775807;constructor<;>decide),rfl,(by show 0+3*(0+1)≤3;decide),(by rw [Z3,Z1];omega),(by rw [Z3,Z1];omega),(by rw [Z3,Z1];omega),(by rw [Z3,Z1];omega),⟨rfl,[(v0,P0),(v1,P1),(v2,P2)],rfl,rfl⟩,⟨rfl,L,rfl,rfl⟩,⟨rfl,M,rfl,rfl⟩,⟨rfl,K,rfl,rfl⟩,hn.2,⟨rfl,_,Y2,(Z1 _ _).symm⟩,⟨rfl,_,Y2,(Z1 _ _).symm⟩,⟨rfl,_,Y2,(Z1 _ _).symm⟩,⟨rfl,_,Y2,(Z1 _ _).symm⟩,rfl,rfl,rfl,rfl,hM,hK,rfl,(by rw [Y2,Y2,Y2,Y2];exact b77 (hcur 0 (by decide)) (hcur 1 (by decide)) (hcur 2 (by decide)) hlam),(a2R hH1 hH2),rfl,(by show -9223372036854775808≤(_:Int)∧(_:Int)≤9223372036854775807;constructor<;>decide),rfl,(by show -9223372036854775808≤(_:Int)∧(_:Int)≤9223372036854775807;constructor<;>decide),rfl,(by show -9223372036854775808≤(_:Int)∧(_:Int)≤9223372036854775807;constructor<;>decide),rfl,trivial⟩ rfl rfl (by decide) rfl ⟨V2 rfl,U9 _,trivial⟩ ⟨⟨by show 0<1;decide,W0 (Z8 (U9 _) (Z8 (U9 _) (Z8 (U9 _) (Z8 (U9 _) (Z8 (U9 _) (Z8 (U9 _) (Y9)))))))⟩,trivial⟩) (r7 (r:=(.tup [(.slu 0 0 3 0),(nN 0)])) (ys:=[(.row [(nI0 (V7 (U2 (List.take (L.length*(0+1)) (List.drop 0 (cI (tI (X8 (cR P0) (X6 (cI M) (cI K) L.length) false) L.length)))) (List.take (L.length*(0+1)) (List.drop 0 (cI (tI (X8 (cR P1) (X6 (cI M) (cI K) L.length) false) L.length)))) (List.take (L.length*(0+1)) (List.drop 0 (cI (tI (X8 (cR P2) (X6 (cI M) (cI K) L.length) false) L.length)))) (List.take (L.length*(0+1)) (List.drop 0 (cI (tI (X8 (cR L) (X6 (cI M) (cI K) L.length) false) L.length)))) (X6 (cI M) (cI K) L.length) 0) L.length)),(nI0 (V7 (U2 (List.take (L.length*(0+1)) (List.drop 0 (cI (tI (X8 (cR P0) (X6 (cI M) (cI K) L.length) true) L.length)))) (List.take (L.length*(0+1)) (List.drop 0 (cI (tI (X8 (cR P1) (X6 (cI M) (cI K) L.length) true) L.length)))) (List.take (L.length*(0+1)) (List.drop 0 (cI (tI (X8 (cR P2) (X6 (cI M) (cI K) L.length) true) L.length)))) (List.take (L.length*(0+1)) (List.drop 0 (cI (tI (X8 (cR L) (X6 (cI M) (cI K) L.length) true) L.length)))) (X6 (cI M) (cI K) L.length) 0) L.length)),(nI0 (V7 (U2 (List.take (L.length*(0+1)) (List.drop 0 (cI (tI (X8 (cR P0) (X6 (cI M) (cI K) L.length) false) L.length)))) (List.take (L.length*(0+1)) (List.drop 0 (cI (tI (X8 (cR P1) (X6 (cI M) (cI K) L.length) false) L.length)))) (List.take (L.length*(0+1)) (List.drop 0 (cI (tI (X8 (cR P2) (X6 (cI M) (cI K) L.length) false) L.length)))) (List.take (L.length*(0+1)) (List.drop 0 (cI (tI (X8 (cR L) (X6 (cI M) (cI K) L.length) false) L.length)))) (X6 (cI M) (cI K) L.length) 1) L.length)),(nI0 (V7 (U2 (List.take (L.length*(0+1)) (List.drop 0 (cI (tI (X8 (cR P0) (X6 (cI M) (cI K) L.length) true) L.length)))) (List.take (L.length*(0+1)) (List.drop 0 (cI (tI (X8 (cR P1) (X6 (cI M) (cI K) L.length) true) L.length)))) (List.take (L.length*(0+1)) (List.drop 0 (cI (tI (X8 (cR P2) (X6 (cI M) (cI K) L.length) true) L.length)))) (List.take (L.length*(0+1)) (List.drop 0 (cI (tI (X8 (cR L) (X6 (cI M) (cI K) L.length) true) L.length)))) (X6 (cI M) (cI K) L.length) 1) L.length)),(nI0 (V7 (U2 (List.take (L.length*(0+1)) (List.drop 0 (cI (tI (X8 (cR P0) (X6 (cI M) (cI K) L.length) false) L.length)))) (List.take (L.length*(0+1)) (List.drop 0 (cI (tI (X8 (cR P1) (X6 (cI M) (cI K) L.length) false) L.length)))) (List.take (L.length*(0+1)) (List.drop 0 (cI (tI (X8 (cR P2) (X6 (cI M) (cI K) L.length) false) L.length)))) (List.take (L.length*(0+1)) (List.drop 0 (cI (tI (X8 (cR L) (X6 (cI M) (cI K) L.length) false) L.length)))) (X6 (cI M) (cI K) L.length) 2) L.length)),(nI0 (V7 (U2 (List.take (L.length*(0+1)) (List.drop 0 (cI (tI (X8 (cR P0) (X6 (cI M) (cI K) L.length) true) L.length)))) (List.take (L.length*(0+1)) (List.drop 0 (cI (tI (X8 (cR P1) (X6 (cI M) (cI K) L.length) true) L.length)))) (List.take (L.length*(0+1)) (List.drop 0 (cI (tI (X8 (cR P2) (X6 (cI M) (cI K) L.length) true) L.length)))) (List.take (L.length*(0+1)) (List.drop 0 (cI (tI (X8 (cR L) (X6 (cI M) (cI K) L.length) true) L.length)))) (X6 (cI M) (cI K) L.length) 2) L.length))] 65 2)]) (by rfl) (by (exact congrArg (fun x=>[AB.row x 65 2]) c4B)) (B0 (by kernel_rfl) (by kernel_rfl) rfl (.inr rfl)))
theorem c6Z(y v0:Value)(P0:List (Int×Int))(v1:Value)(P1:List (Int×Int))(v2:Value)(P2:List (Int×Int))(yl:Value)(L:List (Int×Int))(z:Value)(M:List Int)(zk:Value)(K:List Int)(hC:J0 [.xl v0 P0.length 2 (cR P0),.xl v1 P1.length 2 (cR P1),.xl v2 P2.length 2 (cR P2)] 3 (cR L) L.length=0)(hH1:F2 L.length (cI M) M.length=0)(hH2:F2 L.length (cI K) K.length=0):D2 zP0q 24 [(.agg [.xl y 3 1 [.xl v0 P0.length 2 (cR P0),.xl v1 P1.length 2 (cR P1),.xl v2 P2.length 2 (cR P2)],.xl yl L.length 2 (cR L)]),(.xl z M.length 1 (cI M)),(.xl zk K.length 1 (cI K))] [] ((.tup [.slu 0 0 3 0,nI0 0])) [(.row [nI0 (N6 (cR P0) (cR P1) (cR P2) (cR L) (X6 (cI M) (cI K) L.length) L.length false 0),nI0 (N6 (cR P0) (cR P1) (cR P2) (cR L) (X6 (cI M) (cI K) L.length) L.length true 0),nI0 (N6 (cR P0) (cR P1) (cR P2) (cR L) (X6 (cI M) (cI K) L.length) L.length false 1),nI0 (N6 (cR P0) (cR P1) (cR P2) (cR L) (X6 (cI M) (cI K) L.length) L.length true 1),nI0 (N6 (cR P0) (cR P1) (cR P2) (cR L) (X6 (cI M) (cI K) L.length) L.length false 2),nI0 (N6 (cR P0) (cR P1) (cR P2) (cR L) (X6 (cI M) (cI K) L.length) L.length true 2)] 65 2)] :=
 O0 22 (by kernel_rfl) Try.func24 (by kernel_rfl) (by kernel_rfl) (by kernel_rfl) (fun v eb ec=>V1 (by kernel_rfl) (by kernel_rfl) (by kernel_rfl) (by kernel_rfl) (c6D y v0 P0 v1 P1 v2 P2 yl L z M zk K hC hH1 hH2 v eb ec []))
end
end Go.Proofs.Ytegmogadbnfbgaa
namespace Go.Proofs.Ytegmogadbnfbgaa
open Go Ev
noncomputable section
end
end Go.Proofs.Ytegmogadbnfbgaa
namespace Go.Proofs.Ytegmogadbnfbgaa
open Go Ev
noncomputable section
end
end Go.Proofs.Ytegmogadbnfbgaa
namespace Go.Proofs.Ytegmogadbnfbgaa
open Go Ev
noncomputable section
def c9r:List AV→List AB→Option ((AV×List AB)×List Prop):=fun args xs =>
 match args,xs with
 |[.agg [.xl y m k1 [.xl v0 n0 j0 c0,.xl v1 n1 j1 c1,.xl v2 n2 j2 c2],.xl yl n k2 cL],.xl z r k5 cM,.xl zk s k6 cK],[]=>some ((.tup [.slu 0 0 3 0,.v (.int .i64 0)],[.row [.v (.int .i64 (N6 c0 c1 c2 cL (X6 cM cK n) n false 0)),.v (.int .i64 (N6 c0 c1 c2 cL (X6 cM cK n) n true 0)),.v (.int .i64 (N6 c0 c1 c2 cL (X6 cM cK n) n false 1)),.v (.int .i64 (N6 c0 c1 c2 cL (X6 cM cK n) n true 1)),.v (.int .i64 (N6 c0 c1 c2 cL (X6 cM cK n) n false 2)),.v (.int .i64 (N6 c0 c1 c2 cL (X6 cM cK n) n true 2))] 65 2]),[Is1 k1,Is3 m,W9 j0 n0 c0,W9 j1 n1 c1,W9 j2 n2 c2,W9 k2 n cL,I8 k5 r cM,I8 k6 s cK,J0 [.xl v0 n0 j0 c0,.xl v1 n1 j1 c1,.xl v2 n2 j2 c2] m cL n=0,F2 n cM r=0,F2 n cK s=0])
 |_,_=>none
def c7D:N7:=a7Y 24 c9r
theorem b5I:Known zP0q (clsO c7D):=a11 (fun args xs r ys ps h hp=>by
 unfold c9r at h
 split at h
 ·cases h
  obtain ⟨rfl,rfl,⟨rfl,P0,rfl,rfl⟩,⟨rfl,P1,rfl,rfl⟩,⟨rfl,P2,rfl,rfl⟩,⟨rfl,L,rfl,rfl⟩,⟨rfl,M,rfl,rfl⟩,⟨rfl,K,rfl,rfl⟩,h1,h2,h3,-⟩:=hp
  exact ⟨fun x hx=>absurd hx List.not_mem_nil,fun x hx=>by rw [List.mem_singleton.1 hx];exact M7 (Y5 (show N8 [.v (.int .i64 (N6 (cR P0) (cR P1) (cR P2) (cR L) (X6 (cI M) (cI K) L.length) L.length false 0)),.v (.int .i64 (N6 (cR P0) (cR P1) (cR P2) (cR L) (X6 (cI M) (cI K) L.length) L.length true 0)),.v (.int .i64 (N6 (cR P0) (cR P1) (cR P2) (cR L) (X6 (cI M) (cI K) L.length) L.length false 1)),.v (.int .i64 (N6 (cR P0) (cR P1) (cR P2) (cR L) (X6 (cI M) (cI K) L.length) L.length true 1)),.v (.int .i64 (N6 (cR P0) (cR P1) (cR P2) (cR L) (X6 (cI M) (cI K) L.length) L.length false 2)),.v (.int .i64 (N6 (cR P0) (cR P1) (cR P2) (cR L) (X6 (cI M) (cI K) L.length) L.length true 2))]=some _ from rfl)),c6Z _ _ P0 _ P1 _ P2 _ L _ M _ K h1 h2 h3⟩
 ·cases h)
end
end Go.Proofs.Ytegmogadbnfbgaa
namespace Go.Proofs.Ytegmogadbnfbgaa
open Go Ev
noncomputable section
def trS:List AV→List AB→Option ((AV×List AB)×List Prop):=fun args xs =>
 match args,xs with
 |[.agg [.xl y m k1 [.xl v0 n0 j0 c0,.xl v1 n1 j1 c1,.xl v2 n2 j2 c2],.xl yl n k2 cL],.xl zb j k3 cB],[]=>some ((.agg [.slu 0 0 3 0,.slu 1 0 n 0],[.row [.slu 2 0 n 0,.slu 3 0 n 0,.slu 4 0 n 0] 27 1,.row (cI (tI (H0 cL cB j 0) n)) 2 1,.row (cI (tI (H0 c0 cB j n) n)) 2 1,.row (cI (tI (H0 c1 cB j (2*n)) n)) 2 1,.row (cI (tI (H0 c2 cB j (3*n)) n)) 2 1]),[Is1 k1,Is3 m,W9 j0 n0 c0,W9 j1 n1 c1,W9 j2 n2 c2,W9 k2 n cL,IsH k3 j cB,J0 [.xl v0 n0 j0 c0,.xl v1 n1 j1 c1,.xl v2 n2 j2 c2] m cL n=0])
 |_,_=>none
def trO:N7:=b62 43 [] [0] trS
theorem b8f:Known zP0q (clsO trO):=b0t (fun args xs r ys ps h hp=>by
 unfold trS at h
 split at h
 ·cases h
  obtain ⟨rfl,rfl,⟨rfl,P0,rfl,rfl⟩,⟨rfl,P1,rfl,rfl⟩,⟨rfl,P2,rfl,rfl⟩,⟨rfl,L,rfl,rfl⟩,⟨rfl,B,rfl,rfl,hB⟩,hC,-⟩:=hp
  rename_i y v0 v1 v2 yl zb
  obtain ⟨hn,-,hrow,hlam,hcur⟩:=V0 hC
  obtain ⟨n,hL⟩:∃ n,L.length=n+1:=⟨L.length - 1,by omega⟩
  refine ⟨fun i x hi hx=>by simp at hx,fun i x hi hx=>?_,?_⟩
  ·match i,hi with
   |1,_=>cases hx;exact M7 (Y5 (Z4 _))
   |2,_=>cases hx;exact M7 (Y5 (Z4 _))
   |3,_=>cases hx;exact M7 (Y5 (Z4 _))
   |4,_=>cases hx;exact M7 (Y5 (Z4 _))
   |i+5,_=>simp at hx
  ·have hg:=c6P y v0 P0 v1 P1 v2 P2 yl L zb B n ⟨hL,by omega,(hrow 0 (by decide)).trans hL,(hrow 1 (by decide)).trans hL,(hrow 2 (by decide)).trans hL,fun b hb=>hlam b (by omega),fun b hb=>hcur 0 (by decide) b (by omega),fun b hb=>hcur 1 (by decide) b (by omega),fun b hb=>hcur 2 (by decide) b (by omega)⟩ hB
   rw [← hL] at hg
   exact hg
 ·cases h)
end
end Go.Proofs.Ytegmogadbnfbgaa
namespace Go.Proofs.Ytegmogadbnfbgaa
open Go Ev
noncomputable section
def loF(c:List AV)(b:Nat):Int:=Z9 c (b*2+0)
theorem a7J{c:List AV}{n b:Nat}(hb:b<n)(h:X9 100 c b):L1 c (cI (tI (loF c) n)) b:=by
 unfold X9 at h
 unfold L1
 rw [Nat.mul_one,B4 hb]
 unfold loF
 omega
end
end Go.Proofs.Ytegmogadbnfbgaa
namespace Go.Proofs.Ytegmogadbnfbgaa.Ev
open Go
noncomputable section
variable {P : Program} {sz : Nat} {w0 : BaseW}
theorem c1g{σ:Env}{q:Nat}:den σ (.xl (.slice none 0 0) 0 q [])=some (.slice none 0 0) :=
 den_xl_mk (cs:=[]) rfl ⟨none,0,rfl,Nat.le_refl _,by simp,fun h=>absurd h (by simp)⟩
theorem b84{c:Code}{T T':Lit}{Q:Exit→Act→World→Prop}(k q:Nat)(hs:T.fs.s=T'.fs.s)(hd:T.fs.df=T'.fs.df)(hk:T.fs.tm.get k=some (.v (.slice none 0 0)))
  (h3:((T'.tms.filter (fun p=>!(Nat.beq p.1 k))).map (·.1)).map T.fs.tm.get=(T'.tms.filter (fun p=>!(Nat.beq p.1 k))).map (fun p=>some p.2))
  (h4:T'.tms.filter (fun p=>Nat.beq p.1 k)=[(k,.xl (.slice none 0 0) 0 q [])]) (h:Y8 P sz c T' w0 Q):Y8 P sz c T w0 Q:=fun F n σ a w hW hro hN=>by
 refine h F n σ a w hW hro ?_
 have htm:Tm σ T'.fs.tm sz a.tmps:=by
  refine ⟨hN.st.tm.1,fun t v e=>?_⟩
  have hm:(t,v)∈T'.tms:=P5 e
  cases hb:Nat.beq t k with
  |true =>
   have h5:(t,v)∈T'.tms.filter (fun p=>Nat.beq p.1 k):=List.mem_filter.2 ⟨hm,hb⟩
   rw [h4] at h5
   cases List.mem_singleton.1 h5
   obtain ⟨x,e1,e2,e3⟩:=hN.st.tm.2 k _ hk
   simp only [den,Option.some.injEq] at e1
   exact ⟨x,by rw [c1g,e1],e2,e3⟩
  |false =>
   have h5:(t,v)∈T'.tms.filter (fun p=>!(Nat.beq p.1 k)):=List.mem_filter.2 ⟨hm,by simp [hb]⟩
   exact hN.st.tm.2 t v (map_some (β:=AV) h3 _ h5)
 have hst:St (w0.hid.map mkD) σ sz T'.fs a w:=⟨hs▸hN.st.good,hs▸hN.st.sim,htm,hd▸hN.st.df⟩
 exact ⟨hst,hN.base,hs▸hN.free,hN.old,hs▸hN.new,hN.size,hN.os,hN.tape,hN.output,hs▸hN.kn,hN.env,hN.hdn,hs▸hN.hdo⟩
end
end Go.Proofs.Ytegmogadbnfbgaa.Ev
namespace Go.Proofs.Ytegmogadbnfbgaa
open Go Ev
noncomputable section
theorem b4l{c:List AV}{o m:Nat}:tI (H0 c (cH []) 0 o) m=tI (loF c) m:=a2a (fun b hb=>b4v rfl)
theorem d0i(y v0:Value)(P0:List (Int×Int))(v1:Value)(P1:List (Int×Int))(v2:Value)(P2:List (Int×Int))(yl:Value)(L:List (Int×Int))(n:Nat)(hT:k9 L P0 P1 P2 n):D2 zP0q 43 [(.agg [.xl y 3 1 [.xl v0 P0.length 2 (cR P0),.xl v1 P1.length 2 (cR P1),.xl v2 P2.length 2 (cR P2)],.xl yl L.length 2 (cR L)]),.v (.slice none 0 0)] [] (.agg [.slu 0 0 3 0,.slu 1 0 (n+1) 0]) [.row [.slu 2 0 (n+1) 0,.slu 3 0 (n+1) 0,.slu 4 0 (n+1) 0] 27 1,.row (cI (tI (loF (cR L)) (n+1))) 2 1,.row (cI (tI (loF (cR P0)) (n+1))) 2 1,.row (cI (tI (loF (cR P1)) (n+1))) 2 1,.row (cI (tI (loF (cR P2)) (n+1))) 2 1]:=by
 have h:=c6P y v0 P0 v1 P1 v2 P2 yl L (.slice none 0 0) [] n hT (fun x hx=>absurd hx List.not_mem_nil)
 obtain ⟨h1,fn,h2,h3,h4,h5⟩:=h
 refine ⟨Nat.zero_le _,fn,h2,h3,h4,fun v eb ec=>?_⟩
 have h6:=h5 v eb ec
 simp only [List.length_nil] at h6
 rw [b4l,b4l,b4l,b4l] at h6
 refine b84 1 1 ?_ ?_ ?_ ?_ ?_ h6
 rfl
 rfl
 rfl
 rfl
 rfl
end
end Go.Proofs.Ytegmogadbnfbgaa
namespace Go.Proofs.Ytegmogadbnfbgaa
open Go Ev
noncomputable section
def tnS:List AV→List AB→Option ((AV×List AB)×List Prop):=fun args xs =>
 match args,xs with
 |[.agg [.xl y m k1 [.xl v0 n0 j0 c0,.xl v1 n1 j1 c1,.xl v2 n2 j2 c2],.xl yl n k2 cL],.v (.slice none 0 0)],[]=>some ((.agg [.slu 0 0 3 0,.slu 1 0 n 0],[.row [.slu 2 0 n 0,.slu 3 0 n 0,.slu 4 0 n 0] 27 1,.row (cI (tI (loF cL) n)) 2 1,.row (cI (tI (loF c0) n)) 2 1,.row (cI (tI (loF c1) n)) 2 1,.row (cI (tI (loF c2) n)) 2 1]),[Is1 k1,Is3 m,W9 j0 n0 c0,W9 j1 n1 c1,W9 j2 n2 c2,W9 k2 n cL,J0 [.xl v0 n0 j0 c0,.xl v1 n1 j1 c1,.xl v2 n2 j2 c2] m cL n=0])
 |_,_=>none
def tnO:N7:=b62 43 [] [0] tnS
theorem b6f:Known zP0q (clsO tnO):=b0t (fun args xs r ys ps h hp=>by
 unfold tnS at h
 split at h
 ·cases h
  obtain ⟨rfl,rfl,⟨rfl,P0,rfl,rfl⟩,⟨rfl,P1,rfl,rfl⟩,⟨rfl,P2,rfl,rfl⟩,⟨rfl,L,rfl,rfl⟩,hC,-⟩:=hp
  rename_i y v0 v1 v2 yl
  obtain ⟨hn,-,hrow,hlam,hcur⟩:=V0 hC
  obtain ⟨n,hL⟩:∃ n,L.length=n+1:=⟨L.length - 1,by omega⟩
  refine ⟨fun i x hi hx=>by simp at hx,fun i x hi hx=>?_,?_⟩
  ·match i,hi with
   |1,_=>cases hx;exact M7 (Y5 (Z4 _))
   |2,_=>cases hx;exact M7 (Y5 (Z4 _))
   |3,_=>cases hx;exact M7 (Y5 (Z4 _))
   |4,_=>cases hx;exact M7 (Y5 (Z4 _))
   |i+5,_=>simp at hx
  ·have hg:=d0i y v0 P0 v1 P1 v2 P2 yl L n ⟨hL,by omega,(hrow 0 (by decide)).trans hL,(hrow 1 (by decide)).trans hL,(hrow 2 (by decide)).trans hL,fun b hb=>hlam b (by omega),fun b hb=>hcur 0 (by decide) b (by omega),fun b hb=>hcur 1 (by decide) b (by omega),fun b hb=>hcur 2 (by decide) b (by omega)⟩
   rw [← hL] at hg
   exact hg
 ·cases h)
end
end Go.Proofs.Ytegmogadbnfbgaa
namespace Go.Proofs.Ytegmogadbnfbgaa
open Go Ev
noncomputable section
def c9N:List AV→List AB→Option ((AV×List AB)×List Prop):=fun args xs =>
 match args,xs with
 |[.agg [.xl y m k1 [.xl v0 n0 j0 c0,.xl v1 n1 j1 c1,.xl v2 n2 j2 c2],.xl yl n k2 cL],.xl z r k5 cM],[]=>some ((.tup [.slu 0 0 3 0,.v (.int .i64 0)],[.row [.v (.int .i64 (N6 c0 c1 c2 cL cM n false 0)),.v (.int .i64 (N6 c0 c1 c2 cL cM n true 0)),.v (.int .i64 (N6 c0 c1 c2 cL cM n false 1)),.v (.int .i64 (N6 c0 c1 c2 cL cM n true 1)),.v (.int .i64 (N6 c0 c1 c2 cL cM n false 2)),.v (.int .i64 (N6 c0 c1 c2 cL cM n true 2))] 65 2]),[Is1 k1,Is3 m,W9 j0 n0 c0,W9 j1 n1 c1,W9 j2 n2 c2,W9 k2 n cL,I8 k5 r cM,r≤1000,J0 [.xl v0 n0 j0 c0,.xl v1 n1 j1 c1,.xl v2 n2 j2 c2] m cL n=0,F2 n cM r=0])
 |_,_=>none
def c6U:N7:=a7Y 18 c9N
theorem b5F:Known zP0q (clsO c6U):=a11 (fun args xs r ys ps h hp=>by
 unfold c9N at h
 split at h
 ·cases h
  obtain ⟨rfl,rfl,⟨rfl,P0,rfl,rfl⟩,⟨rfl,P1,rfl,rfl⟩,⟨rfl,P2,rfl,rfl⟩,⟨rfl,L,rfl,rfl⟩,⟨rfl,M,rfl,rfl⟩,h1,h2,h3,-⟩:=hp
  exact ⟨fun x hx=>absurd hx List.not_mem_nil,fun x hx=>by rw [List.mem_singleton.1 hx];exact M7 (Y5 (show N8 [.v (.int .i64 (N6 (cR P0) (cR P1) (cR P2) (cR L) (cI M) L.length false 0)),.v (.int .i64 (N6 (cR P0) (cR P1) (cR P2) (cR L) (cI M) L.length true 0)),.v (.int .i64 (N6 (cR P0) (cR P1) (cR P2) (cR L) (cI M) L.length false 1)),.v (.int .i64 (N6 (cR P0) (cR P1) (cR P2) (cR L) (cI M) L.length true 1)),.v (.int .i64 (N6 (cR P0) (cR P1) (cR P2) (cR L) (cI M) L.length false 2)),.v (.int .i64 (N6 (cR P0) (cR P1) (cR P2) (cR L) (cI M) L.length true 2))]=some _ from rfl)),c37 _ _ P0 _ P1 _ P2 _ L _ M h1 h2 h3⟩
 ·cases h)
end
end Go.Proofs.Ytegmogadbnfbgaa
namespace Go.Proofs.Ytegmogadbnfbgaa
open Go Ev
noncomputable section
section
variable {c0 c1 c2 cL a b x y : List AV} {n : Nat}
end
end
end Go.Proofs.Ytegmogadbnfbgaa
namespace Go.Proofs.Ytegmogadbnfbgaa
open Go Ev
noncomputable section
end
end Go.Proofs.Ytegmogadbnfbgaa
namespace Go.Proofs.Ytegmogadbnfbgaa
open Go Ev
noncomputable section
end
end Go.Proofs.Ytegmogadbnfbgaa
namespace Go.Proofs.Ytegmogadbnfbgaa
open Go Ev
noncomputable section
theorem c1H{c0 c1 c2 cL x0 x1 x2 xL cM:List AV}{n:Nat}(hn:n≤8)(hc0:∀ b,b<n→X9 100 c0 b)(hc1:∀ b,b<n→X9 100 c1 b)(hc2:∀ b,b<n→X9 100 c2 b)(hL:∀ b,b<n→X9 100 cL b)(hx:m9 c0 c1 c2 cL x0 x1 x2 xL n)(hM:∀ b,b<n→0≤Z9 cM (b*1)∧Z9 cM (b*1)≤1000):∀ k,k<3 → -1000000000≤V7 (U2 x0 x1 x2 xL cM k) n∧V7 (U2 x0 x1 x2 xL cM k) n≤1000000000:=fun k hk=>by
 have hb:=a9T (p:=U2 x0 x1 x2 xL cM k) (m:=10000000) (n:=n) (fun b hb=>by
  obtain ⟨q3,q0,q1,q2⟩:=hx
  have e0:=q0 b hb
  have e1:=q1 b hb
  have e2:=q2 b hb
  have e3:=q3 b hb
  have r0:=hc0 b hb
  have r1:=hc1 b hb
  have r2:=hc2 b hb
  have r3:=hL b hb
  unfold L1 at e0 e1 e2 e3
  unfold X9 at r0 r1 r2 r3
  have m1:=hM b hb
  unfold U2
  match k,hk with
  |0,_=>exact (v5 (x:=Z9 x0 (b*1)) (y:=Z9 xL (b*1)) (z:=Z9 cM (b*1)) (by omega) (by omega) (by omega)).2
  |1,_=>exact (v5 (x:=Z9 x1 (b*1)) (y:=Z9 xL (b*1)) (z:=Z9 cM (b*1)) (by omega) (by omega) (by omega)).2
  |2,_=>exact (v5 (x:=Z9 x2 (b*1)) (y:=Z9 xL (b*1)) (z:=Z9 cM (b*1)) (by omega) (by omega) (by omega)).2)
 have:(n:Int)*10000000≤80000000:=by omega
 omega
def s5(cE:List AV)(m:Nat)(cL:List AV)(n:Nat)(cM:List AV)(r:Nat)(cK:List AV)(s:Nat):Bool:=decide (gwB cE m n=false∧r≤20∧s≤20∧a1D (J0 cE m cL n) (F2 n cM r) (F2 n cK s)=0)
theorem fiB_true{cE cL cM cK:List AV}{m n r s:Nat}:s5 cE m cL n cM r cK s=true↔(gwB cE m n=false∧r≤20∧s≤20∧a1D (J0 cE m cL n) (F2 n cM r) (F2 n cK s)=0):=decide_eq_true_iff
theorem c8Z(y:Value)(E:List (Value×List (Int×Int)))(yl:Value)(L:List (Int×Int))(z:Value)(M:List Int)(zk:Value)(K:List Int)(_h:True):GivesA zP0q 42 [(.agg [.xl y E.length 1 (Y1 E),.xl yl L.length 2 (cR L)]),(.xl z M.length 1 (cI M)),(.xl zk K.length 1 (cI K))] (.bool (s5 (Y1 E) E.length (cR L) L.length (cI M) M.length (cI K) K.length)):=by
 by_cases h:gwB (Y1 E) E.length L.length=false∧M.length≤20∧K.length≤20∧a1D (J0 (Y1 E) E.length (cR L) L.length) (F2 L.length (cI M) M.length) (F2 L.length (cI K) K.length)=0
 ·rw [fiB_true.2 h];exact c7T y E yl L z M zk K h
 ·rw [show s5 (Y1 E) E.length (cR L) L.length (cI M) M.length (cI K) K.length=false from Bool.eq_false_iff.2 (fun k=>h (fiB_true.1 k))];exact c9f y E yl L z M zk K h
def c78:List AV→Option (j7×List Prop):=fun vs =>
 match vs with
 |[.agg [.xl y m k1 cE,.xl yl n k2 cL],.xl z r k5 cM,.xl zk s k6 cK]=>some (.val (.v (.bool (s5 cE m cL n cM r cK s))),[P8 k1 cE m,W9 k2 n cL,I8 k5 r cM,I8 k6 s cK,True])
 |_=>none
def c6p:N7:=A4 42 c78
theorem a8M:Known zP0q (clsO c6p):=I3 (fun vs r ps h hp=>by
 unfold c78 at h
 split at h
 ·cases h
  obtain ⟨⟨rfl,E,rfl,rfl⟩,⟨rfl,L,rfl,rfl⟩,⟨rfl,M,rfl,rfl⟩,⟨rfl,K,rfl,rfl⟩,h1,-⟩:=hp
  exact ⟨W6 (m5 (W6 (R0 (I1 E)) (W6 (R0 (U1 (Y0 L))) R1))) (W6 (R0 (U1 (Z4 M))) (W6 (R0 (U1 (Z4 K))) R1)),_,rfl,c8Z _ E _ L _ M _ K h1⟩
 ·cases h)
end
end Go.Proofs.Ytegmogadbnfbgaa
namespace Go.Proofs.Ytegmogadbnfbgaa
open Go Ev
noncomputable section
end
end Go.Proofs.Ytegmogadbnfbgaa
namespace Go.Proofs.Ytegmogadbnfbgaa
open Go Ev
noncomputable section
def lBw:N7:=orO c6p o7
theorem a4S(hw:Known zP0q (clsO o7)):Known zP0q (clsO lBw):=V9 a8M hw
def lBm:N7:=orO c6p (orO o7 (orO trO (orO tnO (orO c6Y (orO c6U c7D)))))
theorem V3(hw:Known zP0q (clsO o7)):Known zP0q (clsO lBm):=V9 a8M (V9 hw (V9 b8f (V9 b6f (V9 b5y (V9 b5F b5I)))))
end
end Go.Proofs.Ytegmogadbnfbgaa
namespace Go.Proofs.Ytegmogadbnfbgaa
open Go Ev
noncomputable section
def N9(c d:List AV)(g:Bool)(i b:Nat):Int:=if b<i then X8 c d g b else loF c b
theorem mx_0{c d:List AV}{g:Bool}{n:Nat}:tI (N9 c d g 0) n=tI (loF c) n:=a2a (fun b _=>if_neg (by omega))
theorem a4W{c d:List AV}{g:Bool}{n:Nat}:tI (N9 c d g n) n=tI (X8 c d g) n:=a2a (fun _ hb=>if_pos hb)
theorem a1o{c d:List AV}{g:Bool}{i n:Nat}(h:X8 c d g i=loF c i):tI (N9 c d g i) n=tI (N9 c d g (i+1)) n:=a2a (fun b _=>by
 unfold N9
 by_cases h1:b=i
 ·subst h1
  rw [if_neg (by omega),if_pos (by omega),h]
 ·by_cases h2:b<i
  ·rw [if_pos h2,if_pos (by omega)]
  ·rw [if_neg h2,if_neg (by omega)])
theorem c9Z{c d:List AV}{g:Bool}{i n:Nat}(hi:i<n){v:Int}(h:X8 c d g i=v):T8 (cI (tI (N9 c d g i) n)) i [.v (.int .i64 v)]=cI (tI (N9 c d g (i+1)) n):=by
 rw [b95 hi]
 exact congrArg cI (a2a (fun b _=>by
  unfold b9s N9
  by_cases h1:b=i
  ·subst h1
   simp [h]
  ·by_cases h2:b<i
   ·simp [h1,h2,show b<i+1 by omega]
   ·simp [h1,h2,show ¬ b<i+1 by omega]))
theorem a8V{c d:List AV}{g:Bool}{i n b:Nat}(hb:b<n)(h:X9 100 c b):L1 c (cI (tI (N9 c d g i) n)) b:=by
 by_cases h1:b<i
 ·have h2:=c6X (d:=d) (g:=g) (n:=n) hb h
  unfold L1 at h2 ⊢
  rw [Nat.mul_one,B4 hb] at h2 ⊢
  unfold N9
  rw [if_pos h1]
  exact h2
 ·have h2:=a7J (n:=n) hb h
  unfold L1 at h2 ⊢
  rw [Nat.mul_one,B4 hb] at h2 ⊢
  unfold N9
  rw [if_neg h1]
  exact h2
theorem c1h{c0 c1 c2 cL cM cK x1 x2:List AV}{g:Bool}{n:Nat}:V7 (U2 (cI (tI (X8 c0 (X6 cM cK n) g) n)) x1 x2 (cI (tI (X8 cL (X6 cM cK n) g) n)) cM 0) n - V7 (U2 (cI (tI (X8 c0 (X6 cM cK n) g) n)) x1 x2 (cI (tI (X8 cL (X6 cM cK n) g) n)) cK 0) n=N6 c0 c1 c2 cL (X6 cM cK n) n g 0:=a9n
theorem c1a{c0 c1 c2 cL cM cK x0 x2:List AV}{g:Bool}{n:Nat}:V7 (U2 x0 (cI (tI (X8 c1 (X6 cM cK n) g) n)) x2 (cI (tI (X8 cL (X6 cM cK n) g) n)) cM 1) n - V7 (U2 x0 (cI (tI (X8 c1 (X6 cM cK n) g) n)) x2 (cI (tI (X8 cL (X6 cM cK n) g) n)) cK 1) n=N6 c0 c1 c2 cL (X6 cM cK n) n g 1:=a9n
theorem c0I{c0 c1 c2 cL cM cK x0 x1:List AV}{g:Bool}{n:Nat}:V7 (U2 x0 x1 (cI (tI (X8 c2 (X6 cM cK n) g) n)) (cI (tI (X8 cL (X6 cM cK n) g) n)) cM 2) n - V7 (U2 x0 x1 (cI (tI (X8 c2 (X6 cM cK n) g) n)) (cI (tI (X8 cL (X6 cM cK n) g) n)) cK 2) n=N6 c0 c1 c2 cL (X6 cM cK n) n g 2:=a9n
theorem b57{c0 c1 c2 cL cM cK x0 x1 x2 xL:List AV}{n:Nat}(hc0:∀ b,b<n→X9 100 c0 b)(hc1:∀ b,b<n→X9 100 c1 b)(hc2:∀ b,b<n→X9 100 c2 b)(hL:∀ b,b<n→X9 100 cL b)(h:m9 c0 c1 c2 cL x0 x1 x2 xL n):∀ k,k<3→N6 c0 c1 c2 cL (X6 cM cK n) n false k≤V7 (U2 x0 x1 x2 xL cM k) n - V7 (U2 x0 x1 x2 xL cK k) n∧V7 (U2 x0 x1 x2 xL cM k) n - V7 (U2 x0 x1 x2 xL cK k) n≤N6 c0 c1 c2 cL (X6 cM cK n) n true k:=fun k hk=>by
 rw [a9n]
 exact b3D hc0 hc1 hc2 hL h k hk
end
end Go.Proofs.Ytegmogadbnfbgaa
namespace Go.Proofs.Ytegmogadbnfbgaa
open Go Ev
noncomputable section
theorem c2C{cM cK:List AV}{n b:Nat}(hb:b<n):Z9 (X6 cM cK n) (b*1)=Z9 cM (b*1) - Z9 cK (b*1):=by
 unfold X6
 rw [Nat.mul_one,B4 hb]
 unfold dfF
 rw [Nat.mul_one]
theorem a1u{c cM cK:List AV}{n b:Nat}(hb:b<n)(h:Y3 (Z9 cK (b*1)) (Z9 cM (b*1))=true):X8 c (X6 cM cK n) true b=Z9 c (b*2+1)∧X8 c (X6 cM cK n) false b=loF c b:=by
 have h1:Y3 0 (Z9 cM (b*1) - Z9 cK (b*1))=true:=by rw [a61];exact decide_eq_true (by have:=X3 h;omega)
 unfold X8 loF
 rw [c2C hb,h1]
 exact ⟨rfl,rfl⟩
theorem a1q{c cM cK:List AV}{n b:Nat}(hb:b<n)(h:Y3 (Z9 cK (b*1)) (Z9 cM (b*1))=false):X8 c (X6 cM cK n) false b=Z9 c (b*2+1)∧X8 c (X6 cM cK n) true b=loF c b:=by
 have h1:Y3 0 (Z9 cM (b*1) - Z9 cK (b*1))=false:=by rw [a61];exact decide_eq_false (by have:=Z5 h;omega)
 unfold X8 loF
 rw [c2C hb,h1]
 exact ⟨rfl,rfl⟩
end
end Go.Proofs.Ytegmogadbnfbgaa
