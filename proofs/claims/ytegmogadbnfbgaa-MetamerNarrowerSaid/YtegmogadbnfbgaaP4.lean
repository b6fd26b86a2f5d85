/- Texts of this proof, put together. -/
import Derived.Test.YtegmogadbnfbgaaP3
import Derived.Test.YtegmogadbnfbgaaP2
set_option linter.all false
set_option maxHeartbeats 4000000
namespace Go.Proofs.Ytegmogadbnfbgaa
open Go Ev
noncomputable section
theorem b1J{a:Int}(h : -9223372036854775808≤a)(k:a≤9223372036854775807):L3 .i64 a:=⟨h,k⟩
section
variable (E : List (Value × List (Int × Int))) (L : List (Int × Int)) (M : List Int) (P : List (Int × Int)) (y yl yr z : Value)
@[reducible] def b9k:Nat×Ev.AV:=(11,(.fn (.func 93) [] [(.ptr 4 0)]))
@[reducible] def b9X:Ev.AB:=(.cells [(.xl (y) (E.length) 1 (X4 E)),(.xl (yl) (L.length) 2 (cR L)),(.fn (.func 78) [(.xl (z) (M.length) 1 (cI M))] [])] 85)
@[reducible] def C5:Nat×Ev.AB:=(0,(b9X E L M y yl z))
@[reducible] def C6:Nat×Ev.AB:=(1,(.cells [(.xl (yr) (P.length) 2 (cR P))] 23))
@[reducible] def a0U:Nat×Ev.AB:=(2,(.cells [(.v (.bool .false))] 4))
@[reducible] def j8:Nat×Ev.AB:=(3,(.cells [(.v (Value.slice none 0 0))] 27))
@[reducible] def a4M:Nat×Ev.AB:=(4,(b9X E L M y yl z))
@[reducible] def a8A:Ev.Lit:=⟨[(3,(.ptr 0 0)),(4,(.ptr 1 0)),(5,(.ptr 2 0)),(7,(.ptr 3 0)),b9k],[],5,[(C5 E L M y yl z),(C6 P yr),a0U,j8,(a4M E L M y yl z)]⟩
@[reducible] def a1a:Nat×Ev.AB:=(2,(.cells [(.v (.bool .true))] 4))
@[reducible] def a8z:Ev.Lit:=⟨[(3,(.ptr 0 0)),(4,(.ptr 1 0)),(5,(.ptr 2 0)),(7,(.ptr 3 0)),b9k],[],5,[(C5 E L M y yl z),(C6 P yr),a1a,j8,(a4M E L M y yl z)]⟩
@[reducible] def b9g:Ev.Lit:=⟨[(3,(.ptr 0 0)),(4,(.ptr 1 0)),(5,(.ptr 2 0)),(7,(.ptr 3 0))],[],4,[(C5 E L M y yl z),(C6 P yr),a0U,j8]⟩
@[reducible] def b6E:Ev.Lit:=⟨[(3,(.ptr 0 0)),(4,(.ptr 1 0)),(5,(.ptr 2 0)),(7,(.ptr 3 0))],[],4,[(C5 E L M y yl z),(C6 P yr),a1a,j8]⟩
@[reducible] def c1p:Ev.Lit:=⟨[(3,(.ptr 0 0)),(4,(.ptr 1 0)),(5,(.ptr 2 0))],[],3,[(C5 E L M y yl z),(C6 P yr),a0U]⟩
@[reducible] def c2A:Ev.Lit:=⟨[(3,(.ptr 0 0)),(4,(.ptr 1 0)),(5,(.ptr 2 0))],[],3,[(C5 E L M y yl z),(C6 P yr),a1a]⟩
@[reducible] def a4F:=(tI (X9 (cR P) (cI M) false) L.length)
@[reducible] def b7Y:Ev.AB:=(.cells [(.slu 8 0 (a4F L M P).length 0)] 27)
@[reducible] def b3O:Nat×Ev.AB:=(3,(b7Y L M P))
@[reducible] def a1i:Ev.AB:=(.row (cI (a4F L M P)) 2 1)
@[reducible] def b2W:Nat×Ev.AB:=(8,(a1i L M P))
@[reducible] def c1j:Ev.Lit:=⟨[(7,(.ptr 3 0))],[5],9,[(b3O L M P),(5,(.defd .true)),(b2W L M P)]⟩
@[reducible] def a50:=(tI (X9 (cR P) (cI M) true) L.length)
@[reducible] def b91:Ev.AB:=(.cells [(.slu 8 0 (a50 L M P).length 0)] 27)
@[reducible] def b3Q:Nat×Ev.AB:=(3,(b91 L M P))
@[reducible] def a0T:Ev.AB:=(.row (cI (a50 L M P)) 2 1)
@[reducible] def b4d:Nat×Ev.AB:=(8,(a0T L M P))
@[reducible] def c1z:Ev.Lit:=⟨[(7,(.ptr 3 0))],[5],9,[(b3Q L M P),(5,(.defd .true)),(b4d L M P)]⟩
@[reducible] def c2f:Ev.Lit:=⟨[(7,(.ptr 3 0))],[],6,[(3,(.cells [(.slu 5 0 (a4F L M P).length 0)] 27)),(5,(a1i L M P))]⟩
@[reducible] def b8u:Ev.Lit:=⟨[(7,(.ptr 3 0))],[],6,[(3,(.cells [(.slu 5 0 (a50 L M P).length 0)] 27)),(5,(a0T L M P))]⟩
@[reducible] def b0u:Ev.AV:=(.agg [.xl y E.length 1 (X4 E),.xl yl L.length 2 (cR L),(.fn (.func 78) [.xl z M.length 1 (cI M)] [])])
@[reducible] def a9S:Nat×Ev.AV:=(7,(nI0 L.length))
end
noncomputable def c2o:Code:=N6 Try.f90
noncomputable def c29:Code:=L2 c2o
noncomputable def b7G:Code:=L2 c29
noncomputable def b4W:Code:=L2 b7G
noncomputable def b96:Code:=(l5 b7G)
noncomputable def b2g:Code:=L2 b96
noncomputable def W9:Code:=a4L b2g
noncomputable def b5w:Code:=N6 Try.f93
noncomputable def b5j:Code:=L2 b5w
noncomputable def b0d:Code:=G5 b5j
section
variable {E:List (Value×List (Int×Int))} {L P:List (Int×Int)} {M:List Int} {eb:Nat→Option Nat} {ec:Nat→Nat} {hs:List Nat} {v:BaseW} {y yl yr z:Value}
theorem c0T(hn:1≤L.length∧L.length≤8)(hP:P.length=L.length)(hm:M.length=L.length):Y6 zP0q 16 b5j ((⟨[(0,(.yld 6)),(7,(nI0 L.length)),(8,(nN 0))],[],7,6,[(3,(.ptr 0 0)),(4,(.ptr 1 0)),(5,(.ptr 2 0)),(7,(.ptr 3 0))],[(0,(.cells [(.xl (y) (E.length) 1 (X4 E)),(.xl (yl) (L.length) 2 (cR L)),(.fn (.func 78) [(.xl (z) (M.length) 1 (cI M))] [])] 85)),(1,(.cells [(.xl (yr) (P.length) 2 (cR P))] 23)),(2,(.cells [(.v (.bool .true))] 4)),(3,(.cells [(.v (Value.slice none 0 0))] 27)),(5,(.defd .true))],.ready,none,35,O0 W9,N9 W9,O1 W9,5⟩:Ev.Lit1).lit) (bw v 7 eb ec) (a1s 16 (fun _:Unit=>((⟨[],[],9,6,[(3,(.ptr 0 0)),(4,(.ptr 1 0)),(5,(.ptr 2 0)),(7,(.ptr 3 0))],[(0,(.cells [(.xl (y) (E.length) 1 (X4 E)),(.xl (yl) (L.length) 2 (cR L)),(.fn (.func 78) [(.xl (z) (M.length) 1 (cI M))] [])] 85)),(1,(.cells [(.xl (yr) (P.length) 2 (cR P))] 23)),(2,(.cells [(.v (.bool .true))] 4)),(3,(.cells [(.slu 8 0 (tI (X9 (cR P) (cI M) true) L.length).length 0)] 27)),(5,(.defd .true)),(8,(.row (cI (tI (X9 (cR P) (cI M) true) L.length)) 2 1))],.ready,none,35,O0 W9,N9 W9,O1 W9,5⟩:Ev.Lit1)).lit) (fun _:Unit=>True) (bw v 7 eb ec)):=by
 have hcl_L:=Y8 L
 have hcl_M:=Y5 M
 have hcl_P:=Y8 P
 refine V2 (T':=(⟨[(0,(.yld 6)),(7,(nI0 L.length)),(8,(nN 0))],[],7,6,[(3,(.ptr 0 0)),(4,(.ptr 1 0)),(5,(.ptr 2 0)),(7,(.ptr 3 0))],[(0,(.cells [(.xl (y) (E.length) 1 (X4 E)),(.xl (yl) (L.length) 2 (cR L)),(.fn (.func 78) [(.xl (z) (M.length) 1 (cI M))] [])] 85)),(1,(.cells [(.xl (yr) (P.length) 2 (cR P))] 23)),(2,(.cells [(.v (.bool .true))] 4)),(3,(.cells [(.v (Value.slice none 0 0))] 27)),(5,(.defd .true))],.ready,none,35,O0 W9,N9 W9,O1 W9,5⟩:Ev.Lit1).lit) (by kernel_rfl) (by kernel_rfl) (by kernel_rfl) (by kernel_rfl) (a00 (ι:={i:Nat // i≤L.length∧True}) (T:=(fun i:{i:Nat // i≤L.length∧True}=>((Ev.fam0 (⟨[(0,(.yld 6)),(7,(nI0 L.length)),(8,(nI0 i.1))],[],7,6,[(3,(.ptr 0 0)),(4,(.ptr 1 0)),(5,(.ptr 2 0)),(7,(.ptr 3 0))],[(0,(.cells [(.xl (y) (E.length) 1 (X4 E)),(.xl (yl) (L.length) 2 (cR L)),(.fn (.func 78) [(.xl (z) (M.length) 1 (cI M))] [])] 85)),(1,(.cells [(.xl (yr) (P.length) 2 (cR P))] 23)),(2,(.cells [(.v (.bool .true))] 4)),(3,(.cells [(.v (Value.slice none 0 0))] 27)),(5,(.defd .true))],.ready,none,35,O0 W9,N9 W9,O1 W9,5⟩:Ev.Lit1).lit (fun k=>(⟨[(0,(.yld 6)),(7,(nI0 L.length)),(8,(nI0 i.1))],[],9,6,[(3,(.ptr 0 0)),(4,(.ptr 1 0)),(5,(.ptr 2 0)),(7,(.ptr 3 0))],[(0,(.cells [(.xl (y) (E.length) 1 (X4 E)),(.xl (yl) (L.length) 2 (cR L)),(.fn (.func 78) [(.xl (z) (M.length) 1 (cI M))] [])] 85)),(1,(.cells [(.xl (yr) (P.length) 2 (cR P))] 23)),(2,(.cells [(.v (.bool .true))] 4)),(3,(.cells [(.slu 8 0 (k+1) 0)] 27)),(5,(.defd .true)),(8,(.row (cI (tI (X9 (cR P) (cI M) true) i.1)) 2 1))],.ready,none,35,O0 W9,N9 W9,O1 W9,5⟩:Ev.Lit1).lit) (tI (X9 (cR P) (cI M) true) i.1).length):Ev.Lit))) (R:=(fun i:{i:Nat // i≤L.length∧True}=>L.length≤i.1)) (by kernel_rfl) (a1H (show ((⟨[(0,(.yld 6)),(7,(nI0 L.length)),(8,(nN 0))],[],7,6,[(3,(.ptr 0 0)),(4,(.ptr 1 0)),(5,(.ptr 2 0)),(7,(.ptr 3 0))],[(0,(.cells [(.xl (y) (E.length) 1 (X4 E)),(.xl (yl) (L.length) 2 (cR L)),(.fn (.func 78) [(.xl (z) (M.length) 1 (cI M))] [])] 85)),(1,(.cells [(.xl (yr) (P.length) 2 (cR P))] 23)),(2,(.cells [(.v (.bool .true))] 4)),(3,(.cells [(.v (Value.slice none 0 0))] 27)),(5,(.defd .true))],.ready,none,35,O0 W9,N9 W9,O1 W9,5⟩:Ev.Lit1).lit:Ev.Lit)=(Ev.fam0 (⟨[(0,(.yld 6)),(7,(nI0 L.length)),(8,(nI0 0))],[],7,6,[(3,(.ptr 0 0)),(4,(.ptr 1 0)),(5,(.ptr 2 0)),(7,(.ptr 3 0))],[(0,(.cells [(.xl (y) (E.length) 1 (X4 E)),(.xl (yl) (L.length) 2 (cR L)),(.fn (.func 78) [(.xl (z) (M.length) 1 (cI M))] [])] 85)),(1,(.cells [(.xl (yr) (P.length) 2 (cR P))] 23)),(2,(.cells [(.v (.bool .true))] 4)),(3,(.cells [(.v (Value.slice none 0 0))] 27)),(5,(.defd .true))],.ready,none,35,O0 W9,N9 W9,O1 W9,5⟩:Ev.Lit1).lit (fun k=>(⟨[(0,(.yld 6)),(7,(nI0 L.length)),(8,(nI0 0))],[],9,6,[(3,(.ptr 0 0)),(4,(.ptr 1 0)),(5,(.ptr 2 0)),(7,(.ptr 3 0))],[(0,(.cells [(.xl (y) (E.length) 1 (X4 E)),(.xl (yl) (L.length) 2 (cR L)),(.fn (.func 78) [(.xl (z) (M.length) 1 (cI M))] [])] 85)),(1,(.cells [(.xl (yr) (P.length) 2 (cR P))] 23)),(2,(.cells [(.v (.bool .true))] 4)),(3,(.cells [(.slu 8 0 (k+1) 0)] 27)),(5,(.defd .true)),(8,(.row (cI (tI (X9 (cR P) (cI M) true) 0)) 2 1))],.ready,none,35,O0 W9,N9 W9,O1 W9,5⟩:Ev.Lit1).lit) (tI (X9 (cR P) (cI M) true) 0).length) from by (rw [show (tI (X9 (cR P) (cI M) true) 0).length=0 from Y0 _ _];rfl)) (B3 (by kernel_rfl) (fun i:{i:Nat // i≤L.length∧True}=>((Ev.fam0 (⟨[(0,(.yld 6)),(7,(nI0 L.length)),(8,(nI0 i.1))],[],7,6,[(3,(.ptr 0 0)),(4,(.ptr 1 0)),(5,(.ptr 2 0)),(7,(.ptr 3 0))],[(0,(.cells [(.xl (y) (E.length) 1 (X4 E)),(.xl (yl) (L.length) 2 (cR L)),(.fn (.func 78) [(.xl (z) (M.length) 1 (cI M))] [])] 85)),(1,(.cells [(.xl (yr) (P.length) 2 (cR P))] 23)),(2,(.cells [(.v (.bool .true))] 4)),(3,(.cells [(.v (Value.slice none 0 0))] 27)),(5,(.defd .true))],.ready,none,35,O0 W9,N9 W9,O1 W9,5⟩:Ev.Lit1).lit (fun k=>(⟨[(0,(.yld 6)),(7,(nI0 L.length)),(8,(nI0 i.1))],[],9,6,[(3,(.ptr 0 0)),(4,(.ptr 1 0)),(5,(.ptr 2 0)),(7,(.ptr 3 0))],[(0,(.cells [(.xl (y) (E.length) 1 (X4 E)),(.xl (yl) (L.length) 2 (cR L)),(.fn (.func 78) [(.xl (z) (M.length) 1 (cI M))] [])] 85)),(1,(.cells [(.xl (yr) (P.length) 2 (cR P))] 23)),(2,(.cells [(.v (.bool .true))] 4)),(3,(.cells [(.slu 8 0 (k+1) 0)] 27)),(5,(.defd .true)),(8,(.row (cI (tI (X9 (cR P) (cI M) true) i.1)) 2 1))],.ready,none,35,O0 W9,N9 W9,O1 W9,5⟩:Ev.Lit1).lit) (tI (X9 (cR P) (cI M) true) i.1).length):Ev.Lit)) (fun i:{i:Nat // i≤L.length∧True}=>L.length - i.1) (fun i=>?_) ⟨0,Nat.zero_le _,trivial⟩)) (fun ixR hxR=>(fun (i0r:Nat) (h0ra:i0r≤L.length) (h0rb:True) (h0rc:L.length≤i0r)=>⟨(),show True from trivial,(by obtain ⟨i9,q1,q2⟩:=ixR;have h9:L.length≤i9:=hxR;have e:i9=L.length:=(by omega);subst e;obtain ⟨k,hk⟩:∃ k,(tI (X9 (cR P) (cI M) true) L.length).length=k+1:=⟨L.length - 1,by rw [Y0];omega⟩;show a3o (Ev.Lit.fs (Ev.fam0 _ _ (tI (X9 (cR P) (cI M) true) L.length).length)) _;rw [hk];exact B0 (by kernel_rfl) (by kernel_rfl) (by kernel_rfl) (by kernel_rfl))⟩) ixR.1 ixR.2.1 ixR.2.2 hxR))
 obtain ⟨i,hi1,hi2⟩:=i
 show Y6 zP0q 16 b0d ((Ev.fam0 (⟨[(0,(.yld 6)),(7,(nI0 L.length)),(8,(nI0 i))],[],7,6,[(3,(.ptr 0 0)),(4,(.ptr 1 0)),(5,(.ptr 2 0)),(7,(.ptr 3 0))],[(0,(.cells [(.xl (y) (E.length) 1 (X4 E)),(.xl (yl) (L.length) 2 (cR L)),(.fn (.func 78) [(.xl (z) (M.length) 1 (cI M))] [])] 85)),(1,(.cells [(.xl (yr) (P.length) 2 (cR P))] 23)),(2,(.cells [(.v (.bool .true))] 4)),(3,(.cells [(.v (Value.slice none 0 0))] 27)),(5,(.defd .true))],.ready,none,35,O0 W9,N9 W9,O1 W9,5⟩:Ev.Lit1).lit (fun k=>(⟨[(0,(.yld 6)),(7,(nI0 L.length)),(8,(nI0 i))],[],9,6,[(3,(.ptr 0 0)),(4,(.ptr 1 0)),(5,(.ptr 2 0)),(7,(.ptr 3 0))],[(0,(.cells [(.xl (y) (E.length) 1 (X4 E)),(.xl (yl) (L.length) 2 (cR L)),(.fn (.func 78) [(.xl (z) (M.length) 1 (cI M))] [])] 85)),(1,(.cells [(.xl (yr) (P.length) 2 (cR P))] 23)),(2,(.cells [(.v (.bool .true))] 4)),(3,(.cells [(.slu 8 0 (k+1) 0)] 27)),(5,(.defd .true)),(8,(.row (cI (tI (X9 (cR P) (cI M) true) i)) 2 1))],.ready,none,35,O0 W9,N9 W9,O1 W9,5⟩:Ev.Lit1).lit) (tI (X9 (cR P) (cI M) true) i).length)) (bw v 7 eb ec) (a0r _ _ _ _ _ _ _ _)
 cases hc:(tI (X9 (cR P) (cI M) true) i).length with
 |zero =>
  show Y6 zP0q 16 b0d ((⟨[(0,(.yld 6)),(7,(nI0 L.length)),(8,(nI0 i))],[],7,6,[(3,(.ptr 0 0)),(4,(.ptr 1 0)),(5,(.ptr 2 0)),(7,(.ptr 3 0))],[(0,(.cells [(.xl (y) (E.length) 1 (X4 E)),(.xl (yl) (L.length) 2 (cR L)),(.fn (.func 78) [(.xl (z) (M.length) 1 (cI M))] [])] 85)),(1,(.cells [(.xl (yr) (P.length) 2 (cR P))] 23)),(2,(.cells [(.v (.bool .true))] 4)),(3,(.cells [(.v (Value.slice none 0 0))] 27)),(5,(.defd .true))],.ready,none,35,O0 W9,N9 W9,O1 W9,5⟩:Ev.Lit1).lit) (bw v 7 eb ec) (a0r _ _ _ _ _ _ _ _)
  rcases zB0q (Y1 i L.length) with hz0_1|hz0_1
  ·have ghz0_1:=W7 hz0_1
   rcases zB0q (true == Y1 0 (Z8 (cI M) (i*1))) with hz0_2|hz0_2
   ·refine Ev.step_on ⟨i+1,by omega,trivial⟩ (by show L.length - (i+1)<L.length - i;omega) ?_
    have hcn:(tI (X9 (cR P) (cI M) true) (i+1)).length=0+1:=by (have h9:=Y0 (X9 (cR P) (cI M) true) i;rw [Y0];omega)
    show Y6 _ _ _ _ _ (K0 _ isN (Ev.fam0 (⟨[(0,(.yld 6)),(7,(nI0 L.length)),(8,(nI0 (((i+1):Nat):Int)))],[],7,6,[(3,(.ptr 0 0)),(4,(.ptr 1 0)),(5,(.ptr 2 0)),(7,(.ptr 3 0))],[(0,(.cells [(.xl (y) (E.length) 1 (X4 E)),(.xl (yl) (L.length) 2 (cR L)),(.fn (.func 78) [(.xl (z) (M.length) 1 (cI M))] [])] 85)),(1,(.cells [(.xl (yr) (P.length) 2 (cR P))] 23)),(2,(.cells [(.v (.bool .true))] 4)),(3,(.cells [(.v (Value.slice none 0 0))] 27)),(5,(.defd .true))],.ready,none,35,O0 W9,N9 W9,O1 W9,5⟩:Ev.Lit1).lit (fun k=>(⟨[(0,(.yld 6)),(7,(nI0 L.length)),(8,(nI0 (((i+1):Nat):Int)))],[],9,6,[(3,(.ptr 0 0)),(4,(.ptr 1 0)),(5,(.ptr 2 0)),(7,(.ptr 3 0))],[(0,(.cells [(.xl (y) (E.length) 1 (X4 E)),(.xl (yl) (L.length) 2 (cR L)),(.fn (.func 78) [(.xl (z) (M.length) 1 (cI M))] [])] 85)),(1,(.cells [(.xl (yr) (P.length) 2 (cR P))] 23)),(2,(.cells [(.v (.bool .true))] 4)),(3,(.cells [(.slu 8 0 (k+1) 0)] 27)),(5,(.defd .true)),(8,(.row (cI (tI (X9 (cR P) (cI M) true) (i+1))) 2 1))],.ready,none,35,O0 W9,N9 W9,O1 W9,5⟩:Ev.Lit1).lit) (tI (X9 (cR P) (cI M) true) (i+1)).length) _)
    rw [hcn]
    show Y6 _ _ _ _ _ (K0 _ isN ((⟨[(0,(.yld 6)),(7,(nI0 L.length)),(8,(nI0 (((i+1):Nat):Int)))],[],9,6,[(3,(.ptr 0 0)),(4,(.ptr 1 0)),(5,(.ptr 2 0)),(7,(.ptr 3 0))],[(0,(.cells [(.xl (y) (E.length) 1 (X4 E)),(.xl (yl) (L.length) 2 (cR L)),(.fn (.func 78) [(.xl (z) (M.length) 1 (cI M))] [])] 85)),(1,(.cells [(.xl (yr) (P.length) 2 (cR P))] 23)),(2,(.cells [(.v (.bool .true))] 4)),(3,(.cells [(.slu 8 0 (0+1) 0)] 27)),(5,(.defd .true)),(8,(.row (cI (tI (X9 (cR P) (cI M) true) (i+1))) 2 1))],.ready,none,35,O0 W9,N9 W9,O1 W9,5⟩:Ev.Lit1).lit) _)
    exact I5 zC0q (Y4) 200 (T':=(⟨[(0,(.yld 6)),(7,(nI0 L.length)),(8,(nI0 (((i+1):Nat):Int)))],[],9,6,[(3,(.ptr 0 0)),(4,(.ptr 1 0)),(5,(.ptr 2 0)),(7,(.ptr 3 0))],[(0,(.cells [(.xl (y) (E.length) 1 (X4 E)),(.xl (yl) (L.length) 2 (cR L)),(.fn (.func 78) [(.xl (z) (M.length) 1 (cI M))] [])] 85)),(1,(.cells [(.xl (yr) (P.length) 2 (cR P))] 23)),(2,(.cells [(.v (.bool .true))] 4)),(3,(.cells [(.slu 8 0 (0+1) 0)] 27)),(5,(.defd .true)),(8,(.row (cI (tI (X9 (cR P) (cI M) true) (i+1))) 2 1))],.ready,none,35,O0 W9,N9 W9,O1 W9,5⟩:Ev.Lit1)) (e:=.normal) (m:=9) (ps:=[Y1 i L.length=true,i<P.length,i*2+0<((cR P):List AV).length,W6 zP0q (cR P) (i*2+0) 2=some (AV.v (Value.int IntKind.i64 (Z8 (cR P) (i*2+0)))),i<M.length,W6 zP0q (cI M) (i*1) 2=some (AV.v (Value.int IntKind.i64 (Z8 (cI M) (i*1)))),(true == Y1 0 (Z8 (cI M) (i*1)))=true,i<P.length,i*2+1<((cR P):List AV).length,W6 zP0q (cR P) (i*2+1) 2=some (AV.v (Value.int IntKind.i64 (Z8 (cR P) (i*2+1)))),(!true)=false,L3 IntKind.i64 (((i:Nat):Int)+1)]) ([.go,.b true]++gH 7 ([.sym,.sym,.sym]++gH 8 ([.sym,.sym,.go,.go,.go,.b true,.go,.go,.sym,.sym,.sym]++gH 7 [.b false,.go,.go]))) [0,1,2,3,4,5,6,7,8] [(.yld 6),(nI0 L.length),(nI0 (((i:Nat):Int)+1))] [(.ptr 0 0),(.ptr 1 0),(.ptr 2 0),(.ptr 3 0)] [(.cells [(.xl (y) (E.length) 1 (X4 E)),(.xl (yl) (L.length) 2 (cR L)),(.fn (.func 78) [(.xl (z) (M.length) 1 (cI M))] [])] 85),(.cells [(.xl (yr) (P.length) 2 (cR P))] 23),(.cells [(.v (.bool .true))] 4),(.cells [(.slu 8 0 1 0)] 27),(.defd .true),(.row [(nI0 (Z8 (cR P) (i*2+1)))] 2 1)] (by kernel_rfl) (by kernel_rfl) ⟨hz0_1,(by omega),(by rw [Y8];omega),(q9 (i:=i) (by omega) (by omega) 2 (Try.underlying2) rfl),(by omega),(by rw [Nat.mul_one];exact R1 (show _<M.length by omega) 2 (Try.underlying2) rfl),hz0_2,(by omega),(by rw [Y8];omega),(q9 (i:=i) (by omega) (by omega) 2 (Try.underlying2) rfl),rfl,(b1J (by omega) (by omega)),trivial⟩ rfl rfl (by decide) rfl ⟨k8 rfl,W0 _,S6 (show ((((i:Nat):Int)+1):Int)=(((i+1):Nat):Int) from by omega),trivial⟩ ⟨X8 rfl,X8 rfl,X8 rfl,X8 rfl,trivial⟩ ⟨⟨by show 0<9;decide,Z0 (Z9 (V4 (X6 (Y2 _))) (Z9 (V7 (Z7 (Y7 L))) (Z9 (z6 (Z9 (V7 (Z7 (Z5 M))) (Z3)) (Z3)) (Z3))))⟩,⟨by show 1<9;decide,Z0 (Z9 (V7 (Z7 (Y7 P))) (Z3))⟩,⟨by show 2<9;decide,Z0 (Z9 (W0 _) (Z3))⟩,⟨by show 3<9;decide,Z0 (Z9 (Y9 rfl) (Z3))⟩,⟨by show 5<9;decide,D2⟩,⟨by show 8<9;decide,Z1 (K6 (show ((cI (tI (X9 (cR P) (cI M) true) (i+1))):List AV)=[(nI0 (Z8 (cR P) (i*2+1)))] from by (exact (a5d (by have h9:=Y0 (X9 (cR P) (cI M) true) i;omega) (s3 (c:=cR P) hz0_2)).symm)) (Z5 _))⟩,trivial⟩ (by show 6<9;decide) (by show 5<9;decide) (by show 7≤9;decide) (fun b hb=>(by have hb2:b<7:=hb;match b,hb2 with|0,_=>rfl|1,_=>rfl|2,_=>rfl|3,_=>rfl|4,_=>rfl|5,_=>rfl|6,_=>rfl))
   ·refine Ev.step_on ⟨i+1,by omega,trivial⟩ (by show L.length - (i+1)<L.length - i;omega) ?_
    have hcn:(tI (X9 (cR P) (cI M) true) (i+1)).length=0+1:=by (have h9:=Y0 (X9 (cR P) (cI M) true) i;rw [Y0];omega)
    show Y6 _ _ _ _ _ (K0 _ isN (Ev.fam0 (⟨[(0,(.yld 6)),(7,(nI0 L.length)),(8,(nI0 (((i+1):Nat):Int)))],[],7,6,[(3,(.ptr 0 0)),(4,(.ptr 1 0)),(5,(.ptr 2 0)),(7,(.ptr 3 0))],[(0,(.cells [(.xl (y) (E.length) 1 (X4 E)),(.xl (yl) (L.length) 2 (cR L)),(.fn (.func 78) [(.xl (z) (M.length) 1 (cI M))] [])] 85)),(1,(.cells [(.xl (yr) (P.length) 2 (cR P))] 23)),(2,(.cells [(.v (.bool .true))] 4)),(3,(.cells [(.v (Value.slice none 0 0))] 27)),(5,(.defd .true))],.ready,none,35,O0 W9,N9 W9,O1 W9,5⟩:Ev.Lit1).lit (fun k=>(⟨[(0,(.yld 6)),(7,(nI0 L.length)),(8,(nI0 (((i+1):Nat):Int)))],[],9,6,[(3,(.ptr 0 0)),(4,(.ptr 1 0)),(5,(.ptr 2 0)),(7,(.ptr 3 0))],[(0,(.cells [(.xl (y) (E.length) 1 (X4 E)),(.xl (yl) (L.length) 2 (cR L)),(.fn (.func 78) [(.xl (z) (M.length) 1 (cI M))] [])] 85)),(1,(.cells [(.xl (yr) (P.length) 2 (cR P))] 23)),(2,(.cells [(.v (.bool .true))] 4)),(3,(.cells [(.slu 8 0 (k+1) 0)] 27)),(5,(.defd .true)),(8,(.row (cI (tI (X9 (cR P) (cI M) true) (i+1))) 2 1))],.ready,none,35,O0 W9,N9 W9,O1 W9,5⟩:Ev.Lit1).lit) (tI (X9 (cR P) (cI M) true) (i+1)).length) _)
    rw [hcn]
    show Y6 _ _ _ _ _ (K0 _ isN ((⟨[(0,(.yld 6)),(7,(nI0 L.length)),(8,(nI0 (((i+1):Nat):Int)))],[],9,6,[(3,(.ptr 0 0)),(4,(.ptr 1 0)),(5,(.ptr 2 0)),(7,(.ptr 3 0))],[(0,(.cells [(.xl (y) (E.length) 1 (X4 E)),(.xl (yl) (L.length) 2 (cR L)),(.fn (.func 78) [(.xl (z) (M.length) 1 (cI M))] [])] 85)),(1,(.cells [(.xl (yr) (P.length) 2 (cR P))] 23)),(2,(.cells [(.v (.bool .true))] 4)),(3,(.cells [(.slu 8 0 (0+1) 0)] 27)),(5,(.defd .true)),(8,(.row (cI (tI (X9 (cR P) (cI M) true) (i+1))) 2 1))],.ready,none,35,O0 W9,N9 W9,O1 W9,5⟩:Ev.Lit1).lit) _)
    exact I5 zC0q (Y4) 200 (T':=(⟨[(0,(.yld 6)),(7,(nI0 L.length)),(8,(nI0 (((i+1):Nat):Int)))],[],9,6,[(3,(.ptr 0 0)),(4,(.ptr 1 0)),(5,(.ptr 2 0)),(7,(.ptr 3 0))],[(0,(.cells [(.xl (y) (E.length) 1 (X4 E)),(.xl (yl) (L.length) 2 (cR L)),(.fn (.func 78) [(.xl (z) (M.length) 1 (cI M))] [])] 85)),(1,(.cells [(.xl (yr) (P.length) 2 (cR P))] 23)),(2,(.cells [(.v (.bool .true))] 4)),(3,(.cells [(.slu 8 0 (0+1) 0)] 27)),(5,(.defd .true)),(8,(.row (cI (tI (X9 (cR P) (cI M) true) (i+1))) 2 1))],.ready,none,35,O0 W9,N9 W9,O1 W9,5⟩:Ev.Lit1)) (e:=.normal) (m:=9) (ps:=[Y1 i L.length=true,i<P.length,i*2+0<((cR P):List AV).length,W6 zP0q (cR P) (i*2+0) 2=some (AV.v (Value.int IntKind.i64 (Z8 (cR P) (i*2+0)))),i<M.length,W6 zP0q (cI M) (i*1) 2=some (AV.v (Value.int IntKind.i64 (Z8 (cI M) (i*1)))),(true == Y1 0 (Z8 (cI M) (i*1)))=false,(!true)=false,L3 IntKind.i64 (((i:Nat):Int)+1)]) ([.go,.b true]++gH 7 ([.sym,.sym,.sym]++gH 8 ([.sym,.sym,.go,.go,.go,.b false]++gH 6 [.b false,.go,.go]))) [0,1,2,3,4,5,6,7,8] [(.yld 6),(nI0 L.length),(nI0 (((i:Nat):Int)+1))] [(.ptr 0 0),(.ptr 1 0),(.ptr 2 0),(.ptr 3 0)] [(.cells [(.xl (y) (E.length) 1 (X4 E)),(.xl (yl) (L.length) 2 (cR L)),(.fn (.func 78) [(.xl (z) (M.length) 1 (cI M))] [])] 85),(.cells [(.xl (yr) (P.length) 2 (cR P))] 23),(.cells [(.v (.bool .true))] 4),(.cells [(.slu 8 0 1 0)] 27),(.defd .true),(.row [(nI0 (Z8 (cR P) (i*2+0)))] 2 1)] (by kernel_rfl) (by kernel_rfl) ⟨hz0_1,(by omega),(by rw [Y8];omega),(q9 (i:=i) (by omega) (by omega) 2 (Try.underlying2) rfl),(by omega),(by rw [Nat.mul_one];exact R1 (show _<M.length by omega) 2 (Try.underlying2) rfl),hz0_2,rfl,(b1J (by omega) (by omega)),trivial⟩ rfl rfl (by decide) rfl ⟨k8 rfl,W0 _,S6 (show ((((i:Nat):Int)+1):Int)=(((i+1):Nat):Int) from by omega),trivial⟩ ⟨X8 rfl,X8 rfl,X8 rfl,X8 rfl,trivial⟩ ⟨⟨by show 0<9;decide,Z0 (Z9 (V4 (X6 (Y2 _))) (Z9 (V7 (Z7 (Y7 L))) (Z9 (z6 (Z9 (V7 (Z7 (Z5 M))) (Z3)) (Z3)) (Z3))))⟩,⟨by show 1<9;decide,Z0 (Z9 (V7 (Z7 (Y7 P))) (Z3))⟩,⟨by show 2<9;decide,Z0 (Z9 (W0 _) (Z3))⟩,⟨by show 3<9;decide,Z0 (Z9 (Y9 rfl) (Z3))⟩,⟨by show 5<9;decide,D2⟩,⟨by show 8<9;decide,Z1 (K6 (show ((cI (tI (X9 (cR P) (cI M) true) (i+1))):List AV)=[(nI0 (Z8 (cR P) (i*2+0)))] from by (exact (a5d (by have h9:=Y0 (X9 (cR P) (cI M) true) i;omega) (a0c (c:=cR P) (d:=cI M) (g:=true) (b:=i) (by rw [hz0_2];decide))).symm)) (Z5 _))⟩,trivial⟩ (by show 6<9;decide) (by show 5<9;decide) (by show 7≤9;decide) (fun b hb=>(by have hb2:b<7:=hb;match b,hb2 with|0,_=>rfl|1,_=>rfl|2,_=>rfl|3,_=>rfl|4,_=>rfl|5,_=>rfl|6,_=>rfl))
  ·have ghz0_1:=Z4 hz0_1
   exfalso
   have h9:=Y0 (X9 (cR P) (cI M) true) i
   omega
 |succ k =>
  show Y6 zP0q 16 b0d ((⟨[(0,(.yld 6)),(7,(nI0 L.length)),(8,(nI0 i))],[],9,6,[(3,(.ptr 0 0)),(4,(.ptr 1 0)),(5,(.ptr 2 0)),(7,(.ptr 3 0))],[(0,(.cells [(.xl (y) (E.length) 1 (X4 E)),(.xl (yl) (L.length) 2 (cR L)),(.fn (.func 78) [(.xl (z) (M.length) 1 (cI M))] [])] 85)),(1,(.cells [(.xl (yr) (P.length) 2 (cR P))] 23)),(2,(.cells [(.v (.bool .true))] 4)),(3,(.cells [(.slu 8 0 (k+1) 0)] 27)),(5,(.defd .true)),(8,(.row (cI (tI (X9 (cR P) (cI M) true) i)) 2 1))],.ready,none,35,O0 W9,N9 W9,O1 W9,5⟩:Ev.Lit1).lit) (bw v 7 eb ec) (a0r _ _ _ _ _ _ _ _)
  rcases zB0q (Y1 i L.length) with hs0_1|hs0_1
  ·have ghs0_1:=W7 hs0_1
   rcases zB0q (true == Y1 0 (Z8 (cI M) (i*1))) with hs0_2|hs0_2
   ·refine Ev.step_on ⟨i+1,by omega,trivial⟩ (by show L.length - (i+1)<L.length - i;omega) ?_
    have hcn:(tI (X9 (cR P) (cI M) true) (i+1)).length=k+1+1:=by (have h9:=Y0 (X9 (cR P) (cI M) true) i;rw [Y0];omega)
    show Y6 _ _ _ _ _ (K0 _ isN (Ev.fam0 (⟨[(0,(.yld 6)),(7,(nI0 L.length)),(8,(nI0 (((i+1):Nat):Int)))],[],7,6,[(3,(.ptr 0 0)),(4,(.ptr 1 0)),(5,(.ptr 2 0)),(7,(.ptr 3 0))],[(0,(.cells [(.xl (y) (E.length) 1 (X4 E)),(.xl (yl) (L.length) 2 (cR L)),(.fn (.func 78) [(.xl (z) (M.length) 1 (cI M))] [])] 85)),(1,(.cells [(.xl (yr) (P.length) 2 (cR P))] 23)),(2,(.cells [(.v (.bool .true))] 4)),(3,(.cells [(.v (Value.slice none 0 0))] 27)),(5,(.defd .true))],.ready,none,35,O0 W9,N9 W9,O1 W9,5⟩:Ev.Lit1).lit (fun k=>(⟨[(0,(.yld 6)),(7,(nI0 L.length)),(8,(nI0 (((i+1):Nat):Int)))],[],9,6,[(3,(.ptr 0 0)),(4,(.ptr 1 0)),(5,(.ptr 2 0)),(7,(.ptr 3 0))],[(0,(.cells [(.xl (y) (E.length) 1 (X4 E)),(.xl (yl) (L.length) 2 (cR L)),(.fn (.func 78) [(.xl (z) (M.length) 1 (cI M))] [])] 85)),(1,(.cells [(.xl (yr) (P.length) 2 (cR P))] 23)),(2,(.cells [(.v (.bool .true))] 4)),(3,(.cells [(.slu 8 0 (k+1) 0)] 27)),(5,(.defd .true)),(8,(.row (cI (tI (X9 (cR P) (cI M) true) (i+1))) 2 1))],.ready,none,35,O0 W9,N9 W9,O1 W9,5⟩:Ev.Lit1).lit) (tI (X9 (cR P) (cI M) true) (i+1)).length) _)
    rw [hcn]
    show Y6 _ _ _ _ _ (K0 _ isN ((⟨[(0,(.yld 6)),(7,(nI0 L.length)),(8,(nI0 (((i+1):Nat):Int)))],[],9,6,[(3,(.ptr 0 0)),(4,(.ptr 1 0)),(5,(.ptr 2 0)),(7,(.ptr 3 0))],[(0,(.cells [(.xl (y) (E.length) 1 (X4 E)),(.xl (yl) (L.length) 2 (cR L)),(.fn (.func 78) [(.xl (z) (M.length) 1 (cI M))] [])] 85)),(1,(.cells [(.xl (yr) (P.length) 2 (cR P))] 23)),(2,(.cells [(.v (.bool .true))] 4)),(3,(.cells [(.slu 8 0 (k+1+1) 0)] 27)),(5,(.defd .true)),(8,(.row (cI (tI (X9 (cR P) (cI M) true) (i+1))) 2 1))],.ready,none,35,O0 W9,N9 W9,O1 W9,5⟩:Ev.Lit1).lit) _)
    exact I5 zC0q (Y4) 200 (T':=(⟨[(0,(.yld 6)),(7,(nI0 L.length)),(8,(nI0 (((i+1):Nat):Int)))],[],9,6,[(3,(.ptr 0 0)),(4,(.ptr 1 0)),(5,(.ptr 2 0)),(7,(.ptr 3 0))],[(0,(.cells [(.xl (y) (E.length) 1 (X4 E)),(.xl (yl) (L.length) 2 (cR L)),(.fn (.func 78) [(.xl (z) (M.length) 1 (cI M))] [])] 85)),(1,(.cells [(.xl (yr) (P.length) 2 (cR P))] 23)),(2,(.cells [(.v (.bool .true))] 4)),(3,(.cells [(.slu 8 0 (k+1+1) 0)] 27)),(5,(.defd .true)),(8,(.row (cI (tI (X9 (cR P) (cI M) true) (i+1))) 2 1))],.ready,none,35,O0 W9,N9 W9,O1 W9,5⟩:Ev.Lit1)) (e:=.normal) (m:=11) (ps:=[Y1 i L.length=true,i<P.length,i*2+0<((cR P):List AV).length,W6 zP0q (cR P) (i*2+0) 2=some (AV.v (Value.int IntKind.i64 (Z8 (cR P) (i*2+0)))),i<M.length,W6 zP0q (cI M) (i*1) 2=some (AV.v (Value.int IntKind.i64 (Z8 (cI M) (i*1)))),(true == Y1 0 (Z8 (cI M) (i*1)))=true,i<P.length,i*2+1<((cR P):List AV).length,W6 zP0q (cR P) (i*2+1) 2=some (AV.v (Value.int IntKind.i64 (Z8 (cR P) (i*2+1)))),((cI (tI (X9 (cR P) (cI M) true) i)):List AV).length=(k+1)*1,k+1+1≤1000000,(!true)=false,L3 IntKind.i64 (((i:Nat):Int)+1)]) ([.go,.b true]++gH 7 ([.sym,.sym,.sym]++gH 8 ([.sym,.sym,.go,.go,.go,.b true,.go,.go,.sym,.sym,.sym]++gH 4 [.sym,.go,.go,.b false,.go,.go]))) [0,1,2,3,4,5,6,7,10] [(.yld 6),(nI0 L.length),(nI0 (((i:Nat):Int)+1))] [(.ptr 0 0),(.ptr 1 0),(.ptr 2 0),(.ptr 3 0)] [(.cells [(.xl (y) (E.length) 1 (X4 E)),(.xl (yl) (L.length) 2 (cR L)),(.fn (.func 78) [(.xl (z) (M.length) 1 (cI M))] [])] 85),(.cells [(.xl (yr) (P.length) 2 (cR P))] 23),(.cells [(.v (.bool .true))] 4),(.cells [(.slu 10 0 (k+1+1) 0)] 27),(.defd .true),(.row ((cI (tI (X9 (cR P) (cI M) true) i))++[(nI0 (Z8 (cR P) (i*2+1)))]) 2 1)] (by kernel_rfl) (by kernel_rfl) ⟨hs0_1,(by omega),(by rw [Y8];omega),(q9 (i:=i) (by omega) (by omega) 2 (Try.underlying2) rfl),(by omega),(by rw [Nat.mul_one];exact R1 (show _<M.length by omega) 2 (Try.underlying2) rfl),hs0_2,(by omega),(by rw [Y8];omega),(q9 (i:=i) (by omega) (by omega) 2 (Try.underlying2) rfl),(by have h9:=Y0 (X9 (cR P) (cI M) true) i;show (cI _).length=_;rw [Y5,Y0];omega),(by have h9:=Y0 (X9 (cR P) (cI M) true) i;have h8:=Y0 (X9 (cR P) (cI M) true) (i+1);omega),rfl,(b1J (by omega) (by omega)),trivial⟩ rfl rfl (by decide) rfl ⟨k8 rfl,W0 _,S6 (show ((((i:Nat):Int)+1):Int)=(((i+1):Nat):Int) from by omega),trivial⟩ ⟨X8 rfl,X8 rfl,X8 rfl,X8 rfl,trivial⟩ ⟨⟨by show 0<9;decide,Z0 (Z9 (V4 (X6 (Y2 _))) (Z9 (V7 (Z7 (Y7 L))) (Z9 (z6 (Z9 (V7 (Z7 (Z5 M))) (Z3)) (Z3)) (Z3))))⟩,⟨by show 1<9;decide,Z0 (Z9 (V7 (Z7 (Y7 P))) (Z3))⟩,⟨by show 2<9;decide,Z0 (Z9 (W0 _) (Z3))⟩,⟨by show 3<9;decide,Z0 (Z9 (Y9 rfl) (Z3))⟩,⟨by show 5<9;decide,D2⟩,⟨by show 8<9;decide,Z1 (K6 (show ((cI (tI (X9 (cR P) (cI M) true) (i+1))):List AV)=((cI (tI (X9 (cR P) (cI M) true) i))++[(nI0 (Z8 (cR P) (i*2+1)))]) from by first|exact (k9 (s3 (c:=cR P) hs0_2)).symm|(rw [List.take_of_length_le (by have h9:=Y0 (X9 (cR P) (cI M) true) i;rw [List.length_drop,Y5,Y0];omega),List.drop_zero];exact (k9 (s3 (c:=cR P) hs0_2)).symm)) (Z5 _))⟩,trivial⟩ (by show 6<9;decide) (by show 5<9;decide) (by show 7≤9;decide) (fun b hb=>(by have hb2:b<7:=hb;match b,hb2 with|0,_=>rfl|1,_=>rfl|2,_=>rfl|3,_=>rfl|4,_=>rfl|5,_=>rfl|6,_=>rfl))
   ·refine Ev.step_on ⟨i+1,by omega,trivial⟩ (by show L.length - (i+1)<L.length - i;omega) ?_
    have hcn:(tI (X9 (cR P) (cI M) true) (i+1)).length=k+1+1:=by (have h9:=Y0 (X9 (cR P) (cI M) true) i;rw [Y0];omega)
    show Y6 _ _ _ _ _ (K0 _ isN (Ev.fam0 (⟨[(0,(.yld 6)),(7,(nI0 L.length)),(8,(nI0 (((i+1):Nat):Int)))],[],7,6,[(3,(.ptr 0 0)),(4,(.ptr 1 0)),(5,(.ptr 2 0)),(7,(.ptr 3 0))],[(0,(.cells [(.xl (y) (E.length) 1 (X4 E)),(.xl (yl) (L.length) 2 (cR L)),(.fn (.func 78) [(.xl (z) (M.length) 1 (cI M))] [])] 85)),(1,(.cells [(.xl (yr) (P.length) 2 (cR P))] 23)),(2,(.cells [(.v (.bool .true))] 4)),(3,(.cells [(.v (Value.slice none 0 0))] 27)),(5,(.defd .true))],.ready,none,35,O0 W9,N9 W9,O1 W9,5⟩:Ev.Lit1).lit (fun k=>(⟨[(0,(.yld 6)),(7,(nI0 L.length)),(8,(nI0 (((i+1):Nat):Int)))],[],9,6,[(3,(.ptr 0 0)),(4,(.ptr 1 0)),(5,(.ptr 2 0)),(7,(.ptr 3 0))],[(0,(.cells [(.xl (y) (E.length) 1 (X4 E)),(.xl (yl) (L.length) 2 (cR L)),(.fn (.func 78) [(.xl (z) (M.length) 1 (cI M))] [])] 85)),(1,(.cells [(.xl (yr) (P.length) 2 (cR P))] 23)),(2,(.cells [(.v (.bool .true))] 4)),(3,(.cells [(.slu 8 0 (k+1) 0)] 27)),(5,(.defd .true)),(8,(.row (cI (tI (X9 (cR P) (cI M) true) (i+1))) 2 1))],.ready,none,35,O0 W9,N9 W9,O1 W9,5⟩:Ev.Lit1).lit) (tI (X9 (cR P) (cI M) true) (i+1)).length) _)
    rw [hcn]
    show Y6 _ _ _ _ _ (K0 _ isN ((⟨[(0,(.yld 6)),(7,(nI0 L.length)),(8,(nI0 (((i+1):Nat):Int)))],[],9,6,[(3,(.ptr 0 0)),(4,(.ptr 1 0)),(5,(.ptr 2 0)),(7,(.ptr 3 0))],[(0,(.cells [(.xl (y) (E.length) 1 (X4 E)),(.xl (yl) (L.length) 2 (cR L)),(.fn (.func 78) [(.xl (z) (M.length) 1 (cI M))] [])] 85)),(1,(.cells [(.xl (yr) (P.length) 2 (cR P))] 23)),(2,(.cells [(.v (.bool .true))] 4)),(3,(.cells [(.slu 8 0 (k+1+1) 0)] 27)),(5,(.defd .true)),(8,(.row (cI (tI (X9 (cR P) (cI M) true) (i+1))) 2 1))],.ready,none,35,O0 W9,N9 W9,O1 W9,5⟩:Ev.Lit1).lit) _)
    exact I5 zC0q (Y4) 200 (T':=(⟨[(0,(.yld 6)),(7,(nI0 L.length)),(8,(nI0 (((i+1):Nat):Int)))],[],9,6,[(3,(.ptr 0 0)),(4,(.ptr 1 0)),(5,(.ptr 2 0)),(7,(.ptr 3 0))],[(0,(.cells [(.xl (y) (E.length) 1 (X4 E)),(.xl (yl) (L.length) 2 (cR L)),(.fn (.func 78) [(.xl (z) (M.length) 1 (cI M))] [])] 85)),(1,(.cells [(.xl (yr) (P.length) 2 (cR P))] 23)),(2,(.cells [(.v (.bool .true))] 4)),(3,(.cells [(.slu 8 0 (k+1+1) 0)] 27)),(5,(.defd .true)),(8,(.row (cI (tI (X9 (cR P) (cI M) true) (i+1))) 2 1))],.ready,none,35,O0 W9,N9 W9,O1 W9,5⟩:Ev.Lit1)) (e:=.normal) (m:=11) (ps:=[Y1 i L.length=true,i<P.length,i*2+0<((cR P):List AV).length,W6 zP0q (cR P) (i*2+0) 2=some (AV.v (Value.int IntKind.i64 (Z8 (cR P) (i*2+0)))),i<M.length,W6 zP0q (cI M) (i*1) 2=some (AV.v (Value.int IntKind.i64 (Z8 (cI M) (i*1)))),(true == Y1 0 (Z8 (cI M) (i*1)))=false,((cI (tI (X9 (cR P) (cI M) true) i)):List AV).length=(k+1)*1,k+1+1≤1000000,(!true)=false,L3 IntKind.i64 (((i:Nat):Int)+1)]) ([.go,.b true]++gH 7 ([.sym,.sym,.sym]++gH 8 [.sym,.sym,.go,.go,.go,.b false,.go,.go,.go,.sym,.go,.go,.b false,.go,.go])) [0,1,2,3,4,5,6,7,10] [(.yld 6),(nI0 L.length),(nI0 (((i:Nat):Int)+1))] [(.ptr 0 0),(.ptr 1 0),(.ptr 2 0),(.ptr 3 0)] [(.cells [(.xl (y) (E.length) 1 (X4 E)),(.xl (yl) (L.length) 2 (cR L)),(.fn (.func 78) [(.xl (z) (M.length) 1 (cI M))] [])] 85),(.cells [(.xl (yr) (P.length) 2 (cR P))] 23),(.cells [(.v (.bool .true))] 4),(.cells [(.slu 10 0 (k+1+1) 0)] 27),(.defd .true),(.row ((cI (tI (X9 (cR P) (cI M) true) i))++[(nI0 (Z8 (cR P) (i*2+0)))]) 2 1)] (by kernel_rfl) (by kernel_rfl) ⟨hs0_1,(by omega),(by rw [Y8];omega),(q9 (i:=i) (by omega) (by omega) 2 (Try.underlying2) rfl),(by omega),(by rw [Nat.mul_one];exact R1 (show _<M.length by omega) 2 (Try.underlying2) rfl),hs0_2,(by have h9:=Y0 (X9 (cR P) (cI M) true) i;show (cI _).length=_;rw [Y5,Y0];omega),(by have h9:=Y0 (X9 (cR P) (cI M) true) i;have h8:=Y0 (X9 (cR P) (cI M) true) (i+1);omega),rfl,(b1J (by omega) (by omega)),trivial⟩ rfl rfl (by decide) rfl ⟨k8 rfl,W0 _,S6 (show ((((i:Nat):Int)+1):Int)=(((i+1):Nat):Int) from by omega),trivial⟩ ⟨X8 rfl,X8 rfl,X8 rfl,X8 rfl,trivial⟩ ⟨⟨by show 0<9;decide,Z0 (Z9 (V4 (X6 (Y2 _))) (Z9 (V7 (Z7 (Y7 L))) (Z9 (z6 (Z9 (V7 (Z7 (Z5 M))) (Z3)) (Z3)) (Z3))))⟩,⟨by show 1<9;decide,Z0 (Z9 (V7 (Z7 (Y7 P))) (Z3))⟩,⟨by show 2<9;decide,Z0 (Z9 (W0 _) (Z3))⟩,⟨by show 3<9;decide,Z0 (Z9 (Y9 rfl) (Z3))⟩,⟨by show 5<9;decide,D2⟩,⟨by show 8<9;decide,Z1 (K6 (show ((cI (tI (X9 (cR P) (cI M) true) (i+1))):List AV)=((cI (tI (X9 (cR P) (cI M) true) i))++[(nI0 (Z8 (cR P) (i*2+0)))]) from by first|exact (k9 (a0c (c:=cR P) (d:=cI M) (g:=true) (b:=i) (by rw [hs0_2];decide))).symm|(rw [List.take_of_length_le (by have h9:=Y0 (X9 (cR P) (cI M) true) i;rw [List.length_drop,Y5,Y0];omega),List.drop_zero];exact (k9 (a0c (c:=cR P) (d:=cI M) (g:=true) (b:=i) (by rw [hs0_2];decide))).symm)) (Z5 _))⟩,trivial⟩ (by show 6<9;decide) (by show 5<9;decide) (by show 7≤9;decide) (fun b hb=>(by have hb2:b<7:=hb;match b,hb2 with|0,_=>rfl|1,_=>rfl|2,_=>rfl|3,_=>rfl|4,_=>rfl|5,_=>rfl|6,_=>rfl))
  ·have ghs0_1:=Z4 hs0_1
   refine Ev.step_out (by show L.length≤i;omega) ?_
   show Y6 _ _ _ _ _ (K0 _ (isX 0) (Ev.fam0 (⟨[(0,(.yld 6)),(7,(nI0 L.length)),(8,(nI0 i))],[],7,6,[(3,(.ptr 0 0)),(4,(.ptr 1 0)),(5,(.ptr 2 0)),(7,(.ptr 3 0))],[(0,(.cells [(.xl (y) (E.length) 1 (X4 E)),(.xl (yl) (L.length) 2 (cR L)),(.fn (.func 78) [(.xl (z) (M.length) 1 (cI M))] [])] 85)),(1,(.cells [(.xl (yr) (P.length) 2 (cR P))] 23)),(2,(.cells [(.v (.bool .true))] 4)),(3,(.cells [(.v (Value.slice none 0 0))] 27)),(5,(.defd .true))],.ready,none,35,O0 W9,N9 W9,O1 W9,5⟩:Ev.Lit1).lit (fun k=>(⟨[(0,(.yld 6)),(7,(nI0 L.length)),(8,(nI0 i))],[],9,6,[(3,(.ptr 0 0)),(4,(.ptr 1 0)),(5,(.ptr 2 0)),(7,(.ptr 3 0))],[(0,(.cells [(.xl (y) (E.length) 1 (X4 E)),(.xl (yl) (L.length) 2 (cR L)),(.fn (.func 78) [(.xl (z) (M.length) 1 (cI M))] [])] 85)),(1,(.cells [(.xl (yr) (P.length) 2 (cR P))] 23)),(2,(.cells [(.v (.bool .true))] 4)),(3,(.cells [(.slu 8 0 (k+1) 0)] 27)),(5,(.defd .true)),(8,(.row (cI (tI (X9 (cR P) (cI M) true) i)) 2 1))],.ready,none,35,O0 W9,N9 W9,O1 W9,5⟩:Ev.Lit1).lit) (tI (X9 (cR P) (cI M) true) i).length) _)
   rw [hc]
   exact I6 zC0q (Y4) 200 (T':=(⟨[(0,(.yld 6)),(7,(nI0 L.length)),(8,(nI0 i))],[],9,6,[(3,(.ptr 0 0)),(4,(.ptr 1 0)),(5,(.ptr 2 0)),(7,(.ptr 3 0))],[(0,(.cells [(.xl (y) (E.length) 1 (X4 E)),(.xl (yl) (L.length) 2 (cR L)),(.fn (.func 78) [(.xl (z) (M.length) 1 (cI M))] [])] 85)),(1,(.cells [(.xl (yr) (P.length) 2 (cR P))] 23)),(2,(.cells [(.v (.bool .true))] 4)),(3,(.cells [(.slu 8 0 (k+1) 0)] 27)),(5,(.defd .true)),(8,(.row (cI (tI (X9 (cR P) (cI M) true) i)) 2 1))],.ready,none,35,O0 W9,N9 W9,O1 W9,5⟩:Ev.Lit1)) (e:=.exit 0) (ps:=[Y1 i L.length=false]) [.go,.b false] (by kernel_rfl) (by kernel_rfl) ⟨hs0_1,trivial⟩ rfl
theorem c1a(hn:1≤L.length∧L.length≤8)(hP:P.length=L.length)(hm:M.length=L.length):Y6 zP0q 16 b5w ((⟨[(0,(.yld 6)),(1,(.ptr 4 0))],[],7,6,[(3,(.ptr 0 0)),(4,(.ptr 1 0)),(5,(.ptr 2 0)),(7,(.ptr 3 0))],[(C5 E L M y yl z),(C6 P yr),a1a,j8,(a4M E L M y yl z),(5,(.defd .true))],.ready,none,35,O0 W9,N9 W9,O1 W9,5⟩:Ev.Lit1).lit) (bw v 7 eb ec) (a1s 16 (fun _:Unit=>((⟨[],[],9,6,[(3,(.ptr 0 0)),(4,(.ptr 1 0)),(5,(.ptr 2 0)),(7,(.ptr 3 0))],[(C5 E L M y yl z),(C6 P yr),a1a,(b3Q L M P),(5,(.defd .true)),(b4d L M P)],.ready,none,35,O0 W9,N9 W9,O1 W9,5⟩:Ev.Lit1)).lit) (fun _:Unit=>True) (bw v 7 eb ec)):=by
 exact P5 (T':=(⟨[(0,(.yld 6)),(a9S L),(8,(nN 0))],[],7,6,[(3,(.ptr 0 0)),(4,(.ptr 1 0)),(5,(.ptr 2 0)),(7,(.ptr 3 0))],[(C5 E L M y yl z),(C6 P yr),a1a,j8,(5,(.defd .true))],.ready,none,35,O0 W9,N9 W9,O1 W9,5⟩:Ev.Lit1).lit) (by kernel_rfl) (I6 zC0q (Y4) 200 (T':=(⟨[(0,(.yld 6)),(a9S L),(8,(nN 0))],[],7,6,[(3,(.ptr 0 0)),(4,(.ptr 1 0)),(5,(.ptr 2 0)),(7,(.ptr 3 0))],[(C5 E L M y yl z),(C6 P yr),a1a,j8,(5,(.defd .true))],.ready,none,35,O0 W9,N9 W9,O1 W9,5⟩:Ev.Lit1)) (e:=.normal) (ps:=[]) (gH 5 []) (by kernel_rfl) (by kernel_rfl) trivial rfl) (c0T hn hP hm)
@[reducible] def a5a(L:List (Int×Int))(M:List Int)(P:List (Int×Int))(eb:Nat→Option Nat)(ec:Nat→Nat)(v:BaseW):=(D3 zP0q Try.f90 35 ((.slu 0 0 L.length 0)) [(a0T L M P)] (bw v 0 eb ec))
theorem c4X(hn:1≤L.length∧L.length≤8)(hP:P.length=L.length)(hm:M.length=L.length):Y6 zP0q 35 b4W ((b8u L M P)) (BaseW.H (bw v 0 eb ec) hs) (a5a L M P eb ec v):=by
 exact Z6 U0 (U8 zC0q (Y4) 200 (T':=⟨[(6,(.slu 0 0 ((a50 L M P).length) 0))],[],1,[(0,(a0T L M P))]⟩) (e:=.ret) (m:=6) (ps:=[]) [.go,.go] [5] [(.slu 5 0 ((a50 L M P).length) 0)] [(a0T L M P)] (by kernel_rfl) (by kernel_rfl) trivial rfl rfl (by decide) rfl ⟨Y9 rfl,trivial⟩ ⟨⟨by show 0<1;decide,Z1 (Z7 (Z5 _))⟩,trivial⟩) (o3 (r:=(.slu 0 0 ((a50 L M P).length) 0)) (ys:=[(a0T L M P)]) (by (rw [Y0])) (by rfl) (A4 (by kernel_rfl) (by kernel_rfl) rfl (.inr rfl)))
theorem c4q(hn:1≤L.length∧L.length≤8)(hP:P.length=L.length)(hm:M.length=L.length):Y6 zP0q 35 W9 ((a8z E L M P y yl yr z)) (BaseW.H (bw v 0 eb ec) hs) (Hd.AfterB zP0q 35 0 b4W (bw v 0 eb ec) (a5a L M P eb ec v)):=by
 refine V2 (T':=(a8z E L M P y yl yr z)) (by kernel_rfl) (by kernel_rfl) (by kernel_rfl) (by kernel_rfl) ?_
 exact m9 (T1:=(⟨[(0,(.yld 6)),(1,(.ptr 4 0))],[],7,6,[(3,(.ptr 0 0)),(4,(.ptr 1 0)),(5,(.ptr 2 0)),(7,(.ptr 3 0))],[(C5 E L M y yl z),(C6 P yr),a1a,j8,(a4M E L M y yl z),(5,(.defd .true))],.ready,none,35,O0 W9,N9 W9,O1 W9,5⟩:Ev.Lit1)) (T2:=(fun _:Unit=>(⟨[],[],9,6,[(3,(.ptr 0 0)),(4,(.ptr 1 0)),(5,(.ptr 2 0)),(7,(.ptr 3 0))],[(C5 E L M y yl z),(C6 P yr),a1a,(b3Q L M P),(5,(.defd .true)),(b4d L M P)],.ready,none,35,O0 W9,N9 W9,O1 W9,5⟩:Ev.Lit1))) (T3:=fun _:Unit=>(c1z L M P)) (R:=(fun _:Unit=>True)) (k:=93) (l:=6) (szk:=16) (K:=7) (e:=fun _=>.normal) rfl (by kernel_rfl) Try.func93 (by kernel_rfl) (by kernel_rfl) (by kernel_rfl) (by kernel_rfl) (by kernel_rfl) (fun _ _=>rfl) (fun v eb ec=>c1a hn hP hm) (fun _ _=>by kernel_rfl) (fun _ _=>a44 (T:=(c1z L M P)) (T':=(b8u L M P)) (m:=5) [0,1,2,3,4,8] [(.ptr 3 0)] [(b91 L M P),(a0T L M P)] rfl (by kernel_rfl) rfl rfl (by decide) (by kernel_rfl) (by kernel_rfl) ⟨X8 rfl,trivial⟩ ⟨⟨by show 3<6;decide,Z0 (Z9 (Y9 rfl) (Z3))⟩,⟨by show 5<6;decide,Z1 (Z7 (Z5 _))⟩,trivial⟩ ⟨(by show 3≠5;decide),(by show 8≠5;decide),trivial⟩ (Nat.zero_le _) (fun b h=>absurd h (Nat.not_lt_zero b)) (fun hs=>Hd.en_bn (c4X hn hP hm)))
theorem c52(hn:1≤L.length∧L.length≤8)(hP:P.length=L.length)(hm:M.length=L.length):Y6 zP0q 35 W9 ((a8z E L M P y yl yr z)) (BaseW.H (bw v 0 eb ec) hs) (Hd.AfterB zP0q 35 0 b4W (bw v 0 eb ec) (a5a L M P eb ec v)):=by
 exact c4q hn hP hm
@[reducible] def b3t(L:List (Int×Int))(M:List Int)(P:List (Int×Int))(eb:Nat→Option Nat)(ec:Nat→Nat)(v:BaseW):=(Hd.AfterN zP0q 35 b4W (bw v 0 eb ec) (D3 zP0q Try.f90 35 ((.slu 0 0 L.length 0)) [(a0T L M P)] (bw v 0 eb ec)))
theorem c37(hn:1≤L.length∧L.length≤8)(hP:P.length=L.length)(hm:M.length=L.length):Y6 zP0q 35 b2g ((a8z E L M P y yl yr z)) (BaseW.H (bw v 0 eb ec) hs) (b3t L M P eb ec v):=by
 exact Hd.goes_blkA (id:=0) (by kernel_rfl) (by kernel_rfl) (c52 hn hP hm)
theorem c5X(hn:1≤L.length∧L.length≤8)(hP:P.length=L.length)(hm:M.length=L.length):Y6 zP0q 35 b2g ((a8z E L M P y yl yr z)) (BaseW.H (bw v 0 eb ec) hs) (b3t L M P eb ec v):=by
 exact c37 hn hP hm
theorem c5S(hn:1≤L.length∧L.length≤8)(hP:P.length=L.length)(hm:M.length=L.length):Y6 zP0q 35 b96 ((b6E E L M P y yl yr z)) (BaseW.H (bw v 0 eb ec) hs) (b3t L M P eb ec v):=by
 refine Hd.goes_seqA (by kernel_rfl) ?_
 exact Z6 W3 (Z2 zC0q (Y4) 200 (T':=(a8z E L M P y yl yr z)) (e:=.normal) (ps:=[]) (gH 5 []) (by kernel_rfl) (by kernel_rfl) trivial rfl) (Hd.en_n (c5X hn hP hm))
theorem c7s(hn:1≤L.length∧L.length≤8)(hP:P.length=L.length)(hm:M.length=L.length):Y6 zP0q 35 b7G ((b6E E L M P y yl yr z)) (BaseW.H (bw v 0 eb ec) hs) (a5a L M P eb ec v):=by
 exact Hd.goes_seqA (by kernel_rfl) (c5S hn hP hm)
theorem c6i(hn:1≤L.length∧L.length≤8)(hP:P.length=L.length)(hm:M.length=L.length):Y6 zP0q 35 c29 ((c2A E L M P y yl yr z)) (BaseW.H (bw v 0 eb ec) hs) (a5a L M P eb ec v):=by
 refine Hd.goes_seqA (by kernel_rfl) ?_
 exact Z6 W3 (Z2 zC0q (Y4) 200 (T':=(b6E E L M P y yl yr z)) (e:=.normal) (ps:=[]) [.go] (by kernel_rfl) (by kernel_rfl) trivial rfl) (Hd.en_n (c7s hn hP hm))
theorem c84(y:Value)(E:List (Value×List (Int×Int)))(yl:Value)(L:List (Int×Int))(z:Value)(M:List Int)(yr:Value)(P:List (Int×Int))(hn:1≤L.length∧L.length≤8)(hP:P.length=L.length)(hm:M.length=L.length)(v:BaseW)(eb:Nat→Option Nat)(ec:Nat→Nat)(hs:List Nat):Y6 zP0q 35 c2o (⟨[(0,(b0u E L M y yl z)),(1,(.xl yr P.length 2 (cR P))),(2,(.v (.bool true)))],[],0,[]⟩) (BaseW.H (bw v 0 eb ec) hs) (a5a L M P eb ec v):=by
 refine Hd.goes_seqA (by kernel_rfl) ?_
 exact Z6 W3 (Z2 zC0q (Y4) 200 (T':=(c2A E L M P y yl yr z)) (e:=.normal) (ps:=[]) (gH 4 []) (by kernel_rfl) (by kernel_rfl) trivial rfl) (Hd.en_n (c6i hn hP hm))
theorem c6z(y:Value)(E:List (Value×List (Int×Int)))(yl:Value)(L:List (Int×Int))(z:Value)(M:List Int)(yr:Value)(P:List (Int×Int))(hn:1≤L.length∧L.length≤8)(hP:P.length=L.length)(hm:M.length=L.length):A8 zP0q 90 [(b0u E L M y yl z),(.xl yr P.length 2 (cR P)),(.v (.bool true))] [] ((.slu 0 0 L.length 0)) [(a0T L M P)] :=
 N1 35 (by kernel_rfl) Try.func90 (by kernel_rfl) (by kernel_rfl) (by kernel_rfl) (fun v eb ec=>V2 (by kernel_rfl) (by kernel_rfl) (by kernel_rfl) (by kernel_rfl) (c84 y E yl L z M yr P hn hP hm v eb ec []))
noncomputable def c2m:Code:=N6 Try.f90
noncomputable def c24:Code:=L2 c2m
noncomputable def b6W:Code:=L2 c24
noncomputable def b4r:Code:=L2 b6W
noncomputable def b7N:Code:=(l5 b6W)
noncomputable def b3j:Code:=L2 b7N
noncomputable def X3:Code:=a4L b3j
noncomputable def b5g:Code:=N6 Try.f93
noncomputable def b52:Code:=L2 b5g
noncomputable def a92:Code:=G5 b52
theorem c0O(hn:1≤L.length∧L.length≤8)(hP:P.length=L.length)(hm:M.length=L.length):Y6 zP0q 16 b52 ((⟨[(0,(.yld 6)),(7,(nI0 L.length)),(8,(nN 0))],[],7,6,[(3,(.ptr 0 0)),(4,(.ptr 1 0)),(5,(.ptr 2 0)),(7,(.ptr 3 0))],[(0,(.cells [(.xl (y) (E.length) 1 (X4 E)),(.xl (yl) (L.length) 2 (cR L)),(.fn (.func 78) [(.xl (z) (M.length) 1 (cI M))] [])] 85)),(1,(.cells [(.xl (yr) (P.length) 2 (cR P))] 23)),(2,(.cells [(.v (.bool .false))] 4)),(3,(.cells [(.v (Value.slice none 0 0))] 27)),(5,(.defd .true))],.ready,none,35,O0 X3,N9 X3,O1 X3,5⟩:Ev.Lit1).lit) (bw v 7 eb ec) (a1s 16 (fun _:Unit=>((⟨[],[],9,6,[(3,(.ptr 0 0)),(4,(.ptr 1 0)),(5,(.ptr 2 0)),(7,(.ptr 3 0))],[(0,(.cells [(.xl (y) (E.length) 1 (X4 E)),(.xl (yl) (L.length) 2 (cR L)),(.fn (.func 78) [(.xl (z) (M.length) 1 (cI M))] [])] 85)),(1,(.cells [(.xl (yr) (P.length) 2 (cR P))] 23)),(2,(.cells [(.v (.bool .false))] 4)),(3,(.cells [(.slu 8 0 (tI (X9 (cR P) (cI M) false) L.length).length 0)] 27)),(5,(.defd .true)),(8,(.row (cI (tI (X9 (cR P) (cI M) false) L.length)) 2 1))],.ready,none,35,O0 X3,N9 X3,O1 X3,5⟩:Ev.Lit1)).lit) (fun _:Unit=>True) (bw v 7 eb ec)):=by
 have hcl_L:=Y8 L
 have hcl_M:=Y5 M
 have hcl_P:=Y8 P
 refine V2 (T':=(⟨[(0,(.yld 6)),(7,(nI0 L.length)),(8,(nN 0))],[],7,6,[(3,(.ptr 0 0)),(4,(.ptr 1 0)),(5,(.ptr 2 0)),(7,(.ptr 3 0))],[(0,(.cells [(.xl (y) (E.length) 1 (X4 E)),(.xl (yl) (L.length) 2 (cR L)),(.fn (.func 78) [(.xl (z) (M.length) 1 (cI M))] [])] 85)),(1,(.cells [(.xl (yr) (P.length) 2 (cR P))] 23)),(2,(.cells [(.v (.bool .false))] 4)),(3,(.cells [(.v (Value.slice none 0 0))] 27)),(5,(.defd .true))],.ready,none,35,O0 X3,N9 X3,O1 X3,5⟩:Ev.Lit1).lit) (by kernel_rfl) (by kernel_rfl) (by kernel_rfl) (by kernel_rfl) (a00 (ι:={i:Nat // i≤L.length∧True}) (T:=(fun i:{i:Nat // i≤L.length∧True}=>((Ev.fam0 (⟨[(0,(.yld 6)),(7,(nI0 L.length)),(8,(nI0 i.1))],[],7,6,[(3,(.ptr 0 0)),(4,(.ptr 1 0)),(5,(.ptr 2 0)),(7,(.ptr 3 0))],[(0,(.cells [(.xl (y) (E.length) 1 (X4 E)),(.xl (yl) (L.length) 2 (cR L)),(.fn (.func 78) [(.xl (z) (M.length) 1 (cI M))] [])] 85)),(1,(.cells [(.xl (yr) (P.length) 2 (cR P))] 23)),(2,(.cells [(.v (.bool .false))] 4)),(3,(.cells [(.v (Value.slice none 0 0))] 27)),(5,(.defd .true))],.ready,none,35,O0 X3,N9 X3,O1 X3,5⟩:Ev.Lit1).lit (fun k=>(⟨[(0,(.yld 6)),(7,(nI0 L.length)),(8,(nI0 i.1))],[],9,6,[(3,(.ptr 0 0)),(4,(.ptr 1 0)),(5,(.ptr 2 0)),(7,(.ptr 3 0))],[(0,(.cells [(.xl (y) (E.length) 1 (X4 E)),(.xl (yl) (L.length) 2 (cR L)),(.fn (.func 78) [(.xl (z) (M.length) 1 (cI M))] [])] 85)),(1,(.cells [(.xl (yr) (P.length) 2 (cR P))] 23)),(2,(.cells [(.v (.bool .false))] 4)),(3,(.cells [(.slu 8 0 (k+1) 0)] 27)),(5,(.defd .true)),(8,(.row (cI (tI (X9 (cR P) (cI M) false) i.1)) 2 1))],.ready,none,35,O0 X3,N9 X3,O1 X3,5⟩:Ev.Lit1).lit) (tI (X9 (cR P) (cI M) false) i.1).length):Ev.Lit))) (R:=(fun i:{i:Nat // i≤L.length∧True}=>L.length≤i.1)) (by kernel_rfl) (a1H (show ((⟨[(0,(.yld 6)),(7,(nI0 L.length)),(8,(nN 0))],[],7,6,[(3,(.ptr 0 0)),(4,(.ptr 1 0)),(5,(.ptr 2 0)),(7,(.ptr 3 0))],[(0,(.cells [(.xl (y) (E.length) 1 (X4 E)),(.xl (yl) (L.length) 2 (cR L)),(.fn (.func 78) [(.xl (z) (M.length) 1 (cI M))] [])] 85)),(1,(.cells [(.xl (yr) (P.length) 2 (cR P))] 23)),(2,(.cells [(.v (.bool .false))] 4)),(3,(.cells [(.v (Value.slice none 0 0))] 27)),(5,(.defd .true))],.ready,none,35,O0 X3,N9 X3,O1 X3,5⟩:Ev.Lit1).lit:Ev.Lit)=(Ev.fam0 (⟨[(0,(.yld 6)),(7,(nI0 L.length)),(8,(nI0 0))],[],7,6,[(3,(.ptr 0 0)),(4,(.ptr 1 0)),(5,(.ptr 2 0)),(7,(.ptr 3 0))],[(0,(.cells [(.xl (y) (E.length) 1 (X4 E)),(.xl (yl) (L.length) 2 (cR L)),(.fn (.func 78) [(.xl (z) (M.length) 1 (cI M))] [])] 85)),(1,(.cells [(.xl (yr) (P.length) 2 (cR P))] 23)),(2,(.cells [(.v (.bool .false))] 4)),(3,(.cells [(.v (Value.slice none 0 0))] 27)),(5,(.defd .true))],.ready,none,35,O0 X3,N9 X3,O1 X3,5⟩:Ev.Lit1).lit (fun k=>(⟨[(0,(.yld 6)),(7,(nI0 L.length)),(8,(nI0 0))],[],9,6,[(3,(.ptr 0 0)),(4,(.ptr 1 0)),(5,(.ptr 2 0)),(7,(.ptr 3 0))],[(0,(.cells [(.xl (y) (E.length) 1 (X4 E)),(.xl (yl) (L.length) 2 (cR L)),(.fn (.func 78) [(.xl (z) (M.length) 1 (cI M))] [])] 85)),(1,(.cells [(.xl (yr) (P.length) 2 (cR P))] 23)),(2,(.cells [(.v (.bool .false))] 4)),(3,(.cells [(.slu 8 0 (k+1) 0)] 27)),(5,(.defd .true)),(8,(.row (cI (tI (X9 (cR P) (cI M) false) 0)) 2 1))],.ready,none,35,O0 X3,N9 X3,O1 X3,5⟩:Ev.Lit1).lit) (tI (X9 (cR P) (cI M) false) 0).length) from by (rw [show (tI (X9 (cR P) (cI M) false) 0).length=0 from Y0 _ _];rfl)) (B3 (by kernel_rfl) (fun i:{i:Nat // i≤L.length∧True}=>((Ev.fam0 (⟨[(0,(.yld 6)),(7,(nI0 L.length)),(8,(nI0 i.1))],[],7,6,[(3,(.ptr 0 0)),(4,(.ptr 1 0)),(5,(.ptr 2 0)),(7,(.ptr 3 0))],[(0,(.cells [(.xl (y) (E.length) 1 (X4 E)),(.xl (yl) (L.length) 2 (cR L)),(.fn (.func 78) [(.xl (z) (M.length) 1 (cI M))] [])] 85)),(1,(.cells [(.xl (yr) (P.length) 2 (cR P))] 23)),(2,(.cells [(.v (.bool .false))] 4)),(3,(.cells [(.v (Value.slice none 0 0))] 27)),(5,(.defd .true))],.ready,none,35,O0 X3,N9 X3,O1 X3,5⟩:Ev.Lit1).lit (fun k=>(⟨[(0,(.yld 6)),(7,(nI0 L.length)),(8,(nI0 i.1))],[],9,6,[(3,(.ptr 0 0)),(4,(.ptr 1 0)),(5,(.ptr 2 0)),(7,(.ptr 3 0))],[(0,(.cells [(.xl (y) (E.length) 1 (X4 E)),(.xl (yl) (L.length) 2 (cR L)),(.fn (.func 78) [(.xl (z) (M.length) 1 (cI M))] [])] 85)),(1,(.cells [(.xl (yr) (P.length) 2 (cR P))] 23)),(2,(.cells [(.v (.bool .false))] 4)),(3,(.cells [(.slu 8 0 (k+1) 0)] 27)),(5,(.defd .true)),(8,(.row (cI (tI (X9 (cR P) (cI M) false) i.1)) 2 1))],.ready,none,35,O0 X3,N9 X3,O1 X3,5⟩:Ev.Lit1).lit) (tI (X9 (cR P) (cI M) false) i.1).length):Ev.Lit)) (fun i:{i:Nat // i≤L.length∧True}=>L.length - i.1) (fun i=>?_) ⟨0,Nat.zero_le _,trivial⟩)) (fun ixR hxR=>(fun (i0r:Nat) (h0ra:i0r≤L.length) (h0rb:True) (h0rc:L.length≤i0r)=>⟨(),show True from trivial,(by obtain ⟨i9,q1,q2⟩:=ixR;have h9:L.length≤i9:=hxR;have e:i9=L.length:=(by omega);subst e;obtain ⟨k,hk⟩:∃ k,(tI (X9 (cR P) (cI M) false) L.length).length=k+1:=⟨L.length - 1,by rw [Y0];omega⟩;show a3o (Ev.Lit.fs (Ev.fam0 _ _ (tI (X9 (cR P) (cI M) false) L.length).length)) _;rw [hk];exact B0 (by kernel_rfl) (by kernel_rfl) (by kernel_rfl) (by kernel_rfl))⟩) ixR.1 ixR.2.1 ixR.2.2 hxR))
 obtain ⟨i,hi1,hi2⟩:=i
 show Y6 zP0q 16 a92 ((Ev.fam0 (⟨[(0,(.yld 6)),(7,(nI0 L.length)),(8,(nI0 i))],[],7,6,[(3,(.ptr 0 0)),(4,(.ptr 1 0)),(5,(.ptr 2 0)),(7,(.ptr 3 0))],[(0,(.cells [(.xl (y) (E.length) 1 (X4 E)),(.xl (yl) (L.length) 2 (cR L)),(.fn (.func 78) [(.xl (z) (M.length) 1 (cI M))] [])] 85)),(1,(.cells [(.xl (yr) (P.length) 2 (cR P))] 23)),(2,(.cells [(.v (.bool .false))] 4)),(3,(.cells [(.v (Value.slice none 0 0))] 27)),(5,(.defd .true))],.ready,none,35,O0 X3,N9 X3,O1 X3,5⟩:Ev.Lit1).lit (fun k=>(⟨[(0,(.yld 6)),(7,(nI0 L.length)),(8,(nI0 i))],[],9,6,[(3,(.ptr 0 0)),(4,(.ptr 1 0)),(5,(.ptr 2 0)),(7,(.ptr 3 0))],[(0,(.cells [(.xl (y) (E.length) 1 (X4 E)),(.xl (yl) (L.length) 2 (cR L)),(.fn (.func 78) [(.xl (z) (M.length) 1 (cI M))] [])] 85)),(1,(.cells [(.xl (yr) (P.length) 2 (cR P))] 23)),(2,(.cells [(.v (.bool .false))] 4)),(3,(.cells [(.slu 8 0 (k+1) 0)] 27)),(5,(.defd .true)),(8,(.row (cI (tI (X9 (cR P) (cI M) false) i)) 2 1))],.ready,none,35,O0 X3,N9 X3,O1 X3,5⟩:Ev.Lit1).lit) (tI (X9 (cR P) (cI M) false) i).length)) (bw v 7 eb ec) (a0r _ _ _ _ _ _ _ _)
 cases hc:(tI (X9 (cR P) (cI M) false) i).length with
 |zero =>
  show Y6 zP0q 16 a92 ((⟨[(0,(.yld 6)),(7,(nI0 L.length)),(8,(nI0 i))],[],7,6,[(3,(.ptr 0 0)),(4,(.ptr 1 0)),(5,(.ptr 2 0)),(7,(.ptr 3 0))],[(0,(.cells [(.xl (y) (E.length) 1 (X4 E)),(.xl (yl) (L.length) 2 (cR L)),(.fn (.func 78) [(.xl (z) (M.length) 1 (cI M))] [])] 85)),(1,(.cells [(.xl (yr) (P.length) 2 (cR P))] 23)),(2,(.cells [(.v (.bool .false))] 4)),(3,(.cells [(.v (Value.slice none 0 0))] 27)),(5,(.defd .true))],.ready,none,35,O0 X3,N9 X3,O1 X3,5⟩:Ev.Lit1).lit) (bw v 7 eb ec) (a0r _ _ _ _ _ _ _ _)
  rcases zB0q (Y1 i L.length) with hz0_1|hz0_1
  ·have ghz0_1:=W7 hz0_1
   rcases zB0q (false == Y1 0 (Z8 (cI M) (i*1))) with hz0_2|hz0_2
   ·refine Ev.step_on ⟨i+1,by omega,trivial⟩ (by show L.length - (i+1)<L.length - i;omega) ?_
    have hcn:(tI (X9 (cR P) (cI M) false) (i+1)).length=0+1:=by (have h9:=Y0 (X9 (cR P) (cI M) false) i;rw [Y0];omega)
    show Y6 _ _ _ _ _ (K0 _ isN (Ev.fam0 (⟨[(0,(.yld 6)),(7,(nI0 L.length)),(8,(nI0 (((i+1):Nat):Int)))],[],7,6,[(3,(.ptr 0 0)),(4,(.ptr 1 0)),(5,(.ptr 2 0)),(7,(.ptr 3 0))],[(0,(.cells [(.xl (y) (E.length) 1 (X4 E)),(.xl (yl) (L.length) 2 (cR L)),(.fn (.func 78) [(.xl (z) (M.length) 1 (cI M))] [])] 85)),(1,(.cells [(.xl (yr) (P.length) 2 (cR P))] 23)),(2,(.cells [(.v (.bool .false))] 4)),(3,(.cells [(.v (Value.slice none 0 0))] 27)),(5,(.defd .true))],.ready,none,35,O0 X3,N9 X3,O1 X3,5⟩:Ev.Lit1).lit (fun k=>(⟨[(0,(.yld 6)),(7,(nI0 L.length)),(8,(nI0 (((i+1):Nat):Int)))],[],9,6,[(3,(.ptr 0 0)),(4,(.ptr 1 0)),(5,(.ptr 2 0)),(7,(.ptr 3 0))],[(0,(.cells [(.xl (y) (E.length) 1 (X4 E)),(.xl (yl) (L.length) 2 (cR L)),(.fn (.func 78) [(.xl (z) (M.length) 1 (cI M))] [])] 85)),(1,(.cells [(.xl (yr) (P.length) 2 (cR P))] 23)),(2,(.cells [(.v (.bool .false))] 4)),(3,(.cells [(.slu 8 0 (k+1) 0)] 27)),(5,(.defd .true)),(8,(.row (cI (tI (X9 (cR P) (cI M) false) (i+1))) 2 1))],.ready,none,35,O0 X3,N9 X3,O1 X3,5⟩:Ev.Lit1).lit) (tI (X9 (cR P) (cI M) false) (i+1)).length) _)
    rw [hcn]
    show Y6 _ _ _ _ _ (K0 _ isN ((⟨[(0,(.yld 6)),(7,(nI0 L.length)),(8,(nI0 (((i+1):Nat):Int)))],[],9,6,[(3,(.ptr 0 0)),(4,(.ptr 1 0)),(5,(.ptr 2 0)),(7,(.ptr 3 0))],[(0,(.cells [(.xl (y) (E.length) 1 (X4 E)),(.xl (yl) (L.length) 2 (cR L)),(.fn (.func 78) [(.xl (z) (M.length) 1 (cI M))] [])] 85)),(1,(.cells [(.xl (yr) (P.length) 2 (cR P))] 23)),(2,(.cells [(.v (.bool .false))] 4)),(3,(.cells [(.slu 8 0 (0+1) 0)] 27)),(5,(.defd .true)),(8,(.row (cI (tI (X9 (cR P) (cI M) false) (i+1))) 2 1))],.ready,none,35,O0 X3,N9 X3,O1 X3,5⟩:Ev.Lit1).lit) _)
    exact I5 zC0q (Y4) 200 (T':=(⟨[(0,(.yld 6)),(7,(nI0 L.length)),(8,(nI0 (((i+1):Nat):Int)))],[],9,6,[(3,(.ptr 0 0)),(4,(.ptr 1 0)),(5,(.ptr 2 0)),(7,(.ptr 3 0))],[(0,(.cells [(.xl (y) (E.length) 1 (X4 E)),(.xl (yl) (L.length) 2 (cR L)),(.fn (.func 78) [(.xl (z) (M.length) 1 (cI M))] [])] 85)),(1,(.cells [(.xl (yr) (P.length) 2 (cR P))] 23)),(2,(.cells [(.v (.bool .false))] 4)),(3,(.cells [(.slu 8 0 (0+1) 0)] 27)),(5,(.defd .true)),(8,(.row (cI (tI (X9 (cR P) (cI M) false) (i+1))) 2 1))],.ready,none,35,O0 X3,N9 X3,O1 X3,5⟩:Ev.Lit1)) (e:=.normal) (m:=9) (ps:=[Y1 i L.length=true,i<P.length,i*2+0<((cR P):List AV).length,W6 zP0q (cR P) (i*2+0) 2=some (AV.v (Value.int IntKind.i64 (Z8 (cR P) (i*2+0)))),i<M.length,W6 zP0q (cI M) (i*1) 2=some (AV.v (Value.int IntKind.i64 (Z8 (cI M) (i*1)))),(false == Y1 0 (Z8 (cI M) (i*1)))=true,i<P.length,i*2+1<((cR P):List AV).length,W6 zP0q (cR P) (i*2+1) 2=some (AV.v (Value.int IntKind.i64 (Z8 (cR P) (i*2+1)))),(!true)=false,L3 IntKind.i64 (((i:Nat):Int)+1)]) ([.go,.b true]++gH 7 ([.sym,.sym,.sym]++gH 8 ([.sym,.sym,.go,.go,.go,.b true,.go,.go,.sym,.sym,.sym]++gH 7 [.b false,.go,.go]))) [0,1,2,3,4,5,6,7,8] [(.yld 6),(nI0 L.length),(nI0 (((i:Nat):Int)+1))] [(.ptr 0 0),(.ptr 1 0),(.ptr 2 0),(.ptr 3 0)] [(.cells [(.xl (y) (E.length) 1 (X4 E)),(.xl (yl) (L.length) 2 (cR L)),(.fn (.func 78) [(.xl (z) (M.length) 1 (cI M))] [])] 85),(.cells [(.xl (yr) (P.length) 2 (cR P))] 23),(.cells [(.v (.bool .false))] 4),(.cells [(.slu 8 0 1 0)] 27),(.defd .true),(.row [(nI0 (Z8 (cR P) (i*2+1)))] 2 1)] (by kernel_rfl) (by kernel_rfl) ⟨hz0_1,(by omega),(by rw [Y8];omega),(q9 (i:=i) (by omega) (by omega) 2 (Try.underlying2) rfl),(by omega),(by rw [Nat.mul_one];exact R1 (show _<M.length by omega) 2 (Try.underlying2) rfl),hz0_2,(by omega),(by rw [Y8];omega),(q9 (i:=i) (by omega) (by omega) 2 (Try.underlying2) rfl),rfl,(b1J (by omega) (by omega)),trivial⟩ rfl rfl (by decide) rfl ⟨k8 rfl,W0 _,S6 (show ((((i:Nat):Int)+1):Int)=(((i+1):Nat):Int) from by omega),trivial⟩ ⟨X8 rfl,X8 rfl,X8 rfl,X8 rfl,trivial⟩ ⟨⟨by show 0<9;decide,Z0 (Z9 (V4 (X6 (Y2 _))) (Z9 (V7 (Z7 (Y7 L))) (Z9 (z6 (Z9 (V7 (Z7 (Z5 M))) (Z3)) (Z3)) (Z3))))⟩,⟨by show 1<9;decide,Z0 (Z9 (V7 (Z7 (Y7 P))) (Z3))⟩,⟨by show 2<9;decide,Z0 (Z9 (W0 _) (Z3))⟩,⟨by show 3<9;decide,Z0 (Z9 (Y9 rfl) (Z3))⟩,⟨by show 5<9;decide,D2⟩,⟨by show 8<9;decide,Z1 (K6 (show ((cI (tI (X9 (cR P) (cI M) false) (i+1))):List AV)=[(nI0 (Z8 (cR P) (i*2+1)))] from by (exact (a5d (by have h9:=Y0 (X9 (cR P) (cI M) false) i;omega) (s3 (c:=cR P) hz0_2)).symm)) (Z5 _))⟩,trivial⟩ (by show 6<9;decide) (by show 5<9;decide) (by show 7≤9;decide) (fun b hb=>(by have hb2:b<7:=hb;match b,hb2 with|0,_=>rfl|1,_=>rfl|2,_=>rfl|3,_=>rfl|4,_=>rfl|5,_=>rfl|6,_=>rfl))
   ·refine Ev.step_on ⟨i+1,by omega,trivial⟩ (by show L.length - (i+1)<L.length - i;omega) ?_
    have hcn:(tI (X9 (cR P) (cI M) false) (i+1)).length=0+1:=by (have h9:=Y0 (X9 (cR P) (cI M) false) i;rw [Y0];omega)
    show Y6 _ _ _ _ _ (K0 _ isN (Ev.fam0 (⟨[(0,(.yld 6)),(7,(nI0 L.length)),(8,(nI0 (((i+1):Nat):Int)))],[],7,6,[(3,(.ptr 0 0)),(4,(.ptr 1 0)),(5,(.ptr 2 0)),(7,(.ptr 3 0))],[(0,(.cells [(.xl (y) (E.length) 1 (X4 E)),(.xl (yl) (L.length) 2 (cR L)),(.fn (.func 78) [(.xl (z) (M.length) 1 (cI M))] [])] 85)),(1,(.cells [(.xl (yr) (P.length) 2 (cR P))] 23)),(2,(.cells [(.v (.bool .false))] 4)),(3,(.cells [(.v (Value.slice none 0 0))] 27)),(5,(.defd .true))],.ready,none,35,O0 X3,N9 X3,O1 X3,5⟩:Ev.Lit1).lit (fun k=>(⟨[(0,(.yld 6)),(7,(nI0 L.length)),(8,(nI0 (((i+1):Nat):Int)))],[],9,6,[(3,(.ptr 0 0)),(4,(.ptr 1 0)),(5,(.ptr 2 0)),(7,(.ptr 3 0))],[(0,(.cells [(.xl (y) (E.length) 1 (X4 E)),(.xl (yl) (L.length) 2 (cR L)),(.fn (.func 78) [(.xl (z) (M.length) 1 (cI M))] [])] 85)),(1,(.cells [(.xl (yr) (P.length) 2 (cR P))] 23)),(2,(.cells [(.v (.bool .false))] 4)),(3,(.cells [(.slu 8 0 (k+1) 0)] 27)),(5,(.defd .true)),(8,(.row (cI (tI (X9 (cR P) (cI M) false) (i+1))) 2 1))],.ready,none,35,O0 X3,N9 X3,O1 X3,5⟩:Ev.Lit1).lit) (tI (X9 (cR P) (cI M) false) (i+1)).length) _)
    rw [hcn]
    show Y6 _ _ _ _ _ (K0 _ isN ((⟨[(0,(.yld 6)),(7,(nI0 L.length)),(8,(nI0 (((i+1):Nat):Int)))],[],9,6,[(3,(.ptr 0 0)),(4,(.ptr 1 0)),(5,(.ptr 2 0)),(7,(.ptr 3 0))],[(0,(.cells [(.xl (y) (E.length) 1 (X4 E)),(.xl (yl) (L.length) 2 (cR L)),(.fn (.func 78) [(.xl (z) (M.length) 1 (cI M))] [])] 85)),(1,(.cells [(.xl (yr) (P.length) 2 (cR P))] 23)),(2,(.cells [(.v (.bool .false))] 4)),(3,(.cells [(.slu 8 0 (0+1) 0)] 27)),(5,(.defd .true)),(8,(.row (cI (tI (X9 (cR P) (cI M) false) (i+1))) 2 1))],.ready,none,35,O0 X3,N9 X3,O1 X3,5⟩:Ev.Lit1).lit) _)
    exact I5 zC0q (Y4) 200 (T':=(⟨[(0,(.yld 6)),(7,(nI0 L.length)),(8,(nI0 (((i+1):Nat):Int)))],[],9,6,[(3,(.ptr 0 0)),(4,(.ptr 1 0)),(5,(.ptr 2 0)),(7,(.ptr 3 0))],[(0,(.cells [(.xl (y) (E.length) 1 (X4 E)),(.xl (yl) (L.length) 2 (cR L)),(.fn (.func 78) [(.xl (z) (M.length) 1 (cI M))] [])] 85)),(1,(.cells [(.xl (yr) (P.length) 2 (cR P))] 23)),(2,(.cells [(.v (.bool .false))] 4)),(3,(.cells [(.slu 8 0 (0+1) 0)] 27)),(5,(.defd .true)),(8,(.row (cI (tI (X9 (cR P) (cI M) false) (i+1))) 2 1))],.ready,none,35,O0 X3,N9 X3,O1 X3,5⟩:Ev.Lit1)) (e:=.normal) (m:=9) (ps:=[Y1 i L.length=true,i<P.length,i*2+0<((cR P):List AV).length,W6 zP0q (cR P) (i*2+0) 2=some (AV.v (Value.int IntKind.i64 (Z8 (cR P) (i*2+0)))),i<M.length,W6 zP0q (cI M) (i*1) 2=some (AV.v (Value.int IntKind.i64 (Z8 (cI M) (i*1)))),(false == Y1 0 (Z8 (cI M) (i*1)))=false,(!true)=false,L3 IntKind.i64 (((i:Nat):Int)+1)]) ([.go,.b true]++gH 7 ([.sym,.sym,.sym]++gH 8 ([.sym,.sym,.go,.go,.go,.b false]++gH 6 [.b false,.go,.go]))) [0,1,2,3,4,5,6,7,8] [(.yld 6),(nI0 L.length),(nI0 (((i:Nat):Int)+1))] [(.ptr 0 0),(.ptr 1 0),(.ptr 2 0),(.ptr 3 0)] [(.cells [(.xl (y) (E.length) 1 (X4 E)),(.xl (yl) (L.length) 2 (cR L)),(.fn (.func 78) [(.xl (z) (M.length) 1 (cI M))] [])] 85),(.cells [(.xl (yr) (P.length) 2 (cR P))] 23),(.cells [(.v (.bool .false))] 4),(.cells [(.slu 8 0 1 0)] 27),(.defd .true),(.row [(nI0 (Z8 (cR P) (i*2+0)))] 2 1)] (by kernel_rfl) (by kernel_rfl) ⟨hz0_1,(by omega),(by rw [Y8];omega),(q9 (i:=i) (by omega) (by omega) 2 (Try.underlying2) rfl),(by omega),(by rw [Nat.mul_one];exact R1 (show _<M.length by omega) 2 (Try.underlying2) rfl),hz0_2,rfl,(b1J (by omega) (by omega)),trivial⟩ rfl rfl (by decide) rfl ⟨k8 rfl,W0 _,S6 (show ((((i:Nat):Int)+1):Int)=(((i+1):Nat):Int) from by omega),trivial⟩ ⟨X8 rfl,X8 rfl,X8 rfl,X8 rfl,trivial⟩ ⟨⟨by show 0<9;decide,Z0 (Z9 (V4 (X6 (Y2 _))) (Z9 (V7 (Z7 (Y7 L))) (Z9 (z6 (Z9 (V7 (Z7 (Z5 M))) (Z3)) (Z3)) (Z3))))⟩,⟨by show 1<9;decide,Z0 (Z9 (V7 (Z7 (Y7 P))) (Z3))⟩,⟨by show 2<9;decide,Z0 (Z9 (W0 _) (Z3))⟩,⟨by show 3<9;decide,Z0 (Z9 (Y9 rfl) (Z3))⟩,⟨by show 5<9;decide,D2⟩,⟨by show 8<9;decide,Z1 (K6 (show ((cI (tI (X9 (cR P) (cI M) false) (i+1))):List AV)=[(nI0 (Z8 (cR P) (i*2+0)))] from by (exact (a5d (by have h9:=Y0 (X9 (cR P) (cI M) false) i;omega) (a0c (c:=cR P) (d:=cI M) (g:=false) (b:=i) (by rw [hz0_2];decide))).symm)) (Z5 _))⟩,trivial⟩ (by show 6<9;decide) (by show 5<9;decide) (by show 7≤9;decide) (fun b hb=>(by have hb2:b<7:=hb;match b,hb2 with|0,_=>rfl|1,_=>rfl|2,_=>rfl|3,_=>rfl|4,_=>rfl|5,_=>rfl|6,_=>rfl))
  ·have ghz0_1:=Z4 hz0_1
   exfalso
   have h9:=Y0 (X9 (cR P) (cI M) false) i
   omega
 |succ k =>
  show Y6 zP0q 16 a92 ((⟨[(0,(.yld 6)),(7,(nI0 L.length)),(8,(nI0 i))],[],9,6,[(3,(.ptr 0 0)),(4,(.ptr 1 0)),(5,(.ptr 2 0)),(7,(.ptr 3 0))],[(0,(.cells [(.xl (y) (E.length) 1 (X4 E)),(.xl (yl) (L.length) 2 (cR L)),(.fn (.func 78) [(.xl (z) (M.length) 1 (cI M))] [])] 85)),(1,(.cells [(.xl (yr) (P.length) 2 (cR P))] 23)),(2,(.cells [(.v (.bool .false))] 4)),(3,(.cells [(.slu 8 0 (k+1) 0)] 27)),(5,(.defd .true)),(8,(.row (cI (tI (X9 (cR P) (cI M) false) i)) 2 1))],.ready,none,35,O0 X3,N9 X3,O1 X3,5⟩:Ev.Lit1).lit) (bw v 7 eb ec) (a0r _ _ _ _ _ _ _ _)
  rcases zB0q (Y1 i L.length) with hs0_1|hs0_1
  ·have ghs0_1:=W7 hs0_1
   rcases zB0q (false == Y1 0 (Z8 (cI M) (i*1))) with hs0_2|hs0_2
   ·refine Ev.step_on ⟨i+1,by omega,trivial⟩ (by show L.length - (i+1)<L.length - i;omega) ?_
    have hcn:(tI (X9 (cR P) (cI M) false) (i+1)).length=k+1+1:=by (have h9:=Y0 (X9 (cR P) (cI M) false) i;rw [Y0];omega)
    show Y6 _ _ _ _ _ (K0 _ isN (Ev.fam0 (⟨[(0,(.yld 6)),(7,(nI0 L.length)),(8,(nI0 (((i+1):Nat):Int)))],[],7,6,[(3,(.ptr 0 0)),(4,(.ptr 1 0)),(5,(.ptr 2 0)),(7,(.ptr 3 0))],[(0,(.cells [(.xl (y) (E.length) 1 (X4 E)),(.xl (yl) (L.length) 2 (cR L)),(.fn (.func 78) [(.xl (z) (M.length) 1 (cI M))] [])] 85)),(1,(.cells [(.xl (yr) (P.length) 2 (cR P))] 23)),(2,(.cells [(.v (.bool .false))] 4)),(3,(.cells [(.v (Value.slice none 0 0))] 27)),(5,(.defd .true))],.ready,none,35,O0 X3,N9 X3,O1 X3,5⟩:Ev.Lit1).lit (fun k=>(⟨[(0,(.yld 6)),(7,(nI0 L.length)),(8,(nI0 (((i+1):Nat):Int)))],[],9,6,[(3,(.ptr 0 0)),(4,(.ptr 1 0)),(5,(.ptr 2 0)),(7,(.ptr 3 0))],[(0,(.cells [(.xl (y) (E.length) 1 (X4 E)),(.xl (yl) (L.length) 2 (cR L)),(.fn (.func 78) [(.xl (z) (M.length) 1 (cI M))] [])] 85)),(1,(.cells [(.xl (yr) (P.length) 2 (cR P))] 23)),(2,(.cells [(.v (.bool .false))] 4)),(3,(.cells [(.slu 8 0 (k+1) 0)] 27)),(5,(.defd .true)),(8,(.row (cI (tI (X9 (cR P) (cI M) false) (i+1))) 2 1))],.ready,none,35,O0 X3,N9 X3,O1 X3,5⟩:Ev.Lit1).lit) (tI (X9 (cR P) (cI M) false) (i+1)).length) _)
    rw [hcn]
    show Y6 _ _ _ _ _ (K0 _ isN ((⟨[(0,(.yld 6)),(7,(nI0 L.length)),(8,(nI0 (((i+1):Nat):Int)))],[],9,6,[(3,(.ptr 0 0)),(4,(.ptr 1 0)),(5,(.ptr 2 0)),(7,(.ptr 3 0))],[(0,(.cells [(.xl (y) (E.length) 1 (X4 E)),(.xl (yl) (L.length) 2 (cR L)),(.fn (.func 78) [(.xl (z) (M.length) 1 (cI M))] [])] 85)),(1,(.cells [(.xl (yr) (P.length) 2 (cR P))] 23)),(2,(.cells [(.v (.bool .false))] 4)),(3,(.cells [(.slu 8 0 (k+1+1) 0)] 27)),(5,(.defd .true)),(8,(.row (cI (tI (X9 (cR P) (cI M) false) (i+1))) 2 1))],.ready,none,35,O0 X3,N9 X3,O1 X3,5⟩:Ev.Lit1).lit) _)
    exact I5 zC0q (Y4) 200 (T':=(⟨[(0,(.yld 6)),(7,(nI0 L.length)),(8,(nI0 (((i+1):Nat):Int)))],[],9,6,[(3,(.ptr 0 0)),(4,(.ptr 1 0)),(5,(.ptr 2 0)),(7,(.ptr 3 0))],[(0,(.cells [(.xl (y) (E.length) 1 (X4 E)),(.xl (yl) (L.length) 2 (cR L)),(.fn (.func 78) [(.xl (z) (M.length) 1 (cI M))] [])] 85)),(1,(.cells [(.xl (yr) (P.length) 2 (cR P))] 23)),(2,(.cells [(.v (.bool .false))] 4)),(3,(.cells [(.slu 8 0 (k+1+1) 0)] 27)),(5,(.defd .true)),(8,(.row (cI (tI (X9 (cR P) (cI M) false) (i+1))) 2 1))],.ready,none,35,O0 X3,N9 X3,O1 X3,5⟩:Ev.Lit1)) (e:=.normal) (m:=11) (ps:=[Y1 i L.length=true,i<P.length,i*2+0<((cR P):List AV).length,W6 zP0q (cR P) (i*2+0) 2=some (AV.v (Value.int IntKind.i64 (Z8 (cR P) (i*2+0)))),i<M.length,W6 zP0q (cI M) (i*1) 2=some (AV.v (Value.int IntKind.i64 (Z8 (cI M) (i*1)))),(false == Y1 0 (Z8 (cI M) (i*1)))=true,i<P.length,i*2+1<((cR P):List AV).length,W6 zP0q (cR P) (i*2+1) 2=some (AV.v (Value.int IntKind.i64 (Z8 (cR P) (i*2+1)))),((cI (tI (X9 (cR P) (cI M) false) i)):List AV).length=(k+1)*1,k+1+1≤1000000,(!true)=false,L3 IntKind.i64 (((i:Nat):Int)+1)]) ([.go,.b true]++gH 7 ([.sym,.sym,.sym]++gH 8 ([.sym,.sym,.go,.go,.go,.b true,.go,.go,.sym,.sym,.sym]++gH 4 [.sym,.go,.go,.b false,.go,.go]))) [0,1,2,3,4,5,6,7,10] [(.yld 6),(nI0 L.length),(nI0 (((i:Nat):Int)+1))] [(.ptr 0 0),(.ptr 1 0),(.ptr 2 0),(.ptr 3 0)] [(.cells [(.xl (y) (E.length) 1 (X4 E)),(.xl (yl) (L.length) 2 (cR L)),(.fn (.func 78) [(.xl (z) (M.length) 1 (cI M))] [])] 85),(.cells [(.xl (yr) (P.length) 2 (cR P))] 23),(.cells [(.v (.bool .false))] 4),(.cells [(.slu 10 0 (k+1+1) 0)] 27),(.defd .true),(.row ((cI (tI (X9 (cR P) (cI M) false) i))++[(nI0 (Z8 (cR P) (i*2+1)))]) 2 1)] (by kernel_rfl) (by kernel_rfl) ⟨hs0_1,(by omega),(by rw [Y8];omega),(q9 (i:=i) (by omega) (by omega) 2 (Try.underlying2) rfl),(by omega),(by rw [Nat.mul_one];exact R1 (show _<M.length by omega) 2 (Try.underlying2) rfl),hs0_2,(by omega),(by rw [Y8];omega),(q9 (i:=i) (by omega) (by omega) 2 (Try.underlying2) rfl),(by have h9:=Y0 (X9 (cR P) (cI M) false) i;show (cI _).length=_;rw [Y5,Y0];omega),(by have h9:=Y0 (X9 (cR P) (cI M) false) i;have h8:=Y0 (X9 (cR P) (cI M) false) (i+1);omega),rfl,(b1J (by omega) (by omega)),trivial⟩ rfl rfl (by decide) rfl ⟨k8 rfl,W0 _,S6 (show ((((i:Nat):Int)+1):Int)=(((i+1):Nat):Int) from by omega),trivial⟩ ⟨X8 rfl,X8 rfl,X8 rfl,X8 rfl,trivial⟩ ⟨⟨by show 0<9;decide,Z0 (Z9 (V4 (X6 (Y2 _))) (Z9 (V7 (Z7 (Y7 L))) (Z9 (z6 (Z9 (V7 (Z7 (Z5 M))) (Z3)) (Z3)) (Z3))))⟩,⟨by show 1<9;decide,Z0 (Z9 (V7 (Z7 (Y7 P))) (Z3))⟩,⟨by show 2<9;decide,Z0 (Z9 (W0 _) (Z3))⟩,⟨by show 3<9;decide,Z0 (Z9 (Y9 rfl) (Z3))⟩,⟨by show 5<9;decide,D2⟩,⟨by show 8<9;decide,Z1 (K6 (show ((cI (tI (X9 (cR P) (cI M) false) (i+1))):List AV)=((cI (tI (X9 (cR P) (cI M) false) i))++[(nI0 (Z8 (cR P) (i*2+1)))]) from by first|exact (k9 (s3 (c:=cR P) hs0_2)).symm|(rw [List.take_of_length_le (by have h9:=Y0 (X9 (cR P) (cI M) false) i;rw [List.length_drop,Y5,Y0];omega),List.drop_zero];exact (k9 (s3 (c:=cR P) hs0_2)).symm)) (Z5 _))⟩,trivial⟩ (by show 6<9;decide) (by show 5<9;decide) (by show 7≤9;decide) (fun b hb=>(by have hb2:b<7:=hb;match b,hb2 with|0,_=>rfl|1,_=>rfl|2,_=>rfl|3,_=>rfl|4,_=>rfl|5,_=>rfl|6,_=>rfl))
   ·refine Ev.step_on ⟨i+1,by omega,trivial⟩ (by show L.length - (i+1)<L.length - i;omega) ?_
    have hcn:(tI (X9 (cR P) (cI M) false) (i+1)).length=k+1+1:=by (have h9:=Y0 (X9 (cR P) (cI M) false) i;rw [Y0];omega)
    show Y6 _ _ _ _ _ (K0 _ isN (Ev.fam0 (⟨[(0,(.yld 6)),(7,(nI0 L.length)),(8,(nI0 (((i+1):Nat):Int)))],[],7,6,[(3,(.ptr 0 0)),(4,(.ptr 1 0)),(5,(.ptr 2 0)),(7,(.ptr 3 0))],[(0,(.cells [(.xl (y) (E.length) 1 (X4 E)),(.xl (yl) (L.length) 2 (cR L)),(.fn (.func 78) [(.xl (z) (M.length) 1 (cI M))] [])] 85)),(1,(.cells [(.xl (yr) (P.length) 2 (cR P))] 23)),(2,(.cells [(.v (.bool .false))] 4)),(3,(.cells [(.v (Value.slice none 0 0))] 27)),(5,(.defd .true))],.ready,none,35,O0 X3,N9 X3,O1 X3,5⟩:Ev.Lit1).lit (fun k=>(⟨[(0,(.yld 6)),(7,(nI0 L.length)),(8,(nI0 (((i+1):Nat):Int)))],[],9,6,[(3,(.ptr 0 0)),(4,(.ptr 1 0)),(5,(.ptr 2 0)),(7,(.ptr 3 0))],[(0,(.cells [(.xl (y) (E.length) 1 (X4 E)),(.xl (yl) (L.length) 2 (cR L)),(.fn (.func 78) [(.xl (z) (M.length) 1 (cI M))] [])] 85)),(1,(.cells [(.xl (yr) (P.length) 2 (cR P))] 23)),(2,(.cells [(.v (.bool .false))] 4)),(3,(.cells [(.slu 8 0 (k+1) 0)] 27)),(5,(.defd .true)),(8,(.row (cI (tI (X9 (cR P) (cI M) false) (i+1))) 2 1))],.ready,none,35,O0 X3,N9 X3,O1 X3,5⟩:Ev.Lit1).lit) (tI (X9 (cR P) (cI M) false) (i+1)).length) _)
    rw [hcn]
    show Y6 _ _ _ _ _ (K0 _ isN ((⟨[(0,(.yld 6)),(7,(nI0 L.length)),(8,(nI0 (((i+1):Nat):Int)))],[],9,6,[(3,(.ptr 0 0)),(4,(.ptr 1 0)),(5,(.ptr 2 0)),(7,(.ptr 3 0))],[(0,(.cells [(.xl (y) (E.length) 1 (X4 E)),(.xl (yl) (L.length) 2 (cR L)),(.fn (.func 78) [(.xl (z) (M.length) 1 (cI M))] [])] 85)),(1,(.cells [(.xl (yr) (P.length) 2 (cR P))] 23)),(2,(.cells [(.v (.bool .false))] 4)),(3,(.cells [(.slu 8 0 (k+1+1) 0)] 27)),(5,(.defd .true)),(8,(.row (cI (tI (X9 (cR P) (cI M) false) (i+1))) 2 1))],.ready,none,35,O0 X3,N9 X3,O1 X3,5⟩:Ev.Lit1).lit) _)
    exact I5 zC0q (Y4) 200 (T':=(⟨[(0,(.yld 6)),(7,(nI0 L.length)),(8,(nI0 (((i+1):Nat):Int)))],[],9,6,[(3,(.ptr 0 0)),(4,(.ptr 1 0)),(5,(.ptr 2 0)),(7,(.ptr 3 0))],[(0,(.cells [(.xl (y) (E.length) 1 (X4 E)),(.xl (yl) (L.length) 2 (cR L)),(.fn (.func 78) [(.xl (z) (M.length) 1 (cI M))] [])] 85)),(1,(.cells [(.xl (yr) (P.length) 2 (cR P))] 23)),(2,(.cells [(.v (.bool .false))] 4)),(3,(.cells [(.slu 8 0 (k+1+1) 0)] 27)),(5,(.defd .true)),(8,(.row (cI (tI (X9 (cR P) (cI M) false) (i+1))) 2 1))],.ready,none,35,O0 X3,N9 X3,O1 X3,5⟩:Ev.Lit1)) (e:=.normal) (m:=11) (ps:=[Y1 i L.length=true,i<P.length,i*2+0<((cR P):List AV).length,W6 zP0q (cR P) (i*2+0) 2=some (AV.v (Value.int IntKind.i64 (Z8 (cR P) (i*2+0)))),i<M.length,W6 zP0q (cI M) (i*1) 2=some (AV.v (Value.int IntKind.i64 (Z8 (cI M) (i*1)))),(false == Y1 0 (Z8 (cI M) (i*1)))=false,((cI (tI (X9 (cR P) (cI M) false) i)):List AV).length=(k+1)*1,k+1+1≤1000000,(!true)=false,L3 IntKind.i64 (((i:Nat):Int)+1)]) ([.go,.b true]++gH 7 ([.sym,.sym,.sym]++gH 8 [.sym,.sym,.go,.go,.go,.b false,.go,.go,.go,.sym,.go,.go,.b false,.go,.go])) [0,1,2,3,4,5,6,7,10] [(.yld 6),(nI0 L.length),(nI0 (((i:Nat):Int)+1))] [(.ptr 0 0),(.ptr 1 0),(.ptr 2 0),(.ptr 3 0)] [(.cells [(.xl (y) (E.length) 1 (X4 E)),(.xl (yl) (L.length) 2 (cR L)),(.fn (.func 78) [(.xl (z) (M.length) 1 (cI M))] [])] 85),(.cells [(.xl (yr) (P.length) 2 (cR P))] 23),(.cells [(.v (.bool .false))] 4),(.cells [(.slu 10 0 (k+1+1) 0)] 27),(.defd .true),(.row ((cI (tI (X9 (cR P) (cI M) false) i))++[(nI0 (Z8 (cR P) (i*2+0)))]) 2 1)] (by kernel_rfl) (by kernel_rfl) ⟨hs0_1,(by omega),(by rw [Y8];omega),(q9 (i:=i) (by omega) (by omega) 2 (Try.underlying2) rfl),(by omega),(by rw [Nat.mul_one];exact R1 (show _<M.length by omega) 2 (Try.underlying2) rfl),hs0_2,(by have h9:=Y0 (X9 (cR P) (cI M) false) i;show (cI _).length=_;rw [Y5,Y0];omega),(by have h9:=Y0 (X9 (cR P) (cI M) false) i;have h8:=Y0 (X9 (cR P) (cI M) false) (i+1);omega),rfl,(b1J (by omega) (by omega)),trivial⟩ rfl rfl (by decide) rfl ⟨k8 rfl,W0 _,S6 (show ((((i:Nat):Int)+1):Int)=(((i+1):Nat):Int) from by omega),trivial⟩ ⟨X8 rfl,X8 rfl,X8 rfl,X8 rfl,trivial⟩ ⟨⟨by show 0<9;decide,Z0 (Z9 (V4 (X6 (Y2 _))) (Z9 (V7 (Z7 (Y7 L))) (Z9 (z6 (Z9 (V7 (Z7 (Z5 M))) (Z3)) (Z3)) (Z3))))⟩,⟨by show 1<9;decide,Z0 (Z9 (V7 (Z7 (Y7 P))) (Z3))⟩,⟨by show 2<9;decide,Z0 (Z9 (W0 _) (Z3))⟩,⟨by show 3<9;decide,Z0 (Z9 (Y9 rfl) (Z3))⟩,⟨by show 5<9;decide,D2⟩,⟨by show 8<9;decide,Z1 (K6 (show ((cI (tI (X9 (cR P) (cI M) false) (i+1))):List AV)=((cI (tI (X9 (cR P) (cI M) false) i))++[(nI0 (Z8 (cR P) (i*2+0)))]) from by first|exact (k9 (a0c (c:=cR P) (d:=cI M) (g:=false) (b:=i) (by rw [hs0_2];decide))).symm|(rw [List.take_of_length_le (by have h9:=Y0 (X9 (cR P) (cI M) false) i;rw [List.length_drop,Y5,Y0];omega),List.drop_zero];exact (k9 (a0c (c:=cR P) (d:=cI M) (g:=false) (b:=i) (by rw [hs0_2];decide))).symm)) (Z5 _))⟩,trivial⟩ (by show 6<9;decide) (by show 5<9;decide) (by show 7≤9;decide) (fun b hb=>(by have hb2:b<7:=hb;match b,hb2 with|0,_=>rfl|1,_=>rfl|2,_=>rfl|3,_=>rfl|4,_=>rfl|5,_=>rfl|6,_=>rfl))
  ·have ghs0_1:=Z4 hs0_1
   refine Ev.step_out (by show L.length≤i;omega) ?_
   show Y6 _ _ _ _ _ (K0 _ (isX 0) (Ev.fam0 (⟨[(0,(.yld 6)),(7,(nI0 L.length)),(8,(nI0 i))],[],7,6,[(3,(.ptr 0 0)),(4,(.ptr 1 0)),(5,(.ptr 2 0)),(7,(.ptr 3 0))],[(0,(.cells [(.xl (y) (E.length) 1 (X4 E)),(.xl (yl) (L.length) 2 (cR L)),(.fn (.func 78) [(.xl (z) (M.length) 1 (cI M))] [])] 85)),(1,(.cells [(.xl (yr) (P.length) 2 (cR P))] 23)),(2,(.cells [(.v (.bool .false))] 4)),(3,(.cells [(.v (Value.slice none 0 0))] 27)),(5,(.defd .true))],.ready,none,35,O0 X3,N9 X3,O1 X3,5⟩:Ev.Lit1).lit (fun k=>(⟨[(0,(.yld 6)),(7,(nI0 L.length)),(8,(nI0 i))],[],9,6,[(3,(.ptr 0 0)),(4,(.ptr 1 0)),(5,(.ptr 2 0)),(7,(.ptr 3 0))],[(0,(.cells [(.xl (y) (E.length) 1 (X4 E)),(.xl (yl) (L.length) 2 (cR L)),(.fn (.func 78) [(.xl (z) (M.length) 1 (cI M))] [])] 85)),(1,(.cells [(.xl (yr) (P.length) 2 (cR P))] 23)),(2,(.cells [(.v (.bool .false))] 4)),(3,(.cells [(.slu 8 0 (k+1) 0)] 27)),(5,(.defd .true)),(8,(.row (cI (tI (X9 (cR P) (cI M) false) i)) 2 1))],.ready,none,35,O0 X3,N9 X3,O1 X3,5⟩:Ev.Lit1).lit) (tI (X9 (cR P) (cI M) false) i).length) _)
   rw [hc]
   exact I6 zC0q (Y4) 200 (T':=(⟨[(0,(.yld 6)),(7,(nI0 L.length)),(8,(nI0 i))],[],9,6,[(3,(.ptr 0 0)),(4,(.ptr 1 0)),(5,(.ptr 2 0)),(7,(.ptr 3 0))],[(0,(.cells [(.xl (y) (E.length) 1 (X4 E)),(.xl (yl) (L.length) 2 (cR L)),(.fn (.func 78) [(.xl (z) (M.length) 1 (cI M))] [])] 85)),(1,(.cells [(.xl (yr) (P.length) 2 (cR P))] 23)),(2,(.cells [(.v (.bool .false))] 4)),(3,(.cells [(.slu 8 0 (k+1) 0)] 27)),(5,(.defd .true)),(8,(.row (cI (tI (X9 (cR P) (cI M) false) i)) 2 1))],.ready,none,35,O0 X3,N9 X3,O1 X3,5⟩:Ev.Lit1)) (e:=.exit 0) (ps:=[Y1 i L.length=false]) [.go,.b false] (by kernel_rfl) (by kernel_rfl) ⟨hs0_1,trivial⟩ rfl
theorem c15(hn:1≤L.length∧L.length≤8)(hP:P.length=L.length)(hm:M.length=L.length):Y6 zP0q 16 b5g ((⟨[(0,(.yld 6)),(1,(.ptr 4 0))],[],7,6,[(3,(.ptr 0 0)),(4,(.ptr 1 0)),(5,(.ptr 2 0)),(7,(.ptr 3 0))],[(C5 E L M y yl z),(C6 P yr),a0U,j8,(a4M E L M y yl z),(5,(.defd .true))],.ready,none,35,O0 X3,N9 X3,O1 X3,5⟩:Ev.Lit1).lit) (bw v 7 eb ec) (a1s 16 (fun _:Unit=>((⟨[],[],9,6,[(3,(.ptr 0 0)),(4,(.ptr 1 0)),(5,(.ptr 2 0)),(7,(.ptr 3 0))],[(C5 E L M y yl z),(C6 P yr),a0U,(b3O L M P),(5,(.defd .true)),(b2W L M P)],.ready,none,35,O0 X3,N9 X3,O1 X3,5⟩:Ev.Lit1)).lit) (fun _:Unit=>True) (bw v 7 eb ec)):=by
 exact P5 (T':=(⟨[(0,(.yld 6)),(a9S L),(8,(nN 0))],[],7,6,[(3,(.ptr 0 0)),(4,(.ptr 1 0)),(5,(.ptr 2 0)),(7,(.ptr 3 0))],[(C5 E L M y yl z),(C6 P yr),a0U,j8,(5,(.defd .true))],.ready,none,35,O0 X3,N9 X3,O1 X3,5⟩:Ev.Lit1).lit) (by kernel_rfl) (I6 zC0q (Y4) 200 (T':=(⟨[(0,(.yld 6)),(a9S L),(8,(nN 0))],[],7,6,[(3,(.ptr 0 0)),(4,(.ptr 1 0)),(5,(.ptr 2 0)),(7,(.ptr 3 0))],[(C5 E L M y yl z),(C6 P yr),a0U,j8,(5,(.defd .true))],.ready,none,35,O0 X3,N9 X3,O1 X3,5⟩:Ev.Lit1)) (e:=.normal) (ps:=[]) (gH 5 []) (by kernel_rfl) (by kernel_rfl) trivial rfl) (c0O hn hP hm)
@[reducible] def a4T(L:List (Int×Int))(M:List Int)(P:List (Int×Int))(eb:Nat→Option Nat)(ec:Nat→Nat)(v:BaseW):=(D3 zP0q Try.f90 35 ((.slu 0 0 L.length 0)) [(a1i L M P)] (bw v 0 eb ec))
theorem c5x(hn:1≤L.length∧L.length≤8)(hP:P.length=L.length)(hm:M.length=L.length):Y6 zP0q 35 b4r ((c2f L M P)) (BaseW.H (bw v 0 eb ec) hs) (a4T L M P eb ec v):=by
 exact Z6 U0 (U8 zC0q (Y4) 200 (T':=⟨[(6,(.slu 0 0 ((a4F L M P).length) 0))],[],1,[(0,(a1i L M P))]⟩) (e:=.ret) (m:=6) (ps:=[]) [.go,.go] [5] [(.slu 5 0 ((a4F L M P).length) 0)] [(a1i L M P)] (by kernel_rfl) (by kernel_rfl) trivial rfl rfl (by decide) rfl ⟨Y9 rfl,trivial⟩ ⟨⟨by show 0<1;decide,Z1 (Z7 (Z5 _))⟩,trivial⟩) (o3 (r:=(.slu 0 0 ((a4F L M P).length) 0)) (ys:=[(a1i L M P)]) (by (rw [Y0])) (by rfl) (A4 (by kernel_rfl) (by kernel_rfl) rfl (.inr rfl)))
theorem c30(hn:1≤L.length∧L.length≤8)(hP:P.length=L.length)(hm:M.length=L.length):Y6 zP0q 35 X3 ((a8A E L M P y yl yr z)) (BaseW.H (bw v 0 eb ec) hs) (Hd.AfterB zP0q 35 0 b4r (bw v 0 eb ec) (a4T L M P eb ec v)):=by
 refine V2 (T':=(a8A E L M P y yl yr z)) (by kernel_rfl) (by kernel_rfl) (by kernel_rfl) (by kernel_rfl) ?_
 exact m9 (T1:=(⟨[(0,(.yld 6)),(1,(.ptr 4 0))],[],7,6,[(3,(.ptr 0 0)),(4,(.ptr 1 0)),(5,(.ptr 2 0)),(7,(.ptr 3 0))],[(C5 E L M y yl z),(C6 P yr),a0U,j8,(a4M E L M y yl z),(5,(.defd .true))],.ready,none,35,O0 X3,N9 X3,O1 X3,5⟩:Ev.Lit1)) (T2:=(fun _:Unit=>(⟨[],[],9,6,[(3,(.ptr 0 0)),(4,(.ptr 1 0)),(5,(.ptr 2 0)),(7,(.ptr 3 0))],[(C5 E L M y yl z),(C6 P yr),a0U,(b3O L M P),(5,(.defd .true)),(b2W L M P)],.ready,none,35,O0 X3,N9 X3,O1 X3,5⟩:Ev.Lit1))) (T3:=fun _:Unit=>(c1j L M P)) (R:=(fun _:Unit=>True)) (k:=93) (l:=6) (szk:=16) (K:=7) (e:=fun _=>.normal) rfl (by kernel_rfl) Try.func93 (by kernel_rfl) (by kernel_rfl) (by kernel_rfl) (by kernel_rfl) (by kernel_rfl) (fun _ _=>rfl) (fun v eb ec=>c15 hn hP hm) (fun _ _=>by kernel_rfl) (fun _ _=>a44 (T:=(c1j L M P)) (T':=(c2f L M P)) (m:=5) [0,1,2,3,4,8] [(.ptr 3 0)] [(b7Y L M P),(a1i L M P)] rfl (by kernel_rfl) rfl rfl (by decide) (by kernel_rfl) (by kernel_rfl) ⟨X8 rfl,trivial⟩ ⟨⟨by show 3<6;decide,Z0 (Z9 (Y9 rfl) (Z3))⟩,⟨by show 5<6;decide,Z1 (Z7 (Z5 _))⟩,trivial⟩ ⟨(by show 3≠5;decide),(by show 8≠5;decide),trivial⟩ (Nat.zero_le _) (fun b h=>absurd h (Nat.not_lt_zero b)) (fun hs=>Hd.en_bn (c5x hn hP hm)))
theorem c5l(hn:1≤L.length∧L.length≤8)(hP:P.length=L.length)(hm:M.length=L.length):Y6 zP0q 35 X3 ((a8A E L M P y yl yr z)) (BaseW.H (bw v 0 eb ec) hs) (Hd.AfterB zP0q 35 0 b4r (bw v 0 eb ec) (a4T L M P eb ec v)):=by
 exact c30 hn hP hm
@[reducible] def b47(L:List (Int×Int))(M:List Int)(P:List (Int×Int))(eb:Nat→Option Nat)(ec:Nat→Nat)(v:BaseW):=(Hd.AfterN zP0q 35 b4r (bw v 0 eb ec) (D3 zP0q Try.f90 35 ((.slu 0 0 L.length 0)) [(a1i L M P)] (bw v 0 eb ec)))
theorem c5Z(hn:1≤L.length∧L.length≤8)(hP:P.length=L.length)(hm:M.length=L.length):Y6 zP0q 35 b3j ((a8A E L M P y yl yr z)) (BaseW.H (bw v 0 eb ec) hs) (b47 L M P eb ec v):=by
 exact Hd.goes_blkA (id:=0) (by kernel_rfl) (by kernel_rfl) (c5l hn hP hm)
theorem c3B(hn:1≤L.length∧L.length≤8)(hP:P.length=L.length)(hm:M.length=L.length):Y6 zP0q 35 b3j ((a8A E L M P y yl yr z)) (BaseW.H (bw v 0 eb ec) hs) (b47 L M P eb ec v):=by
 exact c5Z hn hP hm
theorem c57(hn:1≤L.length∧L.length≤8)(hP:P.length=L.length)(hm:M.length=L.length):Y6 zP0q 35 b7N ((b9g E L M P y yl yr z)) (BaseW.H (bw v 0 eb ec) hs) (b47 L M P eb ec v):=by
 refine Hd.goes_seqA (by kernel_rfl) ?_
 exact Z6 W3 (Z2 zC0q (Y4) 200 (T':=(a8A E L M P y yl yr z)) (e:=.normal) (ps:=[]) (gH 5 []) (by kernel_rfl) (by kernel_rfl) trivial rfl) (Hd.en_n (c3B hn hP hm))
theorem c8R(hn:1≤L.length∧L.length≤8)(hP:P.length=L.length)(hm:M.length=L.length):Y6 zP0q 35 b6W ((b9g E L M P y yl yr z)) (BaseW.H (bw v 0 eb ec) hs) (a4T L M P eb ec v):=by
 exact Hd.goes_seqA (by kernel_rfl) (c57 hn hP hm)
theorem c6j(hn:1≤L.length∧L.length≤8)(hP:P.length=L.length)(hm:M.length=L.length):Y6 zP0q 35 c24 ((c1p E L M P y yl yr z)) (BaseW.H (bw v 0 eb ec) hs) (a4T L M P eb ec v):=by
 refine Hd.goes_seqA (by kernel_rfl) ?_
 exact Z6 W3 (Z2 zC0q (Y4) 200 (T':=(b9g E L M P y yl yr z)) (e:=.normal) (ps:=[]) [.go] (by kernel_rfl) (by kernel_rfl) trivial rfl) (Hd.en_n (c8R hn hP hm))
end
theorem c83(y:Value)(E:List (Value×List (Int×Int)))(yl:Value)(L:List (Int×Int))(z:Value)(M:List Int)(yr:Value)(P:List (Int×Int))(hn:1≤L.length∧L.length≤8)(hP:P.length=L.length)(hm:M.length=L.length)(v:BaseW)(eb:Nat→Option Nat)(ec:Nat→Nat)(hs:List Nat):Y6 zP0q 35 c2m (⟨[(0,(b0u E L M y yl z)),(1,(.xl yr P.length 2 (cR P))),(2,(.v (.bool false)))],[],0,[]⟩) (BaseW.H (bw v 0 eb ec) hs) (a4T L M P eb ec v):=by
 refine Hd.goes_seqA (by kernel_rfl) ?_
 exact Z6 W3 (Z2 zC0q (Y4) 200 (T':=(c1p E L M P y yl yr z)) (e:=.normal) (ps:=[]) (gH 4 []) (by kernel_rfl) (by kernel_rfl) trivial rfl) (Hd.en_n (c6j hn hP hm))
theorem c8D(y:Value)(E:List (Value×List (Int×Int)))(yl:Value)(L:List (Int×Int))(z:Value)(M:List Int)(yr:Value)(P:List (Int×Int))(hn:1≤L.length∧L.length≤8)(hP:P.length=L.length)(hm:M.length=L.length):A8 zP0q 90 [(b0u E L M y yl z),(.xl yr P.length 2 (cR P)),(.v (.bool false))] [] ((.slu 0 0 L.length 0)) [(a1i L M P)] :=
 N1 35 (by kernel_rfl) Try.func90 (by kernel_rfl) (by kernel_rfl) (by kernel_rfl) (fun v eb ec=>V2 (by kernel_rfl) (by kernel_rfl) (by kernel_rfl) (by kernel_rfl) (c83 y E yl L z M yr P hn hP hm v eb ec []))
end
end Go.Proofs.Ytegmogadbnfbgaa
namespace Go.Proofs.Ytegmogadbnfbgaa
open Go Ev
noncomputable section
def eeS:List AV→Option (g8×List Prop):=fun vs =>
 match vs with
 |[.agg [.xl y m k1 cE,.xl yl n k2 cL,.fn (.func f) lz lc],.xl yr q kp cP,.v (.bool g)]=>match lz,lc,Nat.beq f 78 with
  |[.xl z r k5 cM],[],true=>match g with
   |true=>some (.blk (fun i=>.slu i 0 n 0) (.row (cI (tI (X9 cP cM true) n)) 2 1),[T8 k1 cE m,W8 k2 n cL,Q3 k5 r cM,W8 kp q cP,1≤n∧n≤8,q=n,r=n])
   |false=>some (.blk (fun i=>.slu i 0 n 0) (.row (cI (tI (X9 cP cM false) n)) 2 1),[T8 k1 cE m,W8 k2 n cL,Q3 k5 r cM,W8 kp q cP,1≤n∧n≤8,q=n,r=n])
  |_,_,_=>none
 |_=>none
def eeO:N4:=v8 90 eeS
theorem b1m:Known zP0q (clsO eeO):=G6 (fun vs r ps h hp=>by
 unfold eeS at h
 split at h
 ·split at h
  ·rename_i e1
   split at h
   ·cases h
    obtain ⟨⟨rfl,E,rfl,rfl⟩,⟨rfl,L,rfl,rfl⟩,⟨rfl,M,rfl,rfl⟩,⟨rfl,P,rfl,rfl⟩,h1,h2,h3,-⟩:=hp
    rw [Nat.eq_of_beq_eq_true e1]
    refine ⟨W5 (n6 (W5 (R3 (H5 E)) (W5 (R3 (U7 (Y7 L))) (W5 (b4h (W5 (R3 (U7 (Z5 M))) Q9)) Q9)))) (W5 (R3 (U7 (Y7 P))) (W5 (a0n _) Q9)),?_⟩
    exact a0K (c6z _ E _ L _ M _ P h1 h2 h3) (one_slu _ (Z5 _))
   ·cases h
    obtain ⟨⟨rfl,E,rfl,rfl⟩,⟨rfl,L,rfl,rfl⟩,⟨rfl,M,rfl,rfl⟩,⟨rfl,P,rfl,rfl⟩,h1,h2,h3,-⟩:=hp
    rw [Nat.eq_of_beq_eq_true e1]
    refine ⟨W5 (n6 (W5 (R3 (H5 E)) (W5 (R3 (U7 (Y7 L))) (W5 (b4h (W5 (R3 (U7 (Z5 M))) Q9)) Q9)))) (W5 (R3 (U7 (Y7 P))) (W5 (a0n _) Q9)),?_⟩
    exact a0K (c8D _ E _ L _ M _ P h1 h2 h3) (one_slu _ (Z5 _))
  ·cases h
 ·cases h)
end
end Go.Proofs.Ytegmogadbnfbgaa
namespace Go.Proofs.Ytegmogadbnfbgaa
open Go Ev
noncomputable section
section
variable (L : List (Int × Int)) (M : List Int) (P0 P1 P2 : List (Int × Int)) (v0 v1 v2 y yl z : Value)
@[reducible] def b38:Ev.AV:=(.agg [.xl y 3 1 [.xl v0 P0.length 2 (cR P0),.xl v1 P1.length 2 (cR P1),.xl v2 P2.length 2 (cR P2)],.xl yl L.length 2 (cR L),(.fn (.func 78) [.xl z M.length 1 (cI M)] [])])
@[reducible] def b6U:Nat×Ev.AV:=(0,(b38 L M P0 P1 P2 v0 v1 v2 y yl z))
@[reducible] def a1T:List Ev.AV:=[AV.xl v0 P0.length 2 (cR P0),AV.xl v1 P1.length 2 (cR P1),AV.xl v2 P2.length 2 (cR P2)]
@[reducible] def a9W:Ev.AB:=(.row [(.slu 2 0 (L.length) 0),(.slu 3 0 (L.length) 0),(.slu 4 0 (L.length) 0)] 27 1)
@[reducible] def b0l:Ev.AB:=(.row [.slu 2 0 L.length 0,.slu 3 0 L.length 0,.slu 4 0 L.length 0] 27 1)
@[reducible] def a6Y:Ev.AB:=(.row (cI (tI (X9 (cR P2) (cI M) false) L.length)) 2 1)
@[reducible] def a7z:Ev.AB:=(.row (cI (tI (X9 (cR P1) (cI M) false) L.length)) 2 1)
@[reducible] def a77:Ev.AB:=(.row (cI (tI (X9 (cR P0) (cI M) false) L.length)) 2 1)
@[reducible] def a6U:Ev.AB:=(.row (cI (tI (X9 (cR L) (cI M) false) L.length)) 2 1)
@[reducible] def a4u:Ev.AB:=(.row (cI (tI (X9 (cR P2) (cI M) true) L.length)) 2 1)
@[reducible] def a4o:Ev.AB:=(.row (cI (tI (X9 (cR P1) (cI M) true) L.length)) 2 1)
@[reducible] def a3B:Ev.AB:=(.row (cI (tI (X9 (cR P0) (cI M) true) L.length)) 2 1)
@[reducible] def a3W:Ev.AB:=(.row (cI (tI (X9 (cR L) (cI M) true) L.length)) 2 1)
end
noncomputable def c6f:Code:=N6 Try.f81
set_option maxHeartbeats 16000000 in
theorem c8r(y v0:Value)(P0:List (Int×Int))(v1:Value)(P1:List (Int×Int))(v2:Value)(P2:List (Int×Int))(yl:Value)(L:List (Int×Int))(z:Value)(M:List Int)(hn:1≤L.length∧L.length≤8)(hp0:P0.length=L.length)(hp1:P1.length=L.length)(hp2:P2.length=L.length)(hm:M.length=L.length)(v:BaseW)(eb:Nat→Option Nat)(ec:Nat→Nat)(hs:List Nat):Y6 zP0q 34 c6f (⟨[(b6U L M P0 P1 P2 v0 v1 v2 y yl z),(1,(.v (.bool true)))],[],0,[]⟩) (BaseW.H (bw v 0 eb ec) hs) (D3 zP0q Try.f81 34 ((.agg [.slu 0 0 3 0,.slu 1 0 L.length 0])) [(b0l L),(a3W L M),(a3B L M P0),(a4o L M P1),(a4u L M P2)] (bw v 0 eb ec)):=by
 exact Z6 U0 (U8 zC0q (b1m) 200 (T':=⟨[(4,(.ptr 5 0))],[],6,[(0,(a9W L)),(1,(a3W L M)),(2,(a3B L M P0)),(3,(a4o L M P1)),(4,(a4u L M P2)),(5,(.cells [(.slu 0 0 3 0),(.slu 1 0 (L.length) 0)] 29))]⟩) (e:=.ret) (m:=13) (ps:=[T8 1 (a1T P0 P1 P2 v0 v1 v2) 3,W8 2 L.length (cR L),Q3 1 M.length (cI M),W8 2 L.length (cR L),1≤L.length∧L.length≤8,L.length=L.length,M.length=L.length,Y1 0 3=true,T8 1 (a1T P0 P1 P2 v0 v1 v2) 3,W8 2 L.length (cR L),Q3 1 M.length (cI M),W8 2 P0.length (cR P0),1≤L.length∧L.length≤8,P0.length=L.length,M.length=L.length,L3 IntKind.i64 (0+1),Y1 (0+1) 3=true,T8 1 (a1T P0 P1 P2 v0 v1 v2) 3,W8 2 L.length (cR L),Q3 1 M.length (cI M),W8 2 P1.length (cR P1),1≤L.length∧L.length≤8,P1.length=L.length,M.length=L.length,L3 IntKind.i64 (0+1+1),Y1 (0+1+1) 3=true,T8 1 (a1T P0 P1 P2 v0 v1 v2) 3,W8 2 L.length (cR L),Q3 1 M.length (cI M),W8 2 P2.length (cR P2),1≤L.length∧L.length≤8,P2.length=L.length,M.length=L.length,L3 IntKind.i64 (0+1+1+1),Y1 (0+1+1+1) 3=false]) (gH 16 ([.b true]++gH 15 ([.b true]++gH 15 ([.b true]++gH 15 [.b false,.go,.go])))) [12,2,4,7,10,1] [(.ptr 1 0)] [(.row [(.slu 4 0 (L.length) 0),(.slu 7 0 (L.length) 0),(.slu 10 0 (L.length) 0)] 27 1),(a3W L M),(a3B L M P0),(a4o L M P1),(a4u L M P2),(.cells [(.slu 12 0 3 0),(.slu 2 0 (L.length) 0)] 29)] (by kernel_rfl) (by kernel_rfl) ⟨⟨rfl,[(v0,P0),(v1,P1),(v2,P2)],rfl,rfl⟩,⟨rfl,L,rfl,rfl⟩,⟨rfl,M,rfl,rfl⟩,⟨rfl,L,rfl,rfl⟩,hn,rfl,hm,rfl,⟨rfl,[(v0,P0),(v1,P1),(v2,P2)],rfl,rfl⟩,⟨rfl,L,rfl,rfl⟩,⟨rfl,M,rfl,rfl⟩,⟨rfl,P0,rfl,rfl⟩,hn,hp0,hm,(by show -9223372036854775808≤(_:Int)∧(_:Int)≤9223372036854775807;constructor<;>decide),rfl,⟨rfl,[(v0,P0),(v1,P1),(v2,P2)],rfl,rfl⟩,⟨rfl,L,rfl,rfl⟩,⟨rfl,M,rfl,rfl⟩,⟨rfl,P1,rfl,rfl⟩,hn,hp1,hm,(by show -9223372036854775808≤(_:Int)∧(_:Int)≤9223372036854775807;constructor<;>decide),rfl,⟨rfl,[(v0,P0),(v1,P1),(v2,P2)],rfl,rfl⟩,⟨rfl,L,rfl,rfl⟩,⟨rfl,M,rfl,rfl⟩,⟨rfl,P2,rfl,rfl⟩,hn,hp2,hm,(by show -9223372036854775808≤(_:Int)∧(_:Int)≤9223372036854775807;constructor<;>decide),rfl,trivial⟩ rfl rfl (by decide) rfl ⟨X8 rfl,trivial⟩ ⟨⟨by show 0<6;decide,Z1 (Z9 (Y9 rfl) (Z9 (Y9 rfl) (Z9 (Y9 rfl) (Z3))))⟩,⟨by show 1<6;decide,Z1 (Z7 (Z5 _))⟩,⟨by show 2<6;decide,Z1 (Z7 (Z5 _))⟩,⟨by show 3<6;decide,Z1 (Z7 (Z5 _))⟩,⟨by show 4<6;decide,Z1 (Z7 (Z5 _))⟩,⟨by show 5<6;decide,Z0 (Z9 (Y9 rfl) (Z9 (Y9 rfl) (Z3)))⟩,trivial⟩) (o3 (r:=(.agg [(.slu 0 0 3 0),(.slu 1 0 (L.length) 0)])) (ys:=[(a9W L),(a3W L M),(a3B L M P0),(a4o L M P1),(a4u L M P2)]) (by rfl) (by rfl) (A4 (by kernel_rfl) (by kernel_rfl) rfl (.inr rfl)))
theorem c9q(y v0:Value)(P0:List (Int×Int))(v1:Value)(P1:List (Int×Int))(v2:Value)(P2:List (Int×Int))(yl:Value)(L:List (Int×Int))(z:Value)(M:List Int)(hn:1≤L.length∧L.length≤8)(hp0:P0.length=L.length)(hp1:P1.length=L.length)(hp2:P2.length=L.length)(hm:M.length=L.length):A8 zP0q 81 [(b38 L M P0 P1 P2 v0 v1 v2 y yl z),(.v (.bool true))] [] ((.agg [.slu 0 0 3 0,.slu 1 0 L.length 0])) [(b0l L),(a3W L M),(a3B L M P0),(a4o L M P1),(a4u L M P2)] :=
 N1 34 (by kernel_rfl) Try.func81 (by kernel_rfl) (by kernel_rfl) (by kernel_rfl) (fun v eb ec=>V2 (by kernel_rfl) (by kernel_rfl) (by kernel_rfl) (by kernel_rfl) (c8r y v0 P0 v1 P1 v2 P2 yl L z M hn hp0 hp1 hp2 hm v eb ec []))
noncomputable def c7f:Code:=N6 Try.f81
set_option maxHeartbeats 16000000 in
theorem c7F(y v0:Value)(P0:List (Int×Int))(v1:Value)(P1:List (Int×Int))(v2:Value)(P2:List (Int×Int))(yl:Value)(L:List (Int×Int))(z:Value)(M:List Int)(hn:1≤L.length∧L.length≤8)(hp0:P0.length=L.length)(hp1:P1.length=L.length)(hp2:P2.length=L.length)(hm:M.length=L.length)(v:BaseW)(eb:Nat→Option Nat)(ec:Nat→Nat)(hs:List Nat):Y6 zP0q 34 c7f (⟨[(b6U L M P0 P1 P2 v0 v1 v2 y yl z),(1,(.v (.bool false)))],[],0,[]⟩) (BaseW.H (bw v 0 eb ec) hs) (D3 zP0q Try.f81 34 ((.agg [.slu 0 0 3 0,.slu 1 0 L.length 0])) [(b0l L),(a6U L M),(a77 L M P0),(a7z L M P1),(a6Y L M P2)] (bw v 0 eb ec)):=by
 exact Z6 U0 (U8 zC0q (b1m) 200 (T':=⟨[(4,(.ptr 5 0))],[],6,[(0,(a9W L)),(1,(a6U L M)),(2,(a77 L M P0)),(3,(a7z L M P1)),(4,(a6Y L M P2)),(5,(.cells [(.slu 0 0 3 0),(.slu 1 0 (L.length) 0)] 29))]⟩) (e:=.ret) (m:=13) (ps:=[T8 1 (a1T P0 P1 P2 v0 v1 v2) 3,W8 2 L.length (cR L),Q3 1 M.length (cI M),W8 2 L.length (cR L),1≤L.length∧L.length≤8,L.length=L.length,M.length=L.length,Y1 0 3=true,T8 1 (a1T P0 P1 P2 v0 v1 v2) 3,W8 2 L.length (cR L),Q3 1 M.length (cI M),W8 2 P0.length (cR P0),1≤L.length∧L.length≤8,P0.length=L.length,M.length=L.length,L3 IntKind.i64 (0+1),Y1 (0+1) 3=true,T8 1 (a1T P0 P1 P2 v0 v1 v2) 3,W8 2 L.length (cR L),Q3 1 M.length (cI M),W8 2 P1.length (cR P1),1≤L.length∧L.length≤8,P1.length=L.length,M.length=L.length,L3 IntKind.i64 (0+1+1),Y1 (0+1+1) 3=true,T8 1 (a1T P0 P1 P2 v0 v1 v2) 3,W8 2 L.length (cR L),Q3 1 M.length (cI M),W8 2 P2.length (cR P2),1≤L.length∧L.length≤8,P2.length=L.length,M.length=L.length,L3 IntKind.i64 (0+1+1+1),Y1 (0+1+1+1) 3=false]) (gH 16 ([.b true]++gH 15 ([.b true]++gH 15 ([.b true]++gH 15 [.b false,.go,.go])))) [12,2,4,7,10,1] [(.ptr 1 0)] [(.row [(.slu 4 0 (L.length) 0),(.slu 7 0 (L.length) 0),(.slu 10 0 (L.length) 0)] 27 1),(a6U L M),(a77 L M P0),(a7z L M P1),(a6Y L M P2),(.cells [(.slu 12 0 3 0),(.slu 2 0 (L.length) 0)] 29)] (by kernel_rfl) (by kernel_rfl) ⟨⟨rfl,[(v0,P0),(v1,P1),(v2,P2)],rfl,rfl⟩,⟨rfl,L,rfl,rfl⟩,⟨rfl,M,rfl,rfl⟩,⟨rfl,L,rfl,rfl⟩,hn,rfl,hm,rfl,⟨rfl,[(v0,P0),(v1,P1),(v2,P2)],rfl,rfl⟩,⟨rfl,L,rfl,rfl⟩,⟨rfl,M,rfl,rfl⟩,⟨rfl,P0,rfl,rfl⟩,hn,hp0,hm,(by show -9223372036854775808≤(_:Int)∧(_:Int)≤9223372036854775807;constructor<;>decide),rfl,⟨rfl,[(v0,P0),(v1,P1),(v2,P2)],rfl,rfl⟩,⟨rfl,L,rfl,rfl⟩,⟨rfl,M,rfl,rfl⟩,⟨rfl,P1,rfl,rfl⟩,hn,hp1,hm,(by show -9223372036854775808≤(_:Int)∧(_:Int)≤9223372036854775807;constructor<;>decide),rfl,⟨rfl,[(v0,P0),(v1,P1),(v2,P2)],rfl,rfl⟩,⟨rfl,L,rfl,rfl⟩,⟨rfl,M,rfl,rfl⟩,⟨rfl,P2,rfl,rfl⟩,hn,hp2,hm,(by show -9223372036854775808≤(_:Int)∧(_:Int)≤9223372036854775807;constructor<;>decide),rfl,trivial⟩ rfl rfl (by decide) rfl ⟨X8 rfl,trivial⟩ ⟨⟨by show 0<6;decide,Z1 (Z9 (Y9 rfl) (Z9 (Y9 rfl) (Z9 (Y9 rfl) (Z3))))⟩,⟨by show 1<6;decide,Z1 (Z7 (Z5 _))⟩,⟨by show 2<6;decide,Z1 (Z7 (Z5 _))⟩,⟨by show 3<6;decide,Z1 (Z7 (Z5 _))⟩,⟨by show 4<6;decide,Z1 (Z7 (Z5 _))⟩,⟨by show 5<6;decide,Z0 (Z9 (Y9 rfl) (Z9 (Y9 rfl) (Z3)))⟩,trivial⟩) (o3 (r:=(.agg [(.slu 0 0 3 0),(.slu 1 0 (L.length) 0)])) (ys:=[(a9W L),(a6U L M),(a77 L M P0),(a7z L M P1),(a6Y L M P2)]) (by rfl) (by rfl) (A4 (by kernel_rfl) (by kernel_rfl) rfl (.inr rfl)))
theorem c8W(y v0:Value)(P0:List (Int×Int))(v1:Value)(P1:List (Int×Int))(v2:Value)(P2:List (Int×Int))(yl:Value)(L:List (Int×Int))(z:Value)(M:List Int)(hn:1≤L.length∧L.length≤8)(hp0:P0.length=L.length)(hp1:P1.length=L.length)(hp2:P2.length=L.length)(hm:M.length=L.length):A8 zP0q 81 [(b38 L M P0 P1 P2 v0 v1 v2 y yl z),(.v (.bool false))] [] ((.agg [.slu 0 0 3 0,.slu 1 0 L.length 0])) [(b0l L),(a6U L M),(a77 L M P0),(a7z L M P1),(a6Y L M P2)] :=
 N1 34 (by kernel_rfl) Try.func81 (by kernel_rfl) (by kernel_rfl) (by kernel_rfl) (fun v eb ec=>V2 (by kernel_rfl) (by kernel_rfl) (by kernel_rfl) (by kernel_rfl) (c7F y v0 P0 v1 P1 v2 P2 yl L z M hn hp0 hp1 hp2 hm v eb ec []))
end
end Go.Proofs.Ytegmogadbnfbgaa
namespace Go.Proofs.Ytegmogadbnfbgaa
open Go Ev
noncomputable section
def exS:List AV→List AB→Option ((AV×List AB)×List Prop):=fun args xs =>
 match args,xs with
 |[.agg [.xl y m k1 cE,.xl yl n k2 cL,.fn (.func f) lz lc],.v (.bool g)],[]=>match cE,lz,lc,Nat.beq f 78 with
  |[.xl v0 n0 j0 c0,.xl v1 n1 j1 c1,.xl v2 n2 j2 c2],[.xl z r k5 cM],[],true=>match g with
    |true=>some ((.agg [.slu 0 0 3 0,.slu 1 0 n 0],[.row [.slu 2 0 n 0,.slu 3 0 n 0,.slu 4 0 n 0] 27 1,.row (cI (tI (X9 cL cM true) n)) 2 1,.row (cI (tI (X9 c0 cM true) n)) 2 1,.row (cI (tI (X9 c1 cM true) n)) 2 1,.row (cI (tI (X9 c2 cM true) n)) 2 1]),[W8 k2 n cL,Q3 k5 r cM,W8 j0 n0 c0,W8 j1 n1 c1,W8 j2 n2 c2,1≤n∧n≤8,n0=n,n1=n,n2=n,r=n,k1=1∧m=3])
    |false=>some ((.agg [.slu 0 0 3 0,.slu 1 0 n 0],[.row [.slu 2 0 n 0,.slu 3 0 n 0,.slu 4 0 n 0] 27 1,.row (cI (tI (X9 cL cM false) n)) 2 1,.row (cI (tI (X9 c0 cM false) n)) 2 1,.row (cI (tI (X9 c1 cM false) n)) 2 1,.row (cI (tI (X9 c2 cM false) n)) 2 1]),[W8 k2 n cL,Q3 k5 r cM,W8 j0 n0 c0,W8 j1 n1 c1,W8 j2 n2 c2,1≤n∧n≤8,n0=n,n1=n,n2=n,r=n,k1=1∧m=3])
  |_,_,_,_=>none
 |_,_=>none
def exO:N4:=b84 81 [] [0] exS
theorem b74:Known zP0q (clsO exO):=b58 (fun args xs r ys ps h hp=>by
 unfold exS at h
 split at h
 ·split at h
  ·rename_i e1
   split at h
   ·cases h
    obtain ⟨⟨rfl,L,rfl,rfl⟩,⟨rfl,M,rfl,rfl⟩,⟨rfl,P0,rfl,rfl⟩,⟨rfl,P1,rfl,rfl⟩,⟨rfl,P2,rfl,rfl⟩,h1,h2,h3,h4,h5,⟨rfl,rfl⟩,-⟩:=hp
    rw [Nat.eq_of_beq_eq_true e1]
    refine ⟨fun i x hi hx=>by simp at hx,fun i x hi hx=>?_,c9q _ _ P0 _ P1 _ P2 _ L _ M h1 h2 h3 h4 h5⟩
    match i,hi with
    |1,_=>cases hx;exact K4 (Y3 (Z5 _))
    |2,_=>cases hx;exact K4 (Y3 (Z5 _))
    |3,_=>cases hx;exact K4 (Y3 (Z5 _))
    |4,_=>cases hx;exact K4 (Y3 (Z5 _))
    |i+5,_=>simp at hx
   ·cases h
    obtain ⟨⟨rfl,L,rfl,rfl⟩,⟨rfl,M,rfl,rfl⟩,⟨rfl,P0,rfl,rfl⟩,⟨rfl,P1,rfl,rfl⟩,⟨rfl,P2,rfl,rfl⟩,h1,h2,h3,h4,h5,⟨rfl,rfl⟩,-⟩:=hp
    rw [Nat.eq_of_beq_eq_true e1]
    refine ⟨fun i x hi hx=>by simp at hx,fun i x hi hx=>?_,c8W _ _ P0 _ P1 _ P2 _ L _ M h1 h2 h3 h4 h5⟩
    match i,hi with
    |1,_=>cases hx;exact K4 (Y3 (Z5 _))
    |2,_=>cases hx;exact K4 (Y3 (Z5 _))
    |3,_=>cases hx;exact K4 (Y3 (Z5 _))
    |4,_=>cases hx;exact K4 (Y3 (Z5 _))
    |i+5,_=>simp at hx
  ·cases h
 ·cases h)
def H8(c0 c1 c2 cY cM:List AV)(i b:Nat):Int:=(match i with|0=>Z8 c0 (b*1)|1=>Z8 c1 (b*1)|_=>Z8 c2 (b*1))*Z8 cY (b*1)*Z8 cM (b*1)
theorem a8P{v0 v1 v2:Value}{X0 X1 X2:List Int}{cY cM:List AV}{i n:Nat}(hi:i<3):S2 (O2 (U1 [(v0,X0),(v1,X1),(v2,X2)]) cY cM i) n=S2 (H8 (cI X0) (cI X1) (cI X2) cY cM i) n:=by
 match i,hi with
 |0,_=>rfl
 |1,_=>rfl
 |2,_=>rfl
theorem c3a(y:Value)(E:List (Value×List (Int×Int)))(yl:Value)(L:List (Int×Int))(u v0:Value)(X0:List Int)(v1:Value)(X1:List Int)(v2:Value)(X2:List Int)(ul:Value)(Y:List Int)(z:Value)(M:List Int)(h8:L.length≤8)(h0:X0.length=L.length)(h1:X1.length=L.length)(h2:X2.length=L.length)(h3:Y.length=L.length)(h4:M.length=L.length)
  (m0:∀ b,b<L.length→0≤Z8 (cI X0) (b*1)∧Z8 (cI X0) (b*1)≤100) (m1:∀ b,b<L.length→0≤Z8 (cI X1) (b*1)∧Z8 (cI X1) (b*1)≤100) (m2:∀ b,b<L.length→0≤Z8 (cI X2) (b*1)∧Z8 (cI X2) (b*1)≤100) (m3:∀ b,b<L.length→0≤Z8 (cI Y) (b*1)∧Z8 (cI Y) (b*1)≤100) (m4:∀ b,b<L.length→0≤Z8 (cI M) (b*1)∧Z8 (cI M) (b*1)≤1000) :
  GivesA zP0q 54 [.agg [.xl y E.length 1 (X4 E),.xl yl L.length 2 (cR L),.fn (.func 78) [.xl z M.length 1 (cI M)] []],.agg [.xl u 3 1 [.xl v0 X0.length 1 (cI X0),.xl v1 X1.length 1 (cI X1),.xl v2 X2.length 1 (cI X2)],.xl ul Y.length 1 (cI Y)]] (.agg #[.int .i64 (S2 (H8 (cI X0) (cI X1) (cI X2) (cI Y) (cI M) 0) L.length),.int .i64 (S2 (H8 (cI X0) (cI X1) (cI X2) (cI Y) (cI M) 1) L.length),.int .i64 (S2 (H8 (cI X0) (cI X1) (cI X2) (cI Y) (cI M) 2) L.length)]):=by
 have hg:=d0L y E yl L u [(v0,X0),(v1,X1),(v2,X2)] ul Y z M h8 rfl (fun i hi=>by match i,hi with|0,_=>exact h0|1,_=>exact h1|2,_=>exact h2) h3 h4 (fun i hi b hb=>by match i,hi with|0,_=>exact m0 b hb|1,_=>exact m1 b hb|2,_=>exact m2 b hb) m3 m4
 rw [a8P (by decide),a8P (by decide),a8P (by decide)] at hg
 exact hg
def c1e(c0 c1 c2 cY cM:List AV)(n:Nat):Prop:=(∀ b,b<n→0≤Z8 c0 (b*1)∧Z8 c0 (b*1)≤100)∧(∀ b,b<n→0≤Z8 c1 (b*1)∧Z8 c1 (b*1)≤100)∧(∀ b,b<n→0≤Z8 c2 (b*1)∧Z8 c2 (b*1)≤100)∧(∀ b,b<n→0≤Z8 cY (b*1)∧Z8 cY (b*1)≤100)∧(∀ b,b<n→0≤Z8 cM (b*1)∧Z8 cM (b*1)≤1000)
def IsC(k n:Nat)(c:List AV):Prop:=k=1∧∃ X,c=cI X∧n=X.length
def Is3(m:Nat):Prop:=m=3
def gyS:List Yw→Option (g8×List Prop):=fun vs =>
 match vs with
 |[.one (.ext a),.str [.lls mx k3 rows,.lst nx k4 cY]]=>match a with
  |.agg [.xl y m k1 cE,.xl yl n k2 cL,.fn (.func f) lz lc]=>match lz,lc,Nat.beq f 78,rows with
   |[.xl z r k5 cM],[],true,[(n0,c0),(n1,c1),(n2,c2)]=>some (.val (.agg [.v (.int .i64 (S2 (H8 c0 c1 c2 cY cM 0) n)),.v (.int .i64 (S2 (H8 c0 c1 c2 cY cM 1) n)),.v (.int .i64 (S2 (H8 c0 c1 c2 cY cM 2) n))]),[T8 k1 cE m,W8 k2 n cL,Q3 k5 r cM,n≤8,IsC k3 n0 c0,IsC k3 n1 c1,IsC k3 n2 c2,IsC k4 nx cY,n0=n,n1=n,n2=n,nx=n,r=n,Is3 mx,c1e c0 c1 c2 cY cM n])
   |_,_,_,_=>none
  |_=>none
 |_=>none
def gyO:N4:=a0E 54 [.one .ext,.str [.lls 0,.lst 0]] gyS
theorem b6S:Known zP0q (clsO gyO):=p9 (fun vs r ps h hp=>by
 unfold gyS at h
 split at h
 ·split at h
  ·split at h
   ·rename_i e1
    cases h
    obtain ⟨⟨rfl,E,rfl,rfl⟩,⟨rfl,L,rfl,rfl⟩,⟨rfl,M,rfl,rfl⟩,h8,⟨rfl,X0,rfl,rfl⟩,⟨-,X1,rfl,rfl⟩,⟨-,X2,rfl,rfl⟩,⟨rfl,Y,rfl,rfl⟩,h0,h1,h2,h3,h4,rfl,⟨m0,m1,m2,m3,m4⟩,-⟩:=hp
    rw [Nat.eq_of_beq_eq_true e1]
    refine ⟨⟨(n6 (W5 (R3 (H5 E)) (W5 (R3 (U7 (Y7 L))) (W5 (b4h (W5 (R3 (U7 (Z5 M))) Q9)) Q9)))),⟨⟨⟨_,Z5 X0⟩,⟨_,Z5 X1⟩,⟨_,Z5 X2⟩,trivial⟩,⟨_,Z5 Y⟩,trivial⟩,trivial⟩,⟨[[[]],[[undef,undef,undef,undef],[undef]]],⟨trivial,⟨rfl,trivial,trivial⟩,trivial⟩⟩,fun ys hy=>?_⟩
    match ys,hy with
    |[zs,[[u,v0,v1,v2],us]],_ =>
     refine ⟨_,rfl,?_⟩
     exact c3a _ E _ L u v0 X0 v1 X1 v2 X2 _ Y _ M h8 h0 h1 h2 h3 h4 m0 m1 m2 m3 m4
   ·cases h
  ·cases h
 ·cases h)
end
end Go.Proofs.Ytegmogadbnfbgaa
namespace Go.Proofs.Ytegmogadbnfbgaa
open Go Ev
noncomputable section
theorem W4{f:Nat→Int}{n:Nat}:List.take (n*(0+1)) (List.drop 0 (cI (tI f n)))=cI (tI f n):=by
 rw [List.drop_zero,List.take_of_length_le (by rw [Y5,Y0];omega)]
theorem a21{c d:List AV}{g:Bool}{b:Nat}(h:X7 100 c b):0≤X9 c d g b∧X9 c d g b≤100:=by
 unfold X7 at h
 unfold X9
 split<;>omega
theorem c2q{c0 c1 c2 cL:List AV}{M:List Int}{g:Bool}{n:Nat}(h0:∀ b,b<n→X7 100 c0 b)(h1:∀ b,b<n→X7 100 c1 b)(h2:∀ b,b<n→X7 100 c2 b)(h3:∀ b,b<n→X7 100 cL b)(h4:∀ b,b<n→0≤Z8 (cI M) (b*1)∧Z8 (cI M) (b*1)≤1000):c1e (cI (tI (X9 c0 (cI M) g) n)) (cI (tI (X9 c1 (cI M) g) n)) (cI (tI (X9 c2 (cI M) g) n)) (cI (tI (X9 cL (cI M) g) n)) (cI M) n:=by
 refine ⟨fun b hb=>?_,fun b hb=>?_,fun b hb=>?_,fun b hb=>?_,h4⟩
 ·rw [Nat.mul_one,w9 hb];exact a21 (h0 b hb)
 ·rw [Nat.mul_one,w9 hb];exact a21 (h1 b hb)
 ·rw [Nat.mul_one,w9 hb];exact a21 (h2 b hb)
 ·rw [Nat.mul_one,w9 hb];exact a21 (h3 b hb)
def S7(c0 c1 c2 cL cM:List AV)(n:Nat)(g:Bool)(k:Nat):Int:=S2 (H8 (cI (tI (X9 c0 cM g) n)) (cI (tI (X9 c1 cM g) n)) (cI (tI (X9 c2 cM g) n)) (cI (tI (X9 cL cM g) n)) cM k) n
end
end Go.Proofs.Ytegmogadbnfbgaa
namespace Go.Proofs.Ytegmogadbnfbgaa
open Go Ev
noncomputable section
noncomputable def d1a:Code:=N6 Try.f57
set_option maxHeartbeats 16000000 in
theorem d0N(y v0:Value)(P0:List (Int×Int))(v1:Value)(P1:List (Int×Int))(v2:Value)(P2:List (Int×Int))(yl:Value)(L:List (Int×Int))(z:Value)(M:List Int)(hn:1≤L.length∧L.length≤8)(hp0:P0.length=L.length)(hp1:P1.length=L.length)(hp2:P2.length=L.length)(hm:M.length=L.length)(hl:∀ b,b<L.length→X7 100 (cR L) b)(hc0:∀ b,b<L.length→X7 100 (cR P0) b)(hc1:∀ b,b<L.length→X7 100 (cR P1) b)(hc2:∀ b,b<L.length→X7 100 (cR P2) b)(hm1:∀ b,b<L.length→0≤Z8 (cI M) (b*1)∧Z8 (cI M) (b*1)≤1000)(v:BaseW)(eb:Nat→Option Nat)(ec:Nat→Nat)(hs:List Nat):Y6 zP0q 30 d1a (⟨[(0,(.agg [.xl y 3 1 [.xl v0 P0.length 2 (cR P0),.xl v1 P1.length 2 (cR P1),.xl v2 P2.length 2 (cR P2)],.xl yl L.length 2 (cR L),(.fn (.func 78) [.xl z M.length 1 (cI M)] [])]))],[],0,[]⟩) (BaseW.H (bw v 0 eb ec) hs) (D3 zP0q Try.f57 30 ((.slu 0 0 3 0)) [(.row [nI0 (S7 (cR P0) (cR P1) (cR P2) (cR L) (cI M) L.length false 0),nI0 (S7 (cR P0) (cR P1) (cR P2) (cR L) (cI M) L.length true 0),nI0 (S7 (cR P0) (cR P1) (cR P2) (cR L) (cI M) L.length false 1),nI0 (S7 (cR P0) (cR P1) (cR P2) (cR L) (cI M) L.length true 1),nI0 (S7 (cR P0) (cR P1) (cR P2) (cR L) (cI M) L.length false 2),nI0 (S7 (cR P0) (cR P1) (cR P2) (cR L) (cI M) L.length true 2)] 65 2)] (bw v 0 eb ec)):=by
 have hcl_P0:=Y8 P0
 have hcl_P1:=Y8 P1
 have hcl_P2:=Y8 P2
 have hcl_L:=Y8 L
 have hcl_M:=Y5 M
 exact Z6 U0 (U8 zC0q (W1 b74 b6S) 200 (T':=⟨[(2,(.slu 0 0 3 0))],[],1,[(0,(.row [(nI0 (S2 (H8 (List.take (L.length*(0+1)) (List.drop 0 (cI (tI (X9 (cR P0) (cI M) false) L.length)))) (List.take (L.length*(0+1)) (List.drop 0 (cI (tI (X9 (cR P1) (cI M) false) L.length)))) (List.take (L.length*(0+1)) (List.drop 0 (cI (tI (X9 (cR P2) (cI M) false) L.length)))) (List.take (L.length*(0+1)) (List.drop 0 (cI (tI (X9 (cR L) (cI M) false) L.length)))) (cI M) 0) L.length)),(nI0 (S2 (H8 (List.take (L.length*(0+1)) (List.drop 0 (cI (tI (X9 (cR P0) (cI M) true) L.length)))) (List.take (L.length*(0+1)) (List.drop 0 (cI (tI (X9 (cR P1) (cI M) true) L.length)))) (List.take (L.length*(0+1)) (List.drop 0 (cI (tI (X9 (cR P2) (cI M) true) L.length)))) (List.take (L.length*(0+1)) (List.drop 0 (cI (tI (X9 (cR L) (cI M) true) L.length)))) (cI M) 0) L.length)),(nI0 (S2 (H8 (List.take (L.length*(0+1)) (List.drop 0 (cI (tI (X9 (cR P0) (cI M) false) L.length)))) (List.take (L.length*(0+1)) (List.drop 0 (cI (tI (X9 (cR P1) (cI M) false) L.length)))) (List.take (L.length*(0+1)) (List.drop 0 (cI (tI (X9 (cR P2) (cI M) false) L.length)))) (List.take (L.length*(0+1)) (List.drop 0 (cI (tI (X9 (cR L) (cI M) false) L.length)))) (cI M) 1) L.length)),(nI0 (S2 (H8 (List.take (L.length*(0+1)) (List.drop 0 (cI (tI (X9 (cR P0) (cI M) true) L.length)))) (List.take (L.length*(0+1)) (List.drop 0 (cI (tI (X9 (cR P1) (cI M) true) L.length)))) (List.take (L.length*(0+1)) (List.drop 0 (cI (tI (X9 (cR P2) (cI M) true) L.length)))) (List.take (L.length*(0+1)) (List.drop 0 (cI (tI (X9 (cR L) (cI M) true) L.length)))) (cI M) 1) L.length)),(nI0 (S2 (H8 (List.take (L.length*(0+1)) (List.drop 0 (cI (tI (X9 (cR P0) (cI M) false) L.length)))) (List.take (L.length*(0+1)) (List.drop 0 (cI (tI (X9 (cR P1) (cI M) false) L.length)))) (List.take (L.length*(0+1)) (List.drop 0 (cI (tI (X9 (cR P2) (cI M) false) L.length)))) (List.take (L.length*(0+1)) (List.drop 0 (cI (tI (X9 (cR L) (cI M) false) L.length)))) (cI M) 2) L.length)),(nI0 (S2 (H8 (List.take (L.length*(0+1)) (List.drop 0 (cI (tI (X9 (cR P0) (cI M) true) L.length)))) (List.take (L.length*(0+1)) (List.drop 0 (cI (tI (X9 (cR P1) (cI M) true) L.length)))) (List.take (L.length*(0+1)) (List.drop 0 (cI (tI (X9 (cR P2) (cI M) true) L.length)))) (List.take (L.length*(0+1)) (List.drop 0 (cI (tI (X9 (cR L) (cI M) true) L.length)))) (cI M) 2) L.length))] 65 2))]⟩) (e:=.ret) (m:=19) (ps:=[U2 [AV.xl v0 P0.length 2 (cR P0),AV.xl v1 P1.length 2 (cR P1),AV.xl v2 P2.length 2 (cR P2)],U2 (cR L),U2 (cI M),W8 2 L.length (cR L),Q3 1 M.length (cI M),W8 2 P0.length (cR P0),W8 2 P1.length (cR P1),W8 2 P2.length (cR P2),1≤L.length∧L.length≤8,P0.length=L.length,P1.length=L.length,P2.length=L.length,M.length=L.length,1=1∧3=3,0+3*(0+1)≤([(.slu 3 0 (L.length) 0),(.slu 4 0 (L.length) 0),(.slu 5 0 (L.length) 0)]:List AV).length,0+L.length*(0+1)≤((cI (tI (X9 (cR P0) (cI M) false) L.length)):List AV).length,0+L.length*(0+1)≤((cI (tI (X9 (cR P1) (cI M) false) L.length)):List AV).length,0+L.length*(0+1)≤((cI (tI (X9 (cR P2) (cI M) false) L.length)):List AV).length,0+L.length*(0+1)≤((cI (tI (X9 (cR L) (cI M) false) L.length)):List AV).length,T8 1 [AV.xl v0 P0.length 2 (cR P0),AV.xl v1 P1.length 2 (cR P1),AV.xl v2 P2.length 2 (cR P2)] 3,W8 2 L.length (cR L),Q3 1 M.length (cI M),L.length≤8,IsC (0+1) L.length (List.take (L.length*(0+1)) (List.drop 0 (cI (tI (X9 (cR P0) (cI M) false) L.length)))),IsC (0+1) L.length (List.take (L.length*(0+1)) (List.drop 0 (cI (tI (X9 (cR P1) (cI M) false) L.length)))),IsC (0+1) L.length (List.take (L.length*(0+1)) (List.drop 0 (cI (tI (X9 (cR P2) (cI M) false) L.length)))),IsC (0+1) L.length (List.take (L.length*(0+1)) (List.drop 0 (cI (tI (X9 (cR L) (cI M) false) L.length)))),L.length=L.length,L.length=L.length,L.length=L.length,L.length=L.length,M.length=L.length,Is3 3,c1e (List.take (L.length*(0+1)) (List.drop 0 (cI (tI (X9 (cR P0) (cI M) false) L.length)))) (List.take (L.length*(0+1)) (List.drop 0 (cI (tI (X9 (cR P1) (cI M) false) L.length)))) (List.take (L.length*(0+1)) (List.drop 0 (cI (tI (X9 (cR P2) (cI M) false) L.length)))) (List.take (L.length*(0+1)) (List.drop 0 (cI (tI (X9 (cR L) (cI M) false) L.length)))) (cI M) L.length,U2 [AV.xl v0 P0.length 2 (cR P0),AV.xl v1 P1.length 2 (cR P1),AV.xl v2 P2.length 2 (cR P2)],U2 (cR L),U2 (cI M),W8 2 L.length (cR L),Q3 1 M.length (cI M),W8 2 P0.length (cR P0),W8 2 P1.length (cR P1),W8 2 P2.length (cR P2),1≤L.length∧L.length≤8,P0.length=L.length,P1.length=L.length,P2.length=L.length,M.length=L.length,1=1∧3=3,0+3*(0+1)≤([(.slu 8 0 (L.length) 0),(.slu 9 0 (L.length) 0),(.slu 10 0 (L.length) 0)]:List AV).length,0+L.length*(0+1)≤((cI (tI (X9 (cR P0) (cI M) true) L.length)):List AV).length,0+L.length*(0+1)≤((cI (tI (X9 (cR P1) (cI M) true) L.length)):List AV).length,0+L.length*(0+1)≤((cI (tI (X9 (cR P2) (cI M) true) L.length)):List AV).length,0+L.length*(0+1)≤((cI (tI (X9 (cR L) (cI M) true) L.length)):List AV).length,T8 1 [AV.xl v0 P0.length 2 (cR P0),AV.xl v1 P1.length 2 (cR P1),AV.xl v2 P2.length 2 (cR P2)] 3,W8 2 L.length (cR L),Q3 1 M.length (cI M),L.length≤8,IsC (0+1) L.length (List.take (L.length*(0+1)) (List.drop 0 (cI (tI (X9 (cR P0) (cI M) true) L.length)))),IsC (0+1) L.length (List.take (L.length*(0+1)) (List.drop 0 (cI (tI (X9 (cR P1) (cI M) true) L.length)))),IsC (0+1) L.length (List.take (L.length*(0+1)) (List.drop 0 (cI (tI (X9 (cR P2) (cI M) true) L.length)))),IsC (0+1) L.length (List.take (L.length*(0+1)) (List.drop 0 (cI (tI (X9 (cR L) (cI M) true) L.length)))),L.length=L.length,L.length=L.length,L.length=L.length,L.length=L.length,M.length=L.length,Is3 3,c1e (List.take (L.length*(0+1)) (List.drop 0 (cI (tI (X9 (cR P0) (cI M) true) L.length)))) (List.take (L.length*(0+1)) (List.drop 0 (cI (tI (X9 (cR P1) (cI M) true) L.length)))) (List.take (L.length*(0+1)) (List.drop 0 (cI (tI (X9 (cR P2) (cI M) true) L.length)))) (List.take (L.length*(0+1)) (List.drop 0 (cI (tI (X9 (cR L) (cI M) true) L.length)))) (cI M) L.length,Y1 0 3=true,L3 IntKind.i64 (0+1),Y1 (0+1) 3=true,L3 IntKind.i64 (0+1+1),Y1 (0+1+1) 3=true,L3 IntKind.i64 (0+1+1+1),Y1 (0+1+1+1) 3=false]) (gH 13 ([.b true]++gH 16 ([.b true]++gH 16 ([.b true]++gH 16 [.b false,.go,.go])))) [18] [(.slu 18 0 3 0)] [(.row [(nI0 (S2 (H8 (List.take (L.length*(0+1)) (List.drop 0 (cI (tI (X9 (cR P0) (cI M) false) L.length)))) (List.take (L.length*(0+1)) (List.drop 0 (cI (tI (X9 (cR P1) (cI M) false) L.length)))) (List.take (L.length*(0+1)) (List.drop 0 (cI (tI (X9 (cR P2) (cI M) false) L.length)))) (List.take (L.length*(0+1)) (List.drop 0 (cI (tI (X9 (cR L) (cI M) false) L.length)))) (cI M) 0) L.length)),(nI0 (S2 (H8 (List.take (L.length*(0+1)) (List.drop 0 (cI (tI (X9 (cR P0) (cI M) true) L.length)))) (List.take (L.length*(0+1)) (List.drop 0 (cI (tI (X9 (cR P1) (cI M) true) L.length)))) (List.take (L.length*(0+1)) (List.drop 0 (cI (tI (X9 (cR P2) (cI M) true) L.length)))) (List.take (L.length*(0+1)) (List.drop 0 (cI (tI (X9 (cR L) (cI M) true) L.length)))) (cI M) 0) L.length)),(nI0 (S2 (H8 (List.take (L.length*(0+1)) (List.drop 0 (cI (tI (X9 (cR P0) (cI M) false) L.length)))) (List.take (L.length*(0+1)) (List.drop 0 (cI (tI (X9 (cR P1) (cI M) false) L.length)))) (List.take (L.length*(0+1)) (List.drop 0 (cI (tI (X9 (cR P2) (cI M) false) L.length)))) (List.take (L.length*(0+1)) (List.drop 0 (cI (tI (X9 (cR L) (cI M) false) L.length)))) (cI M) 1) L.length)),(nI0 (S2 (H8 (List.take (L.length*(0+1)) (List.drop 0 (cI (tI (X9 (cR P0) (cI M) true) L.length)))) (List.take (L.length*(0+1)) (List.drop 0 (cI (tI (X9 (cR P1) (cI M) true) L.length)))) (List.take (L.length*(0+1)) (List.drop 0 (cI (tI (X9 (cR P2) (cI M) true) L.length)))) (List.take (L.length*(0+1)) (List.drop 0 (cI (tI (X9 (cR L) (cI M) true) L.length)))) (cI M) 1) L.length)),(nI0 (S2 (H8 (List.take (L.length*(0+1)) (List.drop 0 (cI (tI (X9 (cR P0) (cI M) false) L.length)))) (List.take (L.length*(0+1)) (List.drop 0 (cI (tI (X9 (cR P1) (cI M) false) L.length)))) (List.take (L.length*(0+1)) (List.drop 0 (cI (tI (X9 (cR P2) (cI M) false) L.length)))) (List.take (L.length*(0+1)) (List.drop 0 (cI (tI (X9 (cR L) (cI M) false) L.length)))) (cI M) 2) L.length)),(nI0 (S2 (H8 (List.take (L.length*(0+1)) (List.drop 0 (cI (tI (X9 (cR P0) (cI M) true) L.length)))) (List.take (L.length*(0+1)) (List.drop 0 (cI (tI (X9 (cR P1) (cI M) true) L.length)))) (List.take (L.length*(0+1)) (List.drop 0 (cI (tI (X9 (cR P2) (cI M) true) L.length)))) (List.take (L.length*(0+1)) (List.drop 0 (cI (tI (X9 (cR L) (cI M) true) L.length)))) (cI M) 2) L.length))] 65 2)] (by kernel_rfl) (by kernel_rfl) ⟨(Y2 [(v0,P0),(v1,P1),(v2,P2)]),(Y3 (Y7 _)),(Y3 (Z5 _)),⟨rfl,L,rfl,rfl⟩,⟨rfl,M,rfl,rfl⟩,⟨rfl,P0,rfl,rfl⟩,⟨rfl,P1,rfl,rfl⟩,⟨rfl,P2,rfl,rfl⟩,hn,hp0,hp1,hp2,hm,⟨rfl,rfl⟩,(by show 0+3*(0+1)≤3;decide),(by rw [Y5,Y0];omega),(by rw [Y5,Y0];omega),(by rw [Y5,Y0];omega),(by rw [Y5,Y0];omega),⟨rfl,[(v0,P0),(v1,P1),(v2,P2)],rfl,rfl⟩,⟨rfl,L,rfl,rfl⟩,⟨rfl,M,rfl,rfl⟩,hn.2,⟨rfl,_,W4,(Y0 _ _).symm⟩,⟨rfl,_,W4,(Y0 _ _).symm⟩,⟨rfl,_,W4,(Y0 _ _).symm⟩,⟨rfl,_,W4,(Y0 _ _).symm⟩,rfl,rfl,rfl,rfl,hm,rfl,(by rw [W4,W4,W4,W4];exact c2q hc0 hc1 hc2 hl hm1),(Y2 [(v0,P0),(v1,P1),(v2,P2)]),(Y3 (Y7 _)),(Y3 (Z5 _)),⟨rfl,L,rfl,rfl⟩,⟨rfl,M,rfl,rfl⟩,⟨rfl,P0,rfl,rfl⟩,⟨rfl,P1,rfl,rfl⟩,⟨rfl,P2,rfl,rfl⟩,hn,hp0,hp1,hp2,hm,⟨rfl,rfl⟩,(by show 0+3*(0+1)≤3;decide),(by rw [Y5,Y0];omega),(by rw [Y5,Y0];omega),(by rw [Y5,Y0];omega),(by rw [Y5,Y0];omega),⟨rfl,[(v0,P0),(v1,P1),(v2,P2)],rfl,rfl⟩,⟨rfl,L,rfl,rfl⟩,⟨rfl,M,rfl,rfl⟩,hn.2,⟨rfl,_,W4,(Y0 _ _).symm⟩,⟨rfl,_,W4,(Y0 _ _).symm⟩,⟨rfl,_,W4,(Y0 _ _).symm⟩,⟨rfl,_,W4,(Y0 _ _).symm⟩,rfl,rfl,rfl,rfl,hm,rfl,(by rw [W4,W4,W4,W4];exact c2q hc0 hc1 hc2 hl hm1),rfl,(by show -9223372036854775808≤(_:Int)∧(_:Int)≤9223372036854775807;constructor<;>decide),rfl,(by show -9223372036854775808≤(_:Int)∧(_:Int)≤9223372036854775807;constructor<;>decide),rfl,(by show -9223372036854775808≤(_:Int)∧(_:Int)≤9223372036854775807;constructor<;>decide),rfl,trivial⟩ rfl rfl (by decide) rfl ⟨Y9 rfl,trivial⟩ ⟨⟨by show 0<1;decide,Z1 (Z9 (W0 _) (Z9 (W0 _) (Z9 (W0 _) (Z9 (W0 _) (Z9 (W0 _) (Z9 (W0 _) (Z3)))))))⟩,trivial⟩) (o3 (r:=(.slu 0 0 3 0)) (ys:=[(.row [(nI0 (S2 (H8 (List.take (L.length*(0+1)) (List.drop 0 (cI (tI (X9 (cR P0) (cI M) false) L.length)))) (List.take (L.length*(0+1)) (List.drop 0 (cI (tI (X9 (cR P1) (cI M) false) L.length)))) (List.take (L.length*(0+1)) (List.drop 0 (cI (tI (X9 (cR P2) (cI M) false) L.length)))) (List.take (L.length*(0+1)) (List.drop 0 (cI (tI (X9 (cR L) (cI M) false) L.length)))) (cI M) 0) L.length)),(nI0 (S2 (H8 (List.take (L.length*(0+1)) (List.drop 0 (cI (tI (X9 (cR P0) (cI M) true) L.length)))) (List.take (L.length*(0+1)) (List.drop 0 (cI (tI (X9 (cR P1) (cI M) true) L.length)))) (List.take (L.length*(0+1)) (List.drop 0 (cI (tI (X9 (cR P2) (cI M) true) L.length)))) (List.take (L.length*(0+1)) (List.drop 0 (cI (tI (X9 (cR L) (cI M) true) L.length)))) (cI M) 0) L.length)),(nI0 (S2 (H8 (List.take (L.length*(0+1)) (List.drop 0 (cI (tI (X9 (cR P0) (cI M) false) L.length)))) (List.take (L.length*(0+1)) (List.drop 0 (cI (tI (X9 (cR P1) (cI M) false) L.length)))) (List.take (L.length*(0+1)) (List.drop 0 (cI (tI (X9 (cR P2) (cI M) false) L.length)))) (List.take (L.length*(0+1)) (List.drop 0 (cI (tI (X9 (cR L) (cI M) false) L.length)))) (cI M) 1) L.length)),(nI0 (S2 (H8 (List.take (L.length*(0+1)) (List.drop 0 (cI (tI (X9 (cR P0) (cI M) true) L.length)))) (List.take (L.length*(0+1)) (List.drop 0 (cI (tI (X9 (cR P1) (cI M) true) L.length)))) (List.take (L.length*(0+1)) (List.drop 0 (cI (tI (X9 (cR P2) (cI M) true) L.length)))) (List.take (L.length*(0+1)) (List.drop 0 (cI (tI (X9 (cR L) (cI M) true) L.length)))) (cI M) 1) L.length)),(nI0 (S2 (H8 (List.take (L.length*(0+1)) (List.drop 0 (cI (tI (X9 (cR P0) (cI M) false) L.length)))) (List.take (L.length*(0+1)) (List.drop 0 (cI (tI (X9 (cR P1) (cI M) false) L.length)))) (List.take (L.length*(0+1)) (List.drop 0 (cI (tI (X9 (cR P2) (cI M) false) L.length)))) (List.take (L.length*(0+1)) (List.drop 0 (cI (tI (X9 (cR L) (cI M) false) L.length)))) (cI M) 2) L.length)),(nI0 (S2 (H8 (List.take (L.length*(0+1)) (List.drop 0 (cI (tI (X9 (cR P0) (cI M) true) L.length)))) (List.take (L.length*(0+1)) (List.drop 0 (cI (tI (X9 (cR P1) (cI M) true) L.length)))) (List.take (L.length*(0+1)) (List.drop 0 (cI (tI (X9 (cR P2) (cI M) true) L.length)))) (List.take (L.length*(0+1)) (List.drop 0 (cI (tI (X9 (cR L) (cI M) true) L.length)))) (cI M) 2) L.length))] 65 2)]) (by rfl) (by (unfold S7;simp only [W4])) (A4 (by kernel_rfl) (by kernel_rfl) rfl (.inr rfl)))
theorem c9U(y v0:Value)(P0:List (Int×Int))(v1:Value)(P1:List (Int×Int))(v2:Value)(P2:List (Int×Int))(yl:Value)(L:List (Int×Int))(z:Value)(M:List Int)(hn:1≤L.length∧L.length≤8)(hp0:P0.length=L.length)(hp1:P1.length=L.length)(hp2:P2.length=L.length)(hm:M.length=L.length)(hl:∀ b,b<L.length→X7 100 (cR L) b)(hc0:∀ b,b<L.length→X7 100 (cR P0) b)(hc1:∀ b,b<L.length→X7 100 (cR P1) b)(hc2:∀ b,b<L.length→X7 100 (cR P2) b)(hm1:∀ b,b<L.length→0≤Z8 (cI M) (b*1)∧Z8 (cI M) (b*1)≤1000):A8 zP0q 57 [(.agg [.xl y 3 1 [.xl v0 P0.length 2 (cR P0),.xl v1 P1.length 2 (cR P1),.xl v2 P2.length 2 (cR P2)],.xl yl L.length 2 (cR L),(.fn (.func 78) [.xl z M.length 1 (cI M)] [])])] [] ((.slu 0 0 3 0)) [(.row [nI0 (S7 (cR P0) (cR P1) (cR P2) (cR L) (cI M) L.length false 0),nI0 (S7 (cR P0) (cR P1) (cR P2) (cR L) (cI M) L.length true 0),nI0 (S7 (cR P0) (cR P1) (cR P2) (cR L) (cI M) L.length false 1),nI0 (S7 (cR P0) (cR P1) (cR P2) (cR L) (cI M) L.length true 1),nI0 (S7 (cR P0) (cR P1) (cR P2) (cR L) (cI M) L.length false 2),nI0 (S7 (cR P0) (cR P1) (cR P2) (cR L) (cI M) L.length true 2)] 65 2)] :=
 N1 30 (by kernel_rfl) Try.func57 (by kernel_rfl) (by kernel_rfl) (by kernel_rfl) (fun v eb ec=>V2 (by kernel_rfl) (by kernel_rfl) (by kernel_rfl) (by kernel_rfl) (d0N y v0 P0 v1 P1 v2 P2 yl L z M hn hp0 hp1 hp2 hm hl hc0 hc1 hc2 hm1 v eb ec []))
end
end Go.Proofs.Ytegmogadbnfbgaa
namespace Go.Proofs.Ytegmogadbnfbgaa
open Go Ev
noncomputable section
end
end Go.Proofs.Ytegmogadbnfbgaa
namespace Go.Proofs.Ytegmogadbnfbgaa
open Go Ev
noncomputable section
end
end Go.Proofs.Ytegmogadbnfbgaa
namespace Go.Proofs.Ytegmogadbnfbgaa
open Go Ev
noncomputable section
def c6c(c0 c1 c2 cL cM:List AV)(n:Nat):Prop:=(∀ b,b<n→X7 100 cL b)∧(∀ b,b<n→X7 100 c0 b)∧(∀ b,b<n→X7 100 c1 b)∧(∀ b,b<n→X7 100 c2 b)∧(∀ b,b<n→0≤Z8 cM (b*1)∧Z8 cM (b*1)≤1000)
def Is1(k:Nat):Prop:=k=1
def c9d:List AV→List AB→Option ((AV×List AB)×List Prop):=fun args xs =>
 match args,xs with
 |[.agg [.xl y m k1 cE,.xl yl n k2 cL,.fn (.func f) lz lc]],[]=>match cE,lz,lc,Nat.beq f 78 with
  |[.xl v0 n0 j0 c0,.xl v1 n1 j1 c1,.xl v2 n2 j2 c2],[.xl z r k5 cM],[],true=>some ((.slu 0 0 3 0,[.row [.v (.int .i64 (S7 c0 c1 c2 cL cM n false 0)),.v (.int .i64 (S7 c0 c1 c2 cL cM n true 0)),.v (.int .i64 (S7 c0 c1 c2 cL cM n false 1)),.v (.int .i64 (S7 c0 c1 c2 cL cM n true 1)),.v (.int .i64 (S7 c0 c1 c2 cL cM n false 2)),.v (.int .i64 (S7 c0 c1 c2 cL cM n true 2))] 65 2]),[W8 k2 n cL,Q3 k5 r cM,W8 j0 n0 c0,W8 j1 n1 c1,W8 j2 n2 c2,1≤n∧n≤8,n0=n,n1=n,n2=n,r=n,Is1 k1,Is3 m,c6c c0 c1 c2 cL cM n])
  |_,_,_,_=>none
 |_,_=>none
def d0s:N4:=a7V 57 c9d
theorem b5E:Known zP0q (clsO d0s):=a1c (fun args xs r ys ps h hp=>by
 unfold c9d at h
 split at h
 ·split at h
  ·rename_i e1
   cases h
   obtain ⟨⟨rfl,L,rfl,rfl⟩,⟨rfl,M,rfl,rfl⟩,⟨rfl,P0,rfl,rfl⟩,⟨rfl,P1,rfl,rfl⟩,⟨rfl,P2,rfl,rfl⟩,h1,h2,h3,h4,h5,rfl,rfl,⟨q0,q1,q2,q3,q4⟩,-⟩:=hp
   rw [Nat.eq_of_beq_eq_true e1]
   refine ⟨fun x hx=>absurd hx List.not_mem_nil,fun x hx=>?_,c9U _ _ P0 _ P1 _ P2 _ L _ M h1 h2 h3 h4 h5 q0 q1 q2 q3 q4⟩
   rw [List.mem_singleton.1 hx]
   exact K4 (Y3 (show N7 [.v (.int .i64 (S7 (cR P0) (cR P1) (cR P2) (cR L) (cI M) L.length false 0)),.v (.int .i64 (S7 (cR P0) (cR P1) (cR P2) (cR L) (cI M) L.length true 0)),.v (.int .i64 (S7 (cR P0) (cR P1) (cR P2) (cR L) (cI M) L.length false 1)),.v (.int .i64 (S7 (cR P0) (cR P1) (cR P2) (cR L) (cI M) L.length true 1)),.v (.int .i64 (S7 (cR P0) (cR P1) (cR P2) (cR L) (cI M) L.length false 2)),.v (.int .i64 (S7 (cR P0) (cR P1) (cR P2) (cR L) (cI M) L.length true 2))]=some _ from rfl))
  ·cases h
 ·cases h)
end
end Go.Proofs.Ytegmogadbnfbgaa
namespace Go.Proofs.Ytegmogadbnfbgaa
open Go Ev
noncomputable section
def dfF(c d:List AV)(b:Nat):Int:=Z8 c (b*1) - Z8 d (b*1)
def X5(c d:List AV)(n:Nat):List AV:=cI (tI (dfF c d) n)
theorem b08{c d:List AV}{n b:Nat}(h:b<n):Z8 (X5 c d n) (b*1)=Z8 c (b*1) - Z8 d (b*1):=by
 unfold X5
 rw [Nat.mul_one,w9 h]
 unfold dfF
 rw [Nat.mul_one]
theorem b9x{cX cY c d:List AV}{n i b:Nat}(h:b<n):O2 cX cY (X5 c d n) i b=Z8 (N5 cX (i*1)) (b*1)*Z8 cY (b*1)*(Z8 c (b*1) - Z8 d (b*1)):=by
 unfold O2
 rw [b08 h]
theorem a7B{c m k:List AV}{g:Bool}{b n:Nat}(hb:b<n)(h:(g == Y1 0 (Z8 m (b*1) - Z8 k (b*1)))=true):X9 c (X5 m k n) g b=Z8 c (b*2+1):=s3 (by rw [b08 hb];exact h)
theorem a9q{c m k:List AV}{g:Bool}{b n:Nat}(hb:b<n)(h:¬ (g == Y1 0 (Z8 m (b*1) - Z8 k (b*1)))=true):X9 c (X5 m k n) g b=Z8 c (b*2+0):=a0c (by rw [b08 hb];exact h)
theorem b8N{g:Fn}{l:List AV}(h:U2 l):U2 [.fn g [] l]:=fun σ τ hb x e=>by
 simp only [denL,den] at e ⊢
 cases h1:denL σ l with
 |none=>rw [h1] at e;cases e
 |some us =>
  rw [h1] at e
  rw [h σ τ hb us h1]
  exact e
theorem L5{y:Value}{n k i:Nat}{c:List AV}(h:U2 c):U2 [.xp y n k c i]:=fun σ τ hb x e=>by
 simp only [denL,den] at e ⊢
 cases h1:denL σ c with
 |none=>rw [h1] at e;cases e
 |some us =>
  rw [h1] at e
  rw [h σ τ hb us h1,hb]
  exact e
def a5r(n k i:Nat):Prop:=n=1∧k=1∧i=0
def c0k(k3 m k4 q k5 r k6 s:Nat)(cX cY cM cK:List AV)(n:Nat):Prop:=∃ (X:List (Value×List Int)) (Y M K:List Int),(k3=1∧cX=U1 X∧m=X.length)∧(k4=1∧cY=cI Y∧q=Y.length)∧(k5=1∧cM=cI M∧r=M.length)∧(k6=1∧cK=cI K∧s=K.length)∧X.length=3∧(∀ i,i<3→J2 (U1 X) (i*1)=n)∧Y.length=n∧M.length=n∧K.length=n∧(∀ i,i<3→∀ b,b<n→0≤Z8 (N5 (U1 X) (i*1)) (b*1)∧Z8 (N5 (U1 X) (i*1)) (b*1)≤100)∧(∀ b,b<n→0≤Z8 (cI Y) (b*1)∧Z8 (cI Y) (b*1)≤100)∧(∀ b,b<n → -1000≤Z8 (cI M) (b*1) - Z8 (cI K) (b*1)∧Z8 (cI M) (b*1) - Z8 (cI K) (b*1)≤1000)
end
end Go.Proofs.Ytegmogadbnfbgaa
namespace Go.Proofs.Ytegmogadbnfbgaa
open Go Ev
noncomputable section
section
variable (E : List (Value × List (Int × Int))) (K : List Int) (L : List (Int × Int)) (M : List Int) (X : List (Value × List Int)) (Y : List Int) (q0 q1 u ul y yl z zk : Value)
@[reducible] def b7M:Ev.AB:=(.cells [.xl y E.length 1 (X4 E),.xl yl L.length 2 (cR L),(.fn (.func 82) [] [.xp q0 1 1 [.xl z M.length 1 (cI M)] 0,.xp q1 1 1 [.xl zk K.length 1 (cI K)] 0])] 85)
@[reducible] def b8E:Ev.AB:=(.cells [.xl u X.length 1 (U1 X),.xl ul Y.length 1 (cI Y)] 29)
end
noncomputable def d0p:Code:=N6 Try.f80
set_option maxHeartbeats 16000000 in
theorem c9P(y:Value)(E:List (Value×List (Int×Int)))(yl:Value)(L:List (Int×Int))(u:Value)(X:List (Value×List Int))(ul:Value)(Y:List Int)(q0 z:Value)(M:List Int)(q1 zk:Value)(K:List Int)(n c b:Nat)(hx3:X.length=3)(hxr:∀ i,i<3→J2 (U1 X) (i*1)=n)(hy:Y.length=n)(hm:M.length=n)(hk:K.length=n)(hx1:∀ i,i<3→∀ b,b<n→0≤Z8 (N5 (U1 X) (i*1)) (b*1)∧Z8 (N5 (U1 X) (i*1)) (b*1)≤100)(hy1:∀ b,b<n→0≤Z8 (cI Y) (b*1)∧Z8 (cI Y) (b*1)≤100)(hm1:∀ b,b<n → -1000≤Z8 (cI M) (b*1) - Z8 (cI K) (b*1)∧Z8 (cI M) (b*1) - Z8 (cI K) (b*1)≤1000)(hc:c<3)(hb:b<n)(v:BaseW)(eb:Nat→Option Nat)(ec:Nat→Nat)(hs:List Nat):Y6 zP0q 26 d0p (⟨[(0,(nI0 c)),(1,(nI0 b)),(2,(.ptr 0 0)),(3,(.ptr 1 0))],[],2,[(0,(b8E X Y u ul)),(1,(b7M E K L M q0 q1 y yl z zk))]⟩) (BaseW.H (bw v 2 eb ec) hs) (b22 zP0q Try.f80 26 (.int .i64 (O2 (U1 X) (cI Y) (X5 (cI M) (cI K) n) c b)) [(b8E X Y u ul),(b7M E K L M q0 q1 y yl z zk)] (bw v 2 eb ec)):=by
 have hcl_L:=Y8 L
 have hcl_Y:=Y5 Y
 have hcl_M:=Y5 M
 have hcl_K:=Y5 K
 exact Z6 U0 (Z2 zC0q (Y4) 200 (T':=⟨[(6,(nI0 (Z8 (N5 (U1 X) (c*1)) (b*1)*Z8 (cI Y) (b*1)*(Z8 (cI M) (b*1) - Z8 (cI K) (b*1)))))],[],2,[(0,(.cells [(.xl (u) (X.length) 1 (U1 X)),(.xl (ul) (Y.length) 1 (cI Y))] 29)),(1,(.cells [(.xl (y) (E.length) 1 (X4 E)),(.xl (yl) (L.length) 2 (cR L)),(.fn (.func 82) [] [(AV.xp q0 1 1 [AV.xl z M.length 1 (cI M)] 0),(AV.xp q1 1 1 [AV.xl zk K.length 1 (cI K)] 0)])] 85))]⟩) (e:=.ret) (ps:=[c<X.length,W6 zP0q (U1 X) (c*1) 27=some (AV.xl (xlY (U1 X) (c*1)) (J2 (U1 X) (c*1)) 1 (N5 (U1 X) (c*1))),b<J2 (U1 X) (c*1),W6 zP0q (N5 (U1 X) (c*1)) (b*1) 2=some (AV.v (Value.int IntKind.i64 (Z8 (N5 (U1 X) (c*1)) (b*1)))),b<Y.length,W6 zP0q (cI Y) (b*1) 2=some (AV.v (Value.int IntKind.i64 (Z8 (cI Y) (b*1)))),L3 IntKind.i64 (Z8 (N5 (U1 X) (c*1)) (b*1)*Z8 (cI Y) (b*1)),b<M.length,W6 zP0q (cI M) (b*1) 2=some (AV.v (Value.int IntKind.i64 (Z8 (cI M) (b*1)))),b<K.length,W6 zP0q (cI K) (b*1) 2=some (AV.v (Value.int IntKind.i64 (Z8 (cI K) (b*1)))),L3 IntKind.i64 (Z8 (cI M) (b*1) - Z8 (cI K) (b*1)),L3 IntKind.i64 (Z8 (N5 (U1 X) (c*1)) (b*1)*Z8 (cI Y) (b*1)*(Z8 (cI M) (b*1) - Z8 (cI K) (b*1)))]) (gH 4 ([.sym,.sym,.go,.sym,.sym,.go,.go,.go,.sym,.sym]++gH 10 ([.sym,.sym]++gH 6 ([.sym,.sym]++gH 5 [])))) (by kernel_rfl) (by kernel_rfl) ⟨(by omega),(by rw [Nat.mul_one];exact b16 (by omega) 27 (Try.underlying27) rfl),(by rw [hxr c hc];exact hb),(by have h8:=hxr c hc;obtain ⟨-,L9,e9,n9⟩:=b5t (R:=X) (i:=c) (by omega);rw [e9,Nat.mul_one];exact R1 (by omega) 2 (Try.underlying2) rfl),(by omega),(by rw [Nat.mul_one];exact R1 (show _<Y.length by omega) 2 (Try.underlying2) rfl),(by have h9:=e7 (hx1 c hc b hb) (hy1 b hb) (hm1 b hb);have h8:=hm1 b hb;show -9223372036854775808≤_∧_≤9223372036854775807;constructor<;>omega),(by omega),(by rw [Nat.mul_one];exact R1 (show _<M.length by omega) 2 (Try.underlying2) rfl),(by omega),(by rw [Nat.mul_one];exact R1 (show _<K.length by omega) 2 (Try.underlying2) rfl),(by have h9:=e7 (hx1 c hc b hb) (hy1 b hb) (hm1 b hb);have h8:=hm1 b hb;show -9223372036854775808≤_∧_≤9223372036854775807;constructor<;>omega),(by have h9:=e7 (hx1 c hc b hb) (hy1 b hb) (hm1 b hb);have h8:=hm1 b hb;show -9223372036854775808≤_∧_≤9223372036854775807;constructor<;>omega),trivial⟩ rfl) (c03 (r:=(.int .i64 (Z8 (N5 (U1 X) (c*1)) (b*1)*Z8 (cI Y) (b*1)*(Z8 (cI M) (b*1) - Z8 (cI K) (b*1))))) (by (rw [b9x hb])) (b4K (v:=(nI0 (Z8 (N5 (U1 X) (c*1)) (b*1)*Z8 (cI Y) (b*1)*(Z8 (cI M) (b*1) - Z8 (cI K) (b*1))))) (by kernel_rfl) (by kernel_rfl) rfl (.inr rfl)))
theorem d0q(y:Value)(E:List (Value×List (Int×Int)))(yl:Value)(L:List (Int×Int))(u:Value)(X:List (Value×List Int))(ul:Value)(Y:List Int)(q0 z:Value)(M:List Int)(q1 zk:Value)(K:List Int)(n c b:Nat)(hx3:X.length=3)(hxr:∀ i,i<3→J2 (U1 X) (i*1)=n)(hy:Y.length=n)(hm:M.length=n)(hk:K.length=n)(hx1:∀ i,i<3→∀ b,b<n→0≤Z8 (N5 (U1 X) (i*1)) (b*1)∧Z8 (N5 (U1 X) (i*1)) (b*1)≤100)(hy1:∀ b,b<n→0≤Z8 (cI Y) (b*1)∧Z8 (cI Y) (b*1)≤100)(hm1:∀ b,b<n → -1000≤Z8 (cI M) (b*1) - Z8 (cI K) (b*1)∧Z8 (cI M) (b*1) - Z8 (cI K) (b*1)≤1000)(hc:c<3)(hb:b<n):a9R zP0q 80 [(nI0 c),(nI0 b),(.ptr 0 0),(.ptr 1 0)] [(b8E X Y u ul),(b7M E K L M q0 q1 y yl z zk)] (.int .i64 (O2 (U1 X) (cI Y) (X5 (cI M) (cI K) n) c b)) :=
 a3S 26 Try.func80 (by kernel_rfl) (by kernel_rfl) (by kernel_rfl) (fun v eb ec=>V2 (by kernel_rfl) (by kernel_rfl) (by kernel_rfl) (by kernel_rfl) (c9P y E yl L u X ul Y q0 z M q1 zk K n c b hx3 hxr hy hm hk hx1 hy1 hm1 hc hb v eb ec []))
end
end Go.Proofs.Ytegmogadbnfbgaa
namespace Go.Proofs.Ytegmogadbnfbgaa
open Go Ev
noncomputable section
theorem b2s{y yl q0 z q1 zk:Value}{f:FuncId}{t2:TypeId}(E:List (Value×List (Int×Int)))(L:List (Int×Int))(M K:List Int):a2P (AB.cells [.xl y E.length 1 (X4 E),.xl yl L.length 2 (cR L),.fn (.func f) [] [.xp q0 1 1 [.xl z M.length 1 (cI M)] 0,.xp q1 1 1 [.xl zk K.length 1 (cI K)] 0]] t2):=u9 (E1 (X6 (Y2 E)) (E1 (X6 (Y3 (Y7 L))) (b8N (E1 (L5 (X6 (Y3 (Z5 M)))) (L5 (X6 (Y3 (Z5 K))))))))
theorem a4C{u ul y yl q0 z q1 zk:Value}{f:FuncId}{t1 t2:TypeId}(X:List (Value×List Int))(Y:List Int)(E:List (Value×List (Int×Int)))(L:List (Int×Int))(M K:List Int):∀ x,x∈[AB.cells [.xl u X.length 1 (U1 X),.xl ul Y.length 1 (cI Y)] t1,AB.cells [.xl y E.length 1 (X4 E),.xl yl L.length 2 (cR L),.fn (.func f) [] [.xp q0 1 1 [.xl z M.length 1 (cI M)] 0,.xp q1 1 1 [.xl zk K.length 1 (cI K)] 0]] t2]→a2P x:=fun x hx=>by
 rcases List.mem_cons.1 hx with rfl|hx
 ·exact u9 (E1 (X6 (I2 X)) (X6 (Y3 (Z5 Y))))
 ·rw [List.mem_singleton.1 hx]
  exact b2s E L M K
def pdS:List AV→List AB→Option (Value×List Prop):=fun args xs =>
 match args with
 |[.v vc,.v vb,p,q]=>match a1N vc,a1N vb,a7T p 0,a7T q 1,xs with
  |some c,some b,true,true,[.cells l1 t1,.cells l2 t2]=>match l1,l2 with
   |[.xl u m k3 cX,.xl ul j k4 cY],[.xl y me k1 cE,.xl yl n k2 cL,.fn (.func f) lz lc]=>match lz,lc,Nat.beq f 82 with
    |[],[.xp q0 a1 a2 d0 a3,.xp q1 b1 b2 d1 b3],true=>match d0,d1 with
     |[.xl z r k5 cM],[.xl zk s k6 cK]=>some (.int .i64 (O2 cX cY (X5 cM cK n) c.toNat b.toNat),[a5R t1,a5n t2,T8 k1 cE me,W8 k2 n cL,c0k k3 m k4 j k5 r k6 s cX cY cM cK n,a5r a1 a2 a3,a5r b1 b2 b3,0≤c∧c<3,0≤b∧b.toNat<n])
     |_,_=>none
    |_,_,_=>none
   |_,_=>none
  |_,_,_,_,_=>none
 |_=>none
def pdO:N4:=b85 80 pdS
theorem E8:Known zP0q (clsO pdO):=b4T (fun args xs r ps h hp=>by
 unfold pdS at h
 split at h
 ·split at h
  ·rename_i c b l1 t1 l2 t2 e1 e2 e3 e4
   split at h
   ·split at h
    ·rename_i e5
     split at h
     ·cases h
      obtain ⟨rfl,rfl,⟨rfl,E,rfl,rfl⟩,⟨rfl,L,rfl,rfl⟩,⟨X,Y,M,K,⟨rfl,rfl,rfl⟩,⟨rfl,rfl,rfl⟩,⟨rfl,rfl,rfl⟩,⟨rfl,rfl,rfl⟩,h1,h2,h3,h4,h4',h5,h6,h7⟩,⟨rfl,rfl,rfl⟩,⟨rfl,rfl,rfl⟩,hc,hb,-⟩:=hp
      rw [D9 e1,D9 e2,a0o e3,a0o e4,Nat.eq_of_beq_eq_true e5]
      obtain ⟨c,rfl⟩:∃ k:Nat,c=((k:Nat):Int):=⟨c.toNat,by omega⟩
      obtain ⟨b,rfl⟩:∃ k:Nat,b=((k:Nat):Int):=⟨b.toNat,by omega⟩
      exact ⟨fun x hx=>⟨a4C X Y E L M K x hx,by rcases List.mem_cons.1 hx with rfl|hx;exact a1m;rw [List.mem_singleton.1 hx];exact a1m⟩,d0q _ E _ L _ X _ Y _ _ M _ _ K L.length c b h1 h2 h3 h4 h4' h5 h6 h7 (by omega) hb.2⟩
     ·cases h
    ·cases h
   ·cases h
  ·cases h
 ·cases h)
end
end Go.Proofs.Ytegmogadbnfbgaa
set_option maxHeartbeats 4000000
namespace Go.Proofs.Ytegmogadbnfbgaa
open Go Ev
noncomputable section
section
variable (E : List (Value × List (Int × Int))) (K : List Int) (L : List (Int × Int)) (M : List Int) (X : List (Value × List Int)) (Y : List Int) (i : Nat) (q0 q1 u ul y yl z zk : Value)
@[reducible] def a9D:Ev.AB:=(.cells [(.xl (u) (X.length) 1 (U1 X)),(.xl (ul) (Y.length) 1 (cI Y))] 29)
@[reducible] def M6:Nat×Ev.AB:=(0,(a9D X Y u ul))
@[reducible] def a2Y:Ev.AB:=(.cells [(.xl (y) (E.length) 1 (X4 E)),(.xl (yl) (L.length) 2 (cR L)),(.fn (.func 82) [] [(AV.xp q0 1 1 [AV.xl z M.length 1 (cI M)] 0),(AV.xp q1 1 1 [AV.xl zk K.length 1 (cI K)] 0)])] 85)
@[reducible] def N2:Nat×Ev.AB:=(1,(a2Y E K L M q0 q1 y yl z zk))
@[reducible] def M0:Nat×Ev.AB:=(2,(a2Y E K L M q0 q1 y yl z zk))
@[reducible] def b7T:Ev.AB:=(.cells [(.fn (.func 80) [] [(.ptr 0 0),(.ptr 1 0)])] 116)
@[reducible] def L7:Nat×Ev.AB:=(3,b7T)
@[reducible] def b2a:Ev.AB:=(.cells [(nN 0),(nN 0),(nN 0)] 82)
@[reducible] def M3:Nat×Ev.AB:=(4,b2a)
@[reducible] def i6:Nat×Ev.AB:=(5,(.cells (cI (tI (thA (O2 (U1 X) (cI Y) (X5 (cI M) (cI K) L.length)) L.length i) 3)) 82))
@[reducible] def C4:Nat×Ev.AB:=(6,(.cells [(nI0 i)] 3))
@[reducible] def b3I:Nat×Ev.AB:=(7,(a2Y E K L M q0 q1 y yl z zk))
@[reducible] def a8n:Ev.Lit:=⟨[(2,(.ptr 2 0)),(3,(.ptr 3 0)),(4,(.ptr 4 0)),(5,(.ptr 5 0)),(6,(.ptr 6 0)),(8,(nI0 i)),(12,(.fn (.func 93) [] [(.ptr 7 0)]))],[],8,[(M6 X Y u ul),(N2 E K L M q0 q1 y yl z zk),(M0 E K L M q0 q1 y yl z zk),L7,M3,(i6 K L M X Y i),(C4 i),(b3I E K L M q0 q1 y yl z zk)]⟩
@[reducible] def b8P:Ev.AB:=(.cells (cI (tI (thB (O2 (U1 X) (cI Y) (X5 (cI M) (cI K) L.length)) L.length i L.length) 3)) 82)
@[reducible] def a6x:Nat×Ev.AB:=(5,(b8P K L M X Y i))
@[reducible] def c1u:Ev.Lit:=⟨[(2,(.ptr 2 0)),(3,(.ptr 3 0)),(4,(.ptr 4 0)),(5,(.ptr 5 0)),(6,(.ptr 6 0)),(8,(nI0 i))],[],7,[(M6 X Y u ul),(N2 E K L M q0 q1 y yl z zk),(M0 E K L M q0 q1 y yl z zk),L7,M3,(i6 K L M X Y i),(C4 i)]⟩
@[reducible] def c1H:Ev.Lit:=⟨[(2,(.ptr 2 0)),(3,(.ptr 3 0)),(4,(.ptr 4 0)),(5,(.ptr 5 0)),(8,(nI0 i)),(9,(.v (.bool (Y1 i 3))))],[],6,[(M6 X Y u ul),(N2 E K L M q0 q1 y yl z zk),(M0 E K L M q0 q1 y yl z zk),L7,M3,(i6 K L M X Y i)]⟩
@[reducible] def c1Y:Ev.Lit:=⟨[(2,(.ptr 2 0)),(3,(.ptr 3 0)),(4,(.ptr 4 0)),(5,(.ptr 5 0)),(8,(nI0 i))],[8],10,[(M6 X Y u ul),(N2 E K L M q0 q1 y yl z zk),(M0 E K L M q0 q1 y yl z zk),L7,M3,(a6x K L M X Y i),(8,(.defd .true))]⟩
@[reducible] def c2c:Ev.Lit:=⟨[(2,(.ptr 2 0)),(3,(.ptr 3 0)),(4,(.ptr 4 0)),(5,(.ptr 5 0)),(8,(nI0 (((i+1):Nat):Int)))],[],6,[(M6 X Y u ul),(N2 E K L M q0 q1 y yl z zk),(M0 E K L M q0 q1 y yl z zk),L7,M3,(a6x K L M X Y i)]⟩
@[reducible] def c20:Ev.Lit:=⟨[(2,(.ptr 2 0)),(3,(.ptr 3 0)),(4,(.ptr 4 0)),(5,(.ptr 5 0)),(8,(nI0 i))],[],8,[(M6 X Y u ul),(N2 E K L M q0 q1 y yl z zk),(M0 E K L M q0 q1 y yl z zk),L7,M3,(a6x K L M X Y i)]⟩
@[reducible] def a51:Nat×Ev.AV:=(8,(nN 0))
@[reducible] def b8C:Nat×Ev.AB:=(5,b2a)
@[reducible] def b4A:Ev.Lit:=⟨[(2,(.ptr 2 0)),(3,(.ptr 3 0)),(4,(.ptr 4 0)),(5,(.ptr 5 0)),a51],[],6,[(M6 X Y u ul),(N2 E K L M q0 q1 y yl z zk),(M0 E K L M q0 q1 y yl z zk),L7,M3,b8C]⟩
@[reducible] def b4D:Ev.Lit:=⟨[(2,(.ptr 2 0)),(3,(.ptr 3 0)),(4,(.ptr 4 0)),(5,(.ptr 5 0)),(8,(nI0 i))],[],6,[(M6 X Y u ul),(N2 E K L M q0 q1 y yl z zk),(M0 E K L M q0 q1 y yl z zk),L7,M3,(i6 K L M X Y i)]⟩
@[reducible] def b49:Ev.Lit:=⟨[(2,(.ptr 2 0)),(3,(.ptr 3 0)),(4,(.ptr 4 0)),(5,(.ptr 5 0))],[],6,[(M6 X Y u ul),(N2 E K L M q0 q1 y yl z zk),(M0 E K L M q0 q1 y yl z zk),L7,M3,b8C]⟩
@[reducible] def b6i:Ev.Lit:=⟨[(2,(.ptr 2 0)),(3,(.ptr 3 0)),(4,(.ptr 4 0))],[],5,[(M6 X Y u ul),(N2 E K L M q0 q1 y yl z zk),(M0 E K L M q0 q1 y yl z zk),L7,M3]⟩
@[reducible] def b7o:Ev.Lit:=⟨[(4,(.ptr 4 0)),(5,(.ptr 5 0))],[],6,[(M6 X Y u ul),(N2 E K L M q0 q1 y yl z zk),M3,(5,(.cells (cI (tI (thA (O2 (U1 X) (cI Y) (X5 (cI M) (cI K) L.length)) L.length (3)) 3)) 82))]⟩
@[reducible] def c02:Ev.AB:=(.cells [(nI0 (Z8 (cI (tI (thA (O2 (U1 X) (cI Y) (X5 (cI M) (cI K) L.length)) L.length 3) 3)) 0)),(nI0 (Z8 (cI (tI (thA (O2 (U1 X) (cI Y) (X5 (cI M) (cI K) L.length)) L.length 3) 3)) (0+1))),(nI0 (Z8 (cI (tI (thA (O2 (U1 X) (cI Y) (X5 (cI M) (cI K) L.length)) L.length 3) 3)) (0+1+1)))] 82)
@[reducible] def b83:List Ev.AV:=[.xl y E.length 1 (X4 E),.xl yl L.length 2 (cR L),(.fn (.func 82) [] [.xp q0 1 1 [.xl z M.length 1 (cI M)] 0,.xp q1 1 1 [.xl zk K.length 1 (cI K)] 0])]
@[reducible] def a5b:Ev.AB:=(.cells (b83 E K L M q0 q1 y yl z zk) 85)
@[reducible] def b8x:Ev.AV:=(.agg (b83 E K L M q0 q1 y yl z zk))
@[reducible] def a4I:Ev.AB:=(.cells [.xl u X.length 1 (U1 X),.xl ul Y.length 1 (cI Y)] 29)
@[reducible] def g4:Nat×Ev.AV:=(7,(nI0 L.length))
end
noncomputable def c92:Code:=N6 Try.f79
noncomputable def c99:Code:=L2 c92
noncomputable def c5w:Code:=L2 c99
noncomputable def c55:Code:=L2 c5w
noncomputable def c1U:Code:=(l5 c5w)
noncomputable def b9p:Code:=L2 c1U
noncomputable def c1w:Code:=G5 b9p
noncomputable def c2i:Code:=L2 c1w
noncomputable def b5u:Code:=L2 c2i
noncomputable def a5B:Code:=L2 b5u
noncomputable def c1I:Code:=a4L (l5 b5u)
noncomputable def c2C:Code:=L2 c1I
noncomputable def b9h:Code:=L2 c2C
noncomputable def O3:Code:=a4L b9h
section
variable (E : List (Value × List (Int × Int))) (K : List Int) (L : List (Int × Int)) (M : List Int) (X : List (Value × List Int)) (Y : List Int) (eb : Nat → Option Nat) (ec : Nat → Nat) (i : Nat) (q0 q1 u ul : Value) (v : BaseW) (y yl z zk : Value)
@[reducible] def c22:=(a1s 16 (fun _:Unit=>((⟨[],[],10,9,[(3,(.ptr 3 0)),(5,(.ptr 5 0)),(6,(.ptr 6 0))],[(M6 X Y u ul),(N2 E K L M q0 q1 y yl z zk),(M0 E K L M q0 q1 y yl z zk),L7,M3,(a6x K L M X Y i),(C4 i),(8,(.defd .true))],.ready,none,25,O0 O3,N9 O3,O1 O3,8⟩:Ev.Lit1)).lit) (fun _:Unit=>True) (bw v 10 eb ec))
end
noncomputable def b8s:Code:=N6 Try.f93
noncomputable def b8m:Code:=L2 b8s
noncomputable def c5c:Code:=G5 b8m
@[reducible] def F0(K:List Int)(L:List (Int×Int))(M:List Int)(X:List (Value×List Int))(Y:List Int):Prop:=(L.length≤8)∧(X.length=3)∧(∀ i,i<3→J2 (U1 X) (i*1)=L.length)∧(Y.length=L.length)∧(M.length=L.length)∧(K.length=L.length)∧(∀ i,i<3→∀ b,b<L.length→0≤Z8 (N5 (U1 X) (i*1)) (b*1)∧Z8 (N5 (U1 X) (i*1)) (b*1)≤100)∧(∀ b,b<L.length→0≤Z8 (cI Y) (b*1)∧Z8 (cI Y) (b*1)≤100)∧(∀ b,b<L.length → -1000≤Z8 (cI M) (b*1) - Z8 (cI K) (b*1)∧Z8 (cI M) (b*1) - Z8 (cI K) (b*1)≤1000)
section
variable {E:List (Value×List (Int×Int))} {K M Y:List Int} {L:List (Int×Int)} {X:List (Value×List Int)} {eb:Nat→Option Nat} {ec:Nat→Nat} {hs:List Nat} {i:Nat} {q0 q1 u ul y yl z zk:Value} {v:BaseW}
theorem c5U(hAs:F0 K L M X Y)(hi1:i≤3)(hi2:True)(hqsd23_1:(Y1 i 3)=true):Y6 zP0q 16 b8m ((⟨[(0,(.yld 9)),(g4 L),a51],[],10,9,[(3,(.ptr 3 0)),(5,(.ptr 5 0)),(6,(.ptr 6 0))],[(M6 X Y u ul),(N2 E K L M q0 q1 y yl z zk),(M0 E K L M q0 q1 y yl z zk),L7,M3,(i6 K L M X Y i),(C4 i),(8,(.defd .true))],.ready,none,25,O0 O3,N9 O3,O1 O3,8⟩:Ev.Lit1).lit) (bw v 10 eb ec) (c22 E K L M X Y eb ec i q0 q1 u ul v y yl z zk):=by
 obtain ⟨hn8,hx3,hxr,hy,hm,hk,hx1,hy1,hm1⟩:=id hAs
 have hcl_L:=Y8 L
 have hcl_Y:=Y5 Y
 have hcl_M:=Y5 M
 have hcl_K:=Y5 K
 have ghqsd23_1:=W7 hqsd23_1
 refine V2 (T':=(⟨[(0,(.yld 9)),(g4 L),a51],[],10,9,[(3,(.ptr 3 0)),(5,(.ptr 5 0)),(6,(.ptr 6 0))],[(M6 X Y u ul),(N2 E K L M q0 q1 y yl z zk),(M0 E K L M q0 q1 y yl z zk),L7,M3,(i6 K L M X Y i),(C4 i),(8,(.defd .true))],.ready,none,25,O0 O3,N9 O3,O1 O3,8⟩:Ev.Lit1).lit) (by kernel_rfl) (by kernel_rfl) (by kernel_rfl) (by kernel_rfl) (a00 (ι:={j:Nat // j≤L.length∧True}) (T:=(fun j:{j:Nat // j≤L.length∧True}=>(⟨[(0,(.yld 9)),(g4 L),(8,(nI0 j.1))],[],10,9,[(3,(.ptr 3 0)),(5,(.ptr 5 0)),(6,(.ptr 6 0))],[(M6 X Y u ul),(N2 E K L M q0 q1 y yl z zk),(M0 E K L M q0 q1 y yl z zk),L7,M3,(5,(.cells (cI (tI (thB (O2 (U1 X) (cI Y) (X5 (cI M) (cI K) L.length)) L.length i j.1) 3)) 82)),(C4 i),(8,(.defd .true))],.ready,none,25,O0 O3,N9 O3,O1 O3,8⟩:Ev.Lit1).lit)) (R:=(fun j:{j:Nat // j≤L.length∧True}=>L.length≤j.1)) (by kernel_rfl) (a1H (show ((⟨[(0,(.yld 9)),(g4 L),a51],[],10,9,[(3,(.ptr 3 0)),(5,(.ptr 5 0)),(6,(.ptr 6 0))],[(M6 X Y u ul),(N2 E K L M q0 q1 y yl z zk),(M0 E K L M q0 q1 y yl z zk),L7,M3,(i6 K L M X Y i),(C4 i),(8,(.defd .true))],.ready,none,25,O0 O3,N9 O3,O1 O3,8⟩:Ev.Lit1).lit:Ev.Lit)=(⟨[(0,(.yld 9)),(g4 L),(8,(nI0 0))],[],10,9,[(3,(.ptr 3 0)),(5,(.ptr 5 0)),(6,(.ptr 6 0))],[(M6 X Y u ul),(N2 E K L M q0 q1 y yl z zk),(M0 E K L M q0 q1 y yl z zk),L7,M3,(5,(.cells (cI (tI (thB (O2 (U1 X) (cI Y) (X5 (cI M) (cI K) L.length)) L.length i 0) 3)) 82)),(C4 i),(8,(.defd .true))],.ready,none,25,O0 O3,N9 O3,O1 O3,8⟩:Ev.Lit1).lit from by (rw [a8c];rfl)) (B3 (by kernel_rfl) (fun j:{j:Nat // j≤L.length∧True}=>(⟨[(0,(.yld 9)),(g4 L),(8,(nI0 j.1))],[],10,9,[(3,(.ptr 3 0)),(5,(.ptr 5 0)),(6,(.ptr 6 0))],[(M6 X Y u ul),(N2 E K L M q0 q1 y yl z zk),(M0 E K L M q0 q1 y yl z zk),L7,M3,(5,(.cells (cI (tI (thB (O2 (U1 X) (cI Y) (X5 (cI M) (cI K) L.length)) L.length i j.1) 3)) 82)),(C4 i),(8,(.defd .true))],.ready,none,25,O0 O3,N9 O3,O1 O3,8⟩:Ev.Lit1).lit) (fun j:{j:Nat // j≤L.length∧True}=>L.length - j.1) (fun i=>?_) ⟨0,Nat.zero_le _,trivial⟩)) (fun ixR hxR=>(fun (j0r:Nat) (h0ra:j0r≤L.length) (h0rb:True) (h0rc:L.length≤j0r)=>⟨(),show True from trivial,(by obtain ⟨i9,q1,q2⟩:=ixR;have h9:L.length≤i9:=hxR;have e:i9=L.length:=(by omega);subst e;exact B0 (by kernel_rfl) (by kernel_rfl) (by kernel_rfl) (by kernel_rfl))⟩) ixR.1 ixR.2.1 ixR.2.2 hxR))
 obtain ⟨j,hi1,hi2⟩:=i
 show Y6 zP0q 16 c5c ((⟨[(0,(.yld 9)),(g4 L),(8,(nI0 j))],[],10,9,[(3,(.ptr 3 0)),(5,(.ptr 5 0)),(6,(.ptr 6 0))],[(M6 X Y u ul),(N2 E K L M q0 q1 y yl z zk),(M0 E K L M q0 q1 y yl z zk),L7,M3,(5,(.cells (cI (tI (thB (O2 (U1 X) (cI Y) (X5 (cI M) (cI K) L.length)) L.length i j) 3)) 82)),(C4 i),(8,(.defd .true))],.ready,none,25,O0 O3,N9 O3,O1 O3,8⟩:Ev.Lit1).lit) (bw v 10 eb ec) (a0r _ _ _ _ _ _ _ _)
 rcases zB0q (Y1 j L.length) with hl0_1|hl0_1
 ·have ghl0_1:=W7 hl0_1
  refine Ev.step_on ⟨j+1,by omega,trivial⟩ (by show L.length - (j+1)<L.length - j;omega) ?_
  show Y6 _ _ _ _ _ (K0 _ isN ((⟨[(0,(.yld 9)),(g4 L),(8,(nI0 (((j+1):Nat):Int)))],[],10,9,[(3,(.ptr 3 0)),(5,(.ptr 5 0)),(6,(.ptr 6 0))],[(M6 X Y u ul),(N2 E K L M q0 q1 y yl z zk),(M0 E K L M q0 q1 y yl z zk),L7,M3,(5,(.cells (cI (tI (thB (O2 (U1 X) (cI Y) (X5 (cI M) (cI K) L.length)) L.length i (j+1)) 3)) 82)),(C4 i),(8,(.defd .true))],.ready,none,25,O0 O3,N9 O3,O1 O3,8⟩:Ev.Lit1).lit) _)
  rw [show ((cI (tI (thB (O2 (U1 X) (cI Y) (X5 (cI M) (cI K) L.length)) L.length i (j+1)) 3)):List AV)=(S3 (cI (tI (thB (O2 (U1 X) (cI Y) (X5 (cI M) (cI K) L.length)) L.length i j) 3)) (0+i*1) [(nI0 (Z8 (cI (tI (thB (O2 (U1 X) (cI Y) (X5 (cI M) (cI K) L.length)) L.length i j) 3)) (0+i*1)+O2 (U1 X) (cI Y) (X5 (cI M) (cI K) L.length) i j))]) from by (refine (b1b (i:=i) (j:=j) (by omega) ?_).symm;rw [a9a (i:=i) (by omega)])]
  exact I6 zC0q (E8) 200 (T':=(⟨[(0,(.yld 9)),(g4 L),(8,(nI0 (((j+1):Nat):Int)))],[],10,9,[(3,(.ptr 3 0)),(5,(.ptr 5 0)),(6,(.ptr 6 0))],[(M6 X Y u ul),(N2 E K L M q0 q1 y yl z zk),(M0 E K L M q0 q1 y yl z zk),L7,M3,(5,(.cells (S3 (cI (tI (thB (O2 (U1 X) (cI Y) (X5 (cI M) (cI K) L.length)) L.length i j) 3)) (0+i*1) [(nI0 (Z8 (cI (tI (thB (O2 (U1 X) (cI Y) (X5 (cI M) (cI K) L.length)) L.length i j) 3)) (0+i*1)+O2 (U1 X) (cI Y) (X5 (cI M) (cI K) L.length) i j))]) 82)),(C4 i),(8,(.defd .true))],.ready,none,25,O0 O3,N9 O3,O1 O3,8⟩:Ev.Lit1)) (e:=.normal) (ps:=[Y1 j L.length=true,i<3,W6 zP0q (cI (tI (thB (O2 (U1 X) (cI Y) (X5 (cI M) (cI K) L.length)) L.length i j) 3)) (0+i*1) 2=some (AV.v (Value.int IntKind.i64 (Z8 (cI (tI (thB (O2 (U1 X) (cI Y) (X5 (cI M) (cI K) L.length)) L.length i j) 3)) (0+i*1)))),a5R 29,a5n 85,T8 1 (X4 E) E.length,W8 2 L.length (cR L),c0k 1 X.length 1 Y.length 1 M.length 1 K.length (U1 X) (cI Y) (cI M) (cI K) L.length,a5r 1 1 0,a5r 1 1 0,(0:Int)≤((i:Nat):Int)∧((i:Nat):Int)<3,(0:Int)≤((j:Nat):Int)∧j<L.length,L3 IntKind.i64 (Z8 (cI (tI (thB (O2 (U1 X) (cI Y) (X5 (cI M) (cI K) L.length)) L.length i j) 3)) (0+i*1)+O2 (U1 X) (cI Y) (X5 (cI M) (cI K) L.length) i j),i<3,0+i*1+([(nI0 (Z8 (cI (tI (thB (O2 (U1 X) (cI Y) (X5 (cI M) (cI K) L.length)) L.length i j) 3)) (0+i*1)+O2 (U1 X) (cI Y) (X5 (cI M) (cI K) L.length) i j))]:List AV).length≤((cI (tI (thB (O2 (U1 X) (cI Y) (X5 (cI M) (cI K) L.length)) L.length i j) 3)):List AV).length,(!true)=false,L3 IntKind.i64 (((j:Nat):Int)+1)]) ([.go,.b true]++gH 6 ([.sym,.sym]++gH 4 [.sym,.sym,.go,.b false,.go,.go])) (by kernel_rfl) (by kernel_rfl) ⟨hl0_1,(by omega),(R1 (by rw [Y0];omega) 2 (Try.underlying2) rfl),rfl,rfl,⟨rfl,E,rfl,rfl⟩,⟨rfl,L,rfl,rfl⟩,⟨X,Y,M,K,⟨rfl,rfl,rfl⟩,⟨rfl,rfl,rfl⟩,⟨rfl,rfl,rfl⟩,⟨rfl,rfl,rfl⟩,hx3,hxr,hy,hm,hk,hx1,hy1,hm1⟩,⟨rfl,rfl,rfl⟩,⟨rfl,rfl,rfl⟩,(by omega),(by omega),(by rw [a9a (by omega)];have h9:=b3i (p:=O2 (U1 X) (cI Y) (X5 (cI M) (cI K) L.length) i) (m:=10000000) (n:=j) (fun b hb=>by rw [b9x (by omega)];exact (e7 (hx1 i (by omega) b (by omega)) (hy1 b (by omega)) (hm1 b (by omega))).2);have h8 : -10000000≤O2 (U1 X) (cI Y) (X5 (cI M) (cI K) L.length) i j∧O2 (U1 X) (cI Y) (X5 (cI M) (cI K) L.length) i j≤10000000:=(by rw [b9x (by omega)];exact (e7 (hx1 i (by omega) j (by omega)) (hy1 j (by omega)) (hm1 j (by omega))).2);show -9223372036854775808≤_∧_≤9223372036854775807;constructor<;>omega),(by omega),(by show 0+i*1+1≤_;rw [Y5,Y0];omega),rfl,(by show -9223372036854775808≤_∧_≤9223372036854775807;constructor<;>omega),trivial⟩ rfl
 ·have ghl0_1:=Z4 hl0_1
  exact Ev.step_out (by show L.length≤j;omega) (I6 zC0q (E8) 200 (T':=(⟨[(0,(.yld 9)),(g4 L),(8,(nI0 j))],[],10,9,[(3,(.ptr 3 0)),(5,(.ptr 5 0)),(6,(.ptr 6 0))],[(M6 X Y u ul),(N2 E K L M q0 q1 y yl z zk),(M0 E K L M q0 q1 y yl z zk),L7,M3,(5,(.cells (cI (tI (thB (O2 (U1 X) (cI Y) (X5 (cI M) (cI K) L.length)) L.length i j) 3)) 82)),(C4 i),(8,(.defd .true))],.ready,none,25,O0 O3,N9 O3,O1 O3,8⟩:Ev.Lit1)) (e:=.exit 0) (ps:=[Y1 j L.length=false]) [.go,.b false] (by kernel_rfl) (by kernel_rfl) ⟨hl0_1,trivial⟩ rfl)
theorem c4T(hAs:F0 K L M X Y)(hi1:i≤3)(hi2:True)(hqsd23_1:(Y1 i 3)=true):Y6 zP0q 16 b8s ((⟨[(0,(.yld 9)),(1,(.ptr 7 0))],[],10,9,[(3,(.ptr 3 0)),(5,(.ptr 5 0)),(6,(.ptr 6 0))],[(M6 X Y u ul),(N2 E K L M q0 q1 y yl z zk),(M0 E K L M q0 q1 y yl z zk),L7,M3,(i6 K L M X Y i),(C4 i),(b3I E K L M q0 q1 y yl z zk),(8,(.defd .true))],.ready,none,25,O0 O3,N9 O3,O1 O3,8⟩:Ev.Lit1).lit) (bw v 10 eb ec) (c22 E K L M X Y eb ec i q0 q1 u ul v y yl z zk):=by
 exact P5 (T':=(⟨[(0,(.yld 9)),(g4 L),a51],[],10,9,[(3,(.ptr 3 0)),(5,(.ptr 5 0)),(6,(.ptr 6 0))],[(M6 X Y u ul),(N2 E K L M q0 q1 y yl z zk),(M0 E K L M q0 q1 y yl z zk),L7,M3,(i6 K L M X Y i),(C4 i),(8,(.defd .true))],.ready,none,25,O0 O3,N9 O3,O1 O3,8⟩:Ev.Lit1).lit) (by kernel_rfl) (I6 zC0q (E8) 200 (T':=(⟨[(0,(.yld 9)),(g4 L),a51],[],10,9,[(3,(.ptr 3 0)),(5,(.ptr 5 0)),(6,(.ptr 6 0))],[(M6 X Y u ul),(N2 E K L M q0 q1 y yl z zk),(M0 E K L M q0 q1 y yl z zk),L7,M3,(i6 K L M X Y i),(C4 i),(8,(.defd .true))],.ready,none,25,O0 O3,N9 O3,O1 O3,8⟩:Ev.Lit1)) (e:=.normal) (ps:=[]) (gH 5 []) (by kernel_rfl) (by kernel_rfl) trivial rfl) (c5U hAs hi1 hi2 hqsd23_1)
@[reducible] def a0j(E:List (Value×List (Int×Int)))(K:List Int)(L:List (Int×Int))(M:List Int)(X:List (Value×List Int))(Y:List Int)(eb:Nat→Option Nat)(ec:Nat→Nat)(q0 q1 u ul:Value)(v:BaseW)(y yl z zk:Value):=Hd.StepC zP0q 25 0 (fun i:{i:Nat // i≤3∧True}=>⟨[(2,(.ptr 2 0)),(3,(.ptr 3 0)),(4,(.ptr 4 0)),(5,(.ptr 5 0)),(8,(nI0 i.1))],[],6,[(M6 X Y u ul),(N2 E K L M q0 q1 y yl z zk),(M0 E K L M q0 q1 y yl z zk),L7,M3,(5,(.cells (cI (tI (thA (O2 (U1 X) (cI Y) (X5 (cI M) (cI K) L.length)) L.length i.1) 3)) 82))]⟩) (fun i:{i:Nat // i≤3∧True}=>3 - i.1) c55 (bw v 2 eb ec) (D3 zP0q Try.f79 25 ((.agg [nI0 (S2 (O2 (U1 X) (cI Y) (X5 (cI M) (cI K) L.length) 0) L.length),nI0 (S2 (O2 (U1 X) (cI Y) (X5 (cI M) (cI K) L.length) 1) L.length),nI0 (S2 (O2 (U1 X) (cI Y) (X5 (cI M) (cI K) L.length) 2) L.length)])) [(a4I X Y u ul),(a5b E K L M q0 q1 y yl z zk)] (bw v 2 eb ec))
@[reducible] def a9C(E:List (Value×List (Int×Int)))(K:List Int)(L:List (Int×Int))(M:List Int)(X:List (Value×List Int))(Y:List Int)(eb:Nat→Option Nat)(ec:Nat→Nat)(q0 q1 u ul:Value)(v:BaseW)(y yl z zk:Value):=(D3 zP0q Try.f79 25 ((.agg [nI0 (S2 (O2 (U1 X) (cI Y) (X5 (cI M) (cI K) L.length) 0) L.length),nI0 (S2 (O2 (U1 X) (cI Y) (X5 (cI M) (cI K) L.length) 1) L.length),nI0 (S2 (O2 (U1 X) (cI Y) (X5 (cI M) (cI K) L.length) 2) L.length)])) [(a4I X Y u ul),(a5b E K L M q0 q1 y yl z zk)] (bw v 2 eb ec))
theorem c6N(hAs:F0 K L M X Y)(hi1:i≤3)(hi2:True)(hqsd23_1:(Y1 i 3)=true):Y6 zP0q 25 a5B ((c20 E K L M X Y i q0 q1 u ul y yl z zk)) (BaseW.H (bw v 2 eb ec) hs) (a0j E K L M X Y eb ec q0 q1 u ul v y yl z zk (⟨i,hi1,hi2⟩:{i:Nat // i≤3∧True})):=by
 obtain ⟨hn8,hx3,hxr,hy,hm,hk,hx1,hy1,hm1⟩:=id hAs
 have hcl_L:=Y8 L
 have hcl_Y:=Y5 Y
 have hcl_M:=Y5 M
 have hcl_K:=Y5 K
 have ghqsd23_1:=W7 hqsd23_1
 exact Z6 W3 (a1y zC0q (E8) 200 (T':=(c2c E K L M X Y i q0 q1 u ul y yl z zk)) (e:=.normal) (m:=8) (ps:=[L3 IntKind.i64 (((i:Nat):Int)+1)]) [.go,.go] (by kernel_rfl) (by kernel_rfl) ⟨(by show -9223372036854775808≤_∧_≤9223372036854775807;constructor<;>omega),trivial⟩ rfl (by show 6≤8;decide) ⟨⟨s4 (by show 2<6;decide),s4 (by show 3<6;decide),s4 (by show 4<6;decide),s4 (by show 5<6;decide),a2K _,trivial⟩,⟨⟨by show 0<6;decide,I0 (S5 (x5 (X6 (I2 _))) (S5 (a1L (Z5 Y)) (fun _ hz=>absurd hz List.not_mem_nil)))⟩,⟨by show 1<6;decide,I0 (S5 (x5 (X6 (Y2 _))) (S5 (a1L (Y7 L)) (S5 (a8u (fun _ hz=>absurd hz List.not_mem_nil) (S5 (x5 (L5 (X6 (Y3 (Z5 _))))) (S5 (x5 (L5 (X6 (Y3 (Z5 _))))) (fun _ hz=>absurd hz List.not_mem_nil)))) (fun _ hz=>absurd hz List.not_mem_nil))))⟩,⟨by show 2<6;decide,I0 (S5 (x5 (X6 (Y2 _))) (S5 (a1L (Y7 L)) (S5 (a8u (fun _ hz=>absurd hz List.not_mem_nil) (S5 (x5 (L5 (X6 (Y3 (Z5 _))))) (S5 (x5 (L5 (X6 (Y3 (Z5 _))))) (fun _ hz=>absurd hz List.not_mem_nil)))) (fun _ hz=>absurd hz List.not_mem_nil))))⟩,⟨by show 3<6;decide,I0 (S5 (a8u (fun _ hz=>absurd hz List.not_mem_nil) (S5 (s4 (by show 0<6;decide)) (S5 (s4 (by show 1<6;decide)) (fun _ hz=>absurd hz List.not_mem_nil)))) (fun _ hz=>absurd hz List.not_mem_nil))⟩,⟨by show 4<6;decide,I0 (S5 (a2K _) (S5 (a2K _) (S5 (a2K _) (fun _ hz=>absurd hz List.not_mem_nil))))⟩,⟨by show 5<6;decide,a8H (Z5 _)⟩,trivial⟩,rfl⟩ (by show 2≤6;decide)) (Hd.en_on (⟨i+1,by omega,trivial⟩) (by show 3 - (i+1)<3 - i;omega) (show ((c2c E K L M X Y i q0 q1 u ul y yl z zk):Ev.Lit)=⟨[(2,(.ptr 2 0)),(3,(.ptr 3 0)),(4,(.ptr 4 0)),(5,(.ptr 5 0)),(8,(nI0 (((i+1):Nat):Int)))],[],6,[(M6 X Y u ul),(N2 E K L M q0 q1 y yl z zk),(M0 E K L M q0 q1 y yl z zk),L7,M3,(5,(.cells (cI (tI (thA (O2 (U1 X) (cI Y) (X5 (cI M) (cI K) L.length)) L.length (i+1)) 3)) 82))]⟩ from by have hz_:=congrArg (fun (xq0:Ev.AB)=>(⟨[(2,(.ptr 2 0)),(3,(.ptr 3 0)),(4,(.ptr 4 0)),(5,(.ptr 5 0)),(8,(nI0 (((i+1):Nat):Int)))],[],6,[(M6 X Y u ul),(N2 E K L M q0 q1 y yl z zk),(M0 E K L M q0 q1 y yl z zk),L7,M3,(5,xq0)]⟩:Ev.Lit)) (congrArg (fun z=>Ev.AB.cells z 82) (show ((cI (tI (thB (O2 (U1 X) (cI Y) (X5 (cI M) (cI K) L.length)) L.length i L.length) 3)):List Ev.AV)=(cI (tI (thA (O2 (U1 X) (cI Y) (X5 (cI M) (cI K) L.length)) L.length (i+1)) 3)) from by rw [b4J]));exact hz_))
theorem c71(hAs:F0 K L M X Y)(hi1:i≤3)(hi2:True)(hqsd23_1:(Y1 i 3)=true):Y6 zP0q 25 O3 ((a8n E K L M X Y i q0 q1 u ul y yl z zk)) (BaseW.H (bw v 2 eb ec) hs) (a4H 2 (Hd.AfterB zP0q 25 1 a5B (bw v 2 eb ec) (a0j E K L M X Y eb ec q0 q1 u ul v y yl z zk (⟨i,hi1,hi2⟩:{i:Nat // i≤3∧True})))):=by
 refine V2 (T':=(a8n E K L M X Y i q0 q1 u ul y yl z zk)) (by kernel_rfl) (by kernel_rfl) (by kernel_rfl) (by kernel_rfl) ?_
 exact m9 (T1:=(⟨[(0,(.yld 9)),(1,(.ptr 7 0))],[],10,9,[(3,(.ptr 3 0)),(5,(.ptr 5 0)),(6,(.ptr 6 0))],[(M6 X Y u ul),(N2 E K L M q0 q1 y yl z zk),(M0 E K L M q0 q1 y yl z zk),L7,M3,(i6 K L M X Y i),(C4 i),(b3I E K L M q0 q1 y yl z zk),(8,(.defd .true))],.ready,none,25,O0 O3,N9 O3,O1 O3,8⟩:Ev.Lit1)) (T2:=(fun _:Unit=>(⟨[],[],10,9,[(3,(.ptr 3 0)),(5,(.ptr 5 0)),(6,(.ptr 6 0))],[(M6 X Y u ul),(N2 E K L M q0 q1 y yl z zk),(M0 E K L M q0 q1 y yl z zk),L7,M3,(a6x K L M X Y i),(C4 i),(8,(.defd .true))],.ready,none,25,O0 O3,N9 O3,O1 O3,8⟩:Ev.Lit1))) (T3:=fun _:Unit=>(c1Y E K L M X Y i q0 q1 u ul y yl z zk)) (R:=(fun _:Unit=>True)) (k:=93) (l:=9) (szk:=16) (K:=10) (e:=fun _=>.normal) rfl (by kernel_rfl) Try.func93 (by kernel_rfl) (by kernel_rfl) (by kernel_rfl) (by kernel_rfl) (by kernel_rfl) (fun _ _=>rfl) (fun v eb ec=>c4T hAs hi1 hi2 hqsd23_1) (fun _ _=>by kernel_rfl) (fun _ _=>a44 (T:=(c1Y E K L M X Y i q0 q1 u ul y yl z zk)) (T':=(c20 E K L M X Y i q0 q1 u ul y yl z zk)) (m:=8) [0,1,2,3,4,5,6,7] [(.ptr 2 0),(.ptr 3 0),(.ptr 4 0),(.ptr 5 0),(nI0 i)] [(a9D X Y u ul),(a2Y E K L M q0 q1 y yl z zk),(a2Y E K L M q0 q1 y yl z zk),b7T,b2a,(b8P K L M X Y i)] rfl (by kernel_rfl) rfl rfl (by decide) (by kernel_rfl) (by kernel_rfl) ⟨X8 rfl,X8 rfl,X8 rfl,X8 rfl,W0 _,trivial⟩ ⟨⟨by show 0<8;decide,Z0 (Z9 (V4 (X6 (I2 _))) (Z9 (V7 (Z7 (Z5 Y))) (Z3)))⟩,⟨by show 1<8;decide,Z0 (Z9 (V4 (X6 (Y2 _))) (Z9 (V7 (Z7 (Y7 L))) (Z9 (z6 (Z3) (Z9 (V4 (L5 (X6 (Y3 (Z5 _))))) (Z9 (V4 (L5 (X6 (Y3 (Z5 _))))) (Z3)))) (Z3))))⟩,⟨by show 2<8;decide,Z0 (Z9 (V4 (X6 (Y2 _))) (Z9 (V7 (Z7 (Y7 L))) (Z9 (z6 (Z3) (Z9 (V4 (L5 (X6 (Y3 (Z5 _))))) (Z9 (V4 (L5 (X6 (Y3 (Z5 _))))) (Z3)))) (Z3))))⟩,⟨by show 3<8;decide,Z0 (Z9 (z6 (Z3) (Z9 (X8 rfl) (Z9 (X8 rfl) (Z3)))) (Z3))⟩,⟨by show 4<8;decide,Z0 (Z9 (W0 _) (Z9 (W0 _) (Z9 (W0 _) (Z3))))⟩,⟨by show 5<8;decide,Z0 (Z7 (Z5 _))⟩,trivial⟩ ⟨(by show 0≠8;decide),(by show 1≠8;decide),(by show 2≠8;decide),(by show 3≠8;decide),(by show 4≠8;decide),(by show 5≠8;decide),trivial⟩ (by show 2≤8;decide) (fun b hb=>(by have hb2:b<2:=hb;match b,hb2 with|0,_=>rfl|1,_=>rfl)) (fun hs=>c1R (Hd.en_bn (c6N hAs hi1 hi2 hqsd23_1))))
theorem c72(hAs:F0 K L M X Y)(hi1:i≤3)(hi2:True)(hqsd23_1:(Y1 i 3)=true):Y6 zP0q 25 O3 ((a8n E K L M X Y i q0 q1 u ul y yl z zk)) (BaseW.H (bw v 2 eb ec) hs) (a4H 2 (Hd.AfterB zP0q 25 1 a5B (bw v 2 eb ec) (a0j E K L M X Y eb ec q0 q1 u ul v y yl z zk (⟨i,hi1,hi2⟩:{i:Nat // i≤3∧True})))):=by
 exact c71 hAs hi1 hi2 hqsd23_1
theorem c66(hAs:F0 K L M X Y)(hi1:i≤3)(hi2:True)(hqsd23_1:(Y1 i 3)=true):Y6 zP0q 25 b9h ((a8n E K L M X Y i q0 q1 u ul y yl z zk)) (BaseW.H (bw v 2 eb ec) hs) (Hd.AfterB zP0q 25 1 a5B (bw v 2 eb ec) (a0j E K L M X Y eb ec q0 q1 u ul v y yl z zk (⟨i,hi1,hi2⟩:{i:Nat // i≤3∧True}))):=by
 exact a8h (id:=2) (by kernel_rfl) (by kernel_rfl) (c72 hAs hi1 hi2 hqsd23_1)
theorem c9F(hAs:F0 K L M X Y)(hi1:i≤3)(hi2:True)(hqsd23_1:(Y1 i 3)=true):Y6 zP0q 25 b9h ((a8n E K L M X Y i q0 q1 u ul y yl z zk)) (BaseW.H (bw v 2 eb ec) hs) (Hd.AfterB zP0q 25 1 a5B (bw v 2 eb ec) (a0j E K L M X Y eb ec q0 q1 u ul v y yl z zk (⟨i,hi1,hi2⟩:{i:Nat // i≤3∧True}))):=by
 exact c66 hAs hi1 hi2 hqsd23_1
theorem c79(hAs:F0 K L M X Y)(hi1:i≤3)(hi2:True)(hqsd23_1:(Y1 i 3)=true):Y6 zP0q 25 c2C ((c1u E K L M X Y i q0 q1 u ul y yl z zk)) (BaseW.H (bw v 2 eb ec) hs) (Hd.AfterB zP0q 25 1 a5B (bw v 2 eb ec) (a0j E K L M X Y eb ec q0 q1 u ul v y yl z zk (⟨i,hi1,hi2⟩:{i:Nat // i≤3∧True}))):=by
 refine Hd.goes_seqA (by kernel_rfl) ?_
 exact Z6 W3 (Z2 zC0q (E8) 200 (T':=(a8n E K L M X Y i q0 q1 u ul y yl z zk)) (e:=.normal) (ps:=[]) (gH 5 []) (by kernel_rfl) (by kernel_rfl) trivial rfl) (Hd.en_n (c9F hAs hi1 hi2 hqsd23_1))
theorem c7Z(hAs:F0 K L M X Y)(hi1:i≤3)(hi2:True)(hqsd23_1:(Y1 i 3)=true):Y6 zP0q 25 c1I ((b4D E K L M X Y i q0 q1 u ul y yl z zk)) (BaseW.H (bw v 2 eb ec) hs) (Hd.AfterB zP0q 25 1 a5B (bw v 2 eb ec) (a0j E K L M X Y eb ec q0 q1 u ul v y yl z zk (⟨i,hi1,hi2⟩:{i:Nat // i≤3∧True}))):=by
 refine Hd.goes_seqA (by kernel_rfl) ?_
 exact Z6 W3 (Z2 zC0q (E8) 200 (T':=(c1u E K L M X Y i q0 q1 u ul y yl z zk)) (e:=.normal) (ps:=[]) [.go,.go,.go] (by kernel_rfl) (by kernel_rfl) trivial rfl) (Hd.en_n (c79 hAs hi1 hi2 hqsd23_1))
theorem c6q(hAs:F0 K L M X Y)(hi1:i≤3)(hi2:True)(hqsd23_1:(Y1 i 3)=true):Y6 zP0q 25 (l5 b5u) ((b4D E K L M X Y i q0 q1 u ul y yl z zk)) (BaseW.H (bw v 2 eb ec) hs) (Hd.AfterN zP0q 25 a5B (bw v 2 eb ec) (a0j E K L M X Y eb ec q0 q1 u ul v y yl z zk (⟨i,hi1,hi2⟩:{i:Nat // i≤3∧True}))):=by
 exact Hd.goes_blkA (id:=1) (by kernel_rfl) (by kernel_rfl) (c7Z hAs hi1 hi2 hqsd23_1)
theorem c7K(hAs:F0 K L M X Y)(hi1:i≤3)(hi2:True)(hqsd23_1:(Y1 i 3)=true):Y6 zP0q 25 b5u ((b4D E K L M X Y i q0 q1 u ul y yl z zk)) (BaseW.H (bw v 2 eb ec) hs) (a0j E K L M X Y eb ec q0 q1 u ul v y yl z zk (⟨i,hi1,hi2⟩:{i:Nat // i≤3∧True})):=by
 exact Hd.goes_seqA (by kernel_rfl) (c6q hAs hi1 hi2 hqsd23_1)
theorem c70(hAs:F0 K L M X Y)(h0b:True)(hqsd23_1:(Y1 3 3)=false):Y6 zP0q 25 c55 ((b7o E K L M X Y q0 q1 u ul y yl z zk)) (BaseW.H (bw v 2 eb ec) hs) (a9C E K L M X Y eb ec q0 q1 u ul v y yl z zk):=by
 exact Z6 U0 (U8 zC0q (E8) 200 (T':=⟨[(4,(.ptr 2 0))],[],3,[(M6 X Y u ul),(N2 E K L M q0 q1 y yl z zk),(2,(c02 K L M X Y))]⟩) (e:=.ret) (m:=6) (ps:=[W6 zP0q (cI (tI (thA (O2 (U1 X) (cI Y) (X5 (cI M) (cI K) L.length)) L.length 3) 3)) 0 82=some (AV.agg [AV.v (Value.int IntKind.i64 (Z8 (cI (tI (thA (O2 (U1 X) (cI Y) (X5 (cI M) (cI K) L.length)) L.length 3) 3)) 0)),AV.v (Value.int IntKind.i64 (Z8 (cI (tI (thA (O2 (U1 X) (cI Y) (X5 (cI M) (cI K) L.length)) L.length 3) 3)) (0+1))),AV.v (Value.int IntKind.i64 (Z8 (cI (tI (thA (O2 (U1 X) (cI Y) (X5 (cI M) (cI K) L.length)) L.length 3) 3)) (0+1+1)))])]) [.sym,.go] [0,1,4] [(.ptr 4 0)] [(a9D X Y u ul),(a2Y E K L M q0 q1 y yl z zk),(c02 K L M X Y)] (by kernel_rfl) (by kernel_rfl) ⟨(by rw [a6g];kernel_rfl),trivial⟩ rfl rfl (by decide) rfl ⟨X8 rfl,trivial⟩ ⟨⟨by show 0<3;decide,Z0 (Z9 (V4 (X6 (I2 _))) (Z9 (V7 (Z7 (Z5 Y))) (Z3)))⟩,⟨by show 1<3;decide,Z0 (Z9 (V4 (X6 (Y2 _))) (Z9 (V7 (Z7 (Y7 L))) (Z9 (z6 (Z3) (Z9 (V4 (L5 (X6 (Y3 (Z5 _))))) (Z9 (V4 (L5 (X6 (Y3 (Z5 _))))) (Z3)))) (Z3))))⟩,⟨by show 2<3;decide,Z0 (Z9 (W0 _) (Z9 (W0 _) (Z9 (W0 _) (Z3))))⟩,trivial⟩ (by show 2≤3;decide) (fun b hb=>(by have hb2:b<2:=hb;match b,hb2 with|0,_=>rfl|1,_=>rfl))) (o3 (r:=(.agg [(nI0 (Z8 (cI (tI (thA (O2 (U1 X) (cI Y) (X5 (cI M) (cI K) L.length)) L.length 3) 3)) 0)),(nI0 (Z8 (cI (tI (thA (O2 (U1 X) (cI Y) (X5 (cI M) (cI K) L.length)) L.length 3) 3)) (0+1))),(nI0 (Z8 (cI (tI (thA (O2 (U1 X) (cI Y) (X5 (cI M) (cI K) L.length)) L.length 3) 3)) (0+1+1)))])) (ys:=[(a9D X Y u ul),(a2Y E K L M q0 q1 y yl z zk)]) (by (rw [a6g];rfl)) (by rfl) (A4 (by kernel_rfl) (by kernel_rfl) rfl (.inr rfl)))
theorem c8e(hAs:F0 K L M X Y)(hi1:i≤3)(hi2:True):Y6 zP0q 25 c2i ((c1H E K L M X Y i q0 q1 u ul y yl z zk)) (BaseW.H (bw v 2 eb ec) hs) (a0j E K L M X Y eb ec q0 q1 u ul v y yl z zk (⟨i,hi1,hi2⟩:{i:Nat // i≤3∧True})):=by
 obtain ⟨hn8,hx3,hxr,hy,hm,hk,hx1,hy1,hm1⟩:=id hAs
 have hcl_L:=Y8 L
 have hcl_Y:=Y5 Y
 have hcl_M:=Y5 M
 have hcl_K:=Y5 K
 refine Hd.goes_seqA (by kernel_rfl) ?_
 rcases zB0q (Y1 i 3) with hqsd23_1|hqsd23_1
 ·exact Z6 W3 (Z2 zC0q (E8) 200 (T':=(b4D E K L M X Y i q0 q1 u ul y yl z zk)) (e:=.normal) (ps:=[Y1 i 3=true]) [.b true] (by kernel_rfl) (by kernel_rfl) ⟨hqsd23_1,trivial⟩ rfl) (Hd.en_n (c7K hAs hi1 hi2 hqsd23_1))
 ·have ghqsd23_1:=Z4 hqsd23_1
  obtain rfl:3=i:=by omega
  exact Z6 z5 (Z2 zC0q (E8) 200 (T':=(b7o E K L M X Y q0 q1 u ul y yl z zk)) (e:=.exit 0) (ps:=[Y1 3 3=false]) [.b false] (by kernel_rfl) (by kernel_rfl) ⟨hqsd23_1,trivial⟩ rfl) (Hd.en_o (by intro h;cases h) (Hd.en_sx (c70 hAs hi2 hqsd23_1)))
theorem c7U(hAs:F0 K L M X Y)(hi1:i≤3)(hi2:True):Y6 zP0q 25 c1w (⟨[(2,(.ptr 2 0)),(3,(.ptr 3 0)),(4,(.ptr 4 0)),(5,(.ptr 5 0)),(8,(nI0 i))],[],6,[(M6 X Y u ul),(N2 E K L M q0 q1 y yl z zk),(M0 E K L M q0 q1 y yl z zk),L7,M3,(i6 K L M X Y i)]⟩) (BaseW.H (bw v 2 eb ec) hs) (a0j E K L M X Y eb ec q0 q1 u ul v y yl z zk (⟨i,hi1,hi2⟩:{i:Nat // i≤3∧True})):=by
 refine Hd.goes_seqA (by kernel_rfl) ?_
 exact Z6 W3 (Z2 zC0q (E8) 200 (T':=(c1H E K L M X Y i q0 q1 u ul y yl z zk)) (e:=.normal) (ps:=[]) [.go] (by kernel_rfl) (by kernel_rfl) trivial rfl) (Hd.en_n (c8e hAs hi1 hi2))
@[reducible] def b3f(E:List (Value×List (Int×Int)))(K:List Int)(L:List (Int×Int))(M:List Int)(X:List (Value×List Int))(Y:List Int)(eb:Nat→Option Nat)(ec:Nat→Nat)(q0 q1 u ul:Value)(v:BaseW)(y yl z zk:Value):=(Hd.AfterN zP0q 25 c55 (bw v 2 eb ec) (D3 zP0q Try.f79 25 ((.agg [nI0 (S2 (O2 (U1 X) (cI Y) (X5 (cI M) (cI K) L.length) 0) L.length),nI0 (S2 (O2 (U1 X) (cI Y) (X5 (cI M) (cI K) L.length) 1) L.length),nI0 (S2 (O2 (U1 X) (cI Y) (X5 (cI M) (cI K) L.length) 2) L.length)])) [(a4I X Y u ul),(a5b E K L M q0 q1 y yl z zk)] (bw v 2 eb ec)))
theorem c77(hAs:F0 K L M X Y):Y6 zP0q 25 b9p ((b4A E K L M X Y q0 q1 u ul y yl z zk)) (BaseW.H (bw v 2 eb ec) hs) (b3f E K L M X Y eb ec q0 q1 u ul v y yl z zk):=by
 rw [show ((b4A E K L M X Y q0 q1 u ul y yl z zk):Ev.Lit)=⟨[(2,(.ptr 2 0)),(3,(.ptr 3 0)),(4,(.ptr 4 0)),(5,(.ptr 5 0)),(8,(nI0 0))],[],6,[(M6 X Y u ul),(N2 E K L M q0 q1 y yl z zk),(M0 E K L M q0 q1 y yl z zk),L7,M3,(5,(.cells (cI (tI (thA (O2 (U1 X) (cI Y) (X5 (cI M) (cI K) L.length)) L.length 0) 3)) 82))]⟩ from by (rw [b1o];rfl)]
 exact Hd.goes_loopA (id:=0) (by kernel_rfl) (by kernel_rfl) (fun i:{i:Nat // i≤3∧True}=>⟨[(2,(.ptr 2 0)),(3,(.ptr 3 0)),(4,(.ptr 4 0)),(5,(.ptr 5 0)),(8,(nI0 i.1))],[],6,[(M6 X Y u ul),(N2 E K L M q0 q1 y yl z zk),(M0 E K L M q0 q1 y yl z zk),L7,M3,(5,(.cells (cI (tI (thA (O2 (U1 X) (cI Y) (X5 (cI M) (cI K) L.length)) L.length i.1) 3)) 82))]⟩) (fun i:{i:Nat // i≤3∧True}=>3 - i.1) (fun ix_ hs=>c7U hAs ix_.2.1 ix_.2.2) ⟨0,Nat.zero_le _,trivial⟩ hs
theorem c8M(hAs:F0 K L M X Y):Y6 zP0q 25 b9p ((b4A E K L M X Y q0 q1 u ul y yl z zk)) (BaseW.H (bw v 2 eb ec) hs) (b3f E K L M X Y eb ec q0 q1 u ul v y yl z zk):=by
 exact c77 hAs
theorem c8T(hAs:F0 K L M X Y):Y6 zP0q 25 c1U ((b49 E K L M X Y q0 q1 u ul y yl z zk)) (BaseW.H (bw v 2 eb ec) hs) (b3f E K L M X Y eb ec q0 q1 u ul v y yl z zk):=by
 refine Hd.goes_seqA (by kernel_rfl) ?_
 exact Z6 W3 (Z2 zC0q (E8) 200 (T':=(b4A E K L M X Y q0 q1 u ul y yl z zk)) (e:=.normal) (ps:=[]) [.go] (by kernel_rfl) (by kernel_rfl) trivial rfl) (Hd.en_n (c8M hAs))
theorem d0o(hAs:F0 K L M X Y):Y6 zP0q 25 c5w ((b49 E K L M X Y q0 q1 u ul y yl z zk)) (BaseW.H (bw v 2 eb ec) hs) (a9C E K L M X Y eb ec q0 q1 u ul v y yl z zk):=by
 exact Hd.goes_seqA (by kernel_rfl) (c8T hAs)
theorem c9M(hAs:F0 K L M X Y):Y6 zP0q 25 c99 ((b6i E K L M X Y q0 q1 u ul y yl z zk)) (BaseW.H (bw v 2 eb ec) hs) (a9C E K L M X Y eb ec q0 q1 u ul v y yl z zk):=by
 refine Hd.goes_seqA (by kernel_rfl) ?_
 exact Z6 W3 (Z2 zC0q (E8) 200 (T':=(b49 E K L M X Y q0 q1 u ul y yl z zk)) (e:=.normal) (ps:=[]) [.go] (by kernel_rfl) (by kernel_rfl) trivial rfl) (Hd.en_n (d0o hAs))
end
theorem c9O(y:Value)(E:List (Value×List (Int×Int)))(yl:Value)(L:List (Int×Int))(u:Value)(X:List (Value×List Int))(ul:Value)(Y:List Int)(q0 z:Value)(M:List Int)(q1 zk:Value)(K:List Int)(hAs:F0 K L M X Y)(v:BaseW)(eb:Nat→Option Nat)(ec:Nat→Nat)(hs:List Nat):Y6 zP0q 25 c92 (⟨[(0,(b8x E K L M q0 q1 y yl z zk)),(1,(.fn (.func 80) [] [.ptr 0 0,.ptr 1 0]))],[],2,[(0,(a4I X Y u ul)),(1,(a5b E K L M q0 q1 y yl z zk))]⟩) (BaseW.H (bw v 2 eb ec) hs) (a9C E K L M X Y eb ec q0 q1 u ul v y yl z zk):=by
 refine Hd.goes_seqA (by kernel_rfl) ?_
 exact Z6 W3 (Z2 zC0q (E8) 200 (T':=(b6i E K L M X Y q0 q1 u ul y yl z zk)) (e:=.normal) (ps:=[]) [.go,.go,.go] (by kernel_rfl) (by kernel_rfl) trivial rfl) (Hd.en_n (c9M hAs))
theorem d0H(y:Value)(E:List (Value×List (Int×Int)))(yl:Value)(L:List (Int×Int))(u:Value)(X:List (Value×List Int))(ul:Value)(Y:List Int)(q0 z:Value)(M:List Int)(q1 zk:Value)(K:List Int)(hn8:L.length≤8)(hx3:X.length=3)(hxr:∀ i,i<3→J2 (U1 X) (i*1)=L.length)(hy:Y.length=L.length)(hm:M.length=L.length)(hk:K.length=L.length)(hx1:∀ i,i<3→∀ b,b<L.length→0≤Z8 (N5 (U1 X) (i*1)) (b*1)∧Z8 (N5 (U1 X) (i*1)) (b*1)≤100)(hy1:∀ b,b<L.length→0≤Z8 (cI Y) (b*1)∧Z8 (cI Y) (b*1)≤100)(hm1:∀ b,b<L.length → -1000≤Z8 (cI M) (b*1) - Z8 (cI K) (b*1)∧Z8 (cI M) (b*1) - Z8 (cI K) (b*1)≤1000):A8 zP0q 79 [(b8x E K L M q0 q1 y yl z zk),(.fn (.func 80) [] [.ptr 0 0,.ptr 1 0])] [(a4I X Y u ul),(a5b E K L M q0 q1 y yl z zk)] ((.agg [nI0 (S2 (O2 (U1 X) (cI Y) (X5 (cI M) (cI K) L.length) 0) L.length),nI0 (S2 (O2 (U1 X) (cI Y) (X5 (cI M) (cI K) L.length) 1) L.length),nI0 (S2 (O2 (U1 X) (cI Y) (X5 (cI M) (cI K) L.length) 2) L.length)])) [(a4I X Y u ul),(a5b E K L M q0 q1 y yl z zk)] :=
 N1 25 (by kernel_rfl) Try.func79 (by kernel_rfl) (by kernel_rfl) (by kernel_rfl) (fun v eb ec=>V2 (by kernel_rfl) (by kernel_rfl) (by kernel_rfl) (by kernel_rfl) (c9O y E yl L u X ul Y q0 z M q1 zk K ⟨hn8,hx3,hxr,hy,hm,hk,hx1,hy1,hm1⟩ v eb ec []))
end
end Go.Proofs.Ytegmogadbnfbgaa
namespace Go.Proofs.Ytegmogadbnfbgaa
open Go Ev
noncomputable section
def sdS:List AV→List AB→Option ((AV×List AB)×List Prop):=fun args xs =>
 match args,xs with
 |[.agg [.xl y me k1 cE,.xl yl n k2 cL,.fn (.func f) lz lc],.fn (.func g) gl gc],[.cells l1 t1,.cells l2 t2]=>match l1,lz,lc,gl,gc with
  |[.xl u m k3 cX,.xl ul j k4 cY],[],[.xp q0 a1 a2 d0 a3,.xp q1 b1 b2 d1 b3],[],[p,q]=>match Nat.beq f 82,Nat.beq g 80,a7T p 0,a7T q 1,d0,d1 with
   |true,true,true,true,[.xl z r k5 cM],[.xl zk s k6 cK]=>some ((.agg [.v (.int .i64 (S2 (O2 cX cY (X5 cM cK n) 0) n)),.v (.int .i64 (S2 (O2 cX cY (X5 cM cK n) 1) n)),.v (.int .i64 (S2 (O2 cX cY (X5 cM cK n) 2) n))],[.cells l1 t1,.cells l2 t2]),[a5R t1,a5n t2,T8 k1 cE me,W8 k2 n cL,c0k k3 m k4 j k5 r k6 s cX cY cM cK n,a5r a1 a2 a3,a5r b1 b2 b3,n≤8,l2=[.xl y me k1 cE,.xl yl n k2 cL,.fn (.func f) lz lc]])
   |_,_,_,_,_,_=>none
  |_,_,_,_,_=>none
 |_,_=>none
def sdO:N4:=a7V 79 sdS
theorem b7n:Known zP0q (clsO sdO):=a1c (fun args xs r ys ps h hp=>by
 unfold sdS at h
 split at h
 ·split at h
  ·split at h
   ·rename_i e1 e2 e3 e4
    cases h
    obtain ⟨rfl,rfl,⟨rfl,E,rfl,rfl⟩,⟨rfl,L,rfl,rfl⟩,⟨X,Y,M,K,⟨rfl,rfl,rfl⟩,⟨rfl,rfl,rfl⟩,⟨rfl,rfl,rfl⟩,⟨rfl,rfl,rfl⟩,h1,h2,h3,h4,h4',h5,h6,h7⟩,⟨rfl,rfl,rfl⟩,⟨rfl,rfl,rfl⟩,h8,rfl,-⟩:=hp
    rw [a0o e3,a0o e4,Nat.eq_of_beq_eq_true e1,Nat.eq_of_beq_eq_true e2]
    exact ⟨a4C X Y E L M K,a4C X Y E L M K,d0H _ E _ L _ X _ Y _ _ M _ _ K h8 h1 h2 h3 h4 h4' h5 h6 h7⟩
   ·cases h
  ·cases h
 ·cases h)
end
end Go.Proofs.Ytegmogadbnfbgaa
namespace Go.Proofs.Ytegmogadbnfbgaa
open Go Ev
noncomputable section
noncomputable def d0K:Code:=N6 Try.f54
set_option maxHeartbeats 16000000 in
theorem d0y(y:Value)(E:List (Value×List (Int×Int)))(yl:Value)(L:List (Int×Int))(u:Value)(X:List (Value×List Int))(ul:Value)(Y:List Int)(q0 z:Value)(M:List Int)(q1 zk:Value)(K:List Int)(hn8:L.length≤8)(hx3:X.length=3)(hxr:∀ i,i<3→J2 (U1 X) (i*1)=L.length)(hy:Y.length=L.length)(hm:M.length=L.length)(hk:K.length=L.length)(hx1:∀ i,i<3→∀ b,b<L.length→0≤Z8 (N5 (U1 X) (i*1)) (b*1)∧Z8 (N5 (U1 X) (i*1)) (b*1)≤100)(hy1:∀ b,b<L.length→0≤Z8 (cI Y) (b*1)∧Z8 (cI Y) (b*1)≤100)(hm1:∀ b,b<L.length → -1000≤Z8 (cI M) (b*1) - Z8 (cI K) (b*1)∧Z8 (cI M) (b*1) - Z8 (cI K) (b*1)≤1000)(w:World)(hs:List Nat):Y6 zP0q 8 d0K (⟨[(0,(.agg [.xl y E.length 1 (X4 E),.xl yl L.length 2 (cR L),(.fn (.func 82) [] [.xp q0 1 1 [.xl z M.length 1 (cI M)] 0,.xp q1 1 1 [.xl zk K.length 1 (cI K)] 0])])),(1,(.agg [.xl u X.length 1 (U1 X),.xl ul Y.length 1 (cI Y)]))],[],0,[]⟩) (BaseW.H w hs) (H2 zP0q Try.f54 8 (.agg #[.int .i64 (S2 (O2 (U1 X) (cI Y) (X5 (cI M) (cI K) L.length) 0) L.length),.int .i64 (S2 (O2 (U1 X) (cI Y) (X5 (cI M) (cI K) L.length) 1) L.length),.int .i64 (S2 (O2 (U1 X) (cI Y) (X5 (cI M) (cI K) L.length) 2) L.length)]) w):=by
 have hcl_L:=Y8 L
 have hcl_Y:=Y5 Y
 have hcl_M:=Y5 M
 have hcl_K:=Y5 K
 exact Z6 U0 (Z2 zC0q (b7n) 200 (T':=⟨[(4,(.ptr 2 0))],[],3,[(2,(.cells [(nI0 (S2 (O2 (U1 X) (cI Y) (X5 (cI M) (cI K) L.length) 0) L.length)),(nI0 (S2 (O2 (U1 X) (cI Y) (X5 (cI M) (cI K) L.length) 1) L.length)),(nI0 (S2 (O2 (U1 X) (cI Y) (X5 (cI M) (cI K) L.length) 2) L.length))] 82))]⟩) (e:=.ret) (ps:=[U2 (X4 E),U2 (cR L),U2 [AV.xl z M.length 1 (cI M)],U2 [AV.xl zk K.length 1 (cI K)],a5R 29,a5n 85,T8 1 (X4 E) E.length,W8 2 L.length (cR L),c0k 1 X.length 1 Y.length 1 M.length 1 K.length (U1 X) (cI Y) (cI M) (cI K) L.length,a5r 1 1 0,a5r 1 1 0,L.length≤8,(AV.agg [AV.xl y E.length 1 (X4 E),AV.xl yl L.length 2 (cR L),AV.fn (Fn.func 82) [] [AV.xp q0 1 1 [AV.xl z M.length 1 (cI M)] 0,AV.xp q1 1 1 [AV.xl zk K.length 1 (cI K)] 0]]).cells=[AV.xl y E.length 1 (X4 E),AV.xl yl L.length 2 (cR L),AV.fn (Fn.func 82) [] [AV.xp q0 1 1 [AV.xl z M.length 1 (cI M)] 0,AV.xp q1 1 1 [AV.xl zk K.length 1 (cI K)] 0]]]) (gH 6 []) (by kernel_rfl) (by kernel_rfl) ⟨(Y2 E),(Y3 (Y7 _)),(X6 (Y3 (Z5 _))),(X6 (Y3 (Z5 _))),rfl,rfl,⟨rfl,E,rfl,rfl⟩,⟨rfl,L,rfl,rfl⟩,⟨X,Y,M,K,⟨rfl,rfl,rfl⟩,⟨rfl,rfl,rfl⟩,⟨rfl,rfl,rfl⟩,⟨rfl,rfl,rfl⟩,hx3,hxr,hy,hm,hk,hx1,hy1,hm1⟩,⟨rfl,rfl,rfl⟩,⟨rfl,rfl,rfl⟩,hn8,rfl,trivial⟩ rfl) (Hd.en_eq (r:=.agg #[(.int .i64 (S2 (O2 (U1 X) (cI Y) (X5 (cI M) (cI K) L.length) 0) L.length)),(.int .i64 (S2 (O2 (U1 X) (cI Y) (X5 (cI M) (cI K) L.length) 1) L.length)),(.int .i64 (S2 (O2 (U1 X) (cI Y) (X5 (cI M) (cI K) L.length) 2) L.length))]) (by rfl) (Hd.en_ret (v:=(.agg [(nI0 (S2 (O2 (U1 X) (cI Y) (X5 (cI M) (cI K) L.length) 0) L.length)),(nI0 (S2 (O2 (U1 X) (cI Y) (X5 (cI M) (cI K) L.length) 1) L.length)),(nI0 (S2 (O2 (U1 X) (cI Y) (X5 (cI M) (cI K) L.length) 2) L.length))])) (by kernel_rfl) rfl))
theorem d0d(y:Value)(E:List (Value×List (Int×Int)))(yl:Value)(L:List (Int×Int))(u:Value)(X:List (Value×List Int))(ul:Value)(Y:List Int)(q0 z:Value)(M:List Int)(q1 zk:Value)(K:List Int)(hn8:L.length≤8)(hx3:X.length=3)(hxr:∀ i,i<3→J2 (U1 X) (i*1)=L.length)(hy:Y.length=L.length)(hm:M.length=L.length)(hk:K.length=L.length)(hx1:∀ i,i<3→∀ b,b<L.length→0≤Z8 (N5 (U1 X) (i*1)) (b*1)∧Z8 (N5 (U1 X) (i*1)) (b*1)≤100)(hy1:∀ b,b<L.length→0≤Z8 (cI Y) (b*1)∧Z8 (cI Y) (b*1)≤100)(hm1:∀ b,b<L.length → -1000≤Z8 (cI M) (b*1) - Z8 (cI K) (b*1)∧Z8 (cI M) (b*1) - Z8 (cI K) (b*1)≤1000):GivesA zP0q 54 [(.agg [.xl y E.length 1 (X4 E),.xl yl L.length 2 (cR L),(.fn (.func 82) [] [.xp q0 1 1 [.xl z M.length 1 (cI M)] 0,.xp q1 1 1 [.xl zk K.length 1 (cI K)] 0])]),(.agg [.xl u X.length 1 (U1 X),.xl ul Y.length 1 (cI Y)])] (.agg #[.int .i64 (S2 (O2 (U1 X) (cI Y) (X5 (cI M) (cI K) L.length) 0) L.length),.int .i64 (S2 (O2 (U1 X) (cI Y) (X5 (cI M) (cI K) L.length) 1) L.length),.int .i64 (S2 (O2 (U1 X) (cI Y) (X5 (cI M) (cI K) L.length) 2) L.length)]) :=
 S9 8 Try.func54 (by kernel_rfl) (by kernel_rfl) (by kernel_rfl) (fun w=>V2 (by kernel_rfl) (by kernel_rfl) (by kernel_rfl) (by kernel_rfl) (d0y y E yl L u X ul Y q0 z M q1 zk K hn8 hx3 hxr hy hm hk hx1 hy1 hm1 w []))
end
end Go.Proofs.Ytegmogadbnfbgaa
set_option maxHeartbeats 4000000
namespace Go.Proofs.Ytegmogadbnfbgaa
open Go Ev
noncomputable section
theorem c16{a:Int}(h : -9223372036854775808≤a)(k:a≤9223372036854775807):L3 .i64 a:=⟨h,k⟩
section
variable (E : List (Value × List (Int × Int))) (K : List Int) (L : List (Int × Int)) (M : List Int) (P : List (Int × Int)) (g : Bool) (q0 q1 y yl yr z zk : Value)
@[reducible] def c2t:Ev.AB:=(.cells [(.xl (y) (E.length) 1 (X4 E)),(.xl (yl) (L.length) 2 (cR L)),(.fn (.func 82) [] [(AV.xp q0 1 1 [AV.xl z M.length 1 (cI M)] 0),(AV.xp q1 1 1 [AV.xl zk K.length 1 (cI K)] 0)])] 85)
@[reducible] def a3U:Nat×Ev.AB:=(0,(c2t E K L M q0 q1 y yl z zk))
@[reducible] def a18:Nat×Ev.AB:=(1,(.cells [(.xl (yr) (P.length) 2 (cR P))] 23))
@[reducible] def a10:Nat×Ev.AB:=(2,(.cells [(.v (.bool (g)))] 4))
@[reducible] def a4A:Nat×Ev.AB:=(3,(.cells [(.v (Value.slice none 0 0))] 27))
@[reducible] def b8d:Nat×Ev.AB:=(4,(c2t E K L M q0 q1 y yl z zk))
@[reducible] def a8L:Ev.Lit:=⟨[(3,(.ptr 0 0)),(4,(.ptr 1 0)),(5,(.ptr 2 0)),(7,(.ptr 3 0)),(11,(.fn (.func 93) [] [(.ptr 4 0)]))],[],5,[(a3U E K L M q0 q1 y yl z zk),(a18 P yr),(a10 g),a4A,(b8d E K L M q0 q1 y yl z zk)]⟩
@[reducible] def b81:Ev.Lit:=⟨[(3,(.ptr 0 0)),(4,(.ptr 1 0)),(5,(.ptr 2 0)),(7,(.ptr 3 0))],[],4,[(a3U E K L M q0 q1 y yl z zk),(a18 P yr),(a10 g),a4A]⟩
@[reducible] def c1l:Ev.Lit:=⟨[(3,(.ptr 0 0)),(4,(.ptr 1 0)),(5,(.ptr 2 0))],[],3,[(a3U E K L M q0 q1 y yl z zk),(a18 P yr),(a10 g)]⟩
@[reducible] def a5c:=(tI (X9 (cR P) (X5 (cI M) (cI K) L.length) g) L.length)
@[reducible] def b7H:Ev.AB:=(.cells [(.slu 8 0 (a5c K L M P g).length 0)] 27)
@[reducible] def b2S:Nat×Ev.AB:=(3,(b7H K L M P g))
@[reducible] def a1K:Ev.AB:=(.row (cI (a5c K L M P g)) 2 1)
@[reducible] def b46:Nat×Ev.AB:=(8,(a1K K L M P g))
@[reducible] def c2z:Ev.Lit:=⟨[(7,(.ptr 3 0))],[5],9,[(b2S K L M P g),(5,(.defd .true)),(b46 K L M P g)]⟩
@[reducible] def c1E:Ev.Lit:=⟨[(7,(.ptr 3 0))],[],6,[(3,(.cells [(.slu 5 0 (a5c K L M P g).length 0)] 27)),(5,(a1K K L M P g))]⟩
@[reducible] def c27:Ev.AV:=(.agg [.xl y E.length 1 (X4 E),.xl yl L.length 2 (cR L),(.fn (.func 82) [] [.xp q0 1 1 [.xl z M.length 1 (cI M)] 0,.xp q1 1 1 [.xl zk K.length 1 (cI K)] 0])])
end
noncomputable def c6Z:Code:=N6 Try.f90
noncomputable def c8d:Code:=L2 c6Z
noncomputable def c3t:Code:=L2 c8d
noncomputable def b5V:Code:=L2 c3t
noncomputable def c28:Code:=(l5 c3t)
noncomputable def b6z:Code:=L2 c28
noncomputable def W2:Code:=a4L b6z
noncomputable def b8h:Code:=N6 Try.f93
noncomputable def b9n:Code:=L2 b8h
noncomputable def b2X:Code:=G5 b9n
@[reducible] def a0b(K:List Int)(L:List (Int×Int))(M:List Int)(P:List (Int×Int)):Prop:=(1≤L.length∧L.length≤8)∧(P.length=L.length)∧(M.length=L.length)∧(K.length=L.length)∧(∀ b,b<L.length → -1000≤Z8 (cI M) (b*1) - Z8 (cI K) (b*1)∧Z8 (cI M) (b*1) - Z8 (cI K) (b*1)≤1000)
section
variable {E:List (Value×List (Int×Int))} {K M:List Int} {L P:List (Int×Int)} {eb:Nat→Option Nat} {ec:Nat→Nat} {g:Bool} {hs:List Nat} {q0 q1 y yl yr z zk:Value} {v:BaseW}
theorem c4R(hAe:a0b K L M P):Y6 zP0q 16 b9n ((⟨[(0,(.yld 6)),(7,(nI0 L.length)),(8,(nN 0))],[],7,6,[(3,(.ptr 0 0)),(4,(.ptr 1 0)),(5,(.ptr 2 0)),(7,(.ptr 3 0))],[(0,(.cells [(.xl (y) (E.length) 1 (X4 E)),(.xl (yl) (L.length) 2 (cR L)),(.fn (.func 82) [] [(AV.xp q0 1 1 [AV.xl z M.length 1 (cI M)] 0),(AV.xp q1 1 1 [AV.xl zk K.length 1 (cI K)] 0)])] 85)),(1,(.cells [(.xl (yr) (P.length) 2 (cR P))] 23)),(2,(.cells [(.v (.bool (g)))] 4)),(3,(.cells [(.v (Value.slice none 0 0))] 27)),(5,(.defd .true))],.ready,none,35,O0 W2,N9 W2,O1 W2,5⟩:Ev.Lit1).lit) (bw v 7 eb ec) (a1s 16 (fun _:Unit=>((⟨[],[],9,6,[(3,(.ptr 0 0)),(4,(.ptr 1 0)),(5,(.ptr 2 0)),(7,(.ptr 3 0))],[(0,(.cells [(.xl (y) (E.length) 1 (X4 E)),(.xl (yl) (L.length) 2 (cR L)),(.fn (.func 82) [] [(AV.xp q0 1 1 [AV.xl z M.length 1 (cI M)] 0),(AV.xp q1 1 1 [AV.xl zk K.length 1 (cI K)] 0)])] 85)),(1,(.cells [(.xl (yr) (P.length) 2 (cR P))] 23)),(2,(.cells [(.v (.bool (g)))] 4)),(3,(.cells [(.slu 8 0 (tI (X9 (cR P) (X5 (cI M) (cI K) L.length) g) L.length).length 0)] 27)),(5,(.defd .true)),(8,(.row (cI (tI (X9 (cR P) (X5 (cI M) (cI K) L.length) g) L.length)) 2 1))],.ready,none,35,O0 W2,N9 W2,O1 W2,5⟩:Ev.Lit1)).lit) (fun _:Unit=>True) (bw v 7 eb ec)):=by
 obtain ⟨hn,hP,hm,hk,hm1⟩:=id hAe
 have hcl_L:=Y8 L
 have hcl_M:=Y5 M
 have hcl_K:=Y5 K
 have hcl_P:=Y8 P
 refine V2 (T':=(⟨[(0,(.yld 6)),(7,(nI0 L.length)),(8,(nN 0))],[],7,6,[(3,(.ptr 0 0)),(4,(.ptr 1 0)),(5,(.ptr 2 0)),(7,(.ptr 3 0))],[(0,(.cells [(.xl (y) (E.length) 1 (X4 E)),(.xl (yl) (L.length) 2 (cR L)),(.fn (.func 82) [] [(AV.xp q0 1 1 [AV.xl z M.length 1 (cI M)] 0),(AV.xp q1 1 1 [AV.xl zk K.length 1 (cI K)] 0)])] 85)),(1,(.cells [(.xl (yr) (P.length) 2 (cR P))] 23)),(2,(.cells [(.v (.bool (g)))] 4)),(3,(.cells [(.v (Value.slice none 0 0))] 27)),(5,(.defd .true))],.ready,none,35,O0 W2,N9 W2,O1 W2,5⟩:Ev.Lit1).lit) (by kernel_rfl) (by kernel_rfl) (by kernel_rfl) (by kernel_rfl) (a00 (ι:={i:Nat // i≤L.length∧True}) (T:=(fun i:{i:Nat // i≤L.length∧True}=>((Ev.fam0 (⟨[(0,(.yld 6)),(7,(nI0 L.length)),(8,(nI0 i.1))],[],7,6,[(3,(.ptr 0 0)),(4,(.ptr 1 0)),(5,(.ptr 2 0)),(7,(.ptr 3 0))],[(0,(.cells [(.xl (y) (E.length) 1 (X4 E)),(.xl (yl) (L.length) 2 (cR L)),(.fn (.func 82) [] [(AV.xp q0 1 1 [AV.xl z M.length 1 (cI M)] 0),(AV.xp q1 1 1 [AV.xl zk K.length 1 (cI K)] 0)])] 85)),(1,(.cells [(.xl (yr) (P.length) 2 (cR P))] 23)),(2,(.cells [(.v (.bool (g)))] 4)),(3,(.cells [(.v (Value.slice none 0 0))] 27)),(5,(.defd .true))],.ready,none,35,O0 W2,N9 W2,O1 W2,5⟩:Ev.Lit1).lit (fun k=>(⟨[(0,(.yld 6)),(7,(nI0 L.length)),(8,(nI0 i.1))],[],9,6,[(3,(.ptr 0 0)),(4,(.ptr 1 0)),(5,(.ptr 2 0)),(7,(.ptr 3 0))],[(0,(.cells [(.xl (y) (E.length) 1 (X4 E)),(.xl (yl) (L.length) 2 (cR L)),(.fn (.func 82) [] [(AV.xp q0 1 1 [AV.xl z M.length 1 (cI M)] 0),(AV.xp q1 1 1 [AV.xl zk K.length 1 (cI K)] 0)])] 85)),(1,(.cells [(.xl (yr) (P.length) 2 (cR P))] 23)),(2,(.cells [(.v (.bool (g)))] 4)),(3,(.cells [(.slu 8 0 (k+1) 0)] 27)),(5,(.defd .true)),(8,(.row (cI (tI (X9 (cR P) (X5 (cI M) (cI K) L.length) g) i.1)) 2 1))],.ready,none,35,O0 W2,N9 W2,O1 W2,5⟩:Ev.Lit1).lit) (tI (X9 (cR P) (X5 (cI M) (cI K) L.length) g) i.1).length):Ev.Lit))) (R:=(fun i:{i:Nat // i≤L.length∧True}=>L.length≤i.1)) (by kernel_rfl) (a1H (show ((⟨[(0,(.yld 6)),(7,(nI0 L.length)),(8,(nN 0))],[],7,6,[(3,(.ptr 0 0)),(4,(.ptr 1 0)),(5,(.ptr 2 0)),(7,(.ptr 3 0))],[(0,(.cells [(.xl (y) (E.length) 1 (X4 E)),(.xl (yl) (L.length) 2 (cR L)),(.fn (.func 82) [] [(AV.xp q0 1 1 [AV.xl z M.length 1 (cI M)] 0),(AV.xp q1 1 1 [AV.xl zk K.length 1 (cI K)] 0)])] 85)),(1,(.cells [(.xl (yr) (P.length) 2 (cR P))] 23)),(2,(.cells [(.v (.bool (g)))] 4)),(3,(.cells [(.v (Value.slice none 0 0))] 27)),(5,(.defd .true))],.ready,none,35,O0 W2,N9 W2,O1 W2,5⟩:Ev.Lit1).lit:Ev.Lit)=(Ev.fam0 (⟨[(0,(.yld 6)),(7,(nI0 L.length)),(8,(nI0 0))],[],7,6,[(3,(.ptr 0 0)),(4,(.ptr 1 0)),(5,(.ptr 2 0)),(7,(.ptr 3 0))],[(0,(.cells [(.xl (y) (E.length) 1 (X4 E)),(.xl (yl) (L.length) 2 (cR L)),(.fn (.func 82) [] [(AV.xp q0 1 1 [AV.xl z M.length 1 (cI M)] 0),(AV.xp q1 1 1 [AV.xl zk K.length 1 (cI K)] 0)])] 85)),(1,(.cells [(.xl (yr) (P.length) 2 (cR P))] 23)),(2,(.cells [(.v (.bool (g)))] 4)),(3,(.cells [(.v (Value.slice none 0 0))] 27)),(5,(.defd .true))],.ready,none,35,O0 W2,N9 W2,O1 W2,5⟩:Ev.Lit1).lit (fun k=>(⟨[(0,(.yld 6)),(7,(nI0 L.length)),(8,(nI0 0))],[],9,6,[(3,(.ptr 0 0)),(4,(.ptr 1 0)),(5,(.ptr 2 0)),(7,(.ptr 3 0))],[(0,(.cells [(.xl (y) (E.length) 1 (X4 E)),(.xl (yl) (L.length) 2 (cR L)),(.fn (.func 82) [] [(AV.xp q0 1 1 [AV.xl z M.length 1 (cI M)] 0),(AV.xp q1 1 1 [AV.xl zk K.length 1 (cI K)] 0)])] 85)),(1,(.cells [(.xl (yr) (P.length) 2 (cR P))] 23)),(2,(.cells [(.v (.bool (g)))] 4)),(3,(.cells [(.slu 8 0 (k+1) 0)] 27)),(5,(.defd .true)),(8,(.row (cI (tI (X9 (cR P) (X5 (cI M) (cI K) L.length) g) 0)) 2 1))],.ready,none,35,O0 W2,N9 W2,O1 W2,5⟩:Ev.Lit1).lit) (tI (X9 (cR P) (X5 (cI M) (cI K) L.length) g) 0).length) from by (rw [show (tI (X9 (cR P) (X5 (cI M) (cI K) L.length) g) 0).length=0 from Y0 _ _];rfl)) (B3 (by kernel_rfl) (fun i:{i:Nat // i≤L.length∧True}=>((Ev.fam0 (⟨[(0,(.yld 6)),(7,(nI0 L.length)),(8,(nI0 i.1))],[],7,6,[(3,(.ptr 0 0)),(4,(.ptr 1 0)),(5,(.ptr 2 0)),(7,(.ptr 3 0))],[(0,(.cells [(.xl (y) (E.length) 1 (X4 E)),(.xl (yl) (L.length) 2 (cR L)),(.fn (.func 82) [] [(AV.xp q0 1 1 [AV.xl z M.length 1 (cI M)] 0),(AV.xp q1 1 1 [AV.xl zk K.length 1 (cI K)] 0)])] 85)),(1,(.cells [(.xl (yr) (P.length) 2 (cR P))] 23)),(2,(.cells [(.v (.bool (g)))] 4)),(3,(.cells [(.v (Value.slice none 0 0))] 27)),(5,(.defd .true))],.ready,none,35,O0 W2,N9 W2,O1 W2,5⟩:Ev.Lit1).lit (fun k=>(⟨[(0,(.yld 6)),(7,(nI0 L.length)),(8,(nI0 i.1))],[],9,6,[(3,(.ptr 0 0)),(4,(.ptr 1 0)),(5,(.ptr 2 0)),(7,(.ptr 3 0))],[(0,(.cells [(.xl (y) (E.length) 1 (X4 E)),(.xl (yl) (L.length) 2 (cR L)),(.fn (.func 82) [] [(AV.xp q0 1 1 [AV.xl z M.length 1 (cI M)] 0),(AV.xp q1 1 1 [AV.xl zk K.length 1 (cI K)] 0)])] 85)),(1,(.cells [(.xl (yr) (P.length) 2 (cR P))] 23)),(2,(.cells [(.v (.bool (g)))] 4)),(3,(.cells [(.slu 8 0 (k+1) 0)] 27)),(5,(.defd .true)),(8,(.row (cI (tI (X9 (cR P) (X5 (cI M) (cI K) L.length) g) i.1)) 2 1))],.ready,none,35,O0 W2,N9 W2,O1 W2,5⟩:Ev.Lit1).lit) (tI (X9 (cR P) (X5 (cI M) (cI K) L.length) g) i.1).length):Ev.Lit)) (fun i:{i:Nat // i≤L.length∧True}=>L.length - i.1) (fun i=>?_) ⟨0,Nat.zero_le _,trivial⟩)) (fun ixR hxR=>(fun (i0r:Nat) (h0ra:i0r≤L.length) (h0rb:True) (h0rc:L.length≤i0r)=>⟨(),show True from trivial,(by obtain ⟨i9,q1,q2⟩:=ixR;have h9:L.length≤i9:=hxR;have e:i9=L.length:=(by omega);subst e;obtain ⟨k,hk⟩:∃ k,(tI (X9 (cR P) (X5 (cI M) (cI K) L.length) g) L.length).length=k+1:=⟨L.length - 1,by rw [Y0];omega⟩;show a3o (Ev.Lit.fs (Ev.fam0 _ _ (tI (X9 (cR P) (X5 (cI M) (cI K) L.length) g) L.length).length)) _;rw [hk];exact B0 (by kernel_rfl) (by kernel_rfl) (by kernel_rfl) (by kernel_rfl))⟩) ixR.1 ixR.2.1 ixR.2.2 hxR))
 obtain ⟨i,hi1,hi2⟩:=i
 show Y6 zP0q 16 b2X ((Ev.fam0 (⟨[(0,(.yld 6)),(7,(nI0 L.length)),(8,(nI0 i))],[],7,6,[(3,(.ptr 0 0)),(4,(.ptr 1 0)),(5,(.ptr 2 0)),(7,(.ptr 3 0))],[(0,(.cells [(.xl (y) (E.length) 1 (X4 E)),(.xl (yl) (L.length) 2 (cR L)),(.fn (.func 82) [] [(AV.xp q0 1 1 [AV.xl z M.length 1 (cI M)] 0),(AV.xp q1 1 1 [AV.xl zk K.length 1 (cI K)] 0)])] 85)),(1,(.cells [(.xl (yr) (P.length) 2 (cR P))] 23)),(2,(.cells [(.v (.bool (g)))] 4)),(3,(.cells [(.v (Value.slice none 0 0))] 27)),(5,(.defd .true))],.ready,none,35,O0 W2,N9 W2,O1 W2,5⟩:Ev.Lit1).lit (fun k=>(⟨[(0,(.yld 6)),(7,(nI0 L.length)),(8,(nI0 i))],[],9,6,[(3,(.ptr 0 0)),(4,(.ptr 1 0)),(5,(.ptr 2 0)),(7,(.ptr 3 0))],[(0,(.cells [(.xl (y) (E.length) 1 (X4 E)),(.xl (yl) (L.length) 2 (cR L)),(.fn (.func 82) [] [(AV.xp q0 1 1 [AV.xl z M.length 1 (cI M)] 0),(AV.xp q1 1 1 [AV.xl zk K.length 1 (cI K)] 0)])] 85)),(1,(.cells [(.xl (yr) (P.length) 2 (cR P))] 23)),(2,(.cells [(.v (.bool (g)))] 4)),(3,(.cells [(.slu 8 0 (k+1) 0)] 27)),(5,(.defd .true)),(8,(.row (cI (tI (X9 (cR P) (X5 (cI M) (cI K) L.length) g) i)) 2 1))],.ready,none,35,O0 W2,N9 W2,O1 W2,5⟩:Ev.Lit1).lit) (tI (X9 (cR P) (X5 (cI M) (cI K) L.length) g) i).length)) (bw v 7 eb ec) (a0r _ _ _ _ _ _ _ _)
 cases hc:(tI (X9 (cR P) (X5 (cI M) (cI K) L.length) g) i).length with
 |zero =>
  show Y6 zP0q 16 b2X ((⟨[(0,(.yld 6)),(7,(nI0 L.length)),(8,(nI0 i))],[],7,6,[(3,(.ptr 0 0)),(4,(.ptr 1 0)),(5,(.ptr 2 0)),(7,(.ptr 3 0))],[(0,(.cells [(.xl (y) (E.length) 1 (X4 E)),(.xl (yl) (L.length) 2 (cR L)),(.fn (.func 82) [] [(AV.xp q0 1 1 [AV.xl z M.length 1 (cI M)] 0),(AV.xp q1 1 1 [AV.xl zk K.length 1 (cI K)] 0)])] 85)),(1,(.cells [(.xl (yr) (P.length) 2 (cR P))] 23)),(2,(.cells [(.v (.bool (g)))] 4)),(3,(.cells [(.v (Value.slice none 0 0))] 27)),(5,(.defd .true))],.ready,none,35,O0 W2,N9 W2,O1 W2,5⟩:Ev.Lit1).lit) (bw v 7 eb ec) (a0r _ _ _ _ _ _ _ _)
  rcases zB0q (Y1 i L.length) with hz0_1|hz0_1
  ·have ghz0_1:=W7 hz0_1
   rcases zB0q (g == Y1 0 (Z8 (cI M) (i*1) - Z8 (cI K) (i*1))) with hz0_2|hz0_2
   ·refine Ev.step_on ⟨i+1,by omega,trivial⟩ (by show L.length - (i+1)<L.length - i;omega) ?_
    have hcn:(tI (X9 (cR P) (X5 (cI M) (cI K) L.length) g) (i+1)).length=0+1:=by (have h9:=Y0 (X9 (cR P) (X5 (cI M) (cI K) L.length) g) i;rw [Y0];omega)
    show Y6 _ _ _ _ _ (K0 _ isN (Ev.fam0 (⟨[(0,(.yld 6)),(7,(nI0 L.length)),(8,(nI0 (((i+1):Nat):Int)))],[],7,6,[(3,(.ptr 0 0)),(4,(.ptr 1 0)),(5,(.ptr 2 0)),(7,(.ptr 3 0))],[(0,(.cells [(.xl (y) (E.length) 1 (X4 E)),(.xl (yl) (L.length) 2 (cR L)),(.fn (.func 82) [] [(AV.xp q0 1 1 [AV.xl z M.length 1 (cI M)] 0),(AV.xp q1 1 1 [AV.xl zk K.length 1 (cI K)] 0)])] 85)),(1,(.cells [(.xl (yr) (P.length) 2 (cR P))] 23)),(2,(.cells [(.v (.bool (g)))] 4)),(3,(.cells [(.v (Value.slice none 0 0))] 27)),(5,(.defd .true))],.ready,none,35,O0 W2,N9 W2,O1 W2,5⟩:Ev.Lit1).lit (fun k=>(⟨[(0,(.yld 6)),(7,(nI0 L.length)),(8,(nI0 (((i+1):Nat):Int)))],[],9,6,[(3,(.ptr 0 0)),(4,(.ptr 1 0)),(5,(.ptr 2 0)),(7,(.ptr 3 0))],[(0,(.cells [(.xl (y) (E.length) 1 (X4 E)),(.xl (yl) (L.length) 2 (cR L)),(.fn (.func 82) [] [(AV.xp q0 1 1 [AV.xl z M.length 1 (cI M)] 0),(AV.xp q1 1 1 [AV.xl zk K.length 1 (cI K)] 0)])] 85)),(1,(.cells [(.xl (yr) (P.length) 2 (cR P))] 23)),(2,(.cells [(.v (.bool (g)))] 4)),(3,(.cells [(.slu 8 0 (k+1) 0)] 27)),(5,(.defd .true)),(8,(.row (cI (tI (X9 (cR P) (X5 (cI M) (cI K) L.length) g) (i+1))) 2 1))],.ready,none,35,O0 W2,N9 W2,O1 W2,5⟩:Ev.Lit1).lit) (tI (X9 (cR P) (X5 (cI M) (cI K) L.length) g) (i+1)).length) _)
    rw [hcn]
    show Y6 _ _ _ _ _ (K0 _ isN ((⟨[(0,(.yld 6)),(7,(nI0 L.length)),(8,(nI0 (((i+1):Nat):Int)))],[],9,6,[(3,(.ptr 0 0)),(4,(.ptr 1 0)),(5,(.ptr 2 0)),(7,(.ptr 3 0))],[(0,(.cells [(.xl (y) (E.length) 1 (X4 E)),(.xl (yl) (L.length) 2 (cR L)),(.fn (.func 82) [] [(AV.xp q0 1 1 [AV.xl z M.length 1 (cI M)] 0),(AV.xp q1 1 1 [AV.xl zk K.length 1 (cI K)] 0)])] 85)),(1,(.cells [(.xl (yr) (P.length) 2 (cR P))] 23)),(2,(.cells [(.v (.bool (g)))] 4)),(3,(.cells [(.slu 8 0 (0+1) 0)] 27)),(5,(.defd .true)),(8,(.row (cI (tI (X9 (cR P) (X5 (cI M) (cI K) L.length) g) (i+1))) 2 1))],.ready,none,35,O0 W2,N9 W2,O1 W2,5⟩:Ev.Lit1).lit) _)
    exact I5 zC0q (Y4) 200 (T':=(⟨[(0,(.yld 6)),(7,(nI0 L.length)),(8,(nI0 (((i+1):Nat):Int)))],[],9,6,[(3,(.ptr 0 0)),(4,(.ptr 1 0)),(5,(.ptr 2 0)),(7,(.ptr 3 0))],[(0,(.cells [(.xl (y) (E.length) 1 (X4 E)),(.xl (yl) (L.length) 2 (cR L)),(.fn (.func 82) [] [(AV.xp q0 1 1 [AV.xl z M.length 1 (cI M)] 0),(AV.xp q1 1 1 [AV.xl zk K.length 1 (cI K)] 0)])] 85)),(1,(.cells [(.xl (yr) (P.length) 2 (cR P))] 23)),(2,(.cells [(.v (.bool (g)))] 4)),(3,(.cells [(.slu 8 0 (0+1) 0)] 27)),(5,(.defd .true)),(8,(.row (cI (tI (X9 (cR P) (X5 (cI M) (cI K) L.length) g) (i+1))) 2 1))],.ready,none,35,O0 W2,N9 W2,O1 W2,5⟩:Ev.Lit1)) (e:=.normal) (m:=9) (ps:=[Y1 i L.length=true,i<P.length,i*2+0<((cR P):List AV).length,W6 zP0q (cR P) (i*2+0) 2=some (AV.v (Value.int IntKind.i64 (Z8 (cR P) (i*2+0)))),i<M.length,W6 zP0q (cI M) (i*1) 2=some (AV.v (Value.int IntKind.i64 (Z8 (cI M) (i*1)))),i<K.length,W6 zP0q (cI K) (i*1) 2=some (AV.v (Value.int IntKind.i64 (Z8 (cI K) (i*1)))),L3 IntKind.i64 (Z8 (cI M) (i*1) - Z8 (cI K) (i*1)),(g == Y1 0 (Z8 (cI M) (i*1) - Z8 (cI K) (i*1)))=true,i<P.length,i*2+1<((cR P):List AV).length,W6 zP0q (cR P) (i*2+1) 2=some (AV.v (Value.int IntKind.i64 (Z8 (cR P) (i*2+1)))),(!true)=false,L3 IntKind.i64 (((i:Nat):Int)+1)]) ([.go,.b true]++gH 7 ([.sym,.sym,.sym]++gH 11 ([.sym,.sym]++gH 6 ([.sym,.sym]++gH 5 ([.b true,.go,.go,.sym,.sym,.sym]++gH 7 [.b false,.go,.go]))))) [0,1,2,3,4,5,6,7,8] [(.yld 6),(nI0 L.length),(nI0 (((i:Nat):Int)+1))] [(.ptr 0 0),(.ptr 1 0),(.ptr 2 0),(.ptr 3 0)] [(.cells [(.xl (y) (E.length) 1 (X4 E)),(.xl (yl) (L.length) 2 (cR L)),(.fn (.func 82) [] [(AV.xp q0 1 1 [AV.xl z M.length 1 (cI M)] 0),(AV.xp q1 1 1 [AV.xl zk K.length 1 (cI K)] 0)])] 85),(.cells [(.xl (yr) (P.length) 2 (cR P))] 23),(.cells [(.v (.bool (g)))] 4),(.cells [(.slu 8 0 1 0)] 27),(.defd .true),(.row [(nI0 (Z8 (cR P) (i*2+1)))] 2 1)] (by kernel_rfl) (by kernel_rfl) ⟨hz0_1,(by omega),(by rw [Y8];omega),(q9 (i:=i) (by omega) (by omega) 2 (Try.underlying2) rfl),(by omega),(by rw [Nat.mul_one];exact R1 (show _<M.length by omega) 2 (Try.underlying2) rfl),(by omega),(by rw [Nat.mul_one];exact R1 (show _<K.length by omega) 2 (Try.underlying2) rfl),(by have h9:=hm1 i (by omega);show -9223372036854775808≤_∧_≤9223372036854775807;constructor<;>omega),hz0_2,(by omega),(by rw [Y8];omega),(q9 (i:=i) (by omega) (by omega) 2 (Try.underlying2) rfl),rfl,(c16 (by omega) (by omega)),trivial⟩ rfl rfl (by decide) rfl ⟨k8 rfl,W0 _,S6 (show ((((i:Nat):Int)+1):Int)=(((i+1):Nat):Int) from by omega),trivial⟩ ⟨X8 rfl,X8 rfl,X8 rfl,X8 rfl,trivial⟩ ⟨⟨by show 0<9;decide,Z0 (Z9 (V4 (X6 (Y2 _))) (Z9 (V7 (Z7 (Y7 L))) (Z9 (z6 (Z3) (Z9 (V4 (L5 (X6 (Y3 (Z5 _))))) (Z9 (V4 (L5 (X6 (Y3 (Z5 _))))) (Z3)))) (Z3))))⟩,⟨by show 1<9;decide,Z0 (Z9 (V7 (Z7 (Y7 P))) (Z3))⟩,⟨by show 2<9;decide,Z0 (Z9 (W0 _) (Z3))⟩,⟨by show 3<9;decide,Z0 (Z9 (Y9 rfl) (Z3))⟩,⟨by show 5<9;decide,D2⟩,⟨by show 8<9;decide,Z1 (K6 (show ((cI (tI (X9 (cR P) (X5 (cI M) (cI K) L.length) g) (i+1))):List AV)=[(nI0 (Z8 (cR P) (i*2+1)))] from by (exact (a5d (by have h9:=Y0 (X9 (cR P) (X5 (cI M) (cI K) L.length) g) i;omega) (a7B (c:=cR P) (n:=L.length) (by omega) hz0_2)).symm)) (Z5 _))⟩,trivial⟩ (by show 6<9;decide) (by show 5<9;decide) (by show 7≤9;decide) (fun b hb=>(by have hb2:b<7:=hb;match b,hb2 with|0,_=>rfl|1,_=>rfl|2,_=>rfl|3,_=>rfl|4,_=>rfl|5,_=>rfl|6,_=>rfl))
   ·refine Ev.step_on ⟨i+1,by omega,trivial⟩ (by show L.length - (i+1)<L.length - i;omega) ?_
    have hcn:(tI (X9 (cR P) (X5 (cI M) (cI K) L.length) g) (i+1)).length=0+1:=by (have h9:=Y0 (X9 (cR P) (X5 (cI M) (cI K) L.length) g) i;rw [Y0];omega)
    show Y6 _ _ _ _ _ (K0 _ isN (Ev.fam0 (⟨[(0,(.yld 6)),(7,(nI0 L.length)),(8,(nI0 (((i+1):Nat):Int)))],[],7,6,[(3,(.ptr 0 0)),(4,(.ptr 1 0)),(5,(.ptr 2 0)),(7,(.ptr 3 0))],[(0,(.cells [(.xl (y) (E.length) 1 (X4 E)),(.xl (yl) (L.length) 2 (cR L)),(.fn (.func 82) [] [(AV.xp q0 1 1 [AV.xl z M.length 1 (cI M)] 0),(AV.xp q1 1 1 [AV.xl zk K.length 1 (cI K)] 0)])] 85)),(1,(.cells [(.xl (yr) (P.length) 2 (cR P))] 23)),(2,(.cells [(.v (.bool (g)))] 4)),(3,(.cells [(.v (Value.slice none 0 0))] 27)),(5,(.defd .true))],.ready,none,35,O0 W2,N9 W2,O1 W2,5⟩:Ev.Lit1).lit (fun k=>(⟨[(0,(.yld 6)),(7,(nI0 L.length)),(8,(nI0 (((i+1):Nat):Int)))],[],9,6,[(3,(.ptr 0 0)),(4,(.ptr 1 0)),(5,(.ptr 2 0)),(7,(.ptr 3 0))],[(0,(.cells [(.xl (y) (E.length) 1 (X4 E)),(.xl (yl) (L.length) 2 (cR L)),(.fn (.func 82) [] [(AV.xp q0 1 1 [AV.xl z M.length 1 (cI M)] 0),(AV.xp q1 1 1 [AV.xl zk K.length 1 (cI K)] 0)])] 85)),(1,(.cells [(.xl (yr) (P.length) 2 (cR P))] 23)),(2,(.cells [(.v (.bool (g)))] 4)),(3,(.cells [(.slu 8 0 (k+1) 0)] 27)),(5,(.defd .true)),(8,(.row (cI (tI (X9 (cR P) (X5 (cI M) (cI K) L.length) g) (i+1))) 2 1))],.ready,none,35,O0 W2,N9 W2,O1 W2,5⟩:Ev.Lit1).lit) (tI (X9 (cR P) (X5 (cI M) (cI K) L.length) g) (i+1)).length) _)
    rw [hcn]
    show Y6 _ _ _ _ _ (K0 _ isN ((⟨[(0,(.yld 6)),(7,(nI0 L.length)),(8,(nI0 (((i+1):Nat):Int)))],[],9,6,[(3,(.ptr 0 0)),(4,(.ptr 1 0)),(5,(.ptr 2 0)),(7,(.ptr 3 0))],[(0,(.cells [(.xl (y) (E.length) 1 (X4 E)),(.xl (yl) (L.length) 2 (cR L)),(.fn (.func 82) [] [(AV.xp q0 1 1 [AV.xl z M.length 1 (cI M)] 0),(AV.xp q1 1 1 [AV.xl zk K.length 1 (cI K)] 0)])] 85)),(1,(.cells [(.xl (yr) (P.length) 2 (cR P))] 23)),(2,(.cells [(.v (.bool (g)))] 4)),(3,(.cells [(.slu 8 0 (0+1) 0)] 27)),(5,(.defd .true)),(8,(.row (cI (tI (X9 (cR P) (X5 (cI M) (cI K) L.length) g) (i+1))) 2 1))],.ready,none,35,O0 W2,N9 W2,O1 W2,5⟩:Ev.Lit1).lit) _)
    exact I5 zC0q (Y4) 200 (T':=(⟨[(0,(.yld 6)),(7,(nI0 L.length)),(8,(nI0 (((i+1):Nat):Int)))],[],9,6,[(3,(.ptr 0 0)),(4,(.ptr 1 0)),(5,(.ptr 2 0)),(7,(.ptr 3 0))],[(0,(.cells [(.xl (y) (E.length) 1 (X4 E)),(.xl (yl) (L.length) 2 (cR L)),(.fn (.func 82) [] [(AV.xp q0 1 1 [AV.xl z M.length 1 (cI M)] 0),(AV.xp q1 1 1 [AV.xl zk K.length 1 (cI K)] 0)])] 85)),(1,(.cells [(.xl (yr) (P.length) 2 (cR P))] 23)),(2,(.cells [(.v (.bool (g)))] 4)),(3,(.cells [(.slu 8 0 (0+1) 0)] 27)),(5,(.defd .true)),(8,(.row (cI (tI (X9 (cR P) (X5 (cI M) (cI K) L.length) g) (i+1))) 2 1))],.ready,none,35,O0 W2,N9 W2,O1 W2,5⟩:Ev.Lit1)) (e:=.normal) (m:=9) (ps:=[Y1 i L.length=true,i<P.length,i*2+0<((cR P):List AV).length,W6 zP0q (cR P) (i*2+0) 2=some (AV.v (Value.int IntKind.i64 (Z8 (cR P) (i*2+0)))),i<M.length,W6 zP0q (cI M) (i*1) 2=some (AV.v (Value.int IntKind.i64 (Z8 (cI M) (i*1)))),i<K.length,W6 zP0q (cI K) (i*1) 2=some (AV.v (Value.int IntKind.i64 (Z8 (cI K) (i*1)))),L3 IntKind.i64 (Z8 (cI M) (i*1) - Z8 (cI K) (i*1)),(g == Y1 0 (Z8 (cI M) (i*1) - Z8 (cI K) (i*1)))=false,(!true)=false,L3 IntKind.i64 (((i:Nat):Int)+1)]) ([.go,.b true]++gH 7 ([.sym,.sym,.sym]++gH 11 ([.sym,.sym]++gH 6 ([.sym,.sym]++gH 5 ([.b false]++gH 6 [.b false,.go,.go]))))) [0,1,2,3,4,5,6,7,8] [(.yld 6),(nI0 L.length),(nI0 (((i:Nat):Int)+1))] [(.ptr 0 0),(.ptr 1 0),(.ptr 2 0),(.ptr 3 0)] [(.cells [(.xl (y) (E.length) 1 (X4 E)),(.xl (yl) (L.length) 2 (cR L)),(.fn (.func 82) [] [(AV.xp q0 1 1 [AV.xl z M.length 1 (cI M)] 0),(AV.xp q1 1 1 [AV.xl zk K.length 1 (cI K)] 0)])] 85),(.cells [(.xl (yr) (P.length) 2 (cR P))] 23),(.cells [(.v (.bool (g)))] 4),(.cells [(.slu 8 0 1 0)] 27),(.defd .true),(.row [(nI0 (Z8 (cR P) (i*2+0)))] 2 1)] (by kernel_rfl) (by kernel_rfl) ⟨hz0_1,(by omega),(by rw [Y8];omega),(q9 (i:=i) (by omega) (by omega) 2 (Try.underlying2) rfl),(by omega),(by rw [Nat.mul_one];exact R1 (show _<M.length by omega) 2 (Try.underlying2) rfl),(by omega),(by rw [Nat.mul_one];exact R1 (show _<K.length by omega) 2 (Try.underlying2) rfl),(by have h9:=hm1 i (by omega);show -9223372036854775808≤_∧_≤9223372036854775807;constructor<;>omega),hz0_2,rfl,(c16 (by omega) (by omega)),trivial⟩ rfl rfl (by decide) rfl ⟨k8 rfl,W0 _,S6 (show ((((i:Nat):Int)+1):Int)=(((i+1):Nat):Int) from by omega),trivial⟩ ⟨X8 rfl,X8 rfl,X8 rfl,X8 rfl,trivial⟩ ⟨⟨by show 0<9;decide,Z0 (Z9 (V4 (X6 (Y2 _))) (Z9 (V7 (Z7 (Y7 L))) (Z9 (z6 (Z3) (Z9 (V4 (L5 (X6 (Y3 (Z5 _))))) (Z9 (V4 (L5 (X6 (Y3 (Z5 _))))) (Z3)))) (Z3))))⟩,⟨by show 1<9;decide,Z0 (Z9 (V7 (Z7 (Y7 P))) (Z3))⟩,⟨by show 2<9;decide,Z0 (Z9 (W0 _) (Z3))⟩,⟨by show 3<9;decide,Z0 (Z9 (Y9 rfl) (Z3))⟩,⟨by show 5<9;decide,D2⟩,⟨by show 8<9;decide,Z1 (K6 (show ((cI (tI (X9 (cR P) (X5 (cI M) (cI K) L.length) g) (i+1))):List AV)=[(nI0 (Z8 (cR P) (i*2+0)))] from by (exact (a5d (by have h9:=Y0 (X9 (cR P) (X5 (cI M) (cI K) L.length) g) i;omega) (a9q (c:=cR P) (m:=cI M) (k:=cI K) (g:=g) (b:=i) (n:=L.length) (by omega) (by rw [hz0_2];decide))).symm)) (Z5 _))⟩,trivial⟩ (by show 6<9;decide) (by show 5<9;decide) (by show 7≤9;decide) (fun b hb=>(by have hb2:b<7:=hb;match b,hb2 with|0,_=>rfl|1,_=>rfl|2,_=>rfl|3,_=>rfl|4,_=>rfl|5,_=>rfl|6,_=>rfl))
  ·have ghz0_1:=Z4 hz0_1
   exfalso
   have h9:=Y0 (X9 (cR P) (X5 (cI M) (cI K) L.length) g) i
   omega
 |succ k =>
  show Y6 zP0q 16 b2X ((⟨[(0,(.yld 6)),(7,(nI0 L.length)),(8,(nI0 i))],[],9,6,[(3,(.ptr 0 0)),(4,(.ptr 1 0)),(5,(.ptr 2 0)),(7,(.ptr 3 0))],[(0,(.cells [(.xl (y) (E.length) 1 (X4 E)),(.xl (yl) (L.length) 2 (cR L)),(.fn (.func 82) [] [(AV.xp q0 1 1 [AV.xl z M.length 1 (cI M)] 0),(AV.xp q1 1 1 [AV.xl zk K.length 1 (cI K)] 0)])] 85)),(1,(.cells [(.xl (yr) (P.length) 2 (cR P))] 23)),(2,(.cells [(.v (.bool (g)))] 4)),(3,(.cells [(.slu 8 0 (k+1) 0)] 27)),(5,(.defd .true)),(8,(.row (cI (tI (X9 (cR P) (X5 (cI M) (cI K) L.length) g) i)) 2 1))],.ready,none,35,O0 W2,N9 W2,O1 W2,5⟩:Ev.Lit1).lit) (bw v 7 eb ec) (a0r _ _ _ _ _ _ _ _)
  rcases zB0q (Y1 i L.length) with hs0_1|hs0_1
  ·have ghs0_1:=W7 hs0_1
   rcases zB0q (g == Y1 0 (Z8 (cI M) (i*1) - Z8 (cI K) (i*1))) with hs0_2|hs0_2
   ·refine Ev.step_on ⟨i+1,by omega,trivial⟩ (by show L.length - (i+1)<L.length - i;omega) ?_
    have hcn:(tI (X9 (cR P) (X5 (cI M) (cI K) L.length) g) (i+1)).length=k+1+1:=by (have h9:=Y0 (X9 (cR P) (X5 (cI M) (cI K) L.length) g) i;rw [Y0];omega)
    show Y6 _ _ _ _ _ (K0 _ isN (Ev.fam0 (⟨[(0,(.yld 6)),(7,(nI0 L.length)),(8,(nI0 (((i+1):Nat):Int)))],[],7,6,[(3,(.ptr 0 0)),(4,(.ptr 1 0)),(5,(.ptr 2 0)),(7,(.ptr 3 0))],[(0,(.cells [(.xl (y) (E.length) 1 (X4 E)),(.xl (yl) (L.length) 2 (cR L)),(.fn (.func 82) [] [(AV.xp q0 1 1 [AV.xl z M.length 1 (cI M)] 0),(AV.xp q1 1 1 [AV.xl zk K.length 1 (cI K)] 0)])] 85)),(1,(.cells [(.xl (yr) (P.length) 2 (cR P))] 23)),(2,(.cells [(.v (.bool (g)))] 4)),(3,(.cells [(.v (Value.slice none 0 0))] 27)),(5,(.defd .true))],.ready,none,35,O0 W2,N9 W2,O1 W2,5⟩:Ev.Lit1).lit (fun k=>(⟨[(0,(.yld 6)),(7,(nI0 L.length)),(8,(nI0 (((i+1):Nat):Int)))],[],9,6,[(3,(.ptr 0 0)),(4,(.ptr 1 0)),(5,(.ptr 2 0)),(7,(.ptr 3 0))],[(0,(.cells [(.xl (y) (E.length) 1 (X4 E)),(.xl (yl) (L.length) 2 (cR L)),(.fn (.func 82) [] [(AV.xp q0 1 1 [AV.xl z M.length 1 (cI M)] 0),(AV.xp q1 1 1 [AV.xl zk K.length 1 (cI K)] 0)])] 85)),(1,(.cells [(.xl (yr) (P.length) 2 (cR P))] 23)),(2,(.cells [(.v (.bool (g)))] 4)),(3,(.cells [(.slu 8 0 (k+1) 0)] 27)),(5,(.defd .true)),(8,(.row (cI (tI (X9 (cR P) (X5 (cI M) (cI K) L.length) g) (i+1))) 2 1))],.ready,none,35,O0 W2,N9 W2,O1 W2,5⟩:Ev.Lit1).lit) (tI (X9 (cR P) (X5 (cI M) (cI K) L.length) g) (i+1)).length) _)
    rw [hcn]
    show Y6 _ _ _ _ _ (K0 _ isN ((⟨[(0,(.yld 6)),(7,(nI0 L.length)),(8,(nI0 (((i+1):Nat):Int)))],[],9,6,[(3,(.ptr 0 0)),(4,(.ptr 1 0)),(5,(.ptr 2 0)),(7,(.ptr 3 0))],[(0,(.cells [(.xl (y) (E.length) 1 (X4 E)),(.xl (yl) (L.length) 2 (cR L)),(.fn (.func 82) [] [(AV.xp q0 1 1 [AV.xl z M.length 1 (cI M)] 0),(AV.xp q1 1 1 [AV.xl zk K.length 1 (cI K)] 0)])] 85)),(1,(.cells [(.xl (yr) (P.length) 2 (cR P))] 23)),(2,(.cells [(.v (.bool (g)))] 4)),(3,(.cells [(.slu 8 0 (k+1+1) 0)] 27)),(5,(.defd .true)),(8,(.row (cI (tI (X9 (cR P) (X5 (cI M) (cI K) L.length) g) (i+1))) 2 1))],.ready,none,35,O0 W2,N9 W2,O1 W2,5⟩:Ev.Lit1).lit) _)
    exact I5 zC0q (Y4) 200 (T':=(⟨[(0,(.yld 6)),(7,(nI0 L.length)),(8,(nI0 (((i+1):Nat):Int)))],[],9,6,[(3,(.ptr 0 0)),(4,(.ptr 1 0)),(5,(.ptr 2 0)),(7,(.ptr 3 0))],[(0,(.cells [(.xl (y) (E.length) 1 (X4 E)),(.xl (yl) (L.length) 2 (cR L)),(.fn (.func 82) [] [(AV.xp q0 1 1 [AV.xl z M.length 1 (cI M)] 0),(AV.xp q1 1 1 [AV.xl zk K.length 1 (cI K)] 0)])] 85)),(1,(.cells [(.xl (yr) (P.length) 2 (cR P))] 23)),(2,(.cells [(.v (.bool (g)))] 4)),(3,(.cells [(.slu 8 0 (k+1+1) 0)] 27)),(5,(.defd .true)),(8,(.row (cI (tI (X9 (cR P) (X5 (cI M) (cI K) L.length) g) (i+1))) 2 1))],.ready,none,35,O0 W2,N9 W2,O1 W2,5⟩:Ev.Lit1)) (e:=.normal) (m:=11) (ps:=[Y1 i L.length=true,i<P.length,i*2+0<((cR P):List AV).length,W6 zP0q (cR P) (i*2+0) 2=some (AV.v (Value.int IntKind.i64 (Z8 (cR P) (i*2+0)))),i<M.length,W6 zP0q (cI M) (i*1) 2=some (AV.v (Value.int IntKind.i64 (Z8 (cI M) (i*1)))),i<K.length,W6 zP0q (cI K) (i*1) 2=some (AV.v (Value.int IntKind.i64 (Z8 (cI K) (i*1)))),L3 IntKind.i64 (Z8 (cI M) (i*1) - Z8 (cI K) (i*1)),(g == Y1 0 (Z8 (cI M) (i*1) - Z8 (cI K) (i*1)))=true,i<P.length,i*2+1<((cR P):List AV).length,W6 zP0q (cR P) (i*2+1) 2=some (AV.v (Value.int IntKind.i64 (Z8 (cR P) (i*2+1)))),((cI (tI (X9 (cR P) (X5 (cI M) (cI K) L.length) g) i)):List AV).length=(k+1)*1,k+1+1≤1000000,(!true)=false,L3 IntKind.i64 (((i:Nat):Int)+1)]) ([.go,.b true]++gH 7 ([.sym,.sym,.sym]++gH 11 ([.sym,.sym]++gH 6 ([.sym,.sym]++gH 5 ([.b true,.go,.go,.sym,.sym,.sym]++gH 4 [.sym,.go,.go,.b false,.go,.go]))))) [0,1,2,3,4,5,6,7,10] [(.yld 6),(nI0 L.length),(nI0 (((i:Nat):Int)+1))] [(.ptr 0 0),(.ptr 1 0),(.ptr 2 0),(.ptr 3 0)] [(.cells [(.xl (y) (E.length) 1 (X4 E)),(.xl (yl) (L.length) 2 (cR L)),(.fn (.func 82) [] [(AV.xp q0 1 1 [AV.xl z M.length 1 (cI M)] 0),(AV.xp q1 1 1 [AV.xl zk K.length 1 (cI K)] 0)])] 85),(.cells [(.xl (yr) (P.length) 2 (cR P))] 23),(.cells [(.v (.bool (g)))] 4),(.cells [(.slu 10 0 (k+1+1) 0)] 27),(.defd .true),(.row ((cI (tI (X9 (cR P) (X5 (cI M) (cI K) L.length) g) i))++[(nI0 (Z8 (cR P) (i*2+1)))]) 2 1)] (by kernel_rfl) (by kernel_rfl) ⟨hs0_1,(by omega),(by rw [Y8];omega),(q9 (i:=i) (by omega) (by omega) 2 (Try.underlying2) rfl),(by omega),(by rw [Nat.mul_one];exact R1 (show _<M.length by omega) 2 (Try.underlying2) rfl),(by omega),(by rw [Nat.mul_one];exact R1 (show _<K.length by omega) 2 (Try.underlying2) rfl),(by have h9:=hm1 i (by omega);show -9223372036854775808≤_∧_≤9223372036854775807;constructor<;>omega),hs0_2,(by omega),(by rw [Y8];omega),(q9 (i:=i) (by omega) (by omega) 2 (Try.underlying2) rfl),(by have h9:=Y0 (X9 (cR P) (X5 (cI M) (cI K) L.length) g) i;show (cI _).length=_;rw [Y5,Y0];omega),(by have h9:=Y0 (X9 (cR P) (X5 (cI M) (cI K) L.length) g) i;have h8:=Y0 (X9 (cR P) (X5 (cI M) (cI K) L.length) g) (i+1);omega),rfl,(c16 (by omega) (by omega)),trivial⟩ rfl rfl (by decide) rfl ⟨k8 rfl,W0 _,S6 (show ((((i:Nat):Int)+1):Int)=(((i+1):Nat):Int) from by omega),trivial⟩ ⟨X8 rfl,X8 rfl,X8 rfl,X8 rfl,trivial⟩ ⟨⟨by show 0<9;decide,Z0 (Z9 (V4 (X6 (Y2 _))) (Z9 (V7 (Z7 (Y7 L))) (Z9 (z6 (Z3) (Z9 (V4 (L5 (X6 (Y3 (Z5 _))))) (Z9 (V4 (L5 (X6 (Y3 (Z5 _))))) (Z3)))) (Z3))))⟩,⟨by show 1<9;decide,Z0 (Z9 (V7 (Z7 (Y7 P))) (Z3))⟩,⟨by show 2<9;decide,Z0 (Z9 (W0 _) (Z3))⟩,⟨by show 3<9;decide,Z0 (Z9 (Y9 rfl) (Z3))⟩,⟨by show 5<9;decide,D2⟩,⟨by show 8<9;decide,Z1 (K6 (show ((cI (tI (X9 (cR P) (X5 (cI M) (cI K) L.length) g) (i+1))):List AV)=((cI (tI (X9 (cR P) (X5 (cI M) (cI K) L.length) g) i))++[(nI0 (Z8 (cR P) (i*2+1)))]) from by first|exact (k9 (a7B (c:=cR P) (n:=L.length) (by omega) hs0_2)).symm|(rw [List.take_of_length_le (by have h9:=Y0 (X9 (cR P) (X5 (cI M) (cI K) L.length) g) i;rw [List.length_drop,Y5,Y0];omega),List.drop_zero];exact (k9 (a7B (c:=cR P) (n:=L.length) (by omega) hs0_2)).symm)) (Z5 _))⟩,trivial⟩ (by show 6<9;decide) (by show 5<9;decide) (by show 7≤9;decide) (fun b hb=>(by have hb2:b<7:=hb;match b,hb2 with|0,_=>rfl|1,_=>rfl|2,_=>rfl|3,_=>rfl|4,_=>rfl|5,_=>rfl|6,_=>rfl))
   ·refine Ev.step_on ⟨i+1,by omega,trivial⟩ (by show L.length - (i+1)<L.length - i;omega) ?_
    have hcn:(tI (X9 (cR P) (X5 (cI M) (cI K) L.length) g) (i+1)).length=k+1+1:=by (have h9:=Y0 (X9 (cR P) (X5 (cI M) (cI K) L.length) g) i;rw [Y0];omega)
    show Y6 _ _ _ _ _ (K0 _ isN (Ev.fam0 (⟨[(0,(.yld 6)),(7,(nI0 L.length)),(8,(nI0 (((i+1):Nat):Int)))],[],7,6,[(3,(.ptr 0 0)),(4,(.ptr 1 0)),(5,(.ptr 2 0)),(7,(.ptr 3 0))],[(0,(.cells [(.xl (y) (E.length) 1 (X4 E)),(.xl (yl) (L.length) 2 (cR L)),(.fn (.func 82) [] [(AV.xp q0 1 1 [AV.xl z M.length 1 (cI M)] 0),(AV.xp q1 1 1 [AV.xl zk K.length 1 (cI K)] 0)])] 85)),(1,(.cells [(.xl (yr) (P.length) 2 (cR P))] 23)),(2,(.cells [(.v (.bool (g)))] 4)),(3,(.cells [(.v (Value.slice none 0 0))] 27)),(5,(.defd .true))],.ready,none,35,O0 W2,N9 W2,O1 W2,5⟩:Ev.Lit1).lit (fun k=>(⟨[(0,(.yld 6)),(7,(nI0 L.length)),(8,(nI0 (((i+1):Nat):Int)))],[],9,6,[(3,(.ptr 0 0)),(4,(.ptr 1 0)),(5,(.ptr 2 0)),(7,(.ptr 3 0))],[(0,(.cells [(.xl (y) (E.length) 1 (X4 E)),(.xl (yl) (L.length) 2 (cR L)),(.fn (.func 82) [] [(AV.xp q0 1 1 [AV.xl z M.length 1 (cI M)] 0),(AV.xp q1 1 1 [AV.xl zk K.length 1 (cI K)] 0)])] 85)),(1,(.cells [(.xl (yr) (P.length) 2 (cR P))] 23)),(2,(.cells [(.v (.bool (g)))] 4)),(3,(.cells [(.slu 8 0 (k+1) 0)] 27)),(5,(.defd .true)),(8,(.row (cI (tI (X9 (cR P) (X5 (cI M) (cI K) L.length) g) (i+1))) 2 1))],.ready,none,35,O0 W2,N9 W2,O1 W2,5⟩:Ev.Lit1).lit) (tI (X9 (cR P) (X5 (cI M) (cI K) L.length) g) (i+1)).length) _)
    rw [hcn]
    show Y6 _ _ _ _ _ (K0 _ isN ((⟨[(0,(.yld 6)),(7,(nI0 L.length)),(8,(nI0 (((i+1):Nat):Int)))],[],9,6,[(3,(.ptr 0 0)),(4,(.ptr 1 0)),(5,(.ptr 2 0)),(7,(.ptr 3 0))],[(0,(.cells [(.xl (y) (E.length) 1 (X4 E)),(.xl (yl) (L.length) 2 (cR L)),(.fn (.func 82) [] [(AV.xp q0 1 1 [AV.xl z M.length 1 (cI M)] 0),(AV.xp q1 1 1 [AV.xl zk K.length 1 (cI K)] 0)])] 85)),(1,(.cells [(.xl (yr) (P.length) 2 (cR P))] 23)),(2,(.cells [(.v (.bool (g)))] 4)),(3,(.cells [(.slu 8 0 (k+1+1) 0)] 27)),(5,(.defd .true)),(8,(.row (cI (tI (X9 (cR P) (X5 (cI M) (cI K) L.length) g) (i+1))) 2 1))],.ready,none,35,O0 W2,N9 W2,O1 W2,5⟩:Ev.Lit1).lit) _)
    exact I5 zC0q (Y4) 200 (T':=(⟨[(0,(.yld 6)),(7,(nI0 L.length)),(8,(nI0 (((i+1):Nat):Int)))],[],9,6,[(3,(.ptr 0 0)),(4,(.ptr 1 0)),(5,(.ptr 2 0)),(7,(.ptr 3 0))],[(0,(.cells [(.xl (y) (E.length) 1 (X4 E)),(.xl (yl) (L.length) 2 (cR L)),(.fn (.func 82) [] [(AV.xp q0 1 1 [AV.xl z M.length 1 (cI M)] 0),(AV.xp q1 1 1 [AV.xl zk K.length 1 (cI K)] 0)])] 85)),(1,(.cells [(.xl (yr) (P.length) 2 (cR P))] 23)),(2,(.cells [(.v (.bool (g)))] 4)),(3,(.cells [(.slu 8 0 (k+1+1) 0)] 27)),(5,(.defd .true)),(8,(.row (cI (tI (X9 (cR P) (X5 (cI M) (cI K) L.length) g) (i+1))) 2 1))],.ready,none,35,O0 W2,N9 W2,O1 W2,5⟩:Ev.Lit1)) (e:=.normal) (m:=11) (ps:=[Y1 i L.length=true,i<P.length,i*2+0<((cR P):List AV).length,W6 zP0q (cR P) (i*2+0) 2=some (AV.v (Value.int IntKind.i64 (Z8 (cR P) (i*2+0)))),i<M.length,W6 zP0q (cI M) (i*1) 2=some (AV.v (Value.int IntKind.i64 (Z8 (cI M) (i*1)))),i<K.length,W6 zP0q (cI K) (i*1) 2=some (AV.v (Value.int IntKind.i64 (Z8 (cI K) (i*1)))),L3 IntKind.i64 (Z8 (cI M) (i*1) - Z8 (cI K) (i*1)),(g == Y1 0 (Z8 (cI M) (i*1) - Z8 (cI K) (i*1)))=false,((cI (tI (X9 (cR P) (X5 (cI M) (cI K) L.length) g) i)):List AV).length=(k+1)*1,k+1+1≤1000000,(!true)=false,L3 IntKind.i64 (((i:Nat):Int)+1)]) ([.go,.b true]++gH 7 ([.sym,.sym,.sym]++gH 11 ([.sym,.sym]++gH 6 ([.sym,.sym]++gH 5 [.b false,.go,.go,.go,.sym,.go,.go,.b false,.go,.go])))) [0,1,2,3,4,5,6,7,10] [(.yld 6),(nI0 L.length),(nI0 (((i:Nat):Int)+1))] [(.ptr 0 0),(.ptr 1 0),(.ptr 2 0),(.ptr 3 0)] [(.cells [(.xl (y) (E.length) 1 (X4 E)),(.xl (yl) (L.length) 2 (cR L)),(.fn (.func 82) [] [(AV.xp q0 1 1 [AV.xl z M.length 1 (cI M)] 0),(AV.xp q1 1 1 [AV.xl zk K.length 1 (cI K)] 0)])] 85),(.cells [(.xl (yr) (P.length) 2 (cR P))] 23),(.cells [(.v (.bool (g)))] 4),(.cells [(.slu 10 0 (k+1+1) 0)] 27),(.defd .true),(.row ((cI (tI (X9 (cR P) (X5 (cI M) (cI K) L.length) g) i))++[(nI0 (Z8 (cR P) (i*2+0)))]) 2 1)] (by kernel_rfl) (by kernel_rfl) ⟨hs0_1,(by omega),(by rw [Y8];omega),(q9 (i:=i) (by omega) (by omega) 2 (Try.underlying2) rfl),(by omega),(by rw [Nat.mul_one];exact R1 (show _<M.length by omega) 2 (Try.underlying2) rfl),(by omega),(by rw [Nat.mul_one];exact R1 (show _<K.length by omega) 2 (Try.underlying2) rfl),(by have h9:=hm1 i (by omega);show -9223372036854775808≤_∧_≤9223372036854775807;constructor<;>omega),hs0_2,(by have h9:=Y0 (X9 (cR P) (X5 (cI M) (cI K) L.length) g) i;show (cI _).length=_;rw [Y5,Y0];omega),(by have h9:=Y0 (X9 (cR P) (X5 (cI M) (cI K) L.length) g) i;have h8:=Y0 (X9 (cR P) (X5 (cI M) (cI K) L.length) g) (i+1);omega),rfl,(c16 (by omega) (by omega)),trivial⟩ rfl rfl (by decide) rfl ⟨k8 rfl,W0 _,S6 (show ((((i:Nat):Int)+1):Int)=(((i+1):Nat):Int) from by omega),trivial⟩ ⟨X8 rfl,X8 rfl,X8 rfl,X8 rfl,trivial⟩ ⟨⟨by show 0<9;decide,Z0 (Z9 (V4 (X6 (Y2 _))) (Z9 (V7 (Z7 (Y7 L))) (Z9 (z6 (Z3) (Z9 (V4 (L5 (X6 (Y3 (Z5 _))))) (Z9 (V4 (L5 (X6 (Y3 (Z5 _))))) (Z3)))) (Z3))))⟩,⟨by show 1<9;decide,Z0 (Z9 (V7 (Z7 (Y7 P))) (Z3))⟩,⟨by show 2<9;decide,Z0 (Z9 (W0 _) (Z3))⟩,⟨by show 3<9;decide,Z0 (Z9 (Y9 rfl) (Z3))⟩,⟨by show 5<9;decide,D2⟩,⟨by show 8<9;decide,Z1 (K6 (show ((cI (tI (X9 (cR P) (X5 (cI M) (cI K) L.length) g) (i+1))):List AV)=((cI (tI (X9 (cR P) (X5 (cI M) (cI K) L.length) g) i))++[(nI0 (Z8 (cR P) (i*2+0)))]) from by first|exact (k9 (a9q (c:=cR P) (m:=cI M) (k:=cI K) (g:=g) (b:=i) (n:=L.length) (by omega) (by rw [hs0_2];decide))).symm|(rw [List.take_of_length_le (by have h9:=Y0 (X9 (cR P) (X5 (cI M) (cI K) L.length) g) i;rw [List.length_drop,Y5,Y0];omega),List.drop_zero];exact (k9 (a9q (c:=cR P) (m:=cI M) (k:=cI K) (g:=g) (b:=i) (n:=L.length) (by omega) (by rw [hs0_2];decide))).symm)) (Z5 _))⟩,trivial⟩ (by show 6<9;decide) (by show 5<9;decide) (by show 7≤9;decide) (fun b hb=>(by have hb2:b<7:=hb;match b,hb2 with|0,_=>rfl|1,_=>rfl|2,_=>rfl|3,_=>rfl|4,_=>rfl|5,_=>rfl|6,_=>rfl))
  ·have ghs0_1:=Z4 hs0_1
   refine Ev.step_out (by show L.length≤i;omega) ?_
   show Y6 _ _ _ _ _ (K0 _ (isX 0) (Ev.fam0 (⟨[(0,(.yld 6)),(7,(nI0 L.length)),(8,(nI0 i))],[],7,6,[(3,(.ptr 0 0)),(4,(.ptr 1 0)),(5,(.ptr 2 0)),(7,(.ptr 3 0))],[(0,(.cells [(.xl (y) (E.length) 1 (X4 E)),(.xl (yl) (L.length) 2 (cR L)),(.fn (.func 82) [] [(AV.xp q0 1 1 [AV.xl z M.length 1 (cI M)] 0),(AV.xp q1 1 1 [AV.xl zk K.length 1 (cI K)] 0)])] 85)),(1,(.cells [(.xl (yr) (P.length) 2 (cR P))] 23)),(2,(.cells [(.v (.bool (g)))] 4)),(3,(.cells [(.v (Value.slice none 0 0))] 27)),(5,(.defd .true))],.ready,none,35,O0 W2,N9 W2,O1 W2,5⟩:Ev.Lit1).lit (fun k=>(⟨[(0,(.yld 6)),(7,(nI0 L.length)),(8,(nI0 i))],[],9,6,[(3,(.ptr 0 0)),(4,(.ptr 1 0)),(5,(.ptr 2 0)),(7,(.ptr 3 0))],[(0,(.cells [(.xl (y) (E.length) 1 (X4 E)),(.xl (yl) (L.length) 2 (cR L)),(.fn (.func 82) [] [(AV.xp q0 1 1 [AV.xl z M.length 1 (cI M)] 0),(AV.xp q1 1 1 [AV.xl zk K.length 1 (cI K)] 0)])] 85)),(1,(.cells [(.xl (yr) (P.length) 2 (cR P))] 23)),(2,(.cells [(.v (.bool (g)))] 4)),(3,(.cells [(.slu 8 0 (k+1) 0)] 27)),(5,(.defd .true)),(8,(.row (cI (tI (X9 (cR P) (X5 (cI M) (cI K) L.length) g) i)) 2 1))],.ready,none,35,O0 W2,N9 W2,O1 W2,5⟩:Ev.Lit1).lit) (tI (X9 (cR P) (X5 (cI M) (cI K) L.length) g) i).length) _)
   rw [hc]
   exact I6 zC0q (Y4) 200 (T':=(⟨[(0,(.yld 6)),(7,(nI0 L.length)),(8,(nI0 i))],[],9,6,[(3,(.ptr 0 0)),(4,(.ptr 1 0)),(5,(.ptr 2 0)),(7,(.ptr 3 0))],[(0,(.cells [(.xl (y) (E.length) 1 (X4 E)),(.xl (yl) (L.length) 2 (cR L)),(.fn (.func 82) [] [(AV.xp q0 1 1 [AV.xl z M.length 1 (cI M)] 0),(AV.xp q1 1 1 [AV.xl zk K.length 1 (cI K)] 0)])] 85)),(1,(.cells [(.xl (yr) (P.length) 2 (cR P))] 23)),(2,(.cells [(.v (.bool (g)))] 4)),(3,(.cells [(.slu 8 0 (k+1) 0)] 27)),(5,(.defd .true)),(8,(.row (cI (tI (X9 (cR P) (X5 (cI M) (cI K) L.length) g) i)) 2 1))],.ready,none,35,O0 W2,N9 W2,O1 W2,5⟩:Ev.Lit1)) (e:=.exit 0) (ps:=[Y1 i L.length=false]) [.go,.b false] (by kernel_rfl) (by kernel_rfl) ⟨hs0_1,trivial⟩ rfl
theorem c3H(hAe:a0b K L M P):Y6 zP0q 16 b8h ((⟨[(0,(.yld 6)),(1,(.ptr 4 0))],[],7,6,[(3,(.ptr 0 0)),(4,(.ptr 1 0)),(5,(.ptr 2 0)),(7,(.ptr 3 0))],[(a3U E K L M q0 q1 y yl z zk),(a18 P yr),(a10 g),a4A,(b8d E K L M q0 q1 y yl z zk),(5,(.defd .true))],.ready,none,35,O0 W2,N9 W2,O1 W2,5⟩:Ev.Lit1).lit) (bw v 7 eb ec) (a1s 16 (fun _:Unit=>((⟨[],[],9,6,[(3,(.ptr 0 0)),(4,(.ptr 1 0)),(5,(.ptr 2 0)),(7,(.ptr 3 0))],[(a3U E K L M q0 q1 y yl z zk),(a18 P yr),(a10 g),(b2S K L M P g),(5,(.defd .true)),(b46 K L M P g)],.ready,none,35,O0 W2,N9 W2,O1 W2,5⟩:Ev.Lit1)).lit) (fun _:Unit=>True) (bw v 7 eb ec)):=by
 exact P5 (T':=(⟨[(0,(.yld 6)),(7,(nI0 L.length)),(8,(nN 0))],[],7,6,[(3,(.ptr 0 0)),(4,(.ptr 1 0)),(5,(.ptr 2 0)),(7,(.ptr 3 0))],[(a3U E K L M q0 q1 y yl z zk),(a18 P yr),(a10 g),a4A,(5,(.defd .true))],.ready,none,35,O0 W2,N9 W2,O1 W2,5⟩:Ev.Lit1).lit) (by kernel_rfl) (I6 zC0q (Y4) 200 (T':=(⟨[(0,(.yld 6)),(7,(nI0 L.length)),(8,(nN 0))],[],7,6,[(3,(.ptr 0 0)),(4,(.ptr 1 0)),(5,(.ptr 2 0)),(7,(.ptr 3 0))],[(a3U E K L M q0 q1 y yl z zk),(a18 P yr),(a10 g),a4A,(5,(.defd .true))],.ready,none,35,O0 W2,N9 W2,O1 W2,5⟩:Ev.Lit1)) (e:=.normal) (ps:=[]) (gH 5 []) (by kernel_rfl) (by kernel_rfl) trivial rfl) (c4R hAe)
@[reducible] def a1l(K:List Int)(L:List (Int×Int))(M:List Int)(P:List (Int×Int))(eb:Nat→Option Nat)(ec:Nat→Nat)(g:Bool)(v:BaseW):=(D3 zP0q Try.f90 35 ((.slu 0 0 L.length 0)) [(a1K K L M P g)] (bw v 0 eb ec))
theorem c80(hAe:a0b K L M P):Y6 zP0q 35 b5V ((c1E K L M P g)) (BaseW.H (bw v 0 eb ec) hs) (a1l K L M P eb ec g v):=by
 exact Z6 U0 (U8 zC0q (Y4) 200 (T':=⟨[(6,(.slu 0 0 ((a5c K L M P g).length) 0))],[],1,[(0,(a1K K L M P g))]⟩) (e:=.ret) (m:=6) (ps:=[]) [.go,.go] [5] [(.slu 5 0 ((a5c K L M P g).length) 0)] [(a1K K L M P g)] (by kernel_rfl) (by kernel_rfl) trivial rfl rfl (by decide) rfl ⟨Y9 rfl,trivial⟩ ⟨⟨by show 0<1;decide,Z1 (Z7 (Z5 _))⟩,trivial⟩) (o3 (r:=(.slu 0 0 ((a5c K L M P g).length) 0)) (ys:=[(a1K K L M P g)]) (by (rw [Y0])) (by rfl) (A4 (by kernel_rfl) (by kernel_rfl) rfl (.inr rfl)))
theorem c6g(hAe:a0b K L M P):Y6 zP0q 35 W2 ((a8L E K L M P g q0 q1 y yl yr z zk)) (BaseW.H (bw v 0 eb ec) hs) (Hd.AfterB zP0q 35 0 b5V (bw v 0 eb ec) (a1l K L M P eb ec g v)):=by
 refine V2 (T':=(a8L E K L M P g q0 q1 y yl yr z zk)) (by kernel_rfl) (by kernel_rfl) (by kernel_rfl) (by kernel_rfl) ?_
 exact m9 (T1:=(⟨[(0,(.yld 6)),(1,(.ptr 4 0))],[],7,6,[(3,(.ptr 0 0)),(4,(.ptr 1 0)),(5,(.ptr 2 0)),(7,(.ptr 3 0))],[(a3U E K L M q0 q1 y yl z zk),(a18 P yr),(a10 g),a4A,(b8d E K L M q0 q1 y yl z zk),(5,(.defd .true))],.ready,none,35,O0 W2,N9 W2,O1 W2,5⟩:Ev.Lit1)) (T2:=(fun _:Unit=>(⟨[],[],9,6,[(3,(.ptr 0 0)),(4,(.ptr 1 0)),(5,(.ptr 2 0)),(7,(.ptr 3 0))],[(a3U E K L M q0 q1 y yl z zk),(a18 P yr),(a10 g),(b2S K L M P g),(5,(.defd .true)),(b46 K L M P g)],.ready,none,35,O0 W2,N9 W2,O1 W2,5⟩:Ev.Lit1))) (T3:=fun _:Unit=>(c2z K L M P g)) (R:=(fun _:Unit=>True)) (k:=93) (l:=6) (szk:=16) (K:=7) (e:=fun _=>.normal) rfl (by kernel_rfl) Try.func93 (by kernel_rfl) (by kernel_rfl) (by kernel_rfl) (by kernel_rfl) (by kernel_rfl) (fun _ _=>rfl) (fun v eb ec=>c3H hAe) (fun _ _=>by kernel_rfl) (fun _ _=>a44 (T:=(c2z K L M P g)) (T':=(c1E K L M P g)) (m:=5) [0,1,2,3,4,8] [(.ptr 3 0)] [(b7H K L M P g),(a1K K L M P g)] rfl (by kernel_rfl) rfl rfl (by decide) (by kernel_rfl) (by kernel_rfl) ⟨X8 rfl,trivial⟩ ⟨⟨by show 3<6;decide,Z0 (Z9 (Y9 rfl) (Z3))⟩,⟨by show 5<6;decide,Z1 (Z7 (Z5 _))⟩,trivial⟩ ⟨(by show 3≠5;decide),(by show 8≠5;decide),trivial⟩ (Nat.zero_le _) (fun b h=>absurd h (Nat.not_lt_zero b)) (fun hs=>Hd.en_bn (c80 hAe)))
theorem c8z(hAe:a0b K L M P):Y6 zP0q 35 W2 ((a8L E K L M P g q0 q1 y yl yr z zk)) (BaseW.H (bw v 0 eb ec) hs) (Hd.AfterB zP0q 35 0 b5V (bw v 0 eb ec) (a1l K L M P eb ec g v)):=by
 exact c6g hAe
theorem c8C(hAe:a0b K L M P):Y6 zP0q 35 b6z ((a8L E K L M P g q0 q1 y yl yr z zk)) (BaseW.H (bw v 0 eb ec) hs) (Hd.AfterN zP0q 35 b5V (bw v 0 eb ec) (a1l K L M P eb ec g v)):=by
 exact Hd.goes_blkA (id:=0) (by kernel_rfl) (by kernel_rfl) (c8z hAe)
theorem c9r(hAe:a0b K L M P):Y6 zP0q 35 b6z ((a8L E K L M P g q0 q1 y yl yr z zk)) (BaseW.H (bw v 0 eb ec) hs) (Hd.AfterN zP0q 35 b5V (bw v 0 eb ec) (a1l K L M P eb ec g v)):=by
 exact c8C hAe
theorem c8p(hAe:a0b K L M P):Y6 zP0q 35 c28 ((b81 E K L M P g q0 q1 y yl yr z zk)) (BaseW.H (bw v 0 eb ec) hs) (Hd.AfterN zP0q 35 b5V (bw v 0 eb ec) (a1l K L M P eb ec g v)):=by
 refine Hd.goes_seqA (by kernel_rfl) ?_
 exact Z6 W3 (Z2 zC0q (Y4) 200 (T':=(a8L E K L M P g q0 q1 y yl yr z zk)) (e:=.normal) (ps:=[]) (gH 5 []) (by kernel_rfl) (by kernel_rfl) trivial rfl) (Hd.en_n (c9r hAe))
theorem d0Y(hAe:a0b K L M P):Y6 zP0q 35 c3t ((b81 E K L M P g q0 q1 y yl yr z zk)) (BaseW.H (bw v 0 eb ec) hs) (a1l K L M P eb ec g v):=by
 exact Hd.goes_seqA (by kernel_rfl) (c8p hAe)
theorem d04(hAe:a0b K L M P):Y6 zP0q 35 c8d ((c1l E K L M P g q0 q1 y yl yr z zk)) (BaseW.H (bw v 0 eb ec) hs) (a1l K L M P eb ec g v):=by
 refine Hd.goes_seqA (by kernel_rfl) ?_
 exact Z6 W3 (Z2 zC0q (Y4) 200 (T':=(b81 E K L M P g q0 q1 y yl yr z zk)) (e:=.normal) (ps:=[]) [.go] (by kernel_rfl) (by kernel_rfl) trivial rfl) (Hd.en_n (d0Y hAe))
end
theorem d0h(y:Value)(E:List (Value×List (Int×Int)))(yl:Value)(L:List (Int×Int))(q0 z:Value)(M:List Int)(q1 zk:Value)(K:List Int)(yr:Value)(P:List (Int×Int))(g:Bool)(hAe:a0b K L M P)(v:BaseW)(eb:Nat→Option Nat)(ec:Nat→Nat)(hs:List Nat):Y6 zP0q 35 c6Z (⟨[(0,(c27 E K L M q0 q1 y yl z zk)),(1,(.xl yr P.length 2 (cR P))),(2,(.v (.bool g)))],[],0,[]⟩) (BaseW.H (bw v 0 eb ec) hs) (a1l K L M P eb ec g v):=by
 refine Hd.goes_seqA (by kernel_rfl) ?_
 exact Z6 W3 (Z2 zC0q (Y4) 200 (T':=(c1l E K L M P g q0 q1 y yl yr z zk)) (e:=.normal) (ps:=[]) (gH 4 []) (by kernel_rfl) (by kernel_rfl) trivial rfl) (Hd.en_n (d04 hAe))
theorem d0P(y:Value)(E:List (Value×List (Int×Int)))(yl:Value)(L:List (Int×Int))(q0 z:Value)(M:List Int)(q1 zk:Value)(K:List Int)(yr:Value)(P:List (Int×Int))(g:Bool)(hn:1≤L.length∧L.length≤8)(hP:P.length=L.length)(hm:M.length=L.length)(hk:K.length=L.length)(hm1:∀ b,b<L.length → -1000≤Z8 (cI M) (b*1) - Z8 (cI K) (b*1)∧Z8 (cI M) (b*1) - Z8 (cI K) (b*1)≤1000):A8 zP0q 90 [(c27 E K L M q0 q1 y yl z zk),(.xl yr P.length 2 (cR P)),(.v (.bool g))] [] ((.slu 0 0 L.length 0)) [(a1K K L M P g)] :=
 N1 35 (by kernel_rfl) Try.func90 (by kernel_rfl) (by kernel_rfl) (by kernel_rfl) (fun v eb ec=>V2 (by kernel_rfl) (by kernel_rfl) (by kernel_rfl) (by kernel_rfl) (d0h y E yl L q0 z M q1 zk K yr P g ⟨hn,hP,hm,hk,hm1⟩ v eb ec []))
end
end Go.Proofs.Ytegmogadbnfbgaa
namespace Go.Proofs.Ytegmogadbnfbgaa
open Go Ev
noncomputable section
noncomputable def d0E:Code:=N6 Try.f64
set_option maxHeartbeats 16000000 in
theorem d0F(y:Value)(E:List (Value×List (Int×Int)))(yl:Value)(L:List (Int×Int))(z:Value)(M:List Int)(zk:Value)(K:List Int)(v:BaseW)(eb:Nat→Option Nat)(ec:Nat→Nat)(hs:List Nat):Y6 zP0q 10 d0E (⟨[(0,(.agg [.xl y E.length 1 (X4 E),.xl yl L.length 2 (cR L)])),(1,(.xl z M.length 1 (cI M))),(2,(.xl zk K.length 1 (cI K)))],[],0,[]⟩) (BaseW.H (bw v 0 eb ec) hs) (D3 zP0q Try.f64 10 ((.agg [.xl y E.length 1 (X4 E),.xl yl L.length 2 (cR L),.fn (.func 82) [] [.ptr 0 0,.ptr 1 0]])) [(.cells [.xl z M.length 1 (cI M)] 114),(.cells [.xl zk K.length 1 (cI K)] 114)] (bw v 0 eb ec)):=by
 have hcl_L:=Y8 L
 have hcl_M:=Y5 M
 have hcl_K:=Y5 K
 exact Z6 U0 (U8 zC0q (Y4) 200 (T':=⟨[(6,(.ptr 2 0))],[],3,[(0,(.cells [(.xl (z) (M.length) 1 (cI M))] 114)),(1,(.cells [(.xl (zk) (K.length) 1 (cI K))] 114)),(2,(.cells [(.xl (y) (E.length) 1 (X4 E)),(.xl (yl) (L.length) 2 (cR L)),(.fn (.func 82) [] [(.ptr 0 0),(.ptr 1 0)])] 85))]⟩) (e:=.ret) (m:=4) (ps:=[]) (gH 8 []) [1,2,3] [(.ptr 3 0)] [(.cells [(.xl (z) (M.length) 1 (cI M))] 114),(.cells [(.xl (zk) (K.length) 1 (cI K))] 114),(.cells [(.xl (y) (E.length) 1 (X4 E)),(.xl (yl) (L.length) 2 (cR L)),(.fn (.func 82) [] [(.ptr 1 0),(.ptr 2 0)])] 85)] (by kernel_rfl) (by kernel_rfl) trivial rfl rfl (by decide) rfl ⟨X8 rfl,trivial⟩ ⟨⟨by show 0<3;decide,Z0 (Z9 (V7 (Z7 (Z5 M))) (Z3))⟩,⟨by show 1<3;decide,Z0 (Z9 (V7 (Z7 (Z5 K))) (Z3))⟩,⟨by show 2<3;decide,Z0 (Z9 (V4 (X6 (Y2 _))) (Z9 (V7 (Z7 (Y7 L))) (Z9 (z6 (Z3) (Z9 (X8 rfl) (Z9 (X8 rfl) (Z3)))) (Z3))))⟩,trivial⟩) (o3 (r:=(.agg [(.xl (y) (E.length) 1 (X4 E)),(.xl (yl) (L.length) 2 (cR L)),(.fn (.func 82) [] [(.ptr 0 0),(.ptr 1 0)])])) (ys:=[(.cells [(.xl (z) (M.length) 1 (cI M))] 114),(.cells [(.xl (zk) (K.length) 1 (cI K))] 114)]) (by rfl) (by rfl) (A4 (by kernel_rfl) (by kernel_rfl) rfl (.inr rfl)))
theorem d0V(y:Value)(E:List (Value×List (Int×Int)))(yl:Value)(L:List (Int×Int))(z:Value)(M:List Int)(zk:Value)(K:List Int):A8 zP0q 64 [(.agg [.xl y E.length 1 (X4 E),.xl yl L.length 2 (cR L)]),(.xl z M.length 1 (cI M)),(.xl zk K.length 1 (cI K))] [] ((.agg [.xl y E.length 1 (X4 E),.xl yl L.length 2 (cR L),.fn (.func 82) [] [.ptr 0 0,.ptr 1 0]])) [(.cells [.xl z M.length 1 (cI M)] 114),(.cells [.xl zk K.length 1 (cI K)] 114)] :=
 N1 10 (by kernel_rfl) Try.func64 (by kernel_rfl) (by kernel_rfl) (by kernel_rfl) (fun v eb ec=>V2 (by kernel_rfl) (by kernel_rfl) (by kernel_rfl) (by kernel_rfl) (d0F y E yl L z M zk K v eb ec []))
end
end Go.Proofs.Ytegmogadbnfbgaa
namespace Go.Proofs.Ytegmogadbnfbgaa
open Go Ev
noncomputable section
def D7(c d:List AV)(n:Nat):Prop:=∀ b,b<n → -1000≤Z8 c (b*1) - Z8 d (b*1)∧Z8 c (b*1) - Z8 d (b*1)≤1000
def c8L:List Yw→Option (g8×List Prop):=fun vs =>
 match vs with
 |[.str [.ext a0,.ext a1,.fnc f0 cc],.one (.ext ar),.one (.ext ag)]=>match a0,a1,f0,cc with
  |.xl y m k1 cE,.xl yl n k2 cL,.func f,[.xl z r k5 cM,.xl zk s k6 cK]=>match ar,ag,Nat.beq f 82 with
   |.xl yr q kp cP,.v (.bool g),true=>some (.blk (fun i=>.slu i 0 n 0) (.row (cI (tI (X9 cP (X5 cM cK n) g) n)) 2 1),[T8 k1 cE m,W8 k2 n cL,Q3 k5 r cM,Q3 k6 s cK,W8 kp q cP,1≤n∧n≤8,q=n,r=n,s=n,D7 cM cK n])
   |_,_,_=>none
  |_,_,_,_=>none
 |_=>none
def d08:N4:=a0E 90 [.str [.ext,.ext,.fnc],.one .ext,.one .ext] c8L
theorem a2k:Known zP0q (clsO d08):=p9 (fun vs r ps h hp=>by
 unfold c8L at h
 split at h
 ·split at h
  ·split at h
   ·rename_i e1
    cases h
    obtain ⟨⟨rfl,E,rfl,rfl⟩,⟨rfl,L,rfl,rfl⟩,⟨rfl,M,rfl,rfl⟩,⟨rfl,K,rfl,rfl⟩,⟨rfl,P,rfl,rfl⟩,h1,h2,h3,h4,h5,-⟩:=hp
    rw [Nat.eq_of_beq_eq_true e1]
    refine ⟨⟨⟨R3 (H5 E),R3 (U7 (Y7 L)),⟨R3 (U7 (Z5 M)),R3 (U7 (Z5 K)),trivial⟩,trivial⟩,R3 (U7 (Y7 P)),a0n _,trivial⟩,⟨[[[],[],[undef,undef]],[[]],[[]]],⟨trivial,trivial,rfl,trivial⟩,trivial,trivial,trivial⟩,fun ys hy=>?_⟩
    match ys,hy with
    |[[x0,x1,[q0,q1]],zs1,zs2],_=>exact a0K (d0P _ E _ L q0 _ M q1 _ K _ P _ h1 h2 h3 h4 h5) (one_slu _ (Z5 _))
   ·cases h
  ·cases h
 ·cases h)
theorem c4C(y:Value)(E:List (Value×List (Int×Int)))(yl:Value)(L:List (Int×Int))(u v0:Value)(X0:List Int)(v1:Value)(X1:List Int)(v2:Value)(X2:List Int)(ul:Value)(Y:List Int)(q0 z:Value)(M:List Int)(q1 zk:Value)(K:List Int)(h8:L.length≤8)(h0:X0.length=L.length)(h1:X1.length=L.length)(h2:X2.length=L.length)(h3:Y.length=L.length)(h4:M.length=L.length)(h5:K.length=L.length)
  (m0:∀ b,b<L.length→0≤Z8 (cI X0) (b*1)∧Z8 (cI X0) (b*1)≤100) (m1:∀ b,b<L.length→0≤Z8 (cI X1) (b*1)∧Z8 (cI X1) (b*1)≤100) (m2:∀ b,b<L.length→0≤Z8 (cI X2) (b*1)∧Z8 (cI X2) (b*1)≤100) (m3:∀ b,b<L.length→0≤Z8 (cI Y) (b*1)∧Z8 (cI Y) (b*1)≤100) (m4:D7 (cI M) (cI K) L.length) :
  GivesA zP0q 54 [.agg [.xl y E.length 1 (X4 E),.xl yl L.length 2 (cR L),.fn (.func 82) [] [.xp q0 1 1 [.xl z M.length 1 (cI M)] 0,.xp q1 1 1 [.xl zk K.length 1 (cI K)] 0]],.agg [.xl u 3 1 [.xl v0 X0.length 1 (cI X0),.xl v1 X1.length 1 (cI X1),.xl v2 X2.length 1 (cI X2)],.xl ul Y.length 1 (cI Y)]] (.agg #[.int .i64 (S2 (H8 (cI X0) (cI X1) (cI X2) (cI Y) (X5 (cI M) (cI K) L.length) 0) L.length),.int .i64 (S2 (H8 (cI X0) (cI X1) (cI X2) (cI Y) (X5 (cI M) (cI K) L.length) 1) L.length),.int .i64 (S2 (H8 (cI X0) (cI X1) (cI X2) (cI Y) (X5 (cI M) (cI K) L.length) 2) L.length)]):=by
 have hg:=d0d y E yl L u [(v0,X0),(v1,X1),(v2,X2)] ul Y q0 z M q1 zk K h8 rfl (fun i hi=>by match i,hi with|0,_=>exact h0|1,_=>exact h1|2,_=>exact h2) h3 h4 h5 (fun i hi b hb=>by match i,hi with|0,_=>exact m0 b hb|1,_=>exact m1 b hb|2,_=>exact m2 b hb) m3 m4
 rw [a8P (by decide),a8P (by decide),a8P (by decide)] at hg
 exact hg
def a9Y(c0 c1 c2 cY:List AV)(n:Nat):Prop:=(∀ b,b<n→0≤Z8 c0 (b*1)∧Z8 c0 (b*1)≤100)∧(∀ b,b<n→0≤Z8 c1 (b*1)∧Z8 c1 (b*1)≤100)∧(∀ b,b<n→0≤Z8 c2 (b*1)∧Z8 c2 (b*1)≤100)∧(∀ b,b<n→0≤Z8 cY (b*1)∧Z8 cY (b*1)≤100)
def c6a:List Yw→Option (g8×List Prop):=fun vs =>
 match vs with
 |[.str [.ext a0,.ext a1,.fnc f0 cc],.str [.lls mx k3 rows,.lst nx k4 cY]]=>match a0,a1,f0,cc with
  |.xl y m k1 cE,.xl yl n k2 cL,.func f,[.xl z r k5 cM,.xl zk s k6 cK]=>match Nat.beq f 82,rows with
   |true,[(n0,c0),(n1,c1),(n2,c2)]=>some (.val (.agg [.v (.int .i64 (S2 (H8 c0 c1 c2 cY (X5 cM cK n) 0) n)),.v (.int .i64 (S2 (H8 c0 c1 c2 cY (X5 cM cK n) 1) n)),.v (.int .i64 (S2 (H8 c0 c1 c2 cY (X5 cM cK n) 2) n))]),[T8 k1 cE m,W8 k2 n cL,Q3 k5 r cM,Q3 k6 s cK,n≤8,IsC k3 n0 c0,IsC k3 n1 c1,IsC k3 n2 c2,IsC k4 nx cY,n0=n,n1=n,n2=n,nx=n,r=n,s=n,Is3 mx,a9Y c0 c1 c2 cY n,D7 cM cK n])
   |_,_=>none
  |_,_,_,_=>none
 |_=>none
def d13:N4:=a0E 54 [.str [.ext,.ext,.fnc],.str [.lls 0,.lst 0]] c6a
theorem a2z:Known zP0q (clsO d13):=p9 (fun vs r ps h hp=>by
 unfold c6a at h
 split at h
 ·split at h
  ·split at h
   ·rename_i e1
    cases h
    obtain ⟨⟨rfl,E,rfl,rfl⟩,⟨rfl,L,rfl,rfl⟩,⟨rfl,M,rfl,rfl⟩,⟨rfl,K,rfl,rfl⟩,h8,⟨rfl,X0,rfl,rfl⟩,⟨-,X1,rfl,rfl⟩,⟨-,X2,rfl,rfl⟩,⟨rfl,Y,rfl,rfl⟩,h0,h1,h2,h3,h4,h5,rfl,⟨m0,m1,m2,m3⟩,m4,-⟩:=hp
    rw [Nat.eq_of_beq_eq_true e1]
    refine ⟨⟨⟨R3 (H5 E),R3 (U7 (Y7 L)),⟨R3 (U7 (Z5 M)),R3 (U7 (Z5 K)),trivial⟩,trivial⟩,⟨⟨⟨_,Z5 X0⟩,⟨_,Z5 X1⟩,⟨_,Z5 X2⟩,trivial⟩,⟨_,Z5 Y⟩,trivial⟩,trivial⟩,⟨[[[],[],[undef,undef]],[[undef,undef,undef,undef],[undef]]],⟨trivial,trivial,rfl,trivial⟩,⟨rfl,trivial,trivial⟩,trivial⟩,fun ys hy=>?_⟩
    match ys,hy with
    |[[x0,x1,[q0,q1]],[[u,v0,v1,v2],us]],_ =>
     refine ⟨_,rfl,?_⟩
     exact c4C _ E _ L u v0 X0 v1 X1 v2 X2 _ Y q0 _ M q1 _ K h8 h0 h1 h2 h3 h4 h5 m0 m1 m2 m3 m4
   ·cases h
  ·cases h
 ·cases h)
def lbS:List AV→List AB→Option ((AV×List AB)×List Prop):=fun args xs =>
 match args,xs with
 |[.agg [.xl y m k1 cE,.xl yl n k2 cL],.xl z r k5 cM,.xl zk s k6 cK],[]=>some ((.agg [.xl y m k1 cE,.xl yl n k2 cL,.fn (.func 82) [] [.ptr 0 0,.ptr 1 0]],[.cells [.xl z r k5 cM] 114,.cells [.xl zk s k6 cK] 114]),[T8 k1 cE m,W8 k2 n cL,Q3 k5 r cM,Q3 k6 s cK])
 |_,_=>none
def lbO:N4:=a7V 64 lbS
theorem a4b:Known zP0q (clsO lbO):=a1c (fun args xs r ys ps h hp=>by
 unfold lbS at h
 split at h
 ·cases h
  obtain ⟨⟨rfl,E,rfl,rfl⟩,⟨rfl,L,rfl,rfl⟩,⟨rfl,M,rfl,rfl⟩,⟨rfl,K,rfl,rfl⟩,-⟩:=hp
  refine ⟨fun x hx=>absurd hx List.not_mem_nil,fun x hx=>?_,d0V _ E _ L _ M _ K⟩
  rcases List.mem_cons.1 hx with rfl|hx
  ·exact u9 (X6 (Y3 (Z5 M)))
  ·rw [List.mem_singleton.1 hx]
   exact u9 (X6 (Y3 (Z5 K)))
 ·cases h)
end
end Go.Proofs.Ytegmogadbnfbgaa
namespace Go.Proofs.Ytegmogadbnfbgaa
open Go Ev
noncomputable section
section
variable (L : List (Int × Int)) (M : List Int) (P0 P1 P2 : List (Int × Int)) (v0 v1 v2 : Value)
@[reducible] def b25:Ev.AB:=(.row [(nI0 (S7 (cR P0) (cR P1) (cR P2) (cR L) (cI M) L.length false 0)),(nI0 (S7 (cR P0) (cR P1) (cR P2) (cR L) (cI M) L.length true 0)),(nI0 (S7 (cR P0) (cR P1) (cR P2) (cR L) (cI M) L.length false 1)),(nI0 (S7 (cR P0) (cR P1) (cR P2) (cR L) (cI M) L.length true 1)),(nI0 (S7 (cR P0) (cR P1) (cR P2) (cR L) (cI M) L.length false 2)),(nI0 (S7 (cR P0) (cR P1) (cR P2) (cR L) (cI M) L.length true 2))] 65 2)
@[reducible] def b8v:Ev.AB:=(.row [nI0 (S7 (cR P0) (cR P1) (cR P2) (cR L) (cI M) L.length false 0),nI0 (S7 (cR P0) (cR P1) (cR P2) (cR L) (cI M) L.length true 0),nI0 (S7 (cR P0) (cR P1) (cR P2) (cR L) (cI M) L.length false 1),nI0 (S7 (cR P0) (cR P1) (cR P2) (cR L) (cI M) L.length true 1),nI0 (S7 (cR P0) (cR P1) (cR P2) (cR L) (cI M) L.length false 2),nI0 (S7 (cR P0) (cR P1) (cR P2) (cR L) (cI M) L.length true 2)] 65 2)
@[reducible] def a3a:List Ev.AV:=[AV.xl v0 P0.length 2 (cR P0),AV.xl v1 P1.length 2 (cR P1),AV.xl v2 P2.length 2 (cR P2)]
@[reducible] def b0g:List Ev.AV:=[.xl v0 P0.length 2 (cR P0),.xl v1 P1.length 2 (cR P1),.xl v2 P2.length 2 (cR P2)]
end
noncomputable def c2L:Code:=N6 Try.f18
set_option maxHeartbeats 16000000 in
theorem c4x(y v0:Value)(P0:List (Int×Int))(v1:Value)(P1:List (Int×Int))(v2:Value)(P2:List (Int×Int))(yl:Value)(L:List (Int×Int))(z:Value)(M:List Int)(hM3:M.length≤1000)(hC:E4 (b0g P0 P1 P2 v0 v1 v2) 3 (cR L) L.length=0)(hH:G4 L.length (cI M) M.length=0)(v:BaseW)(eb:Nat→Option Nat)(ec:Nat→Nat)(hs:List Nat):Y6 zP0q 18 c2L (⟨[(0,(.agg [.xl y 3 1 (b0g P0 P1 P2 v0 v1 v2),.xl yl L.length 2 (cR L)])),(1,(.xl z M.length 1 (cI M)))],[],0,[]⟩) (BaseW.H (bw v 0 eb ec) hs) (D3 zP0q Try.f18 18 ((.tup [.slu 0 0 3 0,nI0 0])) [(b8v L M P0 P1 P2)] (bw v 0 eb ec)):=by
 have hcl_P0:=Y8 P0
 have hcl_P1:=Y8 P1
 have hcl_P2:=Y8 P2
 have hcl_L:=Y8 L
 have hcl_M:=Y5 M
 obtain ⟨hn,hm3,hrow,hlam,hcur⟩:=S8 hC
 have hH1:=(V5 hH).1
 have hH2:∀ b,b<L.length→0≤Z8 (cI M) (b*1)∧Z8 (cI M) (b*1)≤1000:=fun b hb=>afB_true.1 (V5 hH).2 b (by omega)
 rcases zB0q (L4 (E4 (a3a P0 P1 P2 v0 v1 v2) 3 (cR L) L.length) 0) with hqspoo3_1|hqspoo3_1
 ·have ghqspoo3_1:=U3 hqspoo3_1
  rcases zB0q (L4 M.length L.length) with hqspoo3_2|hqspoo3_2
  ·have ghqspoo3_2:=U3 hqspoo3_2
   rcases zB0q (afB 0 1000 (cI M) M.length) with hqspoo3_3|hqspoo3_3
   ·exact Z6 U0 (U8 zC0q (W1 (W1 a7 a02) (W1 b8o b5E)) 200 (T':=⟨[(4,(.slu 0 0 3 0)),(5,(nN 0))],[],1,[(0,(b25 L M P0 P1 P2))]⟩) (e:=.ret) (m:=4) (ps:=[T8 1 (a3a P0 P1 P2 v0 v1 v2) 3,W8 2 L.length (cR L),((3:Nat)≤1000),(!L4 (E4 (a3a P0 P1 P2 v0 v1 v2) 3 (cR L) L.length) 0)=false,Y1 0 1=true,(!L4 M.length L.length)=false,Q3 1 M.length (cI M),M.length≤1000,(!afB 0 1000 (cI M) M.length)=false,L3 IntKind.i64 (0+1),Y1 (0+1) 1=false,(!L4 0 0)=false,U2 (a3a P0 P1 P2 v0 v1 v2),U2 (cR L),U2 (cI M),T8 1 (a3a P0 P1 P2 v0 v1 v2) 3,W8 2 L.length (cR L),Q3 1 M.length (cI M),U2 (a3a P0 P1 P2 v0 v1 v2),U2 (cR L),U2 (cI M),U2 (a3a P0 P1 P2 v0 v1 v2),U2 (cR L),U2 (cI M),W8 2 L.length (cR L),Q3 1 M.length (cI M),W8 2 P0.length (cR P0),W8 2 P1.length (cR P1),W8 2 P2.length (cR P2),1≤L.length∧L.length≤8,P0.length=L.length,P1.length=L.length,P2.length=L.length,M.length=L.length,Is1 1,Is3 3,c6c (cR P0) (cR P1) (cR P2) (cR L) (cI M) L.length]) (gH 12 ([.b false]++gH 4 ([.b true]++gH 9 ([.b false,.go,.go,.b false,.go,.go,.go,.b false]++gH 4 ([.b false]++gH 4 []))))) [3] [(.slu 3 0 3 0),(nN 0)] [(b25 L M P0 P1 P2)] (by kernel_rfl) (by kernel_rfl) ⟨⟨rfl,[(v0,P0),(v1,P1),(v2,P2)],rfl,rfl⟩,⟨rfl,L,rfl,rfl⟩,(by decide),(by rw [hqspoo3_1];rfl),rfl,(by rw [hqspoo3_2];rfl),⟨rfl,M,rfl,rfl⟩,(by omega),(by rw [hqspoo3_3];rfl),(by show -9223372036854775808≤(_:Int)∧(_:Int)≤9223372036854775807;constructor<;>decide),rfl,rfl,(Y2 [(v0,P0),(v1,P1),(v2,P2)]),(Y3 (Y7 _)),(Y3 (Z5 _)),⟨rfl,[(v0,P0),(v1,P1),(v2,P2)],rfl,rfl⟩,⟨rfl,L,rfl,rfl⟩,⟨rfl,M,rfl,rfl⟩,(Y2 [(v0,P0),(v1,P1),(v2,P2)]),(Y3 (Y7 _)),(Y3 (Z5 _)),(Y2 [(v0,P0),(v1,P1),(v2,P2)]),(Y3 (Y7 _)),(Y3 (Z5 _)),⟨rfl,L,rfl,rfl⟩,⟨rfl,M,rfl,rfl⟩,⟨rfl,P0,rfl,rfl⟩,⟨rfl,P1,rfl,rfl⟩,⟨rfl,P2,rfl,rfl⟩,hn,(hrow 0 (by decide)),(hrow 1 (by decide)),(hrow 2 (by decide)),hH1,rfl,rfl,⟨hlam,hcur 0 (by decide),hcur 1 (by decide),hcur 2 (by decide),hH2⟩,trivial⟩ rfl rfl (by decide) rfl ⟨Y9 rfl,W0 _,trivial⟩ ⟨⟨by show 0<1;decide,Z1 (Z9 (W0 _) (Z9 (W0 _) (Z9 (W0 _) (Z9 (W0 _) (Z9 (W0 _) (Z9 (W0 _) (Z3)))))))⟩,trivial⟩) (o3 (r:=(.tup [(.slu 0 0 3 0),(nN 0)])) (ys:=[(b25 L M P0 P1 P2)]) (by rfl) (by rfl) (A4 (by kernel_rfl) (by kernel_rfl) rfl (.inr rfl)))
   ·exact absurd (V5 hH).2 (by rw [hqspoo3_3];decide)
  ·have ghqspoo3_2:=Q6 hqspoo3_2
   exfalso
   have h9:=(V5 hH).1
   have h8:=Q6 hqspoo3_2
   omega
 ·have ghqspoo3_1:=Q6 hqspoo3_1
  exact absurd hC (Q6 hqspoo3_1)
theorem b7L(y v0:Value)(P0:List (Int×Int))(v1:Value)(P1:List (Int×Int))(v2:Value)(P2:List (Int×Int))(yl:Value)(L:List (Int×Int))(z:Value)(M:List Int)(hM3:M.length≤1000)(hC:E4 (b0g P0 P1 P2 v0 v1 v2) 3 (cR L) L.length=0)(hH:G4 L.length (cI M) M.length=0):A8 zP0q 18 [(.agg [.xl y 3 1 (b0g P0 P1 P2 v0 v1 v2),.xl yl L.length 2 (cR L)]),(.xl z M.length 1 (cI M))] [] ((.tup [.slu 0 0 3 0,nI0 0])) [(b8v L M P0 P1 P2)] :=
 N1 18 (by kernel_rfl) Try.func18 (by kernel_rfl) (by kernel_rfl) (by kernel_rfl) (fun v eb ec=>V2 (by kernel_rfl) (by kernel_rfl) (by kernel_rfl) (by kernel_rfl) (c4x y v0 P0 v1 P1 v2 P2 yl L z M hM3 hC hH v eb ec []))
end
end Go.Proofs.Ytegmogadbnfbgaa
namespace Go.Proofs.Ytegmogadbnfbgaa
open Go Ev
noncomputable section
def gwP(c:List AV)(m n:Nat):Prop:=12<n∨6<m∨∃ i,i<m∧12<J2 c (i*1)
open Classical in
def gwB(c:List AV)(m n:Nat):Bool:=decide (gwP c m n)
theorem gwB_true{c:List AV}{m n:Nat}:gwB c m n=true↔gwP c m n:=@decide_eq_true_iff _ (Classical.propDecidable _)
theorem gwB_false{c:List AV}{m n:Nat}:gwB c m n=false↔¬ gwP c m n:=@decide_eq_false_iff_not _ (Classical.propDecidable _)
theorem a78{c:List AV}{m n:Nat}(h:12<n∨6<m):gwB c m n=true:=gwB_true.2 (h.elim .inl (fun h=>.inr (.inl h)))
theorem c0K{c:List AV}{m n i:Nat}(hi:i<m)(h:12<J2 c (i*1)):gwB c m n=true:=gwB_true.2 (.inr (.inr ⟨i,hi,h⟩))
theorem c5n{c:List AV}{m n:Nat}(h:¬ (12<n∨6<m))(h2:∀ i,i<m→¬ 12<J2 c (i*1)):gwB c m n=false:=gwB_false.2 (fun k=>by
 rcases k with k|k|⟨i,k1,k2⟩
 ·exact h (.inl k)
 ·exact h (.inr k)
 ·exact h2 i k1 k2)
theorem c2j{c:List AV}{m n:Nat}(h:¬ gwB c m n=true):m≤6:=by
 rcases Nat.lt_or_ge 6 m with k|k
 ·exact absurd (a78 (.inr k)) h
 ·exact k
end
end Go.Proofs.Ytegmogadbnfbgaa
namespace Go.Proofs.Ytegmogadbnfbgaa
open Go Ev
noncomputable section
def a0H(e1 e2 e3:Int):Int:=if e1=0 then (if e2=0 then e3 else e2) else e1
theorem c1s{e1 e2 e3:Int}(h:¬ e1=0):a0H e1 e2 e3=e1:=if_neg h
theorem b7V{e1 e2 e3:Int}(h:e1=0)(h2:¬ e2=0):a0H e1 e2 e3=e2:=by
 unfold a0H;rw [if_pos h,if_neg h2]
theorem a3G{e1 e2 e3:Int}(h:e1=0)(h2:e2=0):a0H e1 e2 e3=e3:=by
 unfold a0H;rw [if_pos h,if_pos h2]
theorem a4w{e1 e2 e3:Int}(h:a0H e1 e2 e3=0):e1=0∧e2=0∧e3=0:=by
 by_cases h1:e1=0
 ·by_cases h2:e2=0
  ·rw [a3G h1 h2] at h;exact ⟨h1,h2,h⟩
  ·rw [b7V h1 h2] at h;exact absurd h h2
 ·rw [c1s h1] at h;exact absurd h h1
theorem J3{M K:List Int}{n:Nat}(h1:G4 n (cI M) M.length=0)(h2:G4 n (cI K) K.length=0):D7 (cI M) (cI K) n:=fun b hb=>by
 have a1:=afB_true.1 (V5 h1).2 b (by have:=(V5 h1).1;omega)
 have a2:=afB_true.1 (V5 h2).2 b (by have:=(V5 h2).1;omega)
 omega
theorem a3w{c0 c1 c2 cL d:List AV}{g:Bool}{n:Nat}(h0:∀ b,b<n→X7 100 c0 b)(h1:∀ b,b<n→X7 100 c1 b)(h2:∀ b,b<n→X7 100 c2 b)(h3:∀ b,b<n→X7 100 cL b):a9Y (cI (tI (X9 c0 d g) n)) (cI (tI (X9 c1 d g) n)) (cI (tI (X9 c2 d g) n)) (cI (tI (X9 cL d g) n)) n:=by
 refine ⟨fun b hb=>?_,fun b hb=>?_,fun b hb=>?_,fun b hb=>?_⟩
 ·rw [Nat.mul_one,w9 hb];exact a21 (h0 b hb)
 ·rw [Nat.mul_one,w9 hb];exact a21 (h1 b hb)
 ·rw [Nat.mul_one,w9 hb];exact a21 (h2 b hb)
 ·rw [Nat.mul_one,w9 hb];exact a21 (h3 b hb)
end
end Go.Proofs.Ytegmogadbnfbgaa
namespace Go.Proofs.Ytegmogadbnfbgaa
open Go Ev
noncomputable section
noncomputable def d03:Code:=N6 Try.f51
set_option maxHeartbeats 16000000 in
theorem d0A(y:Value)(E:List (Value×List (Int×Int)))(yl:Value)(L:List (Int×Int))(u z:Value)(M:List Int)(zk:Value)(K:List Int)(hE3:E.length≤1000)(hM3:M.length≤1000)(hK3:K.length≤1000)(w:World)(hs:List Nat):Y6 zP0q 29 d03 (⟨[(0,(.agg [.xl y E.length 1 (X4 E),.xl yl L.length 2 (cR L)])),(1,(.xl u 2 1 [.xl z M.length 1 (cI M),.xl zk K.length 1 (cI K)]))],[],0,[]⟩) (BaseW.H w hs) (H2 zP0q Try.f51 29 (.int .i64 (a0H (E4 (X4 E) E.length (cR L) L.length) (G4 L.length (cI M) M.length) (G4 L.length (cI K) K.length))) w):=by
 have hcl_L:=Y8 L
 have hcl_M:=Y5 M
 have hcl_K:=Y5 K
 rcases zB0q (L4 (E4 (X4 E) E.length (cR L) L.length) 0) with hqcx3_1|hqcx3_1
 ·have ghqcx3_1:=U3 hqcx3_1
  rcases zB0q (L4 M.length L.length) with hqcx3_2|hqcx3_2
  ·have ghqcx3_2:=U3 hqcx3_2
   rcases zB0q (afB 0 1000 (cI M) M.length) with hqcx3_3|hqcx3_3
   ·rcases zB0q (L4 K.length L.length) with hqcx3_4|hqcx3_4
    ·have ghqcx3_4:=U3 hqcx3_4
     rcases zB0q (afB 0 1000 (cI K) K.length) with hqcx3_5|hqcx3_5
     ·exact Z6 U0 (Z2 zC0q (W1 a7 a02) 200 (T':=⟨[(4,(nN 0))],[],1,[]⟩) (e:=.ret) (ps:=[T8 1 (X4 E) E.length,W8 2 L.length (cR L),E.length≤1000,(!L4 (E4 (X4 E) E.length (cR L) L.length) 0)=false,Y1 0 2=true,(!L4 M.length L.length)=false,Q3 1 M.length (cI M),M.length≤1000,(!afB 0 1000 (cI M) M.length)=false,L3 IntKind.i64 (0+1),Y1 (0+1) 2=true,(!L4 K.length L.length)=false,Q3 1 K.length (cI K),K.length≤1000,(!afB 0 1000 (cI K) K.length)=false,L3 IntKind.i64 (0+1+1),Y1 (0+1+1) 2=false]) (gH 6 ([.b false]++gH 4 ([.b true]++gH 9 ([.b false,.go,.go,.b false,.go,.go,.go,.b true]++gH 9 [.b false,.go,.go,.b false,.go,.go,.go,.b false,.go])))) (by kernel_rfl) (by kernel_rfl) ⟨⟨rfl,E,rfl,rfl⟩,⟨rfl,L,rfl,rfl⟩,hE3,(by rw [hqcx3_1];rfl),rfl,(by rw [hqcx3_2];rfl),⟨rfl,M,rfl,rfl⟩,(by omega),(by rw [hqcx3_3];rfl),(by show -9223372036854775808≤(_:Int)∧(_:Int)≤9223372036854775807;constructor<;>decide),rfl,(by rw [hqcx3_4];rfl),⟨rfl,K,rfl,rfl⟩,(by omega),(by rw [hqcx3_5];rfl),(by show -9223372036854775808≤(_:Int)∧(_:Int)≤9223372036854775807;constructor<;>decide),rfl,trivial⟩ rfl) (Hd.en_eq (r:=(.int .i64 0)) (by (rw [a3G (U3 hqcx3_1) (a73 (by have h9:=U3 hqcx3_2;omega) hqcx3_3),(a73 (by have h9:=U3 hqcx3_4;omega) hqcx3_5)])) (Hd.en_ret (v:=(nN 0)) (by kernel_rfl) rfl))
     ·exact Z6 U0 (Z2 zC0q (W1 a7 a02) 200 (T':=⟨[(4,(nN 2))],[],1,[]⟩) (e:=.ret) (ps:=[T8 1 (X4 E) E.length,W8 2 L.length (cR L),E.length≤1000,(!L4 (E4 (X4 E) E.length (cR L) L.length) 0)=false,Y1 0 2=true,(!L4 M.length L.length)=false,Q3 1 M.length (cI M),M.length≤1000,(!afB 0 1000 (cI M) M.length)=false,L3 IntKind.i64 (0+1),Y1 (0+1) 2=true,(!L4 K.length L.length)=false,Q3 1 K.length (cI K),K.length≤1000,(!afB 0 1000 (cI K) K.length)=true]) (gH 6 ([.b false]++gH 4 ([.b true]++gH 9 ([.b false,.go,.go,.b false,.go,.go,.go,.b true]++gH 9 [.b false,.go,.go,.b true,.go])))) (by kernel_rfl) (by kernel_rfl) ⟨⟨rfl,E,rfl,rfl⟩,⟨rfl,L,rfl,rfl⟩,hE3,(by rw [hqcx3_1];rfl),rfl,(by rw [hqcx3_2];rfl),⟨rfl,M,rfl,rfl⟩,(by omega),(by rw [hqcx3_3];rfl),(by show -9223372036854775808≤(_:Int)∧(_:Int)≤9223372036854775807;constructor<;>decide),rfl,(by rw [hqcx3_4];rfl),⟨rfl,K,rfl,rfl⟩,(by omega),(by rw [hqcx3_5];rfl),trivial⟩ rfl) (Hd.en_eq (r:=(.int .i64 2)) (by (rw [a3G (U3 hqcx3_1) (a73 (by have h9:=U3 hqcx3_2;omega) hqcx3_3),a3Y (n:=L.length) (d:=cI K) (k:=K.length) (by have h9:=U3 hqcx3_4;omega) (by rw [hqcx3_5];decide)])) (Hd.en_ret (v:=(nN 2)) (by kernel_rfl) rfl))
    ·have ghqcx3_4:=Q6 hqcx3_4
     exact Z6 U0 (Z2 zC0q (W1 a7 a02) 200 (T':=⟨[(4,(nN 15))],[],1,[]⟩) (e:=.ret) (ps:=[T8 1 (X4 E) E.length,W8 2 L.length (cR L),E.length≤1000,(!L4 (E4 (X4 E) E.length (cR L) L.length) 0)=false,Y1 0 2=true,(!L4 M.length L.length)=false,Q3 1 M.length (cI M),M.length≤1000,(!afB 0 1000 (cI M) M.length)=false,L3 IntKind.i64 (0+1),Y1 (0+1) 2=true,(!L4 K.length L.length)=true]) (gH 6 ([.b false]++gH 4 ([.b true]++gH 9 ([.b false,.go,.go,.b false,.go,.go,.go,.b true]++gH 9 [.b true,.go])))) (by kernel_rfl) (by kernel_rfl) ⟨⟨rfl,E,rfl,rfl⟩,⟨rfl,L,rfl,rfl⟩,hE3,(by rw [hqcx3_1];rfl),rfl,(by rw [hqcx3_2];rfl),⟨rfl,M,rfl,rfl⟩,(by omega),(by rw [hqcx3_3];rfl),(by show -9223372036854775808≤(_:Int)∧(_:Int)≤9223372036854775807;constructor<;>decide),rfl,(by rw [hqcx3_4];rfl),trivial⟩ rfl) (Hd.en_eq (r:=(.int .i64 15)) (by (rw [a3G (U3 hqcx3_1) (a73 (by have h9:=U3 hqcx3_2;omega) hqcx3_3),a6d (n:=L.length) (d:=cI K) (k:=K.length) (by have h9:=Q6 hqcx3_4;omega)])) (Hd.en_ret (v:=(nN 15)) (by kernel_rfl) rfl))
   ·exact Z6 U0 (Z2 zC0q (W1 a7 a02) 200 (T':=⟨[(4,(nN 2))],[],1,[]⟩) (e:=.ret) (ps:=[T8 1 (X4 E) E.length,W8 2 L.length (cR L),E.length≤1000,(!L4 (E4 (X4 E) E.length (cR L) L.length) 0)=false,Y1 0 2=true,(!L4 M.length L.length)=false,Q3 1 M.length (cI M),M.length≤1000,(!afB 0 1000 (cI M) M.length)=true]) (gH 6 ([.b false]++gH 4 ([.b true]++gH 9 [.b false,.go,.go,.b true,.go]))) (by kernel_rfl) (by kernel_rfl) ⟨⟨rfl,E,rfl,rfl⟩,⟨rfl,L,rfl,rfl⟩,hE3,(by rw [hqcx3_1];rfl),rfl,(by rw [hqcx3_2];rfl),⟨rfl,M,rfl,rfl⟩,(by omega),(by rw [hqcx3_3];rfl),trivial⟩ rfl) (Hd.en_eq (r:=(.int .i64 2)) (by (rw [b7V (U3 hqcx3_1) (by rw [a3Y (n:=L.length) (d:=cI M) (k:=M.length) (by have h9:=U3 hqcx3_2;omega) (by rw [hqcx3_3];decide)];decide),a3Y (n:=L.length) (d:=cI M) (k:=M.length) (by have h9:=U3 hqcx3_2;omega) (by rw [hqcx3_3];decide)])) (Hd.en_ret (v:=(nN 2)) (by kernel_rfl) rfl))
  ·have ghqcx3_2:=Q6 hqcx3_2
   exact Z6 U0 (Z2 zC0q (W1 a7 a02) 200 (T':=⟨[(4,(nN 15))],[],1,[]⟩) (e:=.ret) (ps:=[T8 1 (X4 E) E.length,W8 2 L.length (cR L),E.length≤1000,(!L4 (E4 (X4 E) E.length (cR L) L.length) 0)=false,Y1 0 2=true,(!L4 M.length L.length)=true]) (gH 6 ([.b false]++gH 4 ([.b true]++gH 9 [.b true,.go]))) (by kernel_rfl) (by kernel_rfl) ⟨⟨rfl,E,rfl,rfl⟩,⟨rfl,L,rfl,rfl⟩,hE3,(by rw [hqcx3_1];rfl),rfl,(by rw [hqcx3_2];rfl),trivial⟩ rfl) (Hd.en_eq (r:=(.int .i64 15)) (by (rw [b7V (U3 hqcx3_1) (by rw [a6d (n:=L.length) (d:=cI M) (k:=M.length) (by have h9:=Q6 hqcx3_2;omega)];decide),a6d (n:=L.length) (d:=cI M) (k:=M.length) (by have h9:=Q6 hqcx3_2;omega)])) (Hd.en_ret (v:=(nN 15)) (by kernel_rfl) rfl))
 ·have ghqcx3_1:=Q6 hqcx3_1
  exact Z6 U0 (Z2 zC0q (W1 a7 a02) 200 (T':=⟨[(4,(nI0 (E4 (X4 E) E.length (cR L) L.length)))],[],1,[]⟩) (e:=.ret) (ps:=[T8 1 (X4 E) E.length,W8 2 L.length (cR L),E.length≤1000,(!L4 (E4 (X4 E) E.length (cR L) L.length) 0)=true]) (gH 6 [.b true,.go,.go]) (by kernel_rfl) (by kernel_rfl) ⟨⟨rfl,E,rfl,rfl⟩,⟨rfl,L,rfl,rfl⟩,hE3,(by rw [hqcx3_1];rfl),trivial⟩ rfl) (Hd.en_eq (r:=(.int .i64 (E4 (X4 E) E.length (cR L) L.length))) (by (rw [c1s (Q6 hqcx3_1)])) (Hd.en_ret (v:=(nI0 (E4 (X4 E) E.length (cR L) L.length))) (by kernel_rfl) rfl))
theorem d02(y:Value)(E:List (Value×List (Int×Int)))(yl:Value)(L:List (Int×Int))(u z:Value)(M:List Int)(zk:Value)(K:List Int)(hE3:E.length≤1000)(hM3:M.length≤1000)(hK3:K.length≤1000):GivesA zP0q 51 [(.agg [.xl y E.length 1 (X4 E),.xl yl L.length 2 (cR L)]),(.xl u 2 1 [.xl z M.length 1 (cI M),.xl zk K.length 1 (cI K)])] (.int .i64 (a0H (E4 (X4 E) E.length (cR L) L.length) (G4 L.length (cI M) M.length) (G4 L.length (cI K) K.length))) :=
 S9 29 Try.func51 (by kernel_rfl) (by kernel_rfl) (by kernel_rfl) (fun w=>V2 (by kernel_rfl) (by kernel_rfl) (by kernel_rfl) (by kernel_rfl) (d0A y E yl L u z M zk K hE3 hM3 hK3 w []))
end
end Go.Proofs.Ytegmogadbnfbgaa
namespace Go.Proofs.Ytegmogadbnfbgaa
open Go Ev
noncomputable section
def b92(q:Nat):Prop:=q=2
def c8U:List Yw→Option (g8×List Prop):=fun vs =>
 match vs with
 |[.one (.ext a),.one (.lls q k rows)]=>match a,rows with
  |.agg [.xl y m k1 cE,.xl yl n k2 cL],[(r,cM),(s,cK)]=>some (.val (.v (.int .i64 (0))),[T8 k1 cE m,W8 k2 n cL,Q3 k r cM,Q3 k s cK,b92 q,m≤1000,r≤1000,s≤1000,a0H (E4 cE m cL n) (G4 n cM r) (G4 n cK s)=0])
  |_,_=>none
 |_=>none
def d0u:N4:=a0E 51 [.one .ext,.one (.lls 0)] c8U
theorem a2g:Known zP0q (clsO d0u):=p9 (fun vs r ps h hp=>by
 unfold c8U at h
 split at h
 ·split at h
  ·cases h
   obtain ⟨⟨rfl,E,rfl,rfl⟩,⟨rfl,L,rfl,rfl⟩,⟨rfl,M,rfl,rfl⟩,⟨-,K,rfl,rfl⟩,rfl,h1,h2,h3,h4,-⟩:=hp
   rename_i y yl
   refine ⟨⟨(n6 (W5 (R3 (H5 E)) (W5 (R3 (U7 (Y7 L))) Q9))),⟨⟨_,Z5 M⟩,⟨_,Z5 K⟩,trivial⟩,trivial⟩,⟨[[[]],[[undef,undef,undef]]],⟨trivial,rfl,trivial⟩⟩,fun ys hy=>?_⟩
   match ys,hy with
   |[zs,[u,w0,w1]::us],_ =>
    refine ⟨_,rfl,?_⟩
    have hg:=d02 y E yl L u w0 M w1 K h1 h2 h3
    rw [h4] at hg;exact hg
  ·cases h
 ·cases h)
end
end Go.Proofs.Ytegmogadbnfbgaa
namespace Go.Proofs.Ytegmogadbnfbgaa
open Go Ev
noncomputable section
def zrB(c0 c1 c2 cL d:List AV)(n:Nat)(g:Bool):Prop:=S7 c0 c1 c2 cL d n g 0=0∧S7 c0 c1 c2 cL d n g 1=0∧S7 c0 c1 c2 cL d n g 2=0
instance (c0 c1 c2 cL d:List AV) (n:Nat) (g:Bool):Decidable (zrB c0 c1 c2 cL d n g):=by unfold zrB;infer_instance
def suN(c0 c1 c2 cL d:List AV)(n:Nat):Int:=if zrB c0 c1 c2 cL d n true∧zrB c0 c1 c2 cL d n false then 0 else 19
theorem b6J{c0 c1 c2 cL d:List AV}{n:Nat}(h:zrB c0 c1 c2 cL d n true)(h2:zrB c0 c1 c2 cL d n false):suN c0 c1 c2 cL d n=0:=if_pos ⟨h,h2⟩
theorem c7c{c0 c1 c2 cL d:List AV}{n:Nat}(h:¬ zrB c0 c1 c2 cL d n true):suN c0 c1 c2 cL d n=19:=if_neg (fun k=>h k.1)
theorem c7k{c0 c1 c2 cL d:List AV}{n:Nat}(h:¬ zrB c0 c1 c2 cL d n false):suN c0 c1 c2 cL d n=19:=if_neg (fun k=>h k.2)
theorem zr_iff{c0 c1 c2 cL d:List AV}{n:Nat}{g:Bool}:(L4 (S2 (H8 (List.take (n*(0+1)) (List.drop 0 (cI (tI (X9 c0 d g) n)))) (List.take (n*(0+1)) (List.drop 0 (cI (tI (X9 c1 d g) n)))) (List.take (n*(0+1)) (List.drop 0 (cI (tI (X9 c2 d g) n)))) (List.take (n*(0+1)) (List.drop 0 (cI (tI (X9 cL d g) n)))) d 0) n) 0&&(L4 (S2 (H8 (List.take (n*(0+1)) (List.drop 0 (cI (tI (X9 c0 d g) n)))) (List.take (n*(0+1)) (List.drop 0 (cI (tI (X9 c1 d g) n)))) (List.take (n*(0+1)) (List.drop 0 (cI (tI (X9 c2 d g) n)))) (List.take (n*(0+1)) (List.drop 0 (cI (tI (X9 cL d g) n)))) d 1) n) 0&&(L4 (S2 (H8 (List.take (n*(0+1)) (List.drop 0 (cI (tI (X9 c0 d g) n)))) (List.take (n*(0+1)) (List.drop 0 (cI (tI (X9 c1 d g) n)))) (List.take (n*(0+1)) (List.drop 0 (cI (tI (X9 c2 d g) n)))) (List.take (n*(0+1)) (List.drop 0 (cI (tI (X9 cL d g) n)))) d 2) n) 0&&true)))=true↔zrB c0 c1 c2 cL d n g:=by
 rw [W4,W4,W4,W4]
 unfold zrB S7
 simp [a2D]
theorem c1S{c0 c1 c2 cL d:List AV}{n:Nat}{g:Bool}(h:(L4 (S2 (H8 (List.take (n*(0+1)) (List.drop 0 (cI (tI (X9 c0 d g) n)))) (List.take (n*(0+1)) (List.drop 0 (cI (tI (X9 c1 d g) n)))) (List.take (n*(0+1)) (List.drop 0 (cI (tI (X9 c2 d g) n)))) (List.take (n*(0+1)) (List.drop 0 (cI (tI (X9 cL d g) n)))) d 0) n) 0&&(L4 (S2 (H8 (List.take (n*(0+1)) (List.drop 0 (cI (tI (X9 c0 d g) n)))) (List.take (n*(0+1)) (List.drop 0 (cI (tI (X9 c1 d g) n)))) (List.take (n*(0+1)) (List.drop 0 (cI (tI (X9 c2 d g) n)))) (List.take (n*(0+1)) (List.drop 0 (cI (tI (X9 cL d g) n)))) d 1) n) 0&&(L4 (S2 (H8 (List.take (n*(0+1)) (List.drop 0 (cI (tI (X9 c0 d g) n)))) (List.take (n*(0+1)) (List.drop 0 (cI (tI (X9 c1 d g) n)))) (List.take (n*(0+1)) (List.drop 0 (cI (tI (X9 c2 d g) n)))) (List.take (n*(0+1)) (List.drop 0 (cI (tI (X9 cL d g) n)))) d 2) n) 0&&true)))=false):¬ zrB c0 c1 c2 cL d n g:=fun k=>by
 rw [zr_iff.2 k] at h
 cases h
end
end Go.Proofs.Ytegmogadbnfbgaa
namespace Go.Proofs.Ytegmogadbnfbgaa
open Go Ev
noncomputable section
def cH:List Int→List AV
 |[]=>[]
 |n::l=>.v (.int .u16 n)::cH l
def cHv:List Int→List Value
 |[]=>[]
 |n::l=>.int .u16 n::cHv l
theorem J5:∀ L:List Int,N7 (cH L)=some (cHv L)
 |[]=>rfl
 |n::l=>by simp only [cH,N7,plain,J5 l,cHv]
theorem b8z:∀ (L:List Int) (i:Nat) (h:i<L.length),(cH L)[i]? = some (.v (.int .u16 (L[i])))
 |[],i,h=>by simp at h
 |x::l,0,h=>rfl
 |x::l,i+1,h=>b8z l i (by simpa using h)
theorem b95{L:List Int}{i:Nat}(h:i<L.length):Z8 (cH L) i=L[i]:=a4e (b8z L i h)
theorem c0v{L:List Int}{i:Nat}(h:i<L.length)(t:TypeId){d:TypeDesc}(hd:Try.prog.underlying t=some d)(ha:a84 d=false):W6 zP0q (cH L) i t=some (.v (.int .u16 (Z8 (cH L) i))):=by
 simp only [W6,hd,ha,z8,b8z L i h,b95 h]
def R7(L:List Int):Prop:=∀ n∈L,0≤n∧n≤65535
theorem a9r{L:List Int}(h:R7 L){i:Nat}(hi:i<L.length):0≤Z8 (cH L) i∧Z8 (cH L) i≤65535:=by
 rw [b95 hi];exact h _ (List.getElem_mem hi)
def pkV(lo hi:Int)(c:List AV)(m i:Nat):Int:=if m=0 then lo else lo+(Z8 c (i % m*1)).tmod (hi - lo+1)
theorem c0z{lo hi:Int}{c:List AV}{m i:Nat}(h:m=0):pkV lo hi c m i=lo:=if_pos h
theorem c4v{lo hi:Int}{B:List Int}{i:Nat}(hB:R7 B)(h:lo≤hi):lo≤pkV lo hi (cH B) B.length i∧pkV lo hi (cH B) B.length i≤hi:=by
 unfold pkV
 split
 ·omega
 ·rename_i hm
  have h1:=a9r hB (i:=i % B.length*1) (by rw [Nat.mul_one];exact Nat.mod_lt _ (by omega))
  have h2:=Int.tmod_nonneg (hi - lo+1) h1.1
  have h3:=Int.tmod_lt_of_pos (Z8 (cH B) (i % B.length*1)) (show 0<hi - lo+1 by omega)
  omega
def V0(c cB:List AV)(m o b:Nat):Int:=pkV (Z8 c (b*2+0)) (Z8 c (b*2+1)) cB m (o+b)
theorem b55{c:List AV}{B:List Int}{o n b:Nat}(hB:R7 B)(hb:b<n)(h:X7 100 c b):a1g c (cI (tI (V0 c (cH B) B.length o) n)) b:=by
 unfold X7 at h
 unfold a1g
 rw [Nat.mul_one,w9 hb]
 exact c4v hB h.2.1
theorem a1X{c cB:List AV}{m o b:Nat}{v:Int}(h:V0 c cB m o b=v):cI (tI (V0 c cB m o) b)++[.v (.int .i64 v)]=cI (tI (V0 c cB m o) (b+1)):=by rw [← h];exact b8U _ _
theorem a1U{c cB:List AV}{m o b:Nat}{v:Int}(hb:b=0)(h:V0 c cB m o b=v):[AV.v (.int .i64 v)]=cI (tI (V0 c cB m o) (b+1)):=by
 subst hb
 rw [← h,a5p];rfl
def l9(L P0 P1 P2:List (Int×Int))(n:Nat):Prop:=L.length=n+1∧n≤7∧P0.length=n+1∧P1.length=n+1∧P2.length=n+1∧(∀ b,b<n+1→X7 100 (cR L) b)∧(∀ b,b<n+1→X7 100 (cR P0) b)∧(∀ b,b<n+1→X7 100 (cR P1) b)∧∀ b,b<n+1→X7 100 (cR P2) b
theorem b18{x:Int}(h:0≤x∧x≤65535):IntKind.i64.wrap x=x:=by
 exact IntWalk.i64_in _ (by omega)
end
end Go.Proofs.Ytegmogadbnfbgaa
namespace Go.Proofs.Ytegmogadbnfbgaa
open Go.ChangeShapes Go.WideShapes Go.ChangeAt Go.RowKit
theorem b0h:∀ (n:Nat) (vs:List Value),vs.length=n*1→(∀ i,i<n→IsK [some .u16] ((vs.drop (i*1)).take 1))→∃ B:List Int,B.length=n∧vs=cHv B∧R7 B
 |0,vs,hl,_=>⟨[],rfl,List.eq_nil_of_length_eq_zero (by omega),by intro x hx;cases hx⟩
 |n+1,vs,hl,h=>by
  obtain ⟨a,l1,e1,⟨x,rfl,wx⟩,h1⟩:=a3I (h 0 (by omega))
  obtain rfl:=b0i h1
  obtain ⟨r,rfl⟩:∃ r,vs = .int .u16 x::r:=by
   match vs,hl,e1 with
   |p::r,_,e=>simp at e;exact ⟨r,by rw [e]⟩
   |[],hl,_=>simp at hl
  obtain ⟨B,hB,rfl,hA⟩:=b0h n r (by simp at hl; omega) (fun i hi=>by
   have:=h (i+1) (by omega)
   rw [show (i+1)*1=i*1+1 from by omega] at this
   simpa using this)
  refine ⟨x::B,by simp [hB],rfl,fun y hy=>?_⟩
  rcases List.mem_cons.1 hy with rfl|hy
  ·exact c8J wx
  ·exact hA y hy
end Go.Proofs.Ytegmogadbnfbgaa
namespace Go.Proofs.Ytegmogadbnfbgaa
open Go Ev
noncomputable section
theorem a5I{c d:List AV}{g:Bool}{n b:Nat}(hb:b<n)(h:X7 100 c b):a1g c (cI (tI (X9 c d g) n)) b:=by
 unfold X7 at h
 unfold a1g
 rw [Nat.mul_one,w9 hb]
 unfold X9
 split<;>omega
theorem b4u{p q:Nat→Int}:∀ {n:Nat},S2 p n - S2 q n=S2 (fun b=>p b - q b) n
 |0=>rfl
 |n+1=>by simp only [S2];rw [← b4u (n:=n)];omega
theorem b04{c0 c1 c2 cY c d:List AV}{n k:Nat}:S2 (H8 c0 c1 c2 cY c k) n - S2 (H8 c0 c1 c2 cY d k) n=S2 (H8 c0 c1 c2 cY (X5 c d n) k) n:=by
 rw [b4u]
 refine b4O (fun b hb=>?_)
 unfold H8
 rw [b08 hb,Int.mul_sub]
end
end Go.Proofs.Ytegmogadbnfbgaa
namespace Go.Proofs.Ytegmogadbnfbgaa
open Go Ev
noncomputable section
end
end Go.Proofs.Ytegmogadbnfbgaa
namespace Go.Proofs.Ytegmogadbnfbgaa
open Go Ev
noncomputable section
def b3E(c0 c1 c2 cL x0 x1 x2 cY:List AV)(n:Nat):Prop:=(∀ b,b<n→a1g cL cY b)∧(∀ b,b<n→a1g c0 x0 b)∧(∀ b,b<n→a1g c1 x1 b)∧∀ b,b<n→a1g c2 x2 b
end
end Go.Proofs.Ytegmogadbnfbgaa
namespace Go.Proofs.Ytegmogadbnfbgaa
open Go Ev
noncomputable section
theorem b9r{p q:Nat→Int}:∀ {n:Nat},(∀ b,b<n→p b≤q b)→S2 p n≤S2 q n
 |0,_=>Int.le_refl _
 |n+1,h=>by
  simp only [S2]
  have:=b9r (p:=p) (q:=q) (n:=n) (fun b hb=>h b (by omega))
  have:=h n (by omega)
  omega
theorem c0N{l0 h0 l1 h1 x y s:Int}(a:0≤l0∧l0≤x∧x≤h0)(b:0≤l1∧l1≤y∧y≤h1):(0≤s→l0*l1*s≤x*y*s∧x*y*s≤h0*h1*s)∧(s≤0→h0*h1*s≤x*y*s∧x*y*s≤l0*l1*s):=by
 have h2:l0*l1≤x*y:=Int.mul_le_mul a.2.1 b.2.1 b.1 (by omega)
 have h3:x*y≤h0*h1:=Int.mul_le_mul a.2.2 b.2.2 (by omega) (by omega)
 exact ⟨fun hs=>⟨Int.mul_le_mul_of_nonneg_right h2 hs,Int.mul_le_mul_of_nonneg_right h3 hs⟩,fun hs=>⟨Int.mul_le_mul_of_nonpos_right h3 hs,Int.mul_le_mul_of_nonpos_right h2 hs⟩⟩
theorem b4M{cP cL cM:List AV}{x y:Int}{b:Nat}(h0:X7 100 cP b)(h1:X7 100 cL b)(hx:Z8 cP (b*2+0)≤x∧x≤Z8 cP (b*2+1))(hy:Z8 cL (b*2+0)≤y∧y≤Z8 cL (b*2+1)) :
  X9 cP cM false b*X9 cL cM false b*Z8 cM (b*1)≤x*y*Z8 cM (b*1)∧x*y*Z8 cM (b*1)≤X9 cP cM true b*X9 cL cM true b*Z8 cM (b*1):=by
 unfold X7 at h0 h1
 have hb:=c0N (s:=Z8 cM (b*1)) ⟨h0.1,hx⟩ ⟨h1.1,hy⟩
 cases e:Y1 0 (Z8 cM (b*1)) with
 |true =>
  have e1:X9 cP cM false b=Z8 cP (b*2+0):=a0c (by rw [e];decide)
  have e2:X9 cL cM false b=Z8 cL (b*2+0):=a0c (by rw [e];decide)
  have e3:X9 cP cM true b=Z8 cP (b*2+1):=s3 (by rw [e];decide)
  have e4:X9 cL cM true b=Z8 cL (b*2+1):=s3 (by rw [e];decide)
  rw [e1,e2,e3,e4]
  exact hb.1 (by have:=W7 e;omega)
 |false =>
  have e1:X9 cP cM false b=Z8 cP (b*2+1):=s3 (by rw [e];decide)
  have e2:X9 cL cM false b=Z8 cL (b*2+1):=s3 (by rw [e];decide)
  have e3:X9 cP cM true b=Z8 cP (b*2+0):=a0c (by rw [e];decide)
  have e4:X9 cL cM true b=Z8 cL (b*2+0):=a0c (by rw [e];decide)
  rw [e1,e2,e3,e4]
  exact hb.2 (by have:=Z4 e;omega)
theorem a9d{cP cL cM x y:List AV}{n:Nat}(h0:∀ b,b<n→X7 100 cP b)(h1:∀ b,b<n→X7 100 cL b)(hx:∀ b,b<n→a1g cP x b)(hy:∀ b,b<n→a1g cL y b) :
  S2 (fun b=>Z8 (cI (tI (X9 cP cM false) n)) (b*1)*Z8 (cI (tI (X9 cL cM false) n)) (b*1)*Z8 cM (b*1)) n≤S2 (fun b=>Z8 x (b*1)*Z8 y (b*1)*Z8 cM (b*1)) n∧S2 (fun b=>Z8 x (b*1)*Z8 y (b*1)*Z8 cM (b*1)) n≤S2 (fun b=>Z8 (cI (tI (X9 cP cM true) n)) (b*1)*Z8 (cI (tI (X9 cL cM true) n)) (b*1)*Z8 cM (b*1)) n:=by
 constructor<;>refine b9r (fun b hb=>?_)<;>rw [Nat.mul_one,w9 hb,w9 hb]
 ·have h:=(b4M (cM:=cM) (h0 b hb) (h1 b hb) (hx b hb) (hy b hb)).1
  rw [Nat.mul_one] at h;exact h
 ·have h:=(b4M (cM:=cM) (h0 b hb) (h1 b hb) (hx b hb) (hy b hb)).2
  rw [Nat.mul_one] at h;exact h
theorem a9l{c0 c1 c2 cL cM x0 x1 x2 xL:List AV}{n:Nat}(hc0:∀ b,b<n→X7 100 c0 b)(hc1:∀ b,b<n→X7 100 c1 b)(hc2:∀ b,b<n→X7 100 c2 b)(hL:∀ b,b<n→X7 100 cL b)(h:b3E c0 c1 c2 cL x0 x1 x2 xL n):∀ k,k<3→S7 c0 c1 c2 cL cM n false k≤S2 (H8 x0 x1 x2 xL cM k) n∧S2 (H8 x0 x1 x2 xL cM k) n≤S7 c0 c1 c2 cL cM n true k:=fun k hk=>by
 match k,hk with
 |0,_=>exact a9d hc0 hL h.2.1 h.1
 |1,_=>exact a9d hc1 hL h.2.2.1 h.1
 |2,_=>exact a9d hc2 hL h.2.2.2 h.1
theorem c0t{c0 c1 c2 cL cM cK x0 x1 x2 xL:List AV}{n:Nat}(hc0:∀ b,b<n→X7 100 c0 b)(hc1:∀ b,b<n→X7 100 c1 b)(hc2:∀ b,b<n→X7 100 c2 b)(hL:∀ b,b<n→X7 100 cL b)(h:b3E c0 c1 c2 cL x0 x1 x2 xL n)(ht:zrB c0 c1 c2 cL (X5 cM cK n) n true)(hf:zrB c0 c1 c2 cL (X5 cM cK n) n false):S2 (H8 x0 x1 x2 xL cM 0) n=S2 (H8 x0 x1 x2 xL cK 0) n∧S2 (H8 x0 x1 x2 xL cM 1) n=S2 (H8 x0 x1 x2 xL cK 1) n∧S2 (H8 x0 x1 x2 xL cM 2) n=S2 (H8 x0 x1 x2 xL cK 2) n:=by
 have hb:=a9l (cM:=X5 cM cK n) hc0 hc1 hc2 hL h
 have d:=fun k=>b04 (c0:=x0) (c1:=x1) (c2:=x2) (cY:=xL) (c:=cM) (d:=cK) (n:=n) (k:=k)
 obtain ⟨t0,t1,t2⟩:=ht
 obtain ⟨f0,f1,f2⟩:=hf
 have b0:=hb 0 (by decide)
 have b1:=hb 1 (by decide)
 have b2:=hb 2 (by decide)
 have d0:=d 0
 have d1:=d 1
 have d2:=d 2
 exact ⟨by omega,by omega,by omega⟩
end
end Go.Proofs.Ytegmogadbnfbgaa
set_option maxHeartbeats 4000000
namespace Go.Proofs.Ytegmogadbnfbgaa
open Go Ev
noncomputable section
section
variable (E : List (Value × List (Int × Int))) (L : List (Int × Int)) (y yl : Value)
@[reducible] def a4O:Nat×Ev.AB:=(0,(.cells [(.xl (y) (E.length) 1 (X4 E)),(.xl (yl) (L.length) 2 (cR L))] 25))
@[reducible] def b3A:Ev.Lit:=⟨[(1,(.ptr 0 0)),(3,(nN 0))],[],1,[(a4O E L y yl)]⟩
@[reducible] def a7r:Ev.Lit:=⟨[(1,(.ptr 0 0))],[],1,[(a4O E L y yl)]⟩
end
noncomputable def c2r:Code:=N6 Try.f13
noncomputable def c1k:Code:=L2 c2r
noncomputable def b9F:Code:=L2 c1k
noncomputable def b0V:Code:=L2 b9F
noncomputable def b9o:Code:=(l5 b9F)
noncomputable def b3z:Code:=L2 b9o
noncomputable def c4N:Code:=G5 b3z
@[reducible] def a0t(E:List (Value×List (Int×Int)))(L:List (Int×Int))(w:World):=(H2 zP0q Try.f13 28 (.bool (gwB (X4 E) E.length L.length)) w)
section
variable {E:List (Value×List (Int×Int))} {L:List (Int×Int)} {hs:List Nat} {i:Nat} {w:World} {y yl:Value}
theorem c4a(hqgwg7_1:(Y1 12 L.length)=false)(hqgwg7_2:(Y1 6 E.length)=false)(h0b:∀ j,j<(E.length)→¬ 12<J2 (X4 E) (j*1))(hqgwg18_1:(Y1 E.length E.length)=false):Y6 zP0q 28 b0V (⟨[],[],1,[]⟩) (BaseW.H w hs) (a0t E L w):=by
 have hcl_L:=Y8 L
 have ghqgwg7_1:=Z4 hqgwg7_1
 have ghqgwg7_2:=Z4 hqgwg7_2
 have ghqgwg18_1:=Z4 hqgwg18_1
 exact Z6 U0 (Z2 zC0q (Y4) 200 (T':=⟨[(2,(.v (.bool .false)))],[],1,[]⟩) (e:=.ret) (ps:=[]) [.go] (by kernel_rfl) (by kernel_rfl) trivial rfl) (Hd.en_eq (r:=(.bool .false)) (by rw [c5n (c:=(X4 E)) (m:=E.length) (n:=L.length) (by omega) h0b]) (Hd.en_ret (v:=(.v (.bool .false))) (by kernel_rfl) rfl))
theorem c4M(hqgwg7_1:(Y1 12 L.length)=false)(hqgwg7_2:(Y1 6 E.length)=false)(hi1:i≤E.length)(hi2:∀ j,j<i→¬ 12<J2 (X4 E) (j*1)):Y6 zP0q 28 c4N (⟨[(1,(.ptr 0 0)),(3,(nI0 i))],[],1,[(a4O E L y yl)]⟩) (BaseW.H w hs) (Hd.StepC zP0q 28 0 (fun i:{i:Nat // i≤E.length∧∀ j,j<i→¬ 12<J2 (X4 E) (j*1)}=>⟨[(1,(.ptr 0 0)),(3,(nI0 i.1))],[],1,[(a4O E L y yl)]⟩) (fun i:{i:Nat // i≤E.length∧∀ j,j<i→¬ 12<J2 (X4 E) (j*1)}=>E.length - i.1) b0V w (a0t E L w) (⟨i,hi1,hi2⟩:{i:Nat // i≤E.length∧∀ j,j<i→¬ 12<J2 (X4 E) (j*1)})):=by
 have hcl_L:=Y8 L
 have ghqgwg7_1:=Z4 hqgwg7_1
 have ghqgwg7_2:=Z4 hqgwg7_2
 rcases zB0q (Y1 i E.length) with hqgwg18_1|hqgwg18_1
 ·have ghqgwg18_1:=W7 hqgwg18_1
  rcases zB0q (Y1 12 ((J2 (X4 E) (i*1):Nat):Int)) with hqgwg18_2|hqgwg18_2
  ·have ghqgwg18_2:=W7 hqgwg18_2
   exact Z6 U0 (Z2 zC0q (Y4) 200 (T':=⟨[(2,(.v (.bool .true)))],[],1,[]⟩) (e:=.ret) (ps:=[Y1 i E.length=true,i<E.length,W6 zP0q (X4 E) (i*1) 23=some (AV.xl (xlY (X4 E) (i*1)) (J2 (X4 E) (i*1)) 2 (N5 (X4 E) (i*1))),Y1 12 ((J2 (X4 E) (i*1):Nat):Int)=true]) (gH 5 [.b true,.go,.go,.go,.sym,.sym,.go,.go,.b true,.go]) (by kernel_rfl) (by kernel_rfl) ⟨hqgwg18_1,(by omega),(by rw [Nat.mul_one];exact C9 (by omega) 23 (Try.underlying23) rfl),hqgwg18_2,trivial⟩ rfl) (Hd.en_so (by intro h;cases h) (by intro h;cases h) (Hd.en_eq (r:=(.bool .true)) (by rw [c0K (c:=(X4 E)) (m:=E.length) (n:=L.length) (i:=i) (by omega) (by omega)]) (Hd.en_ret (v:=(.v (.bool .true))) (by kernel_rfl) rfl)))
  ·have ghqgwg18_2:=Z4 hqgwg18_2
   exact Z6 W3 (Z2 zC0q (Y4) 200 (T':=⟨[(1,(.ptr 0 0)),(3,(nI0 (((i+1):Nat):Int)))],[],1,[(a4O E L y yl)]⟩) (e:=.normal) (ps:=[Y1 i E.length=true,i<E.length,W6 zP0q (X4 E) (i*1) 23=some (AV.xl (xlY (X4 E) (i*1)) (J2 (X4 E) (i*1)) 2 (N5 (X4 E) (i*1))),Y1 12 ((J2 (X4 E) (i*1):Nat):Int)=false,L3 IntKind.i64 (((i:Nat):Int)+1)]) (gH 5 [.b true,.go,.go,.go,.sym,.sym,.go,.go,.b false,.go,.go,.go]) (by kernel_rfl) (by kernel_rfl) ⟨hqgwg18_1,(by omega),(by rw [Nat.mul_one];exact C9 (by omega) 23 (Try.underlying23) rfl),hqgwg18_2,(by show -9223372036854775808≤_∧_≤9223372036854775807;constructor<;>omega),trivial⟩ rfl) (Hd.en_on (⟨i+1,by omega,(f5 (q:=fun j=>¬ 12<J2 (X4 E) (j*1)) hi2 (by omega))⟩) (by show E.length - (i+1)<E.length - i;omega) rfl)
 ·have ghqgwg18_1:=Z4 hqgwg18_1
  obtain rfl:i=E.length:=by omega
  exact Z6 z5 (Z2 zC0q (Y4) 200 (T':=⟨[],[],1,[]⟩) (e:=.exit 0) (ps:=[Y1 E.length E.length=false]) (gH 5 [.b false]) (by kernel_rfl) (by kernel_rfl) ⟨hqgwg18_1,trivial⟩ rfl) (Hd.en_sx (c4a hqgwg7_1 hqgwg7_2 hi2 hqgwg18_1))
theorem c3l(hqgwg7_1:(Y1 12 L.length)=false)(hqgwg7_2:(Y1 6 E.length)=false):Y6 zP0q 28 b3z ((b3A E L y yl)) (BaseW.H w hs) (Hd.AfterN zP0q 28 b0V w (a0t E L w)):=by
 have hcl_L:=Y8 L
 have ghqgwg7_1:=Z4 hqgwg7_1
 have ghqgwg7_2:=Z4 hqgwg7_2
 exact Hd.goes_loopA (id:=0) (by kernel_rfl) (by kernel_rfl) (fun i:{i:Nat // i≤E.length∧∀ j,j<i→¬ 12<J2 (X4 E) (j*1)}=>⟨[(1,(.ptr 0 0)),(3,(nI0 i.1))],[],1,[(a4O E L y yl)]⟩) (fun i:{i:Nat // i≤E.length∧∀ j,j<i→¬ 12<J2 (X4 E) (j*1)}=>E.length - i.1) (fun ix_ hs=>c4M hqgwg7_1 hqgwg7_2 ix_.2.1 ix_.2.2) ⟨0,Nat.zero_le _,(fun j hj=>by omega)⟩ hs
theorem c41(hqgwg7_1:(Y1 12 L.length)=false)(hqgwg7_2:(Y1 6 E.length)=false):Y6 zP0q 28 b3z ((b3A E L y yl)) (BaseW.H w hs) (Hd.AfterN zP0q 28 b0V w (a0t E L w)):=by
 exact c3l hqgwg7_1 hqgwg7_2
theorem c3J(hqgwg7_1:(Y1 12 L.length)=false)(hqgwg7_2:(Y1 6 E.length)=false):Y6 zP0q 28 b9o ((a7r E L y yl)) (BaseW.H w hs) (Hd.AfterN zP0q 28 b0V w (a0t E L w)):=by
 refine Hd.goes_seqA (by kernel_rfl) ?_
 exact Z6 W3 (Z2 zC0q (Y4) 200 (T':=(b3A E L y yl)) (e:=.normal) (ps:=[]) [.go] (by kernel_rfl) (by kernel_rfl) trivial rfl) (Hd.en_n (c41 hqgwg7_1 hqgwg7_2))
theorem c91(hqgwg7_1:(Y1 12 L.length)=false)(hqgwg7_2:(Y1 6 E.length)=false):Y6 zP0q 28 b9F ((a7r E L y yl)) (BaseW.H w hs) (a0t E L w):=by
 exact Hd.goes_seqA (by kernel_rfl) (c3J hqgwg7_1 hqgwg7_2)
theorem c8m:Y6 zP0q 28 c1k ((a7r E L y yl)) (BaseW.H w hs) (a0t E L w):=by
 have hcl_L:=Y8 L
 refine Hd.goes_seqA (by kernel_rfl) ?_
 rcases zB0q (Y1 12 L.length) with hqgwg7_1|hqgwg7_1
 ·have ghqgwg7_1:=W7 hqgwg7_1
  exact Z6 U0 (Z2 zC0q (Y4) 200 (T':=⟨[(2,(.v (.bool .true)))],[],1,[]⟩) (e:=.ret) (ps:=[Y1 12 L.length=true,true=true,true=true,true=true,true=true]) (gH 5 [.b true,.b true,.b true,.b true,.go,.b true,.go]) (by kernel_rfl) (by kernel_rfl) ⟨hqgwg7_1,rfl,rfl,rfl,rfl,trivial⟩ rfl) (Hd.en_o (by intro h;cases h) (Hd.en_eq (r:=(.bool .true)) (by rw [a78 (c:=(X4 E)) (m:=E.length) (n:=L.length) (by omega)]) (Hd.en_ret (v:=(.v (.bool .true))) (by kernel_rfl) rfl)))
 ·have ghqgwg7_1:=Z4 hqgwg7_1
  rcases zB0q (Y1 6 E.length) with hqgwg7_2|hqgwg7_2
  ·have ghqgwg7_2:=W7 hqgwg7_2
   exact Z6 U0 (Z2 zC0q (Y4) 200 (T':=⟨[(2,(.v (.bool .true)))],[],1,[]⟩) (e:=.ret) (ps:=[Y1 12 L.length=false,false=false,false=false,false=false,Y1 6 E.length=true]) (gH 5 [.b false,.go,.b false,.go,.b false,.go,.b false,.go,.go,.b true,.go]) (by kernel_rfl) (by kernel_rfl) ⟨hqgwg7_1,rfl,rfl,rfl,hqgwg7_2,trivial⟩ rfl) (Hd.en_o (by intro h;cases h) (Hd.en_eq (r:=(.bool .true)) (by rw [a78 (c:=(X4 E)) (m:=E.length) (n:=L.length) (by omega)]) (Hd.en_ret (v:=(.v (.bool .true))) (by kernel_rfl) rfl)))
  ·exact Z6 W3 (Z2 zC0q (Y4) 200 (T':=(a7r E L y yl)) (e:=.normal) (ps:=[Y1 12 L.length=false,false=false,false=false,false=false,Y1 6 E.length=false]) (gH 5 [.b false,.go,.b false,.go,.b false,.go,.b false,.go,.go,.b false]) (by kernel_rfl) (by kernel_rfl) ⟨hqgwg7_1,rfl,rfl,rfl,hqgwg7_2,trivial⟩ rfl) (Hd.en_n (c91 hqgwg7_1 hqgwg7_2))
end
theorem c6h(y:Value)(E:List (Value×List (Int×Int)))(yl:Value)(L:List (Int×Int))(w:World)(hs:List Nat):Y6 zP0q 28 c2r (⟨[(0,(.agg [.xl y E.length 1 (X4 E),.xl yl L.length 2 (cR L)]))],[],0,[]⟩) (BaseW.H w hs) (a0t E L w):=by
 refine Hd.goes_seqA (by kernel_rfl) ?_
 exact Z6 W3 (Z2 zC0q (Y4) 200 (T':=(a7r E L y yl)) (e:=.normal) (ps:=[]) [.go,.go] (by kernel_rfl) (by kernel_rfl) trivial rfl) (Hd.en_n (c8m))
theorem c7x(y:Value)(E:List (Value×List (Int×Int)))(yl:Value)(L:List (Int×Int)):GivesA zP0q 13 [(.agg [.xl y E.length 1 (X4 E),.xl yl L.length 2 (cR L)])] (.bool (gwB (X4 E) E.length L.length)) :=
 S9 28 Try.func13 (by kernel_rfl) (by kernel_rfl) (by kernel_rfl) (fun w=>V2 (by kernel_rfl) (by kernel_rfl) (by kernel_rfl) (by kernel_rfl) (c6h y E yl L w []))
end
end Go.Proofs.Ytegmogadbnfbgaa
namespace Go.Proofs.Ytegmogadbnfbgaa
open Go Ev
noncomputable section
def c9m:List AV→Option (g8×List Prop):=fun vs =>
 match vs with
 |[.agg [.xl y m k1 cE,.xl yl n k2 cL]]=>some (.val (.v (.bool (gwB cE m n))),[T8 k1 cE m,W8 k2 n cL])
 |_=>none
def d17:N4:=v8 13 c9m
theorem p8:Known zP0q (clsO d17):=G6 (fun vs r ps h hp=>by
 unfold c9m at h
 split at h
 ·cases h
  obtain ⟨⟨rfl,E,rfl,rfl⟩,⟨rfl,L,rfl,rfl⟩,-⟩:=hp
  exact ⟨W5 (a4j E L) Q9,_,rfl,c7x _ E _ L⟩
 ·cases h)
def D4:N4:=a3E 15 (fun xs=>match xs with | []=>some (.v (.bool true))|_=>none)
end
end Go.Proofs.Ytegmogadbnfbgaa
namespace Go.Proofs.Ytegmogadbnfbgaa
open Go Ev
noncomputable section
end
end Go.Proofs.Ytegmogadbnfbgaa
namespace Go.Proofs.Ytegmogadbnfbgaa
open Go Ev
noncomputable section
section
variable (E : List (Value × List (Int × Int))) (K : List Int) (L : List (Int × Int)) (M : List Int) (y yl z zk : Value)
@[reducible] def b87:Ev.AV:=(.agg [.xl y E.length 1 (X4 E),.xl yl L.length 2 (cR L)])
@[reducible] def c21:Ev.Lit:=⟨[(0,(b87 E L y yl)),(1,(.xl z M.length 1 (cI M))),(2,(.xl zk K.length 1 (cI K)))],[],0,[]⟩
end
noncomputable def c9e:Code:=N6 Try.f42
set_option maxHeartbeats 16000000 in
theorem c9i(y:Value)(E:List (Value×List (Int×Int)))(yl:Value)(L:List (Int×Int))(z:Value)(M:List Int)(zk:Value)(K:List Int)(hF:gwB (X4 E) E.length L.length=false∧M.length≤20∧K.length≤20∧a0H (E4 (X4 E) E.length (cR L) L.length) (G4 L.length (cI M) M.length) (G4 L.length (cI K) K.length)=0)(w:World)(hs:List Nat):Y6 zP0q 27 c9e ((c21 E K L M y yl z zk)) (BaseW.H w hs) (H2 zP0q Try.f42 27 (.bool true) w):=by
 have hcl_L:=Y8 L
 have hcl_M:=Y5 M
 have hcl_K:=Y5 K
 rcases zB0q (gwB (X4 E) E.length L.length) with hqfit3_1|hqfit3_1
 ·exact absurd hqfit3_1 (by rw [hF.1];decide)
 ·have hE6:=c2j (show ¬ gwB (X4 E) E.length L.length=true by rw [hqfit3_1];decide)
  rcases zB0q (Y1 20 M.length) with hqfit3_2|hqfit3_2
  ·have ghqfit3_2:=W7 hqfit3_2
   exfalso
   have h9:=W7 hqfit3_2
   have h8:=hF.2.1
   omega
  ·have ghqfit3_2:=Z4 hqfit3_2
   rcases zB0q (Y1 20 K.length) with hqfit3_3|hqfit3_3
   ·have ghqfit3_3:=W7 hqfit3_3
    exfalso
    have h9:=W7 hqfit3_3
    have h8:=hF.2.2.1
    omega
   ·have ghqfit3_3:=Z4 hqfit3_3
    rcases zB0q (L4 (E4 (X4 E) E.length (cR L) L.length) 0) with hqfit3_4|hqfit3_4
    ·have ghqfit3_4:=U3 hqfit3_4
     have hnE:=(S8 (U3 hqfit3_4)).1
     rcases zB0q (L4 (G4 L.length (cI M) M.length) 0) with hqfit3_5|hqfit3_5
     ·have ghqfit3_5:=U3 hqfit3_5
      exact Z6 U0 (Z2 zC0q (W1 p8 (W1 a09 a0f)) 200 (T':=⟨[(6,(.v (.bool (L4 (G4 L.length (cI K) K.length) 0))))],[],2,[]⟩) (e:=.ret) (ps:=[T8 1 (X4 E) E.length,W8 2 L.length (cR L),(!gwB (X4 E) E.length L.length)=true,true=true,true=true,(!Y1 20 M.length)=true,true=true,true=true,(!Y1 20 K.length)=true,true=true,true=true,true=true,T8 1 (X4 E) E.length,W8 2 L.length (cR L),E.length≤1000,(!L4 (E4 (X4 E) E.length (cR L) L.length) 0)=false,T8 1 (X4 E) E.length,W8 2 L.length (cR L),Q3 1 M.length (cI M),L.length≤1000,(!L4 (G4 L.length (cI M) M.length) 0)=false,T8 1 (X4 E) E.length,W8 2 L.length (cR L),Q3 1 K.length (cI K),L.length≤1000,true=true]) (gH 5 ([.b true,.go,.b true,.go,.b true,.go,.go,.go,.b true,.go,.b true,.go,.b true,.go,.go,.go,.b true,.go,.b true,.go,.b true,.go,.b true]++gH 4 [.b false,.go,.go,.go,.b false,.go,.go,.go,.b true,.go,.go,.go])) (by kernel_rfl) (by kernel_rfl) ⟨⟨rfl,E,rfl,rfl⟩,⟨rfl,L,rfl,rfl⟩,(by rw [hqfit3_1];rfl),rfl,rfl,(by rw [hqfit3_2];rfl),rfl,rfl,(by rw [hqfit3_3];rfl),rfl,rfl,rfl,⟨rfl,E,rfl,rfl⟩,⟨rfl,L,rfl,rfl⟩,(by omega),(by rw [hqfit3_4];rfl),⟨rfl,E,rfl,rfl⟩,⟨rfl,L,rfl,rfl⟩,⟨rfl,M,rfl,rfl⟩,(by omega),(by rw [hqfit3_5];rfl),⟨rfl,E,rfl,rfl⟩,⟨rfl,L,rfl,rfl⟩,⟨rfl,K,rfl,rfl⟩,(by omega),rfl,trivial⟩ rfl) (Hd.en_eq (r:=(.bool (L4 (G4 L.length (cI K) K.length) 0))) (by (rw [a2D,decide_eq_true (a4w hF.2.2.2).2.2])) (Hd.en_ret (v:=(.v (.bool (L4 (G4 L.length (cI K) K.length) 0)))) (by kernel_rfl) rfl))
     ·have ghqfit3_5:=Q6 hqfit3_5
      exact absurd (a4w hF.2.2.2).2.1 (Q6 hqfit3_5)
    ·have ghqfit3_4:=Q6 hqfit3_4
     exact absurd (a4w hF.2.2.2).1 (Q6 hqfit3_4)
theorem c8u(y:Value)(E:List (Value×List (Int×Int)))(yl:Value)(L:List (Int×Int))(z:Value)(M:List Int)(zk:Value)(K:List Int)(hF:gwB (X4 E) E.length L.length=false∧M.length≤20∧K.length≤20∧a0H (E4 (X4 E) E.length (cR L) L.length) (G4 L.length (cI M) M.length) (G4 L.length (cI K) K.length)=0):GivesA zP0q 42 [(b87 E L y yl),(.xl z M.length 1 (cI M)),(.xl zk K.length 1 (cI K))] (.bool true) :=
 S9 27 Try.func42 (by kernel_rfl) (by kernel_rfl) (by kernel_rfl) (fun w=>V2 (by kernel_rfl) (by kernel_rfl) (by kernel_rfl) (by kernel_rfl) (c9i y E yl L z M zk K hF w []))
noncomputable def c6H:Code:=N6 Try.f42
set_option maxHeartbeats 16000000 in
theorem c8h(y:Value)(E:List (Value×List (Int×Int)))(yl:Value)(L:List (Int×Int))(z:Value)(M:List Int)(zk:Value)(K:List Int)(hF:¬ (gwB (X4 E) E.length L.length=false∧M.length≤20∧K.length≤20∧a0H (E4 (X4 E) E.length (cR L) L.length) (G4 L.length (cI M) M.length) (G4 L.length (cI K) K.length)=0))(w:World)(hs:List Nat):Y6 zP0q 27 c6H ((c21 E K L M y yl z zk)) (BaseW.H w hs) (H2 zP0q Try.f42 27 (.bool false) w):=by
 have hcl_L:=Y8 L
 have hcl_M:=Y5 M
 have hcl_K:=Y5 K
 rcases zB0q (gwB (X4 E) E.length L.length) with hqfif3_1|hqfif3_1
 ·exact Z6 U0 (Z2 zC0q (W1 p8 (W1 a09 a0f)) 200 (T':=⟨[(6,(.v (.bool .false)))],[],1,[]⟩) (e:=.ret) (ps:=[T8 1 (X4 E) E.length,W8 2 L.length (cR L),(!gwB (X4 E) E.length L.length)=false,false=false,false=false,false=false,false=false,false=false,false=false,false=false,false=false,false=false,false=false]) (gH 5 [.b false,.b false,.b false,.go,.go,.b false,.b false,.b false,.go,.go,.b false,.b false,.b false,.b false,.b false,.go,.go]) (by kernel_rfl) (by kernel_rfl) ⟨⟨rfl,E,rfl,rfl⟩,⟨rfl,L,rfl,rfl⟩,(by rw [hqfif3_1];rfl),rfl,rfl,rfl,rfl,rfl,rfl,rfl,rfl,rfl,rfl,trivial⟩ rfl) (Hd.en_eq (r:=(.bool .false)) (by rfl) (Hd.en_ret (v:=(.v (.bool .false))) (by kernel_rfl) rfl))
 ·have hE6:=c2j (show ¬ gwB (X4 E) E.length L.length=true by rw [hqfif3_1];decide)
  rcases zB0q (Y1 20 M.length) with hqfif3_2|hqfif3_2
  ·have ghqfif3_2:=W7 hqfif3_2
   exact Z6 U0 (Z2 zC0q (W1 p8 (W1 a09 a0f)) 200 (T':=⟨[(6,(.v (.bool .false)))],[],1,[]⟩) (e:=.ret) (ps:=[T8 1 (X4 E) E.length,W8 2 L.length (cR L),(!gwB (X4 E) E.length L.length)=true,true=true,true=true,(!Y1 20 M.length)=false,false=false,false=false,false=false,false=false,false=false,false=false,false=false]) (gH 5 [.b true,.go,.b true,.go,.b true,.go,.go,.go,.b false,.b false,.b false,.go,.go,.b false,.b false,.b false,.b false,.b false,.go,.go]) (by kernel_rfl) (by kernel_rfl) ⟨⟨rfl,E,rfl,rfl⟩,⟨rfl,L,rfl,rfl⟩,(by rw [hqfif3_1];rfl),rfl,rfl,(by rw [hqfif3_2];rfl),rfl,rfl,rfl,rfl,rfl,rfl,rfl,trivial⟩ rfl) (Hd.en_eq (r:=(.bool .false)) (by rfl) (Hd.en_ret (v:=(.v (.bool .false))) (by kernel_rfl) rfl))
  ·have ghqfif3_2:=Z4 hqfif3_2
   rcases zB0q (Y1 20 K.length) with hqfif3_3|hqfif3_3
   ·have ghqfif3_3:=W7 hqfif3_3
    exact Z6 U0 (Z2 zC0q (W1 p8 (W1 a09 a0f)) 200 (T':=⟨[(6,(.v (.bool .false)))],[],1,[]⟩) (e:=.ret) (ps:=[T8 1 (X4 E) E.length,W8 2 L.length (cR L),(!gwB (X4 E) E.length L.length)=true,true=true,true=true,(!Y1 20 M.length)=true,true=true,true=true,(!Y1 20 K.length)=false,false=false,false=false,false=false,false=false]) (gH 5 [.b true,.go,.b true,.go,.b true,.go,.go,.go,.b true,.go,.b true,.go,.b true,.go,.go,.go,.b false,.b false,.b false,.b false,.b false,.go,.go]) (by kernel_rfl) (by kernel_rfl) ⟨⟨rfl,E,rfl,rfl⟩,⟨rfl,L,rfl,rfl⟩,(by rw [hqfif3_1];rfl),rfl,rfl,(by rw [hqfif3_2];rfl),rfl,rfl,(by rw [hqfif3_3];rfl),rfl,rfl,rfl,rfl,trivial⟩ rfl) (Hd.en_eq (r:=(.bool .false)) (by rfl) (Hd.en_ret (v:=(.v (.bool .false))) (by kernel_rfl) rfl))
   ·have ghqfif3_3:=Z4 hqfif3_3
    rcases zB0q (L4 (E4 (X4 E) E.length (cR L) L.length) 0) with hqfif3_4|hqfif3_4
    ·have ghqfif3_4:=U3 hqfif3_4
     have hnE:=(S8 (U3 hqfif3_4)).1
     rcases zB0q (L4 (G4 L.length (cI M) M.length) 0) with hqfif3_5|hqfif3_5
     ·have ghqfif3_5:=U3 hqfif3_5
      exact Z6 U0 (Z2 zC0q (W1 p8 (W1 a09 a0f)) 200 (T':=⟨[(6,(.v (.bool (L4 (G4 L.length (cI K) K.length) 0))))],[],2,[]⟩) (e:=.ret) (ps:=[T8 1 (X4 E) E.length,W8 2 L.length (cR L),(!gwB (X4 E) E.length L.length)=true,true=true,true=true,(!Y1 20 M.length)=true,true=true,true=true,(!Y1 20 K.length)=true,true=true,true=true,true=true,T8 1 (X4 E) E.length,W8 2 L.length (cR L),E.length≤1000,(!L4 (E4 (X4 E) E.length (cR L) L.length) 0)=false,T8 1 (X4 E) E.length,W8 2 L.length (cR L),Q3 1 M.length (cI M),L.length≤1000,(!L4 (G4 L.length (cI M) M.length) 0)=false,T8 1 (X4 E) E.length,W8 2 L.length (cR L),Q3 1 K.length (cI K),L.length≤1000,true=true]) (gH 5 ([.b true,.go,.b true,.go,.b true,.go,.go,.go,.b true,.go,.b true,.go,.b true,.go,.go,.go,.b true,.go,.b true,.go,.b true,.go,.b true]++gH 4 [.b false,.go,.go,.go,.b false,.go,.go,.go,.b true,.go,.go,.go])) (by kernel_rfl) (by kernel_rfl) ⟨⟨rfl,E,rfl,rfl⟩,⟨rfl,L,rfl,rfl⟩,(by rw [hqfif3_1];rfl),rfl,rfl,(by rw [hqfif3_2];rfl),rfl,rfl,(by rw [hqfif3_3];rfl),rfl,rfl,rfl,⟨rfl,E,rfl,rfl⟩,⟨rfl,L,rfl,rfl⟩,(by omega),(by rw [hqfif3_4];rfl),⟨rfl,E,rfl,rfl⟩,⟨rfl,L,rfl,rfl⟩,⟨rfl,M,rfl,rfl⟩,(by omega),(by rw [hqfif3_5];rfl),⟨rfl,E,rfl,rfl⟩,⟨rfl,L,rfl,rfl⟩,⟨rfl,K,rfl,rfl⟩,(by omega),rfl,trivial⟩ rfl) (Hd.en_eq (r:=(.bool (L4 (G4 L.length (cI K) K.length) 0))) (by (rw [a2D,decide_eq_false (fun h7=>hF ⟨hqfif3_1,by have h9:=Z4 hqfif3_2;omega,by have h9:=Z4 hqfif3_3;omega,(a3G (U3 hqfif3_4) (U3 hqfif3_5)).trans h7⟩)])) (Hd.en_ret (v:=(.v (.bool (L4 (G4 L.length (cI K) K.length) 0)))) (by kernel_rfl) rfl))
     ·have ghqfif3_5:=Q6 hqfif3_5
      exact Z6 U0 (Z2 zC0q (W1 p8 (W1 a09 a0f)) 200 (T':=⟨[(6,(.v (.bool (L4 (G4 L.length (cI M) M.length) 0))))],[],2,[]⟩) (e:=.ret) (ps:=[T8 1 (X4 E) E.length,W8 2 L.length (cR L),(!gwB (X4 E) E.length L.length)=true,true=true,true=true,(!Y1 20 M.length)=true,true=true,true=true,(!Y1 20 K.length)=true,true=true,true=true,true=true,T8 1 (X4 E) E.length,W8 2 L.length (cR L),E.length≤1000,(!L4 (E4 (X4 E) E.length (cR L) L.length) 0)=false,T8 1 (X4 E) E.length,W8 2 L.length (cR L),Q3 1 M.length (cI M),L.length≤1000,(!L4 (G4 L.length (cI M) M.length) 0)=true,T8 1 (X4 E) E.length,W8 2 L.length (cR L),Q3 1 M.length (cI M),L.length≤1000,true=true]) (gH 5 ([.b true,.go,.b true,.go,.b true,.go,.go,.go,.b true,.go,.b true,.go,.b true,.go,.go,.go,.b true,.go,.b true,.go,.b true,.go,.b true]++gH 4 [.b false,.go,.go,.go,.b true,.go,.go,.go,.b true,.go,.go,.go])) (by kernel_rfl) (by kernel_rfl) ⟨⟨rfl,E,rfl,rfl⟩,⟨rfl,L,rfl,rfl⟩,(by rw [hqfif3_1];rfl),rfl,rfl,(by rw [hqfif3_2];rfl),rfl,rfl,(by rw [hqfif3_3];rfl),rfl,rfl,rfl,⟨rfl,E,rfl,rfl⟩,⟨rfl,L,rfl,rfl⟩,(by omega),(by rw [hqfif3_4];rfl),⟨rfl,E,rfl,rfl⟩,⟨rfl,L,rfl,rfl⟩,⟨rfl,M,rfl,rfl⟩,(by omega),(by rw [hqfif3_5];rfl),⟨rfl,E,rfl,rfl⟩,⟨rfl,L,rfl,rfl⟩,⟨rfl,M,rfl,rfl⟩,(by omega),rfl,trivial⟩ rfl) (Hd.en_eq (r:=(.bool (L4 (G4 L.length (cI M) M.length) 0))) (by (rw [hqfif3_5])) (Hd.en_ret (v:=(.v (.bool (L4 (G4 L.length (cI M) M.length) 0)))) (by kernel_rfl) rfl))
    ·have ghqfif3_4:=Q6 hqfif3_4
     exact Z6 U0 (Z2 zC0q (W1 p8 (W1 a09 a0f)) 200 (T':=⟨[(6,(.v (.bool (L4 (E4 (X4 E) E.length (cR L) L.length) 0))))],[],2,[]⟩) (e:=.ret) (ps:=[T8 1 (X4 E) E.length,W8 2 L.length (cR L),(!gwB (X4 E) E.length L.length)=true,true=true,true=true,(!Y1 20 M.length)=true,true=true,true=true,(!Y1 20 K.length)=true,true=true,true=true,true=true,T8 1 (X4 E) E.length,W8 2 L.length (cR L),E.length≤1000,(!L4 (E4 (X4 E) E.length (cR L) L.length) 0)=true,T8 1 (X4 E) E.length,W8 2 L.length (cR L),E.length≤1000,true=true]) (gH 5 ([.b true,.go,.b true,.go,.b true,.go,.go,.go,.b true,.go,.b true,.go,.b true,.go,.go,.go,.b true,.go,.b true,.go,.b true,.go,.b true]++gH 4 [.b true,.go,.go,.b true,.go,.go,.go])) (by kernel_rfl) (by kernel_rfl) ⟨⟨rfl,E,rfl,rfl⟩,⟨rfl,L,rfl,rfl⟩,(by rw [hqfif3_1];rfl),rfl,rfl,(by rw [hqfif3_2];rfl),rfl,rfl,(by rw [hqfif3_3];rfl),rfl,rfl,rfl,⟨rfl,E,rfl,rfl⟩,⟨rfl,L,rfl,rfl⟩,(by omega),(by rw [hqfif3_4];rfl),⟨rfl,E,rfl,rfl⟩,⟨rfl,L,rfl,rfl⟩,(by omega),rfl,trivial⟩ rfl) (Hd.en_eq (r:=(.bool (L4 (E4 (X4 E) E.length (cR L) L.length) 0))) (by (rw [hqfif3_4])) (Hd.en_ret (v:=(.v (.bool (L4 (E4 (X4 E) E.length (cR L) L.length) 0)))) (by kernel_rfl) rfl))
theorem c6r(y:Value)(E:List (Value×List (Int×Int)))(yl:Value)(L:List (Int×Int))(z:Value)(M:List Int)(zk:Value)(K:List Int)(hF:¬ (gwB (X4 E) E.length L.length=false∧M.length≤20∧K.length≤20∧a0H (E4 (X4 E) E.length (cR L) L.length) (G4 L.length (cI M) M.length) (G4 L.length (cI K) K.length)=0)):GivesA zP0q 42 [(b87 E L y yl),(.xl z M.length 1 (cI M)),(.xl zk K.length 1 (cI K))] (.bool false) :=
 S9 27 Try.func42 (by kernel_rfl) (by kernel_rfl) (by kernel_rfl) (fun w=>V2 (by kernel_rfl) (by kernel_rfl) (by kernel_rfl) (by kernel_rfl) (c8h y E yl L z M zk K hF w []))
end
end Go.Proofs.Ytegmogadbnfbgaa
namespace Go.Proofs.Ytegmogadbnfbgaa
open Go Ev
noncomputable section
noncomputable def d09:Code:=N6 Try.f47
set_option maxHeartbeats 16000000 in
theorem d12(lo hi:Int)(zb:Value)(B:List Int)(k:Nat)(hr:0≤lo∧lo≤hi∧hi≤1000)(hB:R7 B)(hk:k≤1000)(w:World)(hs:List Nat):Y6 zP0q 30 d09 (⟨[(0,(.agg [nI0 lo,nI0 hi])),(1,(.xl zb B.length 1 (cH B))),(2,(nI0 k))],[],0,[]⟩) (BaseW.H w hs) (H2 zP0q Try.f47 30 (.int .i64 (pkV lo hi (cH B) B.length k)) w):=by
 have hcl_B:=Y5 B
 rcases zB0q (L4 B.length 0) with hqpk3_1|hqpk3_1
 ·have ghqpk3_1:=U3 hqpk3_1
  exact Z6 U0 (Z2 zC0q (Y4) 200 (T':=⟨[(6,(nI0 (lo)))],[],1,[]⟩) (e:=.ret) (ps:=[L4 B.length 0=true]) (gH 5 [.b true,.go,.go,.go]) (by kernel_rfl) (by kernel_rfl) ⟨hqpk3_1,trivial⟩ rfl) (Hd.en_eq (r:=(.int .i64 (lo))) (by (rw [c0z (by omega)])) (Hd.en_ret (v:=(nI0 (lo))) (by kernel_rfl) rfl))
 ·have ghqpk3_1:=Q6 hqpk3_1
  exact Z6 U0 (Z2 zC0q (Y4) 200 (T':=⟨[(6,(nI0 (lo+(IntKind.i64.wrap (Z8 (cH B) (k % B.length*1))).tmod (hi - lo+1))))],[],1,[]⟩) (e:=.ret) (ps:=[L4 B.length 0=false,(B.length:Int)≠0,k % B.length<B.length,W6 zP0q (cH B) (k % B.length*1) 73=some (AV.v (Value.int IntKind.u16 (Z8 (cH B) (k % B.length*1)))),L3 IntKind.i64 (hi - lo),L3 IntKind.i64 (hi - lo+1),hi - lo+1≠0,L3 IntKind.i64 (lo+(IntKind.i64.wrap (Z8 (cH B) (k % B.length*1))).tmod (hi - lo+1))]) (gH 5 ([.b false]++gH 7 ([.sym,.sym]++gH 10 []))) (by kernel_rfl) (by kernel_rfl) ⟨hqpk3_1,(by omega),(Nat.mod_lt _ (by omega)),(c0v (by rw [Nat.mul_one];exact Nat.mod_lt _ (by omega)) 73 (Try.underlying73) rfl),(by show -9223372036854775808≤_∧_≤9223372036854775807;constructor<;>omega),(by show -9223372036854775808≤_∧_≤9223372036854775807;constructor<;>omega),(by omega),(by have h8:=a9r hB (i:=k % B.length*1) (by rw [Nat.mul_one];exact Nat.mod_lt _ (by omega));rw [b18 h8];have h7:=Int.tmod_nonneg (hi - lo+1) h8.1;have h6:=Int.tmod_lt_of_pos (Z8 (cH B) (k % B.length*1)) (show 0<hi - lo+1 by omega);show -9223372036854775808≤_∧_≤9223372036854775807;constructor<;>omega),trivial⟩ rfl) (Hd.en_eq (r:=(.int .i64 (lo+(IntKind.i64.wrap (Z8 (cH B) (k % B.length*1))).tmod (hi - lo+1)))) (by (have h8:=a9r hB (i:=k % B.length*1) (by rw [Nat.mul_one];exact Nat.mod_lt _ (by omega));unfold pkV;rw [if_neg (by omega),b18 h8])) (Hd.en_ret (v:=(nI0 (lo+(IntKind.i64.wrap (Z8 (cH B) (k % B.length*1))).tmod (hi - lo+1)))) (by kernel_rfl) rfl))
theorem d10(lo hi:Int)(zb:Value)(B:List Int)(k:Nat)(hr:0≤lo∧lo≤hi∧hi≤1000)(hB:R7 B)(hk:k≤1000):GivesA zP0q 47 [(.agg [nI0 lo,nI0 hi]),(.xl zb B.length 1 (cH B)),(nI0 k)] (.int .i64 (pkV lo hi (cH B) B.length k)) :=
 S9 30 Try.func47 (by kernel_rfl) (by kernel_rfl) (by kernel_rfl) (fun w=>V2 (by kernel_rfl) (by kernel_rfl) (by kernel_rfl) (by kernel_rfl) (d12 lo hi zb B k hr hB hk w []))
end
end Go.Proofs.Ytegmogadbnfbgaa
namespace Go.Proofs.Ytegmogadbnfbgaa
open Go Ev
noncomputable section
def IsH(j m:Nat)(c:List AV):Prop:=j=1∧∃ B,c=cH B∧m=B.length∧R7 B
def pkS:List AV→Option (g8×List Prop):=fun vs =>
 match vs with
 |[.agg [.v a0,.v a1],.xl z m j c,.v a2]=>match a1N a0,a1N a1,a1N a2 with
  |some lo,some hi,some k=>some (.val (.v (.int .i64 (pkV lo hi c m k.toNat))),[IsH j m c,0≤lo∧lo≤hi∧hi≤1000,0≤k∧k≤1000])
  |_,_,_=>none
 |_=>none
def pkO:N4:=v8 47 pkS
theorem T5:Known zP0q (clsO pkO):=G6 (fun vs r ps h hp=>by
 unfold pkS at h
 split at h
 ·split at h
  ·rename_i lo hi k e1 e2 e3
   cases h
   obtain ⟨⟨rfl,B,rfl,rfl,hB⟩,h1,h2,-⟩:=hp
   rw [D9 e1,D9 e2,D9 e3]
   obtain ⟨k,rfl⟩:∃ q:Nat,k=((q:Nat):Int):=⟨k.toNat,by omega⟩
   exact ⟨W5 (n6 (W5 (a0n _) (W5 (a0n _) Q9))) (W5 (R3 (U7 (J5 B))) (W5 (a0n _) Q9)),_,rfl,d10 lo hi _ B k h1 hB (by omega)⟩
  ·cases h
 ·cases h)
end
end Go.Proofs.Ytegmogadbnfbgaa
