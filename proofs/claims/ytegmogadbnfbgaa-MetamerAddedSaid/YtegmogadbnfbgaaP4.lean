/- Texts of this proof, put together. -/
import Derived.Test.YtegmogadbnfbgaaP3
import Derived.Test.YtegmogadbnfbgaaP2
set_option linter.all false
set_option maxHeartbeats 4000000
namespace Go.Proofs.Ytegmogadbnfbgaa
open Go Ev
noncomputable section
section
variable (E : List (Value × List (Int × Int))) (L : List (Int × Int)) (M : List Int) (X : List (Value × List Int)) (Y : List Int) (i : Nat) (u ul y yl z : Value)
@[reducible] def a8U:Ev.AB:=(.cells [(.xl (u) (X.length) 1 (Y5 X)),(.xl (ul) (Y.length) 1 (cI Y))] 29)
@[reducible] def R8:Nat×Ev.AB:=(0,(a8U X Y u ul))
@[reducible] def a2g:Ev.AB:=(.cells [(.xl (y) (E.length) 1 (Y4 E)),(.xl (yl) (L.length) 2 (cR L)),(.fn (.func 78) [(.xl (z) (M.length) 1 (cI M))] [])] 85)
@[reducible] def R9:Nat×Ev.AB:=(1,(a2g E L M y yl z))
@[reducible] def Q8:Nat×Ev.AB:=(2,(a2g E L M y yl z))
@[reducible] def b41:Ev.AB:=(.cells [(.fn (.func 80) [] [(.ptr 0 0),(.ptr 1 0)])] 116)
@[reducible] def Q9:Nat×Ev.AB:=(3,b41)
@[reducible] def b0F:Ev.AB:=(.cells [(nI0 (.ofNat 0)),(nI0 (.ofNat 0)),(nI0 (.ofNat 0))] 82)
@[reducible] def R5:Nat×Ev.AB:=(4,b0F)
@[reducible] def p7:Nat×Ev.AB:=(5,(.cells (cI (tI (A4 (V3 (Y5 X) (cI Y) (cI M)) L.length i) 3)) 82))
@[reducible] def F2:Nat×Ev.AB:=(6,(.cells [(nI0 i)] 3))
@[reducible] def b1M:Nat×Ev.AB:=(7,(a2g E L M y yl z))
@[reducible] def a7T:Ev.Lit:=⟨[(2,(.ptr 2 0)),(3,(.ptr 3 0)),(4,(.ptr 4 0)),(5,(.ptr 5 0)),(6,(.ptr 6 0)),(8,(nI0 i)),(12,(.fn (.func 93) [] [(.ptr 7 0)]))],[],8,[(R8 X Y u ul),(R9 E L M y yl z),(Q8 E L M y yl z),Q9,R5,(p7 L M X Y i),(F2 i),(b1M E L M y yl z)]⟩
@[reducible] def b59:Ev.AB:=(.cells (cI (tI (f7 (V3 (Y5 X) (cI Y) (cI M)) L.length i L.length) 3)) 82)
@[reducible] def a6y:Nat×Ev.AB:=(5,(b59 L M X Y i))
@[reducible] def b9t:Ev.Lit:=⟨[(2,(.ptr 2 0)),(3,(.ptr 3 0)),(4,(.ptr 4 0)),(5,(.ptr 5 0)),(6,(.ptr 6 0)),(8,(nI0 i))],[],7,[(R8 X Y u ul),(R9 E L M y yl z),(Q8 E L M y yl z),Q9,R5,(p7 L M X Y i),(F2 i)]⟩
@[reducible] def b9q:Ev.Lit:=⟨[(2,(.ptr 2 0)),(3,(.ptr 3 0)),(4,(.ptr 4 0)),(5,(.ptr 5 0)),(8,(nI0 i)),(9,(.v (.bool (X8 i 3))))],[],6,[(R8 X Y u ul),(R9 E L M y yl z),(Q8 E L M y yl z),Q9,R5,(p7 L M X Y i)]⟩
@[reducible] def b8G:Ev.Lit:=⟨[(2,(.ptr 2 0)),(3,(.ptr 3 0)),(4,(.ptr 4 0)),(5,(.ptr 5 0)),(8,(nI0 i))],[8],10,[(R8 X Y u ul),(R9 E L M y yl z),(Q8 E L M y yl z),Q9,R5,(a6y L M X Y i),(8,(.defd .true))]⟩
@[reducible] def a3P:Nat×Ev.AV:=(8,(nI0 (.ofNat 0)))
@[reducible] def b4P:Nat×Ev.AB:=(5,b0F)
@[reducible] def b2C:Ev.Lit:=⟨[(2,(.ptr 2 0)),(3,(.ptr 3 0)),(4,(.ptr 4 0)),(5,(.ptr 5 0)),a3P],[],6,[(R8 X Y u ul),(R9 E L M y yl z),(Q8 E L M y yl z),Q9,R5,b4P]⟩
@[reducible] def b9j:Ev.Lit:=⟨[(2,(.ptr 2 0)),(3,(.ptr 3 0)),(4,(.ptr 4 0)),(5,(.ptr 5 0)),(8,(nI0 (((i+1):Nat):Int)))],[],6,[(R8 X Y u ul),(R9 E L M y yl z),(Q8 E L M y yl z),Q9,R5,(a6y L M X Y i)]⟩
@[reducible] def b8u:Ev.Lit:=⟨[(2,(.ptr 2 0)),(3,(.ptr 3 0)),(4,(.ptr 4 0)),(5,(.ptr 5 0)),(8,(nI0 i))],[],8,[(R8 X Y u ul),(R9 E L M y yl z),(Q8 E L M y yl z),Q9,R5,(a6y L M X Y i)]⟩
@[reducible] def b2V:Ev.Lit:=⟨[(2,(.ptr 2 0)),(3,(.ptr 3 0)),(4,(.ptr 4 0)),(5,(.ptr 5 0)),(8,(nI0 i))],[],6,[(R8 X Y u ul),(R9 E L M y yl z),(Q8 E L M y yl z),Q9,R5,(p7 L M X Y i)]⟩
@[reducible] def b1h:Ev.Lit:=⟨[(2,(.ptr 2 0)),(3,(.ptr 3 0)),(4,(.ptr 4 0)),(5,(.ptr 5 0))],[],6,[(R8 X Y u ul),(R9 E L M y yl z),(Q8 E L M y yl z),Q9,R5,b4P]⟩
@[reducible] def b4x:Ev.Lit:=⟨[(2,(.ptr 2 0)),(3,(.ptr 3 0)),(4,(.ptr 4 0))],[],5,[(R8 X Y u ul),(R9 E L M y yl z),(Q8 E L M y yl z),Q9,R5]⟩
@[reducible] def b5f:Ev.Lit:=⟨[(4,(.ptr 4 0)),(5,(.ptr 5 0))],[],6,[(R8 X Y u ul),(R9 E L M y yl z),R5,(5,(.cells (cI (tI (A4 (V3 (Y5 X) (cI Y) (cI M)) L.length (3)) 3)) 82))]⟩
@[reducible] def b6b:Ev.AB:=(.cells [(nI0 (Z9 (cI (tI (A4 (V3 (Y5 X) (cI Y) (cI M)) L.length 3) 3)) 0)),(nI0 (Z9 (cI (tI (A4 (V3 (Y5 X) (cI Y) (cI M)) L.length 3) 3)) (0+1))),(nI0 (Z9 (cI (tI (A4 (V3 (Y5 X) (cI Y) (cI M)) L.length 3) 3)) (0+1+1)))] 82)
@[reducible] def b1K:List Ev.AV:=[.xl y E.length 1 (Y4 E),.xl yl L.length 2 (cR L),(.fn (.func 78) [.xl z M.length 1 (cI M)] [])]
@[reducible] def I1:Ev.AB:=(.cells (b1K E L M y yl z) 85)
@[reducible] def b6W:List Ev.AV:=[.xl u X.length 1 (Y5 X),.xl ul Y.length 1 (cI Y)]
@[reducible] def H9:Ev.AB:=(.cells (b6W X Y u ul) 29)
@[reducible] def q7:Nat×Ev.AV:=(7,(nI0 L.length))
end
theorem b87{g:Fn}{l:List AV}(h:S4 l):S4 [.fn g l []]:=fun σ τ hb x e=>by
 simp only [denL,den] at e ⊢
 cases h1:denL σ l with
 |none=>rw [h1] at e;cases e
 |some us =>
  rw [h1] at e
  rw [h σ τ hb us h1]
  exact e
def a4H(t:TypeId):Prop:=t=29
def a4y(t:TypeId):Prop:=t=85
def b20(k3 m k4 q k5 r:Nat)(cX cY cM:List AV)(n:Nat):Prop:=∃ (X:List (Value×List Int)) (Y M:List Int),(k3=1∧cX=Y5 X∧m=X.length)∧(k4=1∧cY=cI Y∧q=Y.length)∧(k5=1∧cM=cI M∧r=M.length)∧X.length=3∧(∀ i,i<3→R3 (Y5 X) (i*1)=n)∧Y.length=n∧M.length=n∧(∀ i,i<3→∀ b,b<n→0≤Z9 (V4 (Y5 X) (i*1)) (b*1)∧Z9 (V4 (Y5 X) (i*1)) (b*1)≤100)∧(∀ b,b<n→0≤Z9 (cI Y) (b*1)∧Z9 (cI Y) (b*1)≤100)∧(∀ b,b<n→0≤Z9 (cI M) (b*1)∧Z9 (cI M) (b*1)≤1000)
def a6R:AV→Nat→Bool
 |.ptr b o,k=>Nat.beq b k&&Nat.beq o 0
 |_,_=>false
theorem e8{v:AV}{k:Nat}(h:a6R v k=true):v = .ptr k 0:=by
 cases v with
 |ptr b o =>
  simp only [a6R,Bool.and_eq_true] at h
  rw [Nat.eq_of_beq_eq_true h.1,Nat.eq_of_beq_eq_true h.2]
 |_=>cases h
theorem a6l{u ul y yl z:Value}{f:FuncId}{t1 t2:TypeId}(X:List (Value×List Int))(Y:List Int)(E:List (Value×List (Int×Int)))(L:List (Int×Int))(M:List Int):∀ x,x∈[AB.cells (b6W X Y u ul) t1,AB.cells [.xl y E.length 1 (Y4 E),.xl yl L.length 2 (cR L),.fn (.func f) [.xl z M.length 1 (cI M)] []] t2]→a1R x:=fun x hx=>by
 rcases List.mem_cons.1 hx with rfl|hx
 ·exact A3 (G0 (X5 (K8 X)) (X5 (Y3 (Z1 Y))))
 ·rw [List.mem_singleton.1 hx]
  exact A3 (G0 (X5 (X7 E)) (G0 (X5 (Y3 (W6 L))) (b87 (X5 (Y3 (Z1 M))))))
def peS:List AV→List AB→Option (Value×List Prop):=fun args xs =>
 match args with
 |[.v vc,.v vb,p,q]=>match a3o vc,a3o vb,a6R p 0,a6R q 1,xs with
  |some c,some b,true,true,[.cells l1 t1,.cells l2 t2]=>match l1,l2 with
   |[.xl u m k3 cX,.xl ul j k4 cY],[.xl y me k1 cE,.xl yl n k2 cL,.fn (.func f) lz lc]=>match lz,lc,Nat.beq f 78 with
    |[.xl z r k5 cM],[],true=>some (.int .i64 (V3 cX cY cM c.toNat b.toNat),[a4H t1,a4y t2,S9 k1 cE me,X9 k2 n cL,b20 k3 m k4 j k5 r cX cY cM n,0≤c∧c<3,0≤b∧b.toNat<n])
    |_,_,_=>none
   |_,_=>none
  |_,_,_,_,_=>none
 |_=>none
def peO:O2:=b4j 80 peS
theorem G8:Known zP0q (clsO peO):=b38 (fun args xs r ps h hp=>by
 unfold peS at h
 split at h
 ·split at h
  ·rename_i c b l1 t1 l2 t2 e1 e2 e3 e4
   split at h
   ·split at h
    ·rename_i e5
     cases h
     obtain ⟨rfl,rfl,⟨rfl,E,rfl,rfl⟩,⟨rfl,L,rfl,rfl⟩,⟨X,Y,M,⟨rfl,rfl,rfl⟩,⟨rfl,rfl,rfl⟩,⟨rfl,rfl,rfl⟩,h1,h2,h3,h4,h5,h6,h7⟩,hc,hb,-⟩:=hp
     rw [B2 e1,B2 e2,e8 e3,e8 e4,Nat.eq_of_beq_eq_true e5]
     obtain ⟨c,rfl⟩:∃ k:Nat,c=((k:Nat):Int):=⟨c.toNat,by omega⟩
     obtain ⟨b,rfl⟩:∃ k:Nat,b=((k:Nat):Int):=⟨b.toNat,by omega⟩
     exact ⟨fun x hx=>⟨a6l X Y E L M x hx,by rcases List.mem_cons.1 hx with rfl|hx;exact a0n;rw [List.mem_singleton.1 hx];exact a0n⟩,c5P _ E _ L _ X _ Y _ M L.length c b h1 h2 h3 h4 h5 h6 h7 (by omega) hb.2⟩
    ·cases h
   ·cases h
  ·cases h
 ·cases h)
noncomputable def c4k:Code:=O0 Try.f79
noncomputable def c58:Code:=L2 c4k
noncomputable def c1V:Code:=L2 c58
noncomputable def a2h:Code:=L2 c1V
noncomputable def b8e:Code:=(f8 c1V)
noncomputable def b4m:Code:=L2 b8e
noncomputable def b93:Code:=H3 b4m
noncomputable def b9g:Code:=L2 b93
noncomputable def b2D:Code:=L2 b9g
noncomputable def a4t:Code:=L2 b2D
noncomputable def b8Q:Code:=a72 (f8 b2D)
noncomputable def b8Z:Code:=L2 b8Q
noncomputable def b3W:Code:=L2 b8Z
noncomputable def P3:Code:=a72 b3W
section
variable (E : List (Value × List (Int × Int))) (L : List (Int × Int)) (M : List Int) (X : List (Value × List Int)) (Y : List Int) (eb : Nat → Option Nat) (ec : Nat → Nat) (i : Nat) (u ul : Value) (v : BaseW) (y yl z : Value)
@[reducible] def b9e:=(a4I 16 (fun _:Unit=>((⟨[],[],10,9,[(3,(.ptr 3 0)),(5,(.ptr 5 0)),(6,(.ptr 6 0))],[(R8 X Y u ul),(R9 E L M y yl z),(Q8 E L M y yl z),Q9,R5,(a6y L M X Y i),(F2 i),(8,(.defd .true))],.ready,none,25,E4 P3,E3 P3,E5 P3,8⟩:Ev.Lit1)).lit) (fun _:Unit=>True) (bw v 10 eb ec))
end
noncomputable def b4l:Code:=O0 Try.f93
noncomputable def b6C:Code:=L2 b4l
noncomputable def c0R:Code:=H3 b6C
section
variable {E:List (Value×List (Int×Int))} {L:List (Int×Int)} {M Y:List Int} {X:List (Value×List Int)} {eb:Nat→Option Nat} {ec:Nat→Nat} {hs:List Nat} {i:Nat} {u ul y yl z:Value} {v:BaseW}
theorem c1p(hn8:L.length≤8)(hx3:X.length=3)(hxr:∀ i,i<3→R3 (Y5 X) (i*1)=L.length)(hy:Y.length=L.length)(hm:M.length=L.length)(hx1:∀ i,i<3→∀ b,b<L.length→0≤Z9 (V4 (Y5 X) (i*1)) (b*1)∧Z9 (V4 (Y5 X) (i*1)) (b*1)≤100)(hy1:∀ b,b<L.length→0≤Z9 (cI Y) (b*1)∧Z9 (cI Y) (b*1)≤100)(hm1:∀ b,b<L.length→0≤Z9 (cI M) (b*1)∧Z9 (cI M) (b*1)≤1000)(hi1:i≤3)(hi2:True)(hqse23_1:(X8 i 3)=true):Y8 zP0q 16 b6C ((⟨[(0,(.yld 9)),(q7 L),a3P],[],10,9,[(3,(.ptr 3 0)),(5,(.ptr 5 0)),(6,(.ptr 6 0))],[(R8 X Y u ul),(R9 E L M y yl z),(Q8 E L M y yl z),Q9,R5,(p7 L M X Y i),(F2 i),(8,(.defd .true))],.ready,none,25,E4 P3,E3 P3,E5 P3,8⟩:Ev.Lit1).lit) (bw v 10 eb ec) (b9e E L M X Y eb ec i u ul v y yl z):=by
 have hcl_L:=Z3 L
 have hcl_Y:=Z4 Y
 have hcl_M:=Z4 M
 have ghqse23_1:=Y0 hqse23_1
 refine U9 (T':=(⟨[(0,(.yld 9)),(q7 L),a3P],[],10,9,[(3,(.ptr 3 0)),(5,(.ptr 5 0)),(6,(.ptr 6 0))],[(R8 X Y u ul),(R9 E L M y yl z),(Q8 E L M y yl z),Q9,R5,(p7 L M X Y i),(F2 i),(8,(.defd .true))],.ready,none,25,E4 P3,E3 P3,E5 P3,8⟩:Ev.Lit1).lit) (by kernel_rfl) (by kernel_rfl) (by kernel_rfl) (by kernel_rfl) (a2i (ι:={j:Nat // j≤L.length∧True}) (T:=(fun j:{j:Nat // j≤L.length∧True}=>(⟨[(0,(.yld 9)),(q7 L),(8,(nI0 j.1))],[],10,9,[(3,(.ptr 3 0)),(5,(.ptr 5 0)),(6,(.ptr 6 0))],[(R8 X Y u ul),(R9 E L M y yl z),(Q8 E L M y yl z),Q9,R5,(5,(.cells (cI (tI (f7 (V3 (Y5 X) (cI Y) (cI M)) L.length i j.1) 3)) 82)),(F2 i),(8,(.defd .true))],.ready,none,25,E4 P3,E3 P3,E5 P3,8⟩:Ev.Lit1).lit)) (R:=(fun j:{j:Nat // j≤L.length∧True}=>L.length≤j.1)) (by kernel_rfl) (a62 (show ((⟨[(0,(.yld 9)),(q7 L),a3P],[],10,9,[(3,(.ptr 3 0)),(5,(.ptr 5 0)),(6,(.ptr 6 0))],[(R8 X Y u ul),(R9 E L M y yl z),(Q8 E L M y yl z),Q9,R5,(p7 L M X Y i),(F2 i),(8,(.defd .true))],.ready,none,25,E4 P3,E3 P3,E5 P3,8⟩:Ev.Lit1).lit:Ev.Lit)=(⟨[(0,(.yld 9)),(q7 L),(8,(nI0 0))],[],10,9,[(3,(.ptr 3 0)),(5,(.ptr 5 0)),(6,(.ptr 6 0))],[(R8 X Y u ul),(R9 E L M y yl z),(Q8 E L M y yl z),Q9,R5,(5,(.cells (cI (tI (f7 (V3 (Y5 X) (cI Y) (cI M)) L.length i 0) 3)) 82)),(F2 i),(8,(.defd .true))],.ready,none,25,E4 P3,E3 P3,E5 P3,8⟩:Ev.Lit1).lit from by (rw [a7G];rfl)) (g5 (by kernel_rfl) (fun j:{j:Nat // j≤L.length∧True}=>(⟨[(0,(.yld 9)),(q7 L),(8,(nI0 j.1))],[],10,9,[(3,(.ptr 3 0)),(5,(.ptr 5 0)),(6,(.ptr 6 0))],[(R8 X Y u ul),(R9 E L M y yl z),(Q8 E L M y yl z),Q9,R5,(5,(.cells (cI (tI (f7 (V3 (Y5 X) (cI Y) (cI M)) L.length i j.1) 3)) 82)),(F2 i),(8,(.defd .true))],.ready,none,25,E4 P3,E3 P3,E5 P3,8⟩:Ev.Lit1).lit) (fun j:{j:Nat // j≤L.length∧True}=>L.length - j.1) (fun i=>?_) ⟨0,Nat.zero_le _,trivial⟩)) (fun ixR hxR=>(fun (j0r:Nat) (h0ra:j0r≤L.length) (h0rb:True) (h0rc:L.length≤j0r)=>⟨(),show True from trivial,(by obtain ⟨i9,q1,q2⟩:=ixR;have h9:L.length≤i9:=hxR;have e:i9=L.length:=(by omega);subst e;exact u7 (by kernel_rfl) (by kernel_rfl) (by kernel_rfl) (by kernel_rfl))⟩) ixR.1 ixR.2.1 ixR.2.2 hxR))
 obtain ⟨j,hi1,hi2⟩:=i
 show Y8 zP0q 16 c0R ((⟨[(0,(.yld 9)),(q7 L),(8,(nI0 j))],[],10,9,[(3,(.ptr 3 0)),(5,(.ptr 5 0)),(6,(.ptr 6 0))],[(R8 X Y u ul),(R9 E L M y yl z),(Q8 E L M y yl z),Q9,R5,(5,(.cells (cI (tI (f7 (V3 (Y5 X) (cI Y) (cI M)) L.length i j) 3)) 82)),(F2 i),(8,(.defd .true))],.ready,none,25,E4 P3,E3 P3,E5 P3,8⟩:Ev.Lit1).lit) (bw v 10 eb ec) (a4C _ _ _ _ _ _ _ _)
 rcases zB0q (X8 j L.length) with hl0_1|hl0_1
 ·have ghl0_1:=Y0 hl0_1
  refine Ev.step_on ⟨j+1,by omega,trivial⟩ (by show L.length - (j+1)<L.length - j;omega) ?_
  show Y8 _ _ _ _ _ (F4 _ isN ((⟨[(0,(.yld 9)),(q7 L),(8,(nI0 (((j+1):Nat):Int)))],[],10,9,[(3,(.ptr 3 0)),(5,(.ptr 5 0)),(6,(.ptr 6 0))],[(R8 X Y u ul),(R9 E L M y yl z),(Q8 E L M y yl z),Q9,R5,(5,(.cells (cI (tI (f7 (V3 (Y5 X) (cI Y) (cI M)) L.length i (j+1)) 3)) 82)),(F2 i),(8,(.defd .true))],.ready,none,25,E4 P3,E3 P3,E5 P3,8⟩:Ev.Lit1).lit) _)
  rw [show ((cI (tI (f7 (V3 (Y5 X) (cI Y) (cI M)) L.length i (j+1)) 3)):List AV)=(S3 (cI (tI (f7 (V3 (Y5 X) (cI Y) (cI M)) L.length i j) 3)) (0+i*1) [(nI0 (Z9 (cI (tI (f7 (V3 (Y5 X) (cI Y) (cI M)) L.length i j) 3)) (0+i*1)+V3 (Y5 X) (cI Y) (cI M) i j))]) from by (refine (a9A (i:=i) (j:=j) (by omega) ?_).symm;rw [a8h (i:=i) (by omega)])]
  exact E0 zC0q (G8) 200 (T':=(⟨[(0,(.yld 9)),(q7 L),(8,(nI0 (((j+1):Nat):Int)))],[],10,9,[(3,(.ptr 3 0)),(5,(.ptr 5 0)),(6,(.ptr 6 0))],[(R8 X Y u ul),(R9 E L M y yl z),(Q8 E L M y yl z),Q9,R5,(5,(.cells (S3 (cI (tI (f7 (V3 (Y5 X) (cI Y) (cI M)) L.length i j) 3)) (0+i*1) [(nI0 (Z9 (cI (tI (f7 (V3 (Y5 X) (cI Y) (cI M)) L.length i j) 3)) (0+i*1)+V3 (Y5 X) (cI Y) (cI M) i j))]) 82)),(F2 i),(8,(.defd .true))],.ready,none,25,E4 P3,E3 P3,E5 P3,8⟩:Ev.Lit1)) (e:=.normal) (ps:=[X8 j L.length=true,i<3,W2 zP0q (cI (tI (f7 (V3 (Y5 X) (cI Y) (cI M)) L.length i j) 3)) (0+i*1) 2=some (AV.v (Value.int IntKind.i64 (Z9 (cI (tI (f7 (V3 (Y5 X) (cI Y) (cI M)) L.length i j) 3)) (0+i*1)))),a4H 29,a4y 85,S9 1 (Y4 E) E.length,X9 2 L.length (cR L),b20 1 X.length 1 Y.length 1 M.length (Y5 X) (cI Y) (cI M) L.length,(0:Int)≤((i:Nat):Int)∧((i:Nat):Int)<3,(0:Int)≤((j:Nat):Int)∧j<L.length,K5 IntKind.i64 (Z9 (cI (tI (f7 (V3 (Y5 X) (cI Y) (cI M)) L.length i j) 3)) (0+i*1)+V3 (Y5 X) (cI Y) (cI M) i j),i<3,0+i*1+([(nI0 (Z9 (cI (tI (f7 (V3 (Y5 X) (cI Y) (cI M)) L.length i j) 3)) (0+i*1)+V3 (Y5 X) (cI Y) (cI M) i j))]:List AV).length≤((cI (tI (f7 (V3 (Y5 X) (cI Y) (cI M)) L.length i j) 3)):List AV).length,(!true)=false,K5 IntKind.i64 (((j:Nat):Int)+1)]) ([.go,.b true]++gH 6 ([.sym,.sym]++gH 4 [.sym,.sym,.go,.b false,.go,.go])) (by kernel_rfl) (by kernel_rfl) ⟨hl0_1,(by omega),(S6 (by rw [Y9];omega) 2 (Try.underlying2) rfl),rfl,rfl,⟨rfl,E,rfl,rfl⟩,⟨rfl,L,rfl,rfl⟩,⟨X,Y,M,⟨rfl,rfl,rfl⟩,⟨rfl,rfl,rfl⟩,⟨rfl,rfl,rfl⟩,hx3,hxr,hy,hm,hx1,hy1,hm1⟩,(by omega),(by omega),(by rw [a8h (by omega)];have h9:=a8o (p:=V3 (Y5 X) (cI Y) (cI M) i) (m:=10000000) (n:=j) (fun b hb=>by have:=(B1 (hx1 i (by omega) b (by omega)) (hy1 b (by omega)) ⟨by have:=(hm1 b (by omega)).1;omega,(hm1 b (by omega)).2⟩).2;exact this);have h8:=(B1 (hx1 i (by omega) j (by omega)) (hy1 j (by omega)) ⟨by have:=(hm1 j (by omega)).1;omega,(hm1 j (by omega)).2⟩).2;unfold V3 at *;show -9223372036854775808≤_∧_≤9223372036854775807;constructor<;>omega),(by omega),(by show 0+i*1+1≤_;rw [Z4,Y9];omega),rfl,(by show -9223372036854775808≤_∧_≤9223372036854775807;constructor<;>omega),trivial⟩ rfl
 ·have ghl0_1:=Z6 hl0_1
  exact Ev.step_out (by show L.length≤j;omega) (E0 zC0q (G8) 200 (T':=(⟨[(0,(.yld 9)),(q7 L),(8,(nI0 j))],[],10,9,[(3,(.ptr 3 0)),(5,(.ptr 5 0)),(6,(.ptr 6 0))],[(R8 X Y u ul),(R9 E L M y yl z),(Q8 E L M y yl z),Q9,R5,(5,(.cells (cI (tI (f7 (V3 (Y5 X) (cI Y) (cI M)) L.length i j) 3)) 82)),(F2 i),(8,(.defd .true))],.ready,none,25,E4 P3,E3 P3,E5 P3,8⟩:Ev.Lit1)) (e:=.exit 0) (ps:=[X8 j L.length=false]) [.go,.b false] (by kernel_rfl) (by kernel_rfl) ⟨hl0_1,trivial⟩ rfl)
theorem b9J(hn8:L.length≤8)(hx3:X.length=3)(hxr:∀ i,i<3→R3 (Y5 X) (i*1)=L.length)(hy:Y.length=L.length)(hm:M.length=L.length)(hx1:∀ i,i<3→∀ b,b<L.length→0≤Z9 (V4 (Y5 X) (i*1)) (b*1)∧Z9 (V4 (Y5 X) (i*1)) (b*1)≤100)(hy1:∀ b,b<L.length→0≤Z9 (cI Y) (b*1)∧Z9 (cI Y) (b*1)≤100)(hm1:∀ b,b<L.length→0≤Z9 (cI M) (b*1)∧Z9 (cI M) (b*1)≤1000)(hi1:i≤3)(hi2:True)(hqse23_1:(X8 i 3)=true):Y8 zP0q 16 b4l ((⟨[(0,(.yld 9)),(1,(.ptr 7 0))],[],10,9,[(3,(.ptr 3 0)),(5,(.ptr 5 0)),(6,(.ptr 6 0))],[(R8 X Y u ul),(R9 E L M y yl z),(Q8 E L M y yl z),Q9,R5,(p7 L M X Y i),(F2 i),(b1M E L M y yl z),(8,(.defd .true))],.ready,none,25,E4 P3,E3 P3,E5 P3,8⟩:Ev.Lit1).lit) (bw v 10 eb ec) (b9e E L M X Y eb ec i u ul v y yl z):=by
 have hcl_L:=Z3 L
 have hcl_Y:=Z4 Y
 have hcl_M:=Z4 M
 have ghqse23_1:=Y0 hqse23_1
 exact O5 (T':=(⟨[(0,(.yld 9)),(q7 L),a3P],[],10,9,[(3,(.ptr 3 0)),(5,(.ptr 5 0)),(6,(.ptr 6 0))],[(R8 X Y u ul),(R9 E L M y yl z),(Q8 E L M y yl z),Q9,R5,(p7 L M X Y i),(F2 i),(8,(.defd .true))],.ready,none,25,E4 P3,E3 P3,E5 P3,8⟩:Ev.Lit1).lit) (by kernel_rfl) (E0 zC0q (G8) 200 (T':=(⟨[(0,(.yld 9)),(q7 L),a3P],[],10,9,[(3,(.ptr 3 0)),(5,(.ptr 5 0)),(6,(.ptr 6 0))],[(R8 X Y u ul),(R9 E L M y yl z),(Q8 E L M y yl z),Q9,R5,(p7 L M X Y i),(F2 i),(8,(.defd .true))],.ready,none,25,E4 P3,E3 P3,E5 P3,8⟩:Ev.Lit1)) (e:=.normal) (ps:=[]) (gH 5 []) (by kernel_rfl) (by kernel_rfl) trivial rfl) (c1p hn8 hx3 hxr hy hm hx1 hy1 hm1 hi1 hi2 hqse23_1)
theorem c3r(hn8:L.length≤8)(hx3:X.length=3)(hxr:∀ i,i<3→R3 (Y5 X) (i*1)=L.length)(hy:Y.length=L.length)(hm:M.length=L.length)(hx1:∀ i,i<3→∀ b,b<L.length→0≤Z9 (V4 (Y5 X) (i*1)) (b*1)∧Z9 (V4 (Y5 X) (i*1)) (b*1)≤100)(hy1:∀ b,b<L.length→0≤Z9 (cI Y) (b*1)∧Z9 (cI Y) (b*1)≤100)(hm1:∀ b,b<L.length→0≤Z9 (cI M) (b*1)∧Z9 (cI M) (b*1)≤1000)(hi1:i≤3)(hi2:True)(hqse23_1:(X8 i 3)=true):Y8 zP0q 25 a4t ((b8u E L M X Y i u ul y yl z)) (BaseW.H (bw v 2 eb ec) hs) (Hd.StepC zP0q 25 0 (fun i:{i:Nat // i≤3∧True}=>⟨[(2,(.ptr 2 0)),(3,(.ptr 3 0)),(4,(.ptr 4 0)),(5,(.ptr 5 0)),(8,(nI0 i.1))],[],6,[(R8 X Y u ul),(R9 E L M y yl z),(Q8 E L M y yl z),Q9,R5,(5,(.cells (cI (tI (A4 (V3 (Y5 X) (cI Y) (cI M)) L.length i.1) 3)) 82))]⟩) (fun i:{i:Nat // i≤3∧True}=>3 - i.1) a2h (bw v 2 eb ec) (U5 zP0q Try.f79 25 ((.agg [nI0 (W4 (V3 (Y5 X) (cI Y) (cI M) 0) L.length),nI0 (W4 (V3 (Y5 X) (cI Y) (cI M) 1) L.length),nI0 (W4 (V3 (Y5 X) (cI Y) (cI M) 2) L.length)])) [(H9 X Y u ul),(I1 E L M y yl z)] (bw v 2 eb ec)) (⟨i,hi1,hi2⟩:{i:Nat // i≤3∧True})):=by
 have hcl_L:=Z3 L
 have hcl_Y:=Z4 Y
 have hcl_M:=Z4 M
 have ghqse23_1:=Y0 hqse23_1
 exact Z8 V9 (g6 zC0q (G8) 200 (T':=(b9j E L M X Y i u ul y yl z)) (e:=.normal) (m:=8) (ps:=[K5 IntKind.i64 (((i:Nat):Int)+1)]) [.go,.go] (by kernel_rfl) (by kernel_rfl) ⟨(by show -9223372036854775808≤_∧_≤9223372036854775807;constructor<;>omega),trivial⟩ rfl (by show 6≤8;decide) ⟨⟨x6 (by show 2<6;decide),x6 (by show 3<6;decide),x6 (by show 4<6;decide),x6 (by show 5<6;decide),a0b _,trivial⟩,⟨⟨by show 0<6;decide,J9 (S7 (B0 (X5 (K8 _))) (S7 (a0e (Z1 Y)) (fun _ hz=>absurd hz List.not_mem_nil)))⟩,⟨by show 1<6;decide,J9 (S7 (B0 (X5 (X7 _))) (S7 (a0e (W6 L)) (S7 (a7z (S7 (a0e (Z1 M)) (fun _ hz=>absurd hz List.not_mem_nil)) (fun _ hz=>absurd hz List.not_mem_nil)) (fun _ hz=>absurd hz List.not_mem_nil))))⟩,⟨by show 2<6;decide,J9 (S7 (B0 (X5 (X7 _))) (S7 (a0e (W6 L)) (S7 (a7z (S7 (a0e (Z1 M)) (fun _ hz=>absurd hz List.not_mem_nil)) (fun _ hz=>absurd hz List.not_mem_nil)) (fun _ hz=>absurd hz List.not_mem_nil))))⟩,⟨by show 3<6;decide,J9 (S7 (a7z (fun _ hz=>absurd hz List.not_mem_nil) (S7 (x6 (by show 0<6;decide)) (S7 (x6 (by show 1<6;decide)) (fun _ hz=>absurd hz List.not_mem_nil)))) (fun _ hz=>absurd hz List.not_mem_nil))⟩,⟨by show 4<6;decide,J9 (S7 (a0b _) (S7 (a0b _) (S7 (a0b _) (fun _ hz=>absurd hz List.not_mem_nil))))⟩,⟨by show 5<6;decide,a7H (Z1 _)⟩,trivial⟩,rfl⟩ (by show 2≤6;decide)) (Hd.en_on (⟨i+1,by omega,trivial⟩) (by show 3 - (i+1)<3 - i;omega) (show ((b9j E L M X Y i u ul y yl z):Ev.Lit)=⟨[(2,(.ptr 2 0)),(3,(.ptr 3 0)),(4,(.ptr 4 0)),(5,(.ptr 5 0)),(8,(nI0 (((i+1):Nat):Int)))],[],6,[(R8 X Y u ul),(R9 E L M y yl z),(Q8 E L M y yl z),Q9,R5,(5,(.cells (cI (tI (A4 (V3 (Y5 X) (cI Y) (cI M)) L.length (i+1)) 3)) 82))]⟩ from by have hz_:=congrArg (fun (xq0:Ev.AB)=>(⟨[(2,(.ptr 2 0)),(3,(.ptr 3 0)),(4,(.ptr 4 0)),(5,(.ptr 5 0)),(8,(nI0 (((i+1):Nat):Int)))],[],6,[(R8 X Y u ul),(R9 E L M y yl z),(Q8 E L M y yl z),Q9,R5,(5,xq0)]⟩:Ev.Lit)) (congrArg (fun z=>Ev.AB.cells z 82) (show ((cI (tI (f7 (V3 (Y5 X) (cI Y) (cI M)) L.length i L.length) 3)):List Ev.AV)=(cI (tI (A4 (V3 (Y5 X) (cI Y) (cI M)) L.length (i+1)) 3)) from by rw [b2X]));exact hz_))
theorem c2w(hn8:L.length≤8)(hx3:X.length=3)(hxr:∀ i,i<3→R3 (Y5 X) (i*1)=L.length)(hy:Y.length=L.length)(hm:M.length=L.length)(hx1:∀ i,i<3→∀ b,b<L.length→0≤Z9 (V4 (Y5 X) (i*1)) (b*1)∧Z9 (V4 (Y5 X) (i*1)) (b*1)≤100)(hy1:∀ b,b<L.length→0≤Z9 (cI Y) (b*1)∧Z9 (cI Y) (b*1)≤100)(hm1:∀ b,b<L.length→0≤Z9 (cI M) (b*1)∧Z9 (cI M) (b*1)≤1000)(hi1:i≤3)(hi2:True)(hqse23_1:(X8 i 3)=true):Y8 zP0q 25 P3 ((a7T E L M X Y i u ul y yl z)) (BaseW.H (bw v 2 eb ec) hs) (a3J 2 (Hd.AfterB zP0q 25 1 a4t (bw v 2 eb ec) (Hd.StepC zP0q 25 0 (fun i:{i:Nat // i≤3∧True}=>⟨[(2,(.ptr 2 0)),(3,(.ptr 3 0)),(4,(.ptr 4 0)),(5,(.ptr 5 0)),(8,(nI0 i.1))],[],6,[(R8 X Y u ul),(R9 E L M y yl z),(Q8 E L M y yl z),Q9,R5,(5,(.cells (cI (tI (A4 (V3 (Y5 X) (cI Y) (cI M)) L.length i.1) 3)) 82))]⟩) (fun i:{i:Nat // i≤3∧True}=>3 - i.1) a2h (bw v 2 eb ec) (U5 zP0q Try.f79 25 ((.agg [nI0 (W4 (V3 (Y5 X) (cI Y) (cI M) 0) L.length),nI0 (W4 (V3 (Y5 X) (cI Y) (cI M) 1) L.length),nI0 (W4 (V3 (Y5 X) (cI Y) (cI M) 2) L.length)])) [(H9 X Y u ul),(I1 E L M y yl z)] (bw v 2 eb ec)) (⟨i,hi1,hi2⟩:{i:Nat // i≤3∧True})))):=by
 have hcl_L:=Z3 L
 have hcl_Y:=Z4 Y
 have hcl_M:=Z4 M
 have ghqse23_1:=Y0 hqse23_1
 refine U9 (T':=(a7T E L M X Y i u ul y yl z)) (by kernel_rfl) (by kernel_rfl) (by kernel_rfl) (by kernel_rfl) ?_
 exact a19 (T1:=(⟨[(0,(.yld 9)),(1,(.ptr 7 0))],[],10,9,[(3,(.ptr 3 0)),(5,(.ptr 5 0)),(6,(.ptr 6 0))],[(R8 X Y u ul),(R9 E L M y yl z),(Q8 E L M y yl z),Q9,R5,(p7 L M X Y i),(F2 i),(b1M E L M y yl z),(8,(.defd .true))],.ready,none,25,E4 P3,E3 P3,E5 P3,8⟩:Ev.Lit1)) (T2:=(fun _:Unit=>(⟨[],[],10,9,[(3,(.ptr 3 0)),(5,(.ptr 5 0)),(6,(.ptr 6 0))],[(R8 X Y u ul),(R9 E L M y yl z),(Q8 E L M y yl z),Q9,R5,(a6y L M X Y i),(F2 i),(8,(.defd .true))],.ready,none,25,E4 P3,E3 P3,E5 P3,8⟩:Ev.Lit1))) (T3:=fun _:Unit=>(b8G E L M X Y i u ul y yl z)) (R:=(fun _:Unit=>True)) (k:=93) (l:=9) (szk:=16) (K:=10) (e:=fun _=>.normal) rfl (by kernel_rfl) Try.func93 (by kernel_rfl) (by kernel_rfl) (by kernel_rfl) (by kernel_rfl) (by kernel_rfl) (fun _ _=>rfl) (fun v eb ec=>b9J hn8 hx3 hxr hy hm hx1 hy1 hm1 hi1 hi2 hqse23_1) (fun _ _=>by kernel_rfl) (fun _ _=>a8V (T:=(b8G E L M X Y i u ul y yl z)) (T':=(b8u E L M X Y i u ul y yl z)) (m:=8) [0,1,2,3,4,5,6,7] [(.ptr 2 0),(.ptr 3 0),(.ptr 4 0),(.ptr 5 0),(nI0 i)] [(a8U X Y u ul),(a2g E L M y yl z),(a2g E L M y yl z),b41,b0F,(b59 L M X Y i)] rfl (by kernel_rfl) rfl rfl (by decide) (by kernel_rfl) (by kernel_rfl) ⟨V5 rfl,V5 rfl,V5 rfl,V5 rfl,N1 _,trivial⟩ ⟨⟨by show 0<8;decide,Y1 (Z5 (T6 (X5 (K8 _))) (Z5 (Q2 (Y6 (Z1 Y))) (Y2)))⟩,⟨by show 1<8;decide,Y1 (Z5 (T6 (X5 (X7 _))) (Z5 (Q2 (Y6 (W6 L))) (Z5 (f6 (Z5 (Q2 (Y6 (Z1 M))) (Y2)) (Y2)) (Y2))))⟩,⟨by show 2<8;decide,Y1 (Z5 (T6 (X5 (X7 _))) (Z5 (Q2 (Y6 (W6 L))) (Z5 (f6 (Z5 (Q2 (Y6 (Z1 M))) (Y2)) (Y2)) (Y2))))⟩,⟨by show 3<8;decide,Y1 (Z5 (f6 (Y2) (Z5 (V5 rfl) (Z5 (V5 rfl) (Y2)))) (Y2))⟩,⟨by show 4<8;decide,Y1 (Z5 (N1 _) (Z5 (N1 _) (Z5 (N1 _) (Y2))))⟩,⟨by show 5<8;decide,Y1 (Y6 (Z1 _))⟩,trivial⟩ ⟨(by show 0≠8;decide),(by show 1≠8;decide),(by show 2≠8;decide),(by show 3≠8;decide),(by show 4≠8;decide),(by show 5≠8;decide),trivial⟩ (by show 2≤8;decide) (fun b hb=>(by have hb2:b<2:=hb;match b,hb2 with|0,_=>rfl|1,_=>rfl)) (fun hs=>b9n (Hd.en_bn (c3r hn8 hx3 hxr hy hm hx1 hy1 hm1 hi1 hi2 hqse23_1))))
theorem c3w(hn8:L.length≤8)(hx3:X.length=3)(hxr:∀ i,i<3→R3 (Y5 X) (i*1)=L.length)(hy:Y.length=L.length)(hm:M.length=L.length)(hx1:∀ i,i<3→∀ b,b<L.length→0≤Z9 (V4 (Y5 X) (i*1)) (b*1)∧Z9 (V4 (Y5 X) (i*1)) (b*1)≤100)(hy1:∀ b,b<L.length→0≤Z9 (cI Y) (b*1)∧Z9 (cI Y) (b*1)≤100)(hm1:∀ b,b<L.length→0≤Z9 (cI M) (b*1)∧Z9 (cI M) (b*1)≤1000)(hi1:i≤3)(hi2:True)(hqse23_1:(X8 i 3)=true):Y8 zP0q 25 P3 ((a7T E L M X Y i u ul y yl z)) (BaseW.H (bw v 2 eb ec) hs) (a3J 2 (Hd.AfterB zP0q 25 1 a4t (bw v 2 eb ec) (Hd.StepC zP0q 25 0 (fun i:{i:Nat // i≤3∧True}=>⟨[(2,(.ptr 2 0)),(3,(.ptr 3 0)),(4,(.ptr 4 0)),(5,(.ptr 5 0)),(8,(nI0 i.1))],[],6,[(R8 X Y u ul),(R9 E L M y yl z),(Q8 E L M y yl z),Q9,R5,(5,(.cells (cI (tI (A4 (V3 (Y5 X) (cI Y) (cI M)) L.length i.1) 3)) 82))]⟩) (fun i:{i:Nat // i≤3∧True}=>3 - i.1) a2h (bw v 2 eb ec) (U5 zP0q Try.f79 25 ((.agg [nI0 (W4 (V3 (Y5 X) (cI Y) (cI M) 0) L.length),nI0 (W4 (V3 (Y5 X) (cI Y) (cI M) 1) L.length),nI0 (W4 (V3 (Y5 X) (cI Y) (cI M) 2) L.length)])) [(H9 X Y u ul),(I1 E L M y yl z)] (bw v 2 eb ec)) (⟨i,hi1,hi2⟩:{i:Nat // i≤3∧True})))):=by
 exact c2w hn8 hx3 hxr hy hm hx1 hy1 hm1 hi1 hi2 hqse23_1
theorem c5w(hn8:L.length≤8)(hx3:X.length=3)(hxr:∀ i,i<3→R3 (Y5 X) (i*1)=L.length)(hy:Y.length=L.length)(hm:M.length=L.length)(hx1:∀ i,i<3→∀ b,b<L.length→0≤Z9 (V4 (Y5 X) (i*1)) (b*1)∧Z9 (V4 (Y5 X) (i*1)) (b*1)≤100)(hy1:∀ b,b<L.length→0≤Z9 (cI Y) (b*1)∧Z9 (cI Y) (b*1)≤100)(hm1:∀ b,b<L.length→0≤Z9 (cI M) (b*1)∧Z9 (cI M) (b*1)≤1000)(hi1:i≤3)(hi2:True)(hqse23_1:(X8 i 3)=true):Y8 zP0q 25 b3W ((a7T E L M X Y i u ul y yl z)) (BaseW.H (bw v 2 eb ec) hs) (Hd.AfterB zP0q 25 1 a4t (bw v 2 eb ec) (Hd.StepC zP0q 25 0 (fun i:{i:Nat // i≤3∧True}=>⟨[(2,(.ptr 2 0)),(3,(.ptr 3 0)),(4,(.ptr 4 0)),(5,(.ptr 5 0)),(8,(nI0 i.1))],[],6,[(R8 X Y u ul),(R9 E L M y yl z),(Q8 E L M y yl z),Q9,R5,(5,(.cells (cI (tI (A4 (V3 (Y5 X) (cI Y) (cI M)) L.length i.1) 3)) 82))]⟩) (fun i:{i:Nat // i≤3∧True}=>3 - i.1) a2h (bw v 2 eb ec) (U5 zP0q Try.f79 25 ((.agg [nI0 (W4 (V3 (Y5 X) (cI Y) (cI M) 0) L.length),nI0 (W4 (V3 (Y5 X) (cI Y) (cI M) 1) L.length),nI0 (W4 (V3 (Y5 X) (cI Y) (cI M) 2) L.length)])) [(H9 X Y u ul),(I1 E L M y yl z)] (bw v 2 eb ec)) (⟨i,hi1,hi2⟩:{i:Nat // i≤3∧True}))):=by
 exact a7Y (id:=2) (by kernel_rfl) (by kernel_rfl) (c3w hn8 hx3 hxr hy hm hx1 hy1 hm1 hi1 hi2 hqse23_1)
theorem c5g(hn8:L.length≤8)(hx3:X.length=3)(hxr:∀ i,i<3→R3 (Y5 X) (i*1)=L.length)(hy:Y.length=L.length)(hm:M.length=L.length)(hx1:∀ i,i<3→∀ b,b<L.length→0≤Z9 (V4 (Y5 X) (i*1)) (b*1)∧Z9 (V4 (Y5 X) (i*1)) (b*1)≤100)(hy1:∀ b,b<L.length→0≤Z9 (cI Y) (b*1)∧Z9 (cI Y) (b*1)≤100)(hm1:∀ b,b<L.length→0≤Z9 (cI M) (b*1)∧Z9 (cI M) (b*1)≤1000)(hi1:i≤3)(hi2:True)(hqse23_1:(X8 i 3)=true):Y8 zP0q 25 b3W ((a7T E L M X Y i u ul y yl z)) (BaseW.H (bw v 2 eb ec) hs) (Hd.AfterB zP0q 25 1 a4t (bw v 2 eb ec) (Hd.StepC zP0q 25 0 (fun i:{i:Nat // i≤3∧True}=>⟨[(2,(.ptr 2 0)),(3,(.ptr 3 0)),(4,(.ptr 4 0)),(5,(.ptr 5 0)),(8,(nI0 i.1))],[],6,[(R8 X Y u ul),(R9 E L M y yl z),(Q8 E L M y yl z),Q9,R5,(5,(.cells (cI (tI (A4 (V3 (Y5 X) (cI Y) (cI M)) L.length i.1) 3)) 82))]⟩) (fun i:{i:Nat // i≤3∧True}=>3 - i.1) a2h (bw v 2 eb ec) (U5 zP0q Try.f79 25 ((.agg [nI0 (W4 (V3 (Y5 X) (cI Y) (cI M) 0) L.length),nI0 (W4 (V3 (Y5 X) (cI Y) (cI M) 1) L.length),nI0 (W4 (V3 (Y5 X) (cI Y) (cI M) 2) L.length)])) [(H9 X Y u ul),(I1 E L M y yl z)] (bw v 2 eb ec)) (⟨i,hi1,hi2⟩:{i:Nat // i≤3∧True}))):=by
 exact c5w hn8 hx3 hxr hy hm hx1 hy1 hm1 hi1 hi2 hqse23_1
theorem c51(hn8:L.length≤8)(hx3:X.length=3)(hxr:∀ i,i<3→R3 (Y5 X) (i*1)=L.length)(hy:Y.length=L.length)(hm:M.length=L.length)(hx1:∀ i,i<3→∀ b,b<L.length→0≤Z9 (V4 (Y5 X) (i*1)) (b*1)∧Z9 (V4 (Y5 X) (i*1)) (b*1)≤100)(hy1:∀ b,b<L.length→0≤Z9 (cI Y) (b*1)∧Z9 (cI Y) (b*1)≤100)(hm1:∀ b,b<L.length→0≤Z9 (cI M) (b*1)∧Z9 (cI M) (b*1)≤1000)(hi1:i≤3)(hi2:True)(hqse23_1:(X8 i 3)=true):Y8 zP0q 25 b8Z ((b9t E L M X Y i u ul y yl z)) (BaseW.H (bw v 2 eb ec) hs) (Hd.AfterB zP0q 25 1 a4t (bw v 2 eb ec) (Hd.StepC zP0q 25 0 (fun i:{i:Nat // i≤3∧True}=>⟨[(2,(.ptr 2 0)),(3,(.ptr 3 0)),(4,(.ptr 4 0)),(5,(.ptr 5 0)),(8,(nI0 i.1))],[],6,[(R8 X Y u ul),(R9 E L M y yl z),(Q8 E L M y yl z),Q9,R5,(5,(.cells (cI (tI (A4 (V3 (Y5 X) (cI Y) (cI M)) L.length i.1) 3)) 82))]⟩) (fun i:{i:Nat // i≤3∧True}=>3 - i.1) a2h (bw v 2 eb ec) (U5 zP0q Try.f79 25 ((.agg [nI0 (W4 (V3 (Y5 X) (cI Y) (cI M) 0) L.length),nI0 (W4 (V3 (Y5 X) (cI Y) (cI M) 1) L.length),nI0 (W4 (V3 (Y5 X) (cI Y) (cI M) 2) L.length)])) [(H9 X Y u ul),(I1 E L M y yl z)] (bw v 2 eb ec)) (⟨i,hi1,hi2⟩:{i:Nat // i≤3∧True}))):=by
 have hcl_L:=Z3 L
 have hcl_Y:=Z4 Y
 have hcl_M:=Z4 M
 have ghqse23_1:=Y0 hqse23_1
 refine Hd.goes_seqA (by kernel_rfl) ?_
 exact Z8 V9 (Z7 zC0q (G8) 200 (T':=(a7T E L M X Y i u ul y yl z)) (e:=.normal) (ps:=[]) (gH 5 []) (by kernel_rfl) (by kernel_rfl) trivial rfl) (Hd.en_n (c5g hn8 hx3 hxr hy hm hx1 hy1 hm1 hi1 hi2 hqse23_1))
theorem c5l(hn8:L.length≤8)(hx3:X.length=3)(hxr:∀ i,i<3→R3 (Y5 X) (i*1)=L.length)(hy:Y.length=L.length)(hm:M.length=L.length)(hx1:∀ i,i<3→∀ b,b<L.length→0≤Z9 (V4 (Y5 X) (i*1)) (b*1)∧Z9 (V4 (Y5 X) (i*1)) (b*1)≤100)(hy1:∀ b,b<L.length→0≤Z9 (cI Y) (b*1)∧Z9 (cI Y) (b*1)≤100)(hm1:∀ b,b<L.length→0≤Z9 (cI M) (b*1)∧Z9 (cI M) (b*1)≤1000)(hi1:i≤3)(hi2:True)(hqse23_1:(X8 i 3)=true):Y8 zP0q 25 b8Q ((b2V E L M X Y i u ul y yl z)) (BaseW.H (bw v 2 eb ec) hs) (Hd.AfterB zP0q 25 1 a4t (bw v 2 eb ec) (Hd.StepC zP0q 25 0 (fun i:{i:Nat // i≤3∧True}=>⟨[(2,(.ptr 2 0)),(3,(.ptr 3 0)),(4,(.ptr 4 0)),(5,(.ptr 5 0)),(8,(nI0 i.1))],[],6,[(R8 X Y u ul),(R9 E L M y yl z),(Q8 E L M y yl z),Q9,R5,(5,(.cells (cI (tI (A4 (V3 (Y5 X) (cI Y) (cI M)) L.length i.1) 3)) 82))]⟩) (fun i:{i:Nat // i≤3∧True}=>3 - i.1) a2h (bw v 2 eb ec) (U5 zP0q Try.f79 25 ((.agg [nI0 (W4 (V3 (Y5 X) (cI Y) (cI M) 0) L.length),nI0 (W4 (V3 (Y5 X) (cI Y) (cI M) 1) L.length),nI0 (W4 (V3 (Y5 X) (cI Y) (cI M) 2) L.length)])) [(H9 X Y u ul),(I1 E L M y yl z)] (bw v 2 eb ec)) (⟨i,hi1,hi2⟩:{i:Nat // i≤3∧True}))):=by
 have hcl_L:=Z3 L
 have hcl_Y:=Z4 Y
 have hcl_M:=Z4 M
 have ghqse23_1:=Y0 hqse23_1
 refine Hd.goes_seqA (by kernel_rfl) ?_
 exact Z8 V9 (Z7 zC0q (G8) 200 (T':=(b9t E L M X Y i u ul y yl z)) (e:=.normal) (ps:=[]) [.go,.go,.go] (by kernel_rfl) (by kernel_rfl) trivial rfl) (Hd.en_n (c51 hn8 hx3 hxr hy hm hx1 hy1 hm1 hi1 hi2 hqse23_1))
theorem c4G(hn8:L.length≤8)(hx3:X.length=3)(hxr:∀ i,i<3→R3 (Y5 X) (i*1)=L.length)(hy:Y.length=L.length)(hm:M.length=L.length)(hx1:∀ i,i<3→∀ b,b<L.length→0≤Z9 (V4 (Y5 X) (i*1)) (b*1)∧Z9 (V4 (Y5 X) (i*1)) (b*1)≤100)(hy1:∀ b,b<L.length→0≤Z9 (cI Y) (b*1)∧Z9 (cI Y) (b*1)≤100)(hm1:∀ b,b<L.length→0≤Z9 (cI M) (b*1)∧Z9 (cI M) (b*1)≤1000)(hi1:i≤3)(hi2:True)(hqse23_1:(X8 i 3)=true):Y8 zP0q 25 (f8 b2D) ((b2V E L M X Y i u ul y yl z)) (BaseW.H (bw v 2 eb ec) hs) (Hd.AfterN zP0q 25 a4t (bw v 2 eb ec) (Hd.StepC zP0q 25 0 (fun i:{i:Nat // i≤3∧True}=>⟨[(2,(.ptr 2 0)),(3,(.ptr 3 0)),(4,(.ptr 4 0)),(5,(.ptr 5 0)),(8,(nI0 i.1))],[],6,[(R8 X Y u ul),(R9 E L M y yl z),(Q8 E L M y yl z),Q9,R5,(5,(.cells (cI (tI (A4 (V3 (Y5 X) (cI Y) (cI M)) L.length i.1) 3)) 82))]⟩) (fun i:{i:Nat // i≤3∧True}=>3 - i.1) a2h (bw v 2 eb ec) (U5 zP0q Try.f79 25 ((.agg [nI0 (W4 (V3 (Y5 X) (cI Y) (cI M) 0) L.length),nI0 (W4 (V3 (Y5 X) (cI Y) (cI M) 1) L.length),nI0 (W4 (V3 (Y5 X) (cI Y) (cI M) 2) L.length)])) [(H9 X Y u ul),(I1 E L M y yl z)] (bw v 2 eb ec)) (⟨i,hi1,hi2⟩:{i:Nat // i≤3∧True}))):=by
 exact Hd.goes_blkA (id:=1) (by kernel_rfl) (by kernel_rfl) (c5l hn8 hx3 hxr hy hm hx1 hy1 hm1 hi1 hi2 hqse23_1)
theorem c4V(hn8:L.length≤8)(hx3:X.length=3)(hxr:∀ i,i<3→R3 (Y5 X) (i*1)=L.length)(hy:Y.length=L.length)(hm:M.length=L.length)(hx1:∀ i,i<3→∀ b,b<L.length→0≤Z9 (V4 (Y5 X) (i*1)) (b*1)∧Z9 (V4 (Y5 X) (i*1)) (b*1)≤100)(hy1:∀ b,b<L.length→0≤Z9 (cI Y) (b*1)∧Z9 (cI Y) (b*1)≤100)(hm1:∀ b,b<L.length→0≤Z9 (cI M) (b*1)∧Z9 (cI M) (b*1)≤1000)(hi1:i≤3)(hi2:True)(hqse23_1:(X8 i 3)=true):Y8 zP0q 25 b2D ((b2V E L M X Y i u ul y yl z)) (BaseW.H (bw v 2 eb ec) hs) (Hd.StepC zP0q 25 0 (fun i:{i:Nat // i≤3∧True}=>⟨[(2,(.ptr 2 0)),(3,(.ptr 3 0)),(4,(.ptr 4 0)),(5,(.ptr 5 0)),(8,(nI0 i.1))],[],6,[(R8 X Y u ul),(R9 E L M y yl z),(Q8 E L M y yl z),Q9,R5,(5,(.cells (cI (tI (A4 (V3 (Y5 X) (cI Y) (cI M)) L.length i.1) 3)) 82))]⟩) (fun i:{i:Nat // i≤3∧True}=>3 - i.1) a2h (bw v 2 eb ec) (U5 zP0q Try.f79 25 ((.agg [nI0 (W4 (V3 (Y5 X) (cI Y) (cI M) 0) L.length),nI0 (W4 (V3 (Y5 X) (cI Y) (cI M) 1) L.length),nI0 (W4 (V3 (Y5 X) (cI Y) (cI M) 2) L.length)])) [(H9 X Y u ul),(I1 E L M y yl z)] (bw v 2 eb ec)) (⟨i,hi1,hi2⟩:{i:Nat // i≤3∧True})):=by
 exact Hd.goes_seqA (by kernel_rfl) (c4G hn8 hx3 hxr hy hm hx1 hy1 hm1 hi1 hi2 hqse23_1)
theorem c47(hn8:L.length≤8)(hx3:X.length=3)(hxr:∀ i,i<3→R3 (Y5 X) (i*1)=L.length)(hy:Y.length=L.length)(hm:M.length=L.length)(hx1:∀ i,i<3→∀ b,b<L.length→0≤Z9 (V4 (Y5 X) (i*1)) (b*1)∧Z9 (V4 (Y5 X) (i*1)) (b*1)≤100)(hy1:∀ b,b<L.length→0≤Z9 (cI Y) (b*1)∧Z9 (cI Y) (b*1)≤100)(hm1:∀ b,b<L.length→0≤Z9 (cI M) (b*1)∧Z9 (cI M) (b*1)≤1000)(h0b:True)(hqse23_1:(X8 3 3)=false):Y8 zP0q 25 a2h ((b5f E L M X Y u ul y yl z)) (BaseW.H (bw v 2 eb ec) hs) (U5 zP0q Try.f79 25 ((.agg [nI0 (W4 (V3 (Y5 X) (cI Y) (cI M) 0) L.length),nI0 (W4 (V3 (Y5 X) (cI Y) (cI M) 1) L.length),nI0 (W4 (V3 (Y5 X) (cI Y) (cI M) 2) L.length)])) [(H9 X Y u ul),(I1 E L M y yl z)] (bw v 2 eb ec)):=by
 have hcl_L:=Z3 L
 have hcl_Y:=Z4 Y
 have hcl_M:=Z4 M
 have ghqse23_1:=Z6 hqse23_1
 exact Z8 V1 (P4 zC0q (G8) 200 (T':=⟨[(4,(.ptr 2 0))],[],3,[(R8 X Y u ul),(R9 E L M y yl z),(2,(b6b L M X Y))]⟩) (e:=.ret) (m:=6) (ps:=[W2 zP0q (cI (tI (A4 (V3 (Y5 X) (cI Y) (cI M)) L.length 3) 3)) 0 82=some (AV.agg [AV.v (Value.int IntKind.i64 (Z9 (cI (tI (A4 (V3 (Y5 X) (cI Y) (cI M)) L.length 3) 3)) 0)),AV.v (Value.int IntKind.i64 (Z9 (cI (tI (A4 (V3 (Y5 X) (cI Y) (cI M)) L.length 3) 3)) (0+1))),AV.v (Value.int IntKind.i64 (Z9 (cI (tI (A4 (V3 (Y5 X) (cI Y) (cI M)) L.length 3) 3)) (0+1+1)))])]) [.sym,.go] [0,1,4] [(.ptr 4 0)] [(a8U X Y u ul),(a2g E L M y yl z),(b6b L M X Y)] (by kernel_rfl) (by kernel_rfl) ⟨(by rw [a1J];kernel_rfl),trivial⟩ rfl rfl (by decide) rfl ⟨V5 rfl,trivial⟩ ⟨⟨by show 0<3;decide,Y1 (Z5 (T6 (X5 (K8 _))) (Z5 (Q2 (Y6 (Z1 Y))) (Y2)))⟩,⟨by show 1<3;decide,Y1 (Z5 (T6 (X5 (X7 _))) (Z5 (Q2 (Y6 (W6 L))) (Z5 (f6 (Z5 (Q2 (Y6 (Z1 M))) (Y2)) (Y2)) (Y2))))⟩,⟨by show 2<3;decide,Y1 (Z5 (N1 _) (Z5 (N1 _) (Z5 (N1 _) (Y2))))⟩,trivial⟩ (by show 2≤3;decide) (fun b hb=>(by have hb2:b<2:=hb;match b,hb2 with|0,_=>rfl|1,_=>rfl))) (a9 (r:=(.agg [(nI0 (Z9 (cI (tI (A4 (V3 (Y5 X) (cI Y) (cI M)) L.length 3) 3)) 0)),(nI0 (Z9 (cI (tI (A4 (V3 (Y5 X) (cI Y) (cI M)) L.length 3) 3)) (0+1))),(nI0 (Z9 (cI (tI (A4 (V3 (Y5 X) (cI Y) (cI M)) L.length 3) 3)) (0+1+1)))])) (ys:=[(a8U X Y u ul),(a2g E L M y yl z)]) (by (rw [a1J];rfl)) (by rfl) (s6 (by kernel_rfl) (by kernel_rfl) rfl (.inr rfl)))
theorem c5v(hn8:L.length≤8)(hx3:X.length=3)(hxr:∀ i,i<3→R3 (Y5 X) (i*1)=L.length)(hy:Y.length=L.length)(hm:M.length=L.length)(hx1:∀ i,i<3→∀ b,b<L.length→0≤Z9 (V4 (Y5 X) (i*1)) (b*1)∧Z9 (V4 (Y5 X) (i*1)) (b*1)≤100)(hy1:∀ b,b<L.length→0≤Z9 (cI Y) (b*1)∧Z9 (cI Y) (b*1)≤100)(hm1:∀ b,b<L.length→0≤Z9 (cI M) (b*1)∧Z9 (cI M) (b*1)≤1000)(hi1:i≤3)(hi2:True):Y8 zP0q 25 b9g ((b9q E L M X Y i u ul y yl z)) (BaseW.H (bw v 2 eb ec) hs) (Hd.StepC zP0q 25 0 (fun i:{i:Nat // i≤3∧True}=>⟨[(2,(.ptr 2 0)),(3,(.ptr 3 0)),(4,(.ptr 4 0)),(5,(.ptr 5 0)),(8,(nI0 i.1))],[],6,[(R8 X Y u ul),(R9 E L M y yl z),(Q8 E L M y yl z),Q9,R5,(5,(.cells (cI (tI (A4 (V3 (Y5 X) (cI Y) (cI M)) L.length i.1) 3)) 82))]⟩) (fun i:{i:Nat // i≤3∧True}=>3 - i.1) a2h (bw v 2 eb ec) (U5 zP0q Try.f79 25 ((.agg [nI0 (W4 (V3 (Y5 X) (cI Y) (cI M) 0) L.length),nI0 (W4 (V3 (Y5 X) (cI Y) (cI M) 1) L.length),nI0 (W4 (V3 (Y5 X) (cI Y) (cI M) 2) L.length)])) [(H9 X Y u ul),(I1 E L M y yl z)] (bw v 2 eb ec)) (⟨i,hi1,hi2⟩:{i:Nat // i≤3∧True})):=by
 have hcl_L:=Z3 L
 have hcl_Y:=Z4 Y
 have hcl_M:=Z4 M
 refine Hd.goes_seqA (by kernel_rfl) ?_
 rcases zB0q (X8 i 3) with hqse23_1|hqse23_1
 ·have ghqse23_1:=Y0 hqse23_1
  exact Z8 V9 (Z7 zC0q (G8) 200 (T':=(b2V E L M X Y i u ul y yl z)) (e:=.normal) (ps:=[X8 i 3=true]) [.b true] (by kernel_rfl) (by kernel_rfl) ⟨hqse23_1,trivial⟩ rfl) (Hd.en_n (c4V hn8 hx3 hxr hy hm hx1 hy1 hm1 hi1 hi2 hqse23_1))
 ·have ghqse23_1:=Z6 hqse23_1
  obtain rfl:3=i:=by omega
  exact Z8 B7 (Z7 zC0q (G8) 200 (T':=(b5f E L M X Y u ul y yl z)) (e:=.exit 0) (ps:=[X8 3 3=false]) [.b false] (by kernel_rfl) (by kernel_rfl) ⟨hqse23_1,trivial⟩ rfl) (Hd.en_o (by intro h;cases h) (Hd.en_sx (c47 hn8 hx3 hxr hy hm hx1 hy1 hm1 hi2 hqse23_1)))
theorem c2i(hn8:L.length≤8)(hx3:X.length=3)(hxr:∀ i,i<3→R3 (Y5 X) (i*1)=L.length)(hy:Y.length=L.length)(hm:M.length=L.length)(hx1:∀ i,i<3→∀ b,b<L.length→0≤Z9 (V4 (Y5 X) (i*1)) (b*1)∧Z9 (V4 (Y5 X) (i*1)) (b*1)≤100)(hy1:∀ b,b<L.length→0≤Z9 (cI Y) (b*1)∧Z9 (cI Y) (b*1)≤100)(hm1:∀ b,b<L.length→0≤Z9 (cI M) (b*1)∧Z9 (cI M) (b*1)≤1000)(hi1:i≤3)(hi2:True):Y8 zP0q 25 b93 (⟨[(2,(.ptr 2 0)),(3,(.ptr 3 0)),(4,(.ptr 4 0)),(5,(.ptr 5 0)),(8,(nI0 i))],[],6,[(R8 X Y u ul),(R9 E L M y yl z),(Q8 E L M y yl z),Q9,R5,(p7 L M X Y i)]⟩) (BaseW.H (bw v 2 eb ec) hs) (Hd.StepC zP0q 25 0 (fun i:{i:Nat // i≤3∧True}=>⟨[(2,(.ptr 2 0)),(3,(.ptr 3 0)),(4,(.ptr 4 0)),(5,(.ptr 5 0)),(8,(nI0 i.1))],[],6,[(R8 X Y u ul),(R9 E L M y yl z),(Q8 E L M y yl z),Q9,R5,(5,(.cells (cI (tI (A4 (V3 (Y5 X) (cI Y) (cI M)) L.length i.1) 3)) 82))]⟩) (fun i:{i:Nat // i≤3∧True}=>3 - i.1) a2h (bw v 2 eb ec) (U5 zP0q Try.f79 25 ((.agg [nI0 (W4 (V3 (Y5 X) (cI Y) (cI M) 0) L.length),nI0 (W4 (V3 (Y5 X) (cI Y) (cI M) 1) L.length),nI0 (W4 (V3 (Y5 X) (cI Y) (cI M) 2) L.length)])) [(H9 X Y u ul),(I1 E L M y yl z)] (bw v 2 eb ec)) (⟨i,hi1,hi2⟩:{i:Nat // i≤3∧True})):=by
 have hcl_L:=Z3 L
 have hcl_Y:=Z4 Y
 have hcl_M:=Z4 M
 refine Hd.goes_seqA (by kernel_rfl) ?_
 exact Z8 V9 (Z7 zC0q (G8) 200 (T':=(b9q E L M X Y i u ul y yl z)) (e:=.normal) (ps:=[]) [.go] (by kernel_rfl) (by kernel_rfl) trivial rfl) (Hd.en_n (c5v hn8 hx3 hxr hy hm hx1 hy1 hm1 hi1 hi2))
theorem c3X(hn8:L.length≤8)(hx3:X.length=3)(hxr:∀ i,i<3→R3 (Y5 X) (i*1)=L.length)(hy:Y.length=L.length)(hm:M.length=L.length)(hx1:∀ i,i<3→∀ b,b<L.length→0≤Z9 (V4 (Y5 X) (i*1)) (b*1)∧Z9 (V4 (Y5 X) (i*1)) (b*1)≤100)(hy1:∀ b,b<L.length→0≤Z9 (cI Y) (b*1)∧Z9 (cI Y) (b*1)≤100)(hm1:∀ b,b<L.length→0≤Z9 (cI M) (b*1)∧Z9 (cI M) (b*1)≤1000):Y8 zP0q 25 b4m ((b2C E L M X Y u ul y yl z)) (BaseW.H (bw v 2 eb ec) hs) (Hd.AfterN zP0q 25 a2h (bw v 2 eb ec) (U5 zP0q Try.f79 25 ((.agg [nI0 (W4 (V3 (Y5 X) (cI Y) (cI M) 0) L.length),nI0 (W4 (V3 (Y5 X) (cI Y) (cI M) 1) L.length),nI0 (W4 (V3 (Y5 X) (cI Y) (cI M) 2) L.length)])) [(H9 X Y u ul),(I1 E L M y yl z)] (bw v 2 eb ec))):=by
 have hcl_L:=Z3 L
 have hcl_Y:=Z4 Y
 have hcl_M:=Z4 M
 rw [show ((b2C E L M X Y u ul y yl z):Ev.Lit)=⟨[(2,(.ptr 2 0)),(3,(.ptr 3 0)),(4,(.ptr 4 0)),(5,(.ptr 5 0)),(8,(nI0 0))],[],6,[(R8 X Y u ul),(R9 E L M y yl z),(Q8 E L M y yl z),Q9,R5,(5,(.cells (cI (tI (A4 (V3 (Y5 X) (cI Y) (cI M)) L.length 0) 3)) 82))]⟩ from by (rw [a9a];rfl)]
 exact Hd.goes_loopA (id:=0) (by kernel_rfl) (by kernel_rfl) (fun i:{i:Nat // i≤3∧True}=>⟨[(2,(.ptr 2 0)),(3,(.ptr 3 0)),(4,(.ptr 4 0)),(5,(.ptr 5 0)),(8,(nI0 i.1))],[],6,[(R8 X Y u ul),(R9 E L M y yl z),(Q8 E L M y yl z),Q9,R5,(5,(.cells (cI (tI (A4 (V3 (Y5 X) (cI Y) (cI M)) L.length i.1) 3)) 82))]⟩) (fun i:{i:Nat // i≤3∧True}=>3 - i.1) (fun ix_ hs=>c2i hn8 hx3 hxr hy hm hx1 hy1 hm1 ix_.2.1 ix_.2.2) ⟨0,Nat.zero_le _,trivial⟩ hs
theorem c2B(hn8:L.length≤8)(hx3:X.length=3)(hxr:∀ i,i<3→R3 (Y5 X) (i*1)=L.length)(hy:Y.length=L.length)(hm:M.length=L.length)(hx1:∀ i,i<3→∀ b,b<L.length→0≤Z9 (V4 (Y5 X) (i*1)) (b*1)∧Z9 (V4 (Y5 X) (i*1)) (b*1)≤100)(hy1:∀ b,b<L.length→0≤Z9 (cI Y) (b*1)∧Z9 (cI Y) (b*1)≤100)(hm1:∀ b,b<L.length→0≤Z9 (cI M) (b*1)∧Z9 (cI M) (b*1)≤1000):Y8 zP0q 25 b4m ((b2C E L M X Y u ul y yl z)) (BaseW.H (bw v 2 eb ec) hs) (Hd.AfterN zP0q 25 a2h (bw v 2 eb ec) (U5 zP0q Try.f79 25 ((.agg [nI0 (W4 (V3 (Y5 X) (cI Y) (cI M) 0) L.length),nI0 (W4 (V3 (Y5 X) (cI Y) (cI M) 1) L.length),nI0 (W4 (V3 (Y5 X) (cI Y) (cI M) 2) L.length)])) [(H9 X Y u ul),(I1 E L M y yl z)] (bw v 2 eb ec))):=by
 exact c3X hn8 hx3 hxr hy hm hx1 hy1 hm1
theorem c5t(hn8:L.length≤8)(hx3:X.length=3)(hxr:∀ i,i<3→R3 (Y5 X) (i*1)=L.length)(hy:Y.length=L.length)(hm:M.length=L.length)(hx1:∀ i,i<3→∀ b,b<L.length→0≤Z9 (V4 (Y5 X) (i*1)) (b*1)∧Z9 (V4 (Y5 X) (i*1)) (b*1)≤100)(hy1:∀ b,b<L.length→0≤Z9 (cI Y) (b*1)∧Z9 (cI Y) (b*1)≤100)(hm1:∀ b,b<L.length→0≤Z9 (cI M) (b*1)∧Z9 (cI M) (b*1)≤1000):Y8 zP0q 25 b8e ((b1h E L M X Y u ul y yl z)) (BaseW.H (bw v 2 eb ec) hs) (Hd.AfterN zP0q 25 a2h (bw v 2 eb ec) (U5 zP0q Try.f79 25 ((.agg [nI0 (W4 (V3 (Y5 X) (cI Y) (cI M) 0) L.length),nI0 (W4 (V3 (Y5 X) (cI Y) (cI M) 1) L.length),nI0 (W4 (V3 (Y5 X) (cI Y) (cI M) 2) L.length)])) [(H9 X Y u ul),(I1 E L M y yl z)] (bw v 2 eb ec))):=by
 have hcl_L:=Z3 L
 have hcl_Y:=Z4 Y
 have hcl_M:=Z4 M
 refine Hd.goes_seqA (by kernel_rfl) ?_
 exact Z8 V9 (Z7 zC0q (G8) 200 (T':=(b2C E L M X Y u ul y yl z)) (e:=.normal) (ps:=[]) [.go] (by kernel_rfl) (by kernel_rfl) trivial rfl) (Hd.en_n (c2B hn8 hx3 hxr hy hm hx1 hy1 hm1))
theorem c7n(hn8:L.length≤8)(hx3:X.length=3)(hxr:∀ i,i<3→R3 (Y5 X) (i*1)=L.length)(hy:Y.length=L.length)(hm:M.length=L.length)(hx1:∀ i,i<3→∀ b,b<L.length→0≤Z9 (V4 (Y5 X) (i*1)) (b*1)∧Z9 (V4 (Y5 X) (i*1)) (b*1)≤100)(hy1:∀ b,b<L.length→0≤Z9 (cI Y) (b*1)∧Z9 (cI Y) (b*1)≤100)(hm1:∀ b,b<L.length→0≤Z9 (cI M) (b*1)∧Z9 (cI M) (b*1)≤1000):Y8 zP0q 25 c1V ((b1h E L M X Y u ul y yl z)) (BaseW.H (bw v 2 eb ec) hs) (U5 zP0q Try.f79 25 ((.agg [nI0 (W4 (V3 (Y5 X) (cI Y) (cI M) 0) L.length),nI0 (W4 (V3 (Y5 X) (cI Y) (cI M) 1) L.length),nI0 (W4 (V3 (Y5 X) (cI Y) (cI M) 2) L.length)])) [(H9 X Y u ul),(I1 E L M y yl z)] (bw v 2 eb ec)):=by
 exact Hd.goes_seqA (by kernel_rfl) (c5t hn8 hx3 hxr hy hm hx1 hy1 hm1)
theorem c6d(hn8:L.length≤8)(hx3:X.length=3)(hxr:∀ i,i<3→R3 (Y5 X) (i*1)=L.length)(hy:Y.length=L.length)(hm:M.length=L.length)(hx1:∀ i,i<3→∀ b,b<L.length→0≤Z9 (V4 (Y5 X) (i*1)) (b*1)∧Z9 (V4 (Y5 X) (i*1)) (b*1)≤100)(hy1:∀ b,b<L.length→0≤Z9 (cI Y) (b*1)∧Z9 (cI Y) (b*1)≤100)(hm1:∀ b,b<L.length→0≤Z9 (cI M) (b*1)∧Z9 (cI M) (b*1)≤1000):Y8 zP0q 25 c58 ((b4x E L M X Y u ul y yl z)) (BaseW.H (bw v 2 eb ec) hs) (U5 zP0q Try.f79 25 ((.agg [nI0 (W4 (V3 (Y5 X) (cI Y) (cI M) 0) L.length),nI0 (W4 (V3 (Y5 X) (cI Y) (cI M) 1) L.length),nI0 (W4 (V3 (Y5 X) (cI Y) (cI M) 2) L.length)])) [(H9 X Y u ul),(I1 E L M y yl z)] (bw v 2 eb ec)):=by
 have hcl_L:=Z3 L
 have hcl_Y:=Z4 Y
 have hcl_M:=Z4 M
 refine Hd.goes_seqA (by kernel_rfl) ?_
 exact Z8 V9 (Z7 zC0q (G8) 200 (T':=(b1h E L M X Y u ul y yl z)) (e:=.normal) (ps:=[]) [.go] (by kernel_rfl) (by kernel_rfl) trivial rfl) (Hd.en_n (c7n hn8 hx3 hxr hy hm hx1 hy1 hm1))
end
theorem c6V(y:Value)(E:List (Value×List (Int×Int)))(yl:Value)(L:List (Int×Int))(u:Value)(X:List (Value×List Int))(ul:Value)(Y:List Int)(z:Value)(M:List Int)(hn8:L.length≤8)(hx3:X.length=3)(hxr:∀ i,i<3→R3 (Y5 X) (i*1)=L.length)(hy:Y.length=L.length)(hm:M.length=L.length)(hx1:∀ i,i<3→∀ b,b<L.length→0≤Z9 (V4 (Y5 X) (i*1)) (b*1)∧Z9 (V4 (Y5 X) (i*1)) (b*1)≤100)(hy1:∀ b,b<L.length→0≤Z9 (cI Y) (b*1)∧Z9 (cI Y) (b*1)≤100)(hm1:∀ b,b<L.length→0≤Z9 (cI M) (b*1)∧Z9 (cI M) (b*1)≤1000)(v:BaseW)(eb:Nat→Option Nat)(ec:Nat→Nat)(hs:List Nat):Y8 zP0q 25 c4k (⟨[(0,(.agg (b1K E L M y yl z))),(1,(.fn (.func 80) [] [.ptr 0 0,.ptr 1 0]))],[],2,[(0,(H9 X Y u ul)),(1,(I1 E L M y yl z))]⟩) (BaseW.H (bw v 2 eb ec) hs) (U5 zP0q Try.f79 25 ((.agg [nI0 (W4 (V3 (Y5 X) (cI Y) (cI M) 0) L.length),nI0 (W4 (V3 (Y5 X) (cI Y) (cI M) 1) L.length),nI0 (W4 (V3 (Y5 X) (cI Y) (cI M) 2) L.length)])) [(H9 X Y u ul),(I1 E L M y yl z)] (bw v 2 eb ec)):=by
 have hcl_L:=Z3 L
 have hcl_Y:=Z4 Y
 have hcl_M:=Z4 M
 refine Hd.goes_seqA (by kernel_rfl) ?_
 exact Z8 V9 (Z7 zC0q (G8) 200 (T':=(b4x E L M X Y u ul y yl z)) (e:=.normal) (ps:=[]) [.go,.go,.go] (by kernel_rfl) (by kernel_rfl) trivial rfl) (Hd.en_n (c6d hn8 hx3 hxr hy hm hx1 hy1 hm1))
theorem c7o(y:Value)(E:List (Value×List (Int×Int)))(yl:Value)(L:List (Int×Int))(u:Value)(X:List (Value×List Int))(ul:Value)(Y:List Int)(z:Value)(M:List Int)(hn8:L.length≤8)(hx3:X.length=3)(hxr:∀ i,i<3→R3 (Y5 X) (i*1)=L.length)(hy:Y.length=L.length)(hm:M.length=L.length)(hx1:∀ i,i<3→∀ b,b<L.length→0≤Z9 (V4 (Y5 X) (i*1)) (b*1)∧Z9 (V4 (Y5 X) (i*1)) (b*1)≤100)(hy1:∀ b,b<L.length→0≤Z9 (cI Y) (b*1)∧Z9 (cI Y) (b*1)≤100)(hm1:∀ b,b<L.length→0≤Z9 (cI M) (b*1)∧Z9 (cI M) (b*1)≤1000):q6 zP0q 79 [(.agg (b1K E L M y yl z)),(.fn (.func 80) [] [.ptr 0 0,.ptr 1 0])] [(H9 X Y u ul),(I1 E L M y yl z)] ((.agg [nI0 (W4 (V3 (Y5 X) (cI Y) (cI M) 0) L.length),nI0 (W4 (V3 (Y5 X) (cI Y) (cI M) 1) L.length),nI0 (W4 (V3 (Y5 X) (cI Y) (cI M) 2) L.length)])) [(H9 X Y u ul),(I1 E L M y yl z)] :=
 I8 25 (by kernel_rfl) Try.func79 (by kernel_rfl) (by kernel_rfl) (by kernel_rfl) (fun v eb ec=>U9 (by kernel_rfl) (by kernel_rfl) (by kernel_rfl) (by kernel_rfl) (c6V y E yl L u X ul Y z M hn8 hx3 hxr hy hm hx1 hy1 hm1 v eb ec []))
end
end Go.Proofs.Ytegmogadbnfbgaa
namespace Go.Proofs.Ytegmogadbnfbgaa
open Go Ev
noncomputable section
def seS:List AV→List AB→Option ((AV×List AB)×List Prop):=fun args xs =>
 match args,xs with
 |[.agg [.xl y me k1 cE,.xl yl n k2 cL,.fn (.func f) lz lc],.fn (.func g) gl gc],[.cells l1 t1,.cells l2 t2]=>match l1,lz,lc,gl,gc with
  |[.xl u m k3 cX,.xl ul j k4 cY],[.xl z r k5 cM],[],[],[p,q]=>match Nat.beq f 78,Nat.beq g 80,a6R p 0,a6R q 1 with
   |true,true,true,true=>some ((.agg [.v (.int .i64 (W4 (V3 cX cY cM 0) n)),.v (.int .i64 (W4 (V3 cX cY cM 1) n)),.v (.int .i64 (W4 (V3 cX cY cM 2) n))],[.cells l1 t1,.cells l2 t2]),[a4H t1,a4y t2,S9 k1 cE me,X9 k2 n cL,b20 k3 m k4 j k5 r cX cY cM n,n≤8,l2=[.xl y me k1 cE,.xl yl n k2 cL,.fn (.func f) lz lc]])
   |_,_,_,_=>none
  |_,_,_,_,_=>none
 |_,_=>none
def seO:O2:=a9E 79 seS
theorem b5h:Known zP0q (clsO seO):=a38 (fun args xs r ys ps h hp=>by
 unfold seS at h
 split at h
 ·split at h
  ·split at h
   ·rename_i e1 e2 e3 e4
    cases h
    obtain ⟨rfl,rfl,⟨rfl,E,rfl,rfl⟩,⟨rfl,L,rfl,rfl⟩,⟨X,Y,M,⟨rfl,rfl,rfl⟩,⟨rfl,rfl,rfl⟩,⟨rfl,rfl,rfl⟩,h1,h2,h3,h4,h5,h6,h7⟩,h8,rfl,-⟩:=hp
    rw [e8 e3,e8 e4,Nat.eq_of_beq_eq_true e1,Nat.eq_of_beq_eq_true e2]
    exact ⟨a6l X Y E L M,a6l X Y E L M,c7o _ E _ L _ X _ Y _ M h8 h1 h2 h3 h4 h5 h6 h7⟩
   ·cases h
  ·cases h
 ·cases h)
noncomputable def c76:Code:=O0 Try.f54
set_option maxHeartbeats 2000000 in
theorem c6i(y:Value)(E:List (Value×List (Int×Int)))(yl:Value)(L:List (Int×Int))(u:Value)(X:List (Value×List Int))(ul:Value)(Y:List Int)(z:Value)(M:List Int)(hn8:L.length≤8)(hx3:X.length=3)(hxr:∀ i,i<3→R3 (Y5 X) (i*1)=L.length)(hy:Y.length=L.length)(hm:M.length=L.length)(hx1:∀ i,i<3→∀ b,b<L.length→0≤Z9 (V4 (Y5 X) (i*1)) (b*1)∧Z9 (V4 (Y5 X) (i*1)) (b*1)≤100)(hy1:∀ b,b<L.length→0≤Z9 (cI Y) (b*1)∧Z9 (cI Y) (b*1)≤100)(hm1:∀ b,b<L.length→0≤Z9 (cI M) (b*1)∧Z9 (cI M) (b*1)≤1000)(w:World)(hs:List Nat):Y8 zP0q 8 c76 (⟨[(0,(.agg [.xl y E.length 1 (Y4 E),.xl yl L.length 2 (cR L),(.fn (.func 78) [.xl z M.length 1 (cI M)] [])])),(1,(.agg [.xl u X.length 1 (Y5 X),.xl ul Y.length 1 (cI Y)]))],[],0,[]⟩) (BaseW.H w hs) (U0 zP0q Try.f54 8 (.agg #[.int .i64 (W4 (V3 (Y5 X) (cI Y) (cI M) 0) L.length),.int .i64 (W4 (V3 (Y5 X) (cI Y) (cI M) 1) L.length),.int .i64 (W4 (V3 (Y5 X) (cI Y) (cI M) 2) L.length)]) w):=by
 have hcl_L:=Z3 L
 have hcl_Y:=Z4 Y
 have hcl_M:=Z4 M
 exact Z8 V1 (Z7 zC0q (b5h) 200 (T':=⟨[(4,(.ptr 2 0))],[],3,[(2,(.cells [(nI0 (W4 (V3 (Y5 X) (cI Y) (cI M) 0) L.length)),(nI0 (W4 (V3 (Y5 X) (cI Y) (cI M) 1) L.length)),(nI0 (W4 (V3 (Y5 X) (cI Y) (cI M) 2) L.length))] 82))]⟩) (e:=.ret) (ps:=[S4 (Y4 E),S4 (cR L),S4 (cI M),a4H 29,a4y 85,S9 1 (Y4 E) E.length,X9 2 L.length (cR L),b20 1 X.length 1 Y.length 1 M.length (Y5 X) (cI Y) (cI M) L.length,L.length≤8,(AV.agg [AV.xl y E.length 1 (Y4 E),AV.xl yl L.length 2 (cR L),AV.fn (Fn.func 78) [AV.xl z M.length 1 (cI M)] []]).cells=[AV.xl y E.length 1 (Y4 E),AV.xl yl L.length 2 (cR L),AV.fn (Fn.func 78) [AV.xl z M.length 1 (cI M)] []]]) (gH 6 []) (by kernel_rfl) (by kernel_rfl) ⟨(X7 E),(Y3 (W6 _)),(Y3 (Z1 _)),rfl,rfl,⟨rfl,E,rfl,rfl⟩,⟨rfl,L,rfl,rfl⟩,⟨X,Y,M,⟨rfl,rfl,rfl⟩,⟨rfl,rfl,rfl⟩,⟨rfl,rfl,rfl⟩,hx3,hxr,hy,hm,hx1,hy1,hm1⟩,hn8,rfl,trivial⟩ rfl) (Hd.en_eq (r:=.agg #[(.int .i64 (W4 (V3 (Y5 X) (cI Y) (cI M) 0) L.length)),(.int .i64 (W4 (V3 (Y5 X) (cI Y) (cI M) 1) L.length)),(.int .i64 (W4 (V3 (Y5 X) (cI Y) (cI M) 2) L.length))]) (by rfl) (Hd.en_ret (v:=(.agg [(nI0 (W4 (V3 (Y5 X) (cI Y) (cI M) 0) L.length)),(nI0 (W4 (V3 (Y5 X) (cI Y) (cI M) 1) L.length)),(nI0 (W4 (V3 (Y5 X) (cI Y) (cI M) 2) L.length))])) (by kernel_rfl) rfl))
theorem c73(y:Value)(E:List (Value×List (Int×Int)))(yl:Value)(L:List (Int×Int))(u:Value)(X:List (Value×List Int))(ul:Value)(Y:List Int)(z:Value)(M:List Int)(hn8:L.length≤8)(hx3:X.length=3)(hxr:∀ i,i<3→R3 (Y5 X) (i*1)=L.length)(hy:Y.length=L.length)(hm:M.length=L.length)(hx1:∀ i,i<3→∀ b,b<L.length→0≤Z9 (V4 (Y5 X) (i*1)) (b*1)∧Z9 (V4 (Y5 X) (i*1)) (b*1)≤100)(hy1:∀ b,b<L.length→0≤Z9 (cI Y) (b*1)∧Z9 (cI Y) (b*1)≤100)(hm1:∀ b,b<L.length→0≤Z9 (cI M) (b*1)∧Z9 (cI M) (b*1)≤1000):GivesA zP0q 54 [(.agg [.xl y E.length 1 (Y4 E),.xl yl L.length 2 (cR L),(.fn (.func 78) [.xl z M.length 1 (cI M)] [])]),(.agg [.xl u X.length 1 (Y5 X),.xl ul Y.length 1 (cI Y)])] (.agg #[.int .i64 (W4 (V3 (Y5 X) (cI Y) (cI M) 0) L.length),.int .i64 (W4 (V3 (Y5 X) (cI Y) (cI M) 1) L.length),.int .i64 (W4 (V3 (Y5 X) (cI Y) (cI M) 2) L.length)]) :=
 U3 8 Try.func54 (by kernel_rfl) (by kernel_rfl) (by kernel_rfl) (fun w=>U9 (by kernel_rfl) (by kernel_rfl) (by kernel_rfl) (by kernel_rfl) (c6i y E yl L u X ul Y z M hn8 hx3 hxr hy hm hx1 hy1 hm1 w []))
end
end Go.Proofs.Ytegmogadbnfbgaa
namespace Go.Proofs.Ytegmogadbnfbgaa.Ev
open Go
noncomputable section
variable {P : Program}
theorem a3C{σ:Env}{w:World}{s:HS}(hs:Sim s.H σ w){k:Nat}{a:AV}{v:Vw}{ps:List Prop}{x:Value}(h:b0I s k a=some (v,ps))(hp:G6 ps)(hx:den σ a=some x) :
  (v = .val x)∨(∃ n k' c,v = .lst n k' c∧∃ cs,denL σ c=some cs∧XOk w x n k' cs):=by
 have key:∀ {b o n q:Nat} {B:Nat} {l:List AV},σ.blk b=some B→s.cells b=some l→o+n*q≤l.length→∀ cap,n≤cap→∃ cs,denL σ ((l.drop o).take (n*q))=some cs∧XOk w (.slice (some ⟨B,o,none⟩) n cap) n q cs:=by
  intro b o n q B l hB hc hle cap hcap
  obtain ⟨B',vs,rest,t,h1,h2,h3⟩:=a0s hs hc
  rw [hB] at h1
  cases h1
  have hl:=R1 h2
  have e1:=l9 (n*q) (m6 o h2)
  have hlen:((vs.drop o).take (n*q)).length=n*q:=by simp;omega
  refine ⟨_,e1,some ⟨B,o,none⟩,cap,rfl,hcap,hlen,fun _=>⟨B,o,rfl,fun i hi=>?_⟩⟩
  rw [hlen] at hi
  have:w.cell? ⟨B,o+i,none⟩=(vs++rest)[o+i]?:=by simp [World.cell?,h3]
  rw [this,List.getElem?_append_left (by omega),List.getElem?_take_of_lt hi,List.getElem?_drop]
 unfold b0I at h
 split at h
 ·split at h
  ·rename_i y hy
   cases h
   rw [K4 hy] at hx
   cases hx
   exact .inl rfl
  ·cases h
 ·rename_i k
  split at h
  ·rename_i y n k' c
   split at h
   ·rename_i hb
    cases h
    have hb':=Nat.eq_of_beq_eq_true hb
    subst hb'
    obtain ⟨cs,h1,hok,rfl⟩:=g0 hx
    refine .inr ⟨n,_,c,rfl,cs,h1,?_⟩
    obtain ⟨ba,cap,q1,q2,q3,q4⟩:=hok
    refine ⟨ba,cap,q1,q2,q3,fun h0=>?_⟩
    obtain ⟨g,off,e1,e2⟩:=q4 h0
    refine ⟨g,off,e1,fun i hi=>?_⟩
    have:=e2 i hi
    rw [List.getElem?_eq_getElem hi] at this ⊢
    exact hs.cell this
   ·cases h
  ·rename_i b o n cp
   split at h
   ·rename_i l hl
    cases h
    simp only [den,Option.map_eq_some_iff] at hx
    obtain ⟨B,hB,rfl⟩:=hx
    exact .inr ⟨n,_,_,rfl,key hB hl hp.1 cp hp.2.1⟩
   ·cases h
  ·rename_i b o n d
   split at h
   ·rename_i l hl
    cases h
    obtain ⟨B,hB,rfl,hcap⟩:=z7 hx
    exact .inr ⟨n,_,_,rfl,key hB hl hp.1 _ hcap⟩
   ·cases h
  ·split at h
   ·split at h
    ·split at h
     ·cases h
      simp only [den,Option.some.injEq] at hx
      subst hx
      exact .inr ⟨0,_,[],rfl,[],rfl,none,_,rfl,Nat.zero_le _,by simp,fun h0=>absurd h0 (by simp)⟩
     ·cases h
    ·cases h
   ·cases h
  ·cases h
inductive Yv where
 |ext (a:AV)
 |lst (n k:Nat) (c:List AV)
 |lls (n k:Nat) (rows:List (Nat×List AV))
 |fnc (f:Fn) (cs:List AV)
inductive Ky where
 |ext
 |lst (k:Nat)
 |lls (k:Nat)
 |fnc
def a5f(s:HS):List AV→Option (List AV)
 |[]=>some []
 |a::l=>match a with
  |.ptr b o=>match Nat.beq o 0,s.cells b,a5f s l with
   |true,some c,some cs=>match c with
    |[x]=>some (x::cs)
    |_=>none
   |_,_,_=>none
  |_=>none
def mkC:List Value→List AV→List AV
 |z::zs,c::cs=>.xp z 1 1 [c] 0::mkC zs cs
 |_,_=>[]
def okC:List AV→Prop
 |[]=>True
 |c::l=>Ext c∧okC l
theorem a6h{σ:Env}{w:World}{s:HS}(hs:Sim s.H σ w):∀ {l cs:List AV} {xs:List Value},a5f s l=some cs→denL σ l=some xs→okC cs→∃ zs,zs.length=cs.length∧denL (bare w) (mkC zs cs)=some xs
 |[],cs,xs,h,hx,hv=>by
  unfold a5f at h
  cases h
  cases hx
  exact ⟨[],rfl,rfl⟩
 |a::l,cs,xs,h,hx,hv=>by
  unfold a5f at h
  split at h
  ·rename_i b o
   split at h
   ·rename_i c cs' e0 e1 e2
    split at h
    ·rename_i x
     cases h
     rw [Nat.eq_of_beq_eq_true e0] at hx
     obtain ⟨B,vs,rest,t,g1,g2,g3⟩:=a0s hs e1
     simp only [denL] at hx g2
     cases d1:den σ x with
     |none=>rw [d1] at g2;cases g2
     |some v =>
      rw [d1] at g2
      cases g2
      cases d2:denL σ l with
      |none=>simp only [den,g1,d2,Option.map_some] at hx;cases hx
      |some us =>
       simp only [den,g1,d2,Option.map_some] at hx
       cases hx
       obtain ⟨zs,q1,q2⟩:=a6h hs e2 d2 hv.2
       have e3:denL (bare w) [x]=some [v]:=by simp only [denL,hv.1 s.H σ w v hs d1]
       refine ⟨.slice (some ⟨B,0,none⟩) 1 1::zs,by simp [q1],?_⟩
       have e4:den (bare w) (.xp (.slice (some ⟨B,0,none⟩) 1 1) 1 1 [x] 0)=some (.pointer (some ⟨B,0,none⟩)):=a1D (i:=0) e3 ⟨some ⟨B,0,none⟩,1,rfl,Nat.le_refl _,rfl,fun _=>⟨B,0,rfl,fun i hi=>by
        have hi0:i=0:=by simp at hi;exact hi
        subst hi0
        simp [World.cell?,bare,g3]⟩⟩ (Nat.zero_lt_succ _)
       simp only [mkC,denL,e4,q2]
    ·cases h
   ·cases h
  ·cases h
def a6e(s:HS)(k:Nat):List AV→Option (List (Nat×List AV)×List Prop)
 |[]=>some ([],[])
 |a::l=>match b0I s (k+1) a,a6e s k l with
  |some (v,ps),some (r,qs)=>match v with
   |.lst n k' c=>some ((n,c)::r,apL ps qs)
   |.val _=>none
  |_,_=>none
def b7z(s:HS)(q:Ky)(a:AV):Option (Yv×List Prop) :=
 match q with
 |.ext=>some (.ext a,[])
 |.lst k=>match b0I s (k+1) a with
  |some (v,ps)=>match v with
   |.lst n k' c=>some (.lst n (k+1) c,ps)
   |.val _=>none
  |none=>none
 |.lls k=>match b0I s 1 a with
  |some (v,ps)=>match v with
   |.lst n k' c=>match a6e s k c with
    |some (r,qs)=>some (.lls n (k+1) r,apL ps qs)
    |none=>none
   |.val _=>none
  |none=>none
 |.fnc=>match a with
  |.fn f l c=>match l,a5f s c with
   |[],some cs=>some (.fnc f cs,[])
   |_,_=>none
  |_=>none
def b7R(k:Nat):List Value→List (Nat×List AV)→List AV
 |v::vs,(n,c)::r=>.xl v n k c::b7R k vs r
 |_,_=>[]
def mkY(v:Yv)(zs:List Value):AV :=
 match v with
 |.ext a=>a
 |.lst n k c=>.xl (zs.headD undef) n k c
 |.lls n k r=>.xl (zs.headD undef) n 1 (b7R k zs.tail r)
 |.fnc f cs=>.fn f [] (mkC zs cs)
def okR:List (Nat×List AV)→Prop
 |[]=>True
 |(_,c)::r=>(∃ cs,O4 c=some cs)∧okR r
def okY(v:Yv):Prop :=
 match v with
 |.ext a=>Ext a
 |.lst _ _ c=>∃ cs,O4 c=some cs
 |.lls _ _ r=>okR r
 |.fnc _ cs=>okC cs
def lnY(v:Yv)(zs:List Value):Prop :=
 match v with
 |.lls _ _ r=>zs.length=r.length+1
 |.fnc _ cs=>zs.length=cs.length
 |_=>True
theorem b0H{s:HS}{k:Nat}{a:AV}{n k':Nat}{c:List AV}{ps:List Prop}(h:b0I s (k+1) a=some (.lst n k' c,ps)):k'=k+1:=by
 unfold b0I at h
 simp only at h
 split at h
 ·split at h
  ·cases h;rfl
  ·cases h
 ·split at h
  ·cases h;rfl
  ·cases h
 ·split at h
  ·cases h;rfl
  ·cases h
 ·split at h
  ·split at h
   ·split at h
    ·cases h;rfl
    ·cases h
   ·cases h
  ·cases h
 ·cases h
theorem a6b{σ:Env}{w:World}{s:HS}(hs:Sim s.H σ w){k:Nat}:∀ {c:List AV} {r:List (Nat×List AV)} {ps:List Prop} {cs:List Value},a6e s k c=some (r,ps)→G6 ps→denL σ c=some cs→okR r→cs.length=r.length∧denL (bare w) (b7R (k+1) cs r)=some cs
 |[],r,ps,cs,h,hp,hx,hr=>by
  unfold a6e at h
  cases h
  cases hx
  exact ⟨rfl,rfl⟩
 |a::l,r,ps,cs,h,hp,hx,hr=>by
  unfold a6e at h
  split at h
  ·rename_i v p1 r1 q1 h1 h2
   split at h
   ·rename_i n k' c
    cases h
    rw [J0] at hp
    obtain ⟨a1,a2⟩:=S5 hp
    simp only [denL] at hx
    cases e1:den σ a with
    |none=>rw [e1] at hx;cases hx
    |some x=>cases e2:denL σ l with
     |none=>rw [e1,e2] at hx;cases hx
     |some z =>
      rw [e1,e2] at hx
      cases hx
      obtain ⟨⟨ds,hd⟩,hr2⟩:=hr
      obtain ⟨g1,g2⟩:=a6b hs h2 a2 e2 hr2
      have hk:=b0H h1
      rcases a3C hs h1 a1 e1 with h3|⟨n',k2,c',h3,us,h4,hok⟩
      ·cases h3
      ·cases h3
       rw [plainL_den hd] at h4
       cases h4
       have e3:=den_xl_mk (σ:=bare w) (y:=x) (plainL_den hd) hok
       rw [hk] at e3
       exact ⟨by simp [g1],by simp only [b7R,denL,e3,g2]⟩
   ·cases h
  ·cases h
theorem b08{σ:Env}{w:World}{s:HS}(hs:Sim s.H σ w){q:Ky}{a:AV}{v:Yv}{ps:List Prop}{x:Value}(h:b7z s q a=some (v,ps))(hp:G6 ps)(hx:den σ a=some x)(hv:okY v):∃ zs,lnY v zs∧den (bare w) (mkY v zs)=some x:=by
 unfold b7z at h
 split at h
 ·cases h
  exact ⟨[],trivial,hv s.H σ w x hs hx⟩
 ·split at h
  ·rename_i v1 ps1 h1
   split at h
   ·rename_i n k' c
    cases h
    obtain ⟨ds,hd⟩:=hv
    have hk:=b0H h1
    rcases a3C hs h1 hp hx with h3|⟨n',k2,c',h3,us,h4,hok⟩
    ·cases h3
    ·cases h3
     rw [plainL_den hd] at h4
     cases h4
     have e3:=den_xl_mk (σ:=bare w) (y:=x) (plainL_den hd) hok
     rw [hk] at e3
     exact ⟨[x],trivial,e3⟩
   ·cases h
  ·cases h
 ·split at h
  ·rename_i v1 ps1 h1
   split at h
   ·rename_i n k' c
    split at h
    ·rename_i r q1 h2
     cases h
     rw [J0] at hp
     obtain ⟨a1,a2⟩:=S5 hp
     have hk:=b0H h1
     rcases a3C hs h1 a1 hx with h3|⟨n',k2,c',h3,us,h4,hok⟩
     ·cases h3
     ·cases h3
      obtain ⟨g1,g2⟩:=a6b hs h2 a2 h4 hv
      have e3:=den_xl_mk (σ:=bare w) (y:=x) g2 hok
      rw [hk] at e3
      exact ⟨x::us,by show _+1=_+1;rw [g1],e3⟩
    ·cases h
   ·cases h
  ·cases h
 ·split at h
  ·rename_i f l c
   split at h
   ·rename_i cs e1
    cases h
    simp only [den,denL] at hx
    cases d1:denL σ c with
    |none=>rw [d1] at hx;cases hx
    |some us =>
     rw [d1] at hx
     cases hx
     obtain ⟨zs,q1,q2⟩:=a6h hs e1 d1 hv
     exact ⟨zs,q1,by show den (bare w) (.fn f [] (mkC zs cs))=_;simp only [den,denL,q2]⟩
   ·cases h
  ·cases h
def a6g(s:HS):List Ky→List AV→Option (List Yv×List Prop)
 |[],[]=>some ([],[])
 |k::ks,a::l=>match b7z s k a with
  |some (v,ps)=>match a6g s ks l with
   |some (vs,qs)=>some (v::vs,apL ps qs)
   |none=>none
  |none=>none
 |_,_=>none
def b6s:List Yv→List (List Value)→List AV
 |v::l,zs::ys=>mkY v zs::b6s l ys
 |_,_=>[]
def b9K:List Yv→Prop
 |[]=>True
 |v::l=>okY v∧b9K l
def c1a:List Yv→List (List Value)→Prop
 |[],[]=>True
 |v::l,zs::ys=>lnY v zs∧c1a l ys
 |_,_=>False
theorem a7x{σ:Env}{w:World}{s:HS}(hs:Sim s.H σ w):∀ {ks:List Ky} {l:List AV} {vs:List Yv} {ps:List Prop} {xs:List Value},a6g s ks l=some (vs,ps)→G6 ps→denL σ l=some xs→b9K vs→∃ ys,c1a vs ys∧denL (bare w) (b6s vs ys)=some xs
 |[],[],vs,ps,xs,h,hp,hx,hv=>by
  simp only [a6g] at h
  cases h
  cases hx
  exact ⟨[],trivial,rfl⟩
 |[],_::_,vs,ps,xs,h,hp,hx,hv=>by simp [a6g] at h
 |_::_,[],vs,ps,xs,h,hp,hx,hv=>by simp [a6g] at h
 |k::ks,a::l,vs,ps,xs,h,hp,hx,hv=>by
  simp only [a6g] at h
  split at h
  ·rename_i v p1 h1
   split at h
   ·rename_i vs' p2 h2
    cases h
    rw [J0] at hp
    obtain ⟨a1,a2⟩:=S5 hp
    simp only [denL] at hx
    cases e1:den σ a with
    |none=>rw [e1] at hx;cases hx
    |some x=>cases e2:denL σ l with
     |none=>rw [e1,e2] at hx;cases hx
     |some z =>
      rw [e1,e2] at hx
      cases hx
      obtain ⟨zs,q1,q2⟩:=b08 hs h1 a1 e1 hv.1
      obtain ⟨ys,q3,q4⟩:=a7x hs h2 a2 e2 hv.2
      exact ⟨zs::ys,⟨q1,q3⟩,by simp only [b6s,denL,q2,q4]⟩
   ·cases h
  ·cases h
inductive Yw where
 |one (v:Yv)
 |str (l:List Yv)
inductive Kz where
 |one (k:Ky)
 |str (ks:List Ky)
def c0W(s:HS)(q:Kz)(a:AV):Option (Yw×List Prop) :=
 match q with
 |.one k=>match b7z s k a with
  |some (v,ps)=>some (.one v,ps)
  |none=>none
 |.str ks=>match a with
  |.agg l=>match a6g s ks l with
   |some (vs,ps)=>some (.str vs,ps)
   |none=>none
  |_=>none
def mkZ(v:Yw)(zs:List (List Value)):AV :=
 match v with
 |.one v=>mkY v (zs.headD [])
 |.str vs=>.agg (b6s vs zs)
def okZ(v:Yw):Prop :=
 match v with
 |.one v=>okY v
 |.str vs=>b9K vs
def lnZ(v:Yw)(zs:List (List Value)):Prop :=
 match v with
 |.one v=>lnY v (zs.headD [])
 |.str vs=>c1a vs zs
theorem b5R{σ:Env}{w:World}{s:HS}(hs:Sim s.H σ w){q:Kz}{a:AV}{v:Yw}{ps:List Prop}{x:Value}(h:c0W s q a=some (v,ps))(hp:G6 ps)(hx:den σ a=some x)(hv:okZ v):∃ zs,lnZ v zs∧den (bare w) (mkZ v zs)=some x:=by
 unfold c0W at h
 split at h
 ·split at h
  ·rename_i v1 p1 h1
   cases h
   obtain ⟨zs,q1,q2⟩:=b08 hs h1 hp hx hv
   exact ⟨[zs],q1,q2⟩
  ·cases h
 ·split at h
  ·split at h
   ·rename_i vs p1 h1
    cases h
    simp only [den,Option.map_eq_some_iff] at hx
    obtain ⟨xs,e1,rfl⟩:=hx
    obtain ⟨ys,q1,q2⟩:=a7x hs h1 hp e1 hv
    exact ⟨ys,q1,by show den (bare w) (.agg (b6s vs ys))=_;simp only [den,q2,Option.map_some]⟩
   ·cases h
  ·cases h
def a4B(s:HS):List Kz→List AV→Option (List Yw×List Prop)
 |[],[]=>some ([],[])
 |k::ks,a::l=>match c0W s k a with
  |some (v,ps)=>match a4B s ks l with
   |some (vs,qs)=>some (v::vs,apL ps qs)
   |none=>none
  |none=>none
 |_,_=>none
def b6B:List Yw→List (List (List Value))→List AV
 |v::l,zs::ys=>mkZ v zs::b6B l ys
 |_,_=>[]
def c1J:List Yw→Prop
 |[]=>True
 |v::l=>okZ v∧c1J l
def b88:List Yw→List (List (List Value))→Prop
 |[],[]=>True
 |v::l,zs::ys=>lnZ v zs∧b88 l ys
 |_,_=>False
theorem a3I{σ:Env}{w:World}{s:HS}(hs:Sim s.H σ w):∀ {ks:List Kz} {l:List AV} {vs:List Yw} {ps:List Prop} {xs:List Value},a4B s ks l=some (vs,ps)→G6 ps→denL σ l=some xs→c1J vs→∃ ys,b88 vs ys∧denL (bare w) (b6B vs ys)=some xs
 |[],[],vs,ps,xs,h,hp,hx,hv=>by
  simp only [a4B] at h
  cases h
  cases hx
  exact ⟨[],trivial,rfl⟩
 |[],_::_,vs,ps,xs,h,hp,hx,hv=>by simp [a4B] at h
 |_::_,[],vs,ps,xs,h,hp,hx,hv=>by simp [a4B] at h
 |k::ks,a::l,vs,ps,xs,h,hp,hx,hv=>by
  simp only [a4B] at h
  split at h
  ·rename_i v p1 h1
   split at h
   ·rename_i vs' p2 h2
    cases h
    rw [J0] at hp
    obtain ⟨a1,a2⟩:=S5 hp
    simp only [denL] at hx
    cases e1:den σ a with
    |none=>rw [e1] at hx;cases hx
    |some x=>cases e2:denL σ l with
     |none=>rw [e1,e2] at hx;cases hx
     |some z =>
      rw [e1,e2] at hx
      cases hx
      obtain ⟨zs,q1,q2⟩:=b5R hs h1 a1 e1 hv.1
      obtain ⟨ys,q3,q4⟩:=a3I hs h2 a2 e2 hv.2
      exact ⟨zs::ys,⟨q1,q3⟩,by simp only [b6B,denL,q2,q4]⟩
   ·cases h
  ·cases h
def l4(f:FuncId)(ks:List Kz)(S:List Yw→Option (t6×List Prop)):O2:=fun g args s =>
 match Nat.beq g f with
 |true=>match a4B s ks args with
  |some (vs,qs)=>match S vs with
   |some (r,ps)=>match r with
    |.val v=>some ((v,s),apL qs ps)
    |.blk V x=>match Nat.ble s.n 1000000 with
     |true=>some ((V s.n,s.new x),apL qs ps)
     |false=>none
   |none=>none
  |none=>none
 |false=>none
def c0p(P:Program)(f:FuncId)(vs:List Yw)(r:t6):Prop :=
 (∃ ys,b88 vs ys)∧∀ ys,b88 vs ys→match r with
  |.val v=>∃ x,plain v=some x∧GivesA P f (b6B vs ys) x
  |.blk V x=>b1w P f (b6B vs ys) V x
theorem z9{f:FuncId}{ks:List Kz}{S:List Yw→Option (t6×List Prop)}(h:∀ vs r ps,S vs=some (r,ps)→G6 ps→c1J vs∧c0p P f vs r):Known P (clsO (l4 f ks S)):=by
 have inv:∀ {g:FuncId} {args:List AV} {s:HS} {u:AV} {s':HS},clsO (l4 f ks S) g args s=some (u,s') →
   g=f∧∃ vs qs r ps,a4B s ks args=some (vs,qs)∧G6 qs∧S vs=some (r,ps)∧G6 ps∧((∃ v,r = .val v∧u=v∧s'=s)∨(∃ V x,r = .blk V x∧u=V s.n∧s'=s.new x)):=by
  intro g args s u s' e
  unfold clsO at e
  split at e
  ·rename_i r ps ho
   split at e
   ·rename_i hall
    cases e
    unfold l4 at ho
    split at ho
    ·rename_i hb
     split at ho
     ·rename_i vs qs hv
      split at ho
      ·rename_i r' ps' hS
       cases r' with
       |val v =>
        simp only at ho
        cases ho
        rw [J0] at hall
        obtain ⟨a1,a2⟩:=S5 hall
        exact ⟨Nat.eq_of_beq_eq_true hb,vs,qs,_,_,hv,a1,hS,a2,.inl ⟨_,rfl,rfl,rfl⟩⟩
       |blk V x =>
        simp only at ho
        split at ho
        ·cases ho
         rw [J0] at hall
         obtain ⟨a1,a2⟩:=S5 hall
         exact ⟨Nat.eq_of_beq_eq_true hb,vs,qs,_,_,hv,a1,hS,a2,.inr ⟨V,x,rfl,rfl,rfl⟩⟩
        ·cases ho
      ·cases ho
     ·cases ho
    ·cases ho
   ·cases e
  ·cases e
 refine ⟨fun g args s u s' e=>?_,fun g args s u s' e=>?_⟩
 ·obtain ⟨rfl,vs,qs,r,ps,hv,hq,hS,hps,hr⟩:=inv e
  obtain ⟨hpl,⟨y0,hy0⟩,hg⟩:=h vs r ps hS hps
  rcases hr with ⟨v,rfl,rfl,rfl⟩|⟨V,x,rfl,rfl,rfl⟩
  ·obtain ⟨y,hy,hA⟩:=hg y0 hy0
   refine ⟨hA.1,Nat.le_refl _,fun F n σ w xs hW gd hs hfr hx=>?_⟩
   obtain ⟨ys,hl,hd⟩:=a3I hs hv hq hx hpl
   obtain ⟨y2,hy2,hA2⟩:=hg ys hl
   rw [hy] at hy2
   cases hy2
   refine CallsIn.mono (hA2.2 F n w xs hW hd) (fun e' w' hp=>?_)
   obtain ⟨q1,q2⟩:=hp
   exact ⟨y,σ,q1,K4 hy,a1H gd hs q2.old q2.size q2.os q2.tape q2.output⟩
  ·refine ⟨(hg y0 hy0).1,Nat.le_succ _,fun F n σ w xs hW gd hs hfr hx=>?_⟩
   obtain ⟨ys,hl,hd⟩:=a3I hs hv hq hx hpl
   refine CallsIn.mono ((hg ys hl).2 F n w xs hW hd) (fun e' w' hp=>?_)
   obtain ⟨kp,r,B,o,c,h1,h2,h3,h4⟩:=hp
   obtain ⟨h5,h6⟩:=h4 σ s.n
   exact ⟨r,_,h1,h6,a3t gd hs (hfr s.n (Nat.le_refl _) (Nat.lt_succ_self _)) kp h2 h3 x c h5⟩
 ·obtain ⟨rfl,vs,qs,r,ps,hv,hq,hS,hps,hr⟩:=inv e
  rcases hr with ⟨v,rfl,rfl,rfl⟩|⟨V,x,rfl,rfl,rfl⟩
  ·exact Stat.refl _
  ·exact J5 _ _
end
end Go.Proofs.Ytegmogadbnfbgaa.Ev
namespace Go.Proofs.Ytegmogadbnfbgaa
open Go Ev
noncomputable section
theorem a9T{u ul:Value}(X:List (Value×List Int))(Y:List Int):Ext (.agg [.xl u X.length 1 (Y5 X),.xl ul Y.length 1 (cI Y)]):=m9 (W0 (P6 (a45 X)) (W0 (P6 (T9 (Z1 Y))) P7))
def gcS:List AV→Option (t6×List Prop):=fun vs =>
 match vs with
 |[.agg [.xl y m k1 cE,.xl yl n k2 cL]]=>some (.val (.v (.int .i64 (N9 cE m cL n))),[S9 k1 cE m,X9 k2 n cL,m≤1000])
 |_=>none
def gcO:O2:=C5 20 gcS
theorem s5:Known zP0q (clsO gcO):=K0 (fun vs r ps h hp=>by
 unfold gcS at h
 split at h
 ·cases h
  obtain ⟨⟨rfl,E,rfl,rfl⟩,⟨rfl,L,rfl,rfl⟩,h1,-⟩:=hp
  exact ⟨W0 (a11 E L) P7,_,rfl,c2X _ E _ L h1⟩
 ·cases h)
def grS:List AV→Option (t6×List Prop):=fun vs =>
 match vs with
 |[.agg [.xl y m k1 cE,.xl yl n k2 cL]]=>some (.val (.v (.int .i64 (N9 cE m cL n))),[S9 k1 cE m,X9 k2 n cL,m≤1000])
 |_=>none
def grO:O2:=C5 21 grS
theorem f9:Known zP0q (clsO grO):=K0 (fun vs r ps h hp=>by
 unfold grS at h
 split at h
 ·cases h
  obtain ⟨⟨rfl,E,rfl,rfl⟩,⟨rfl,L,rfl,rfl⟩,h1,-⟩:=hp
  exact ⟨W0 (a11 E L) P7,_,rfl,c4x _ E _ L h1⟩
 ·cases h)
def gtS:List AV→Option (t6×List Prop):=fun vs =>
 match vs with
 |[.agg [.xl y m k1 cE,.xl yl n k2 cL],.agg [.xl u mx k3 cX,.xl ul nx k4 cY]]=>some (.val (.v (.int .i64 (ctE cE cL n cX mx cY nx))),[S9 k1 cE m,X9 k2 n cL,b3o k3 cX mx,N8 k4 nx cY,N9 cE m cL n=0,mx≤1000])
 |_=>none
def gtO:O2:=C5 52 gtS
theorem a9s:Known zP0q (clsO gtO):=K0 (fun vs r ps h hp=>by
 unfold gtS at h
 split at h
 ·cases h
  obtain ⟨⟨rfl,E,rfl,rfl⟩,⟨rfl,L,rfl,rfl⟩,⟨rfl,X,rfl,rfl⟩,⟨rfl,Y,rfl,rfl⟩,h1,h2,-⟩:=hp
  exact ⟨W0 (a11 E L) (W0 (a9T X Y) P7),_,rfl,c5F _ E _ L _ X _ Y h1 h2⟩
 ·cases h)
def gpS:List AV→Option (t6×List Prop):=fun vs =>
 match vs with
 |[.agg [.xl y m k1 cE,.xl yl n k2 cL],.xl z r k5 cM]=>some (.val (.v (.int .i64 (N7 n cM r))),[S9 k1 cE m,X9 k2 n cL,N8 k5 r cM,n≤1000])
 |_=>none
def gpO:O2:=C5 56 gpS
theorem g4:Known zP0q (clsO gpO):=K0 (fun vs r ps h hp=>by
 unfold gpS at h
 split at h
 ·cases h
  obtain ⟨⟨rfl,E,rfl,rfl⟩,⟨rfl,L,rfl,rfl⟩,⟨rfl,M,rfl,rfl⟩,h1,-⟩:=hp
  exact ⟨W0 (a11 E L) (W0 (P6 (T9 (Z1 M))) P7),_,rfl,c61 _ E _ L _ M h1⟩
 ·cases h)
theorem b7V{X:List (Value×List Int)}{Y M:List Int}{cE cL:List AV}{m n:Nat}(hC:N9 cE m cL n=0)(hT:ctE cE cL n (Y5 X) X.length (cI Y) Y.length=0)(hH:N7 n (cI M) M.length=0):b20 1 X.length 1 Y.length 1 M.length (Y5 X) (cI Y) (cI M) n:=by
 obtain ⟨-,-,-,h3,h4⟩:=L3 hC
 obtain ⟨t1,t2,t3,t4,t5⟩:=b4F hT
 obtain ⟨m1,m2⟩:=U1 hH
 rw [m1] at m2
 refine ⟨X,Y,M,⟨rfl,rfl,rfl⟩,⟨rfl,rfl,rfl⟩,⟨rfl,rfl,rfl⟩,t2,t3,t1,m1,fun i hi b hb=>?_,fun b hb=>?_,fun b hb=>afB_true.1 m2 b hb⟩
 ·have q1:=h4 i hi b hb
  have q2:=t5 i hi b hb
  unfold Y7 at q1
  unfold N5 at q2
  omega
 ·have q1:=h3 b hb
  have q2:=t4 b hb
  unfold Y7 at q1
  unfold N5 at q2
  omega
def gnS:List AV→Option (t6×List Prop):=fun vs =>
 match vs with
 |[.agg [.xl y m k1 cE,.xl yl n k2 cL,.fn (.func f) lz lc],.agg [.xl u mx k3 cX,.xl ul nx k4 cY]]=>match lz,lc,Nat.beq f 78 with
  |[.xl z r k5 cM],[],true=>some (.val (.agg [.v (.int .i64 (W4 (V3 cX cY cM 0) n)),.v (.int .i64 (W4 (V3 cX cY cM 1) n)),.v (.int .i64 (W4 (V3 cX cY cM 2) n))]),[S9 k1 cE m,X9 k2 n cL,n≤8,b20 k3 mx k4 nx k5 r cX cY cM n])
  |_,_,_=>none
 |_=>none
def gnO:O2:=C5 54 gnS
theorem c1f{g:FuncId}{l:List AV}(h:a7a l):Ext (.fn (.func g) l []):=fun H σ w x hs hx=>by
 simp only [den,denL] at hx ⊢
 cases e:denL σ l with
 |none=>rw [e] at hx;cases hx
 |some us =>
  rw [e] at hx
  rw [h H σ w us hs e]
  exact hx
theorem a9B:Known zP0q (clsO gnO):=K0 (fun vs r ps h hp=>by
 unfold gnS at h
 split at h
 ·split at h
  ·rename_i e1
   cases h
   obtain ⟨⟨rfl,E,rfl,rfl⟩,⟨rfl,L,rfl,rfl⟩,h8,⟨X,Y,M,⟨rfl,rfl,rfl⟩,⟨rfl,rfl,rfl⟩,⟨rfl,rfl,rfl⟩,h1,h2,h3,h4,h5,h6,h7⟩,-⟩:=hp
   rw [Nat.eq_of_beq_eq_true e1]
   exact ⟨W0 (m9 (W0 (P6 (J7 E)) (W0 (P6 (T9 (W6 L))) (W0 (c1f (W0 (P6 (T9 (Z1 M))) P7)) P7)))) (W0 (a9T X Y) P7),_,rfl,c73 _ E _ L _ X _ Y _ M h8 h1 h2 h3 h4 h5 h6 h7⟩
  ·cases h
 ·cases h)
end
end Go.Proofs.Ytegmogadbnfbgaa
namespace Go.Proofs.Ytegmogadbnfbgaa
open Go Ev
noncomputable section
noncomputable def c6a:Code:=O0 Try.f53
set_option maxHeartbeats 2000000 in
theorem c7f(y:Value)(E:List (Value×List (Int×Int)))(yl:Value)(L:List (Int×Int))(z:Value)(M:List Int)(v:BaseW)(eb:Nat→Option Nat)(ec:Nat→Nat)(hs:List Nat):Y8 zP0q 9 c6a (⟨[(0,(.agg [.xl y E.length 1 (Y4 E),.xl yl L.length 2 (cR L)])),(1,(.xl z M.length 1 (cI M)))],[],0,[]⟩) (BaseW.H (bw v 0 eb ec) hs) (U5 zP0q Try.f53 9 ((.agg [.xl y E.length 1 (Y4 E),.xl yl L.length 2 (cR L),(.fn (.func 78) [.xl z M.length 1 (cI M)] [])])) [] (bw v 0 eb ec)):=by
 have hcl_L:=Z3 L
 have hcl_M:=Z4 M
 exact Z8 V1 (P4 zC0q (Z0) 200 (T':=⟨[(4,(.ptr 0 0))],[],1,[(0,(.cells [(.xl (y) (E.length) 1 (Y4 E)),(.xl (yl) (L.length) 2 (cR L)),(.fn (.func 78) [(.xl (z) (M.length) 1 (cI M))] [])] 85))]⟩) (e:=.ret) (m:=2) (ps:=[]) (gH 7 []) [1] [(.ptr 1 0)] [(.cells [(.xl (y) (E.length) 1 (Y4 E)),(.xl (yl) (L.length) 2 (cR L)),(.fn (.func 78) [(.xl (z) (M.length) 1 (cI M))] [])] 85)] (by kernel_rfl) (by kernel_rfl) trivial rfl rfl (by decide) rfl ⟨V5 rfl,trivial⟩ ⟨⟨by show 0<1;decide,Y1 (Z5 (T6 (X5 (X7 _))) (Z5 (Q2 (Y6 (W6 L))) (Z5 (f6 (Z5 (Q2 (Y6 (Z1 M))) (Y2)) (Y2)) (Y2))))⟩,trivial⟩) (a9 (r:=(.agg [(.xl (y) (E.length) 1 (Y4 E)),(.xl (yl) (L.length) 2 (cR L)),(.fn (.func 78) [(.xl (z) (M.length) 1 (cI M))] [])])) (ys:=[]) (by rfl) (by rfl) (s6 (by kernel_rfl) (by kernel_rfl) rfl (.inr rfl)))
theorem c62(y:Value)(E:List (Value×List (Int×Int)))(yl:Value)(L:List (Int×Int))(z:Value)(M:List Int):q6 zP0q 53 [(.agg [.xl y E.length 1 (Y4 E),.xl yl L.length 2 (cR L)]),(.xl z M.length 1 (cI M))] [] ((.agg [.xl y E.length 1 (Y4 E),.xl yl L.length 2 (cR L),(.fn (.func 78) [.xl z M.length 1 (cI M)] [])])) [] :=
 I8 9 (by kernel_rfl) Try.func53 (by kernel_rfl) (by kernel_rfl) (by kernel_rfl) (fun v eb ec=>U9 (by kernel_rfl) (by kernel_rfl) (by kernel_rfl) (by kernel_rfl) (c7f y E yl L z M v eb ec []))
end
end Go.Proofs.Ytegmogadbnfbgaa
namespace Go.Proofs.Ytegmogadbnfbgaa
open Go Ev
noncomputable section
def laS:List AV→List AB→Option ((AV×List AB)×List Prop):=fun args xs =>
 match args,xs with
 |[.agg [.xl y m k1 cE,.xl yl n k2 cL],.xl z r k5 cM],[]=>some ((.agg [.xl y m k1 cE,.xl yl n k2 cL,.fn (.func 78) [.xl z r k5 cM] []],[]),[S9 k1 cE m,X9 k2 n cL,N8 k5 r cM])
 |_,_=>none
def laO:O2:=a9E 53 laS
theorem b0q:Known zP0q (clsO laO):=a38 (fun args xs r ys ps h hp=>by
 unfold laS at h
 split at h
 ·cases h
  obtain ⟨⟨rfl,E,rfl,rfl⟩,⟨rfl,L,rfl,rfl⟩,⟨rfl,M,rfl,rfl⟩,-⟩:=hp
  exact ⟨fun x hx=>absurd hx List.not_mem_nil,fun x hx=>absurd hx List.not_mem_nil,c62 _ E _ L _ M⟩
 ·cases h)
noncomputable def c1O:Code:=O0 Try.f16
section
variable {E:List (Value×List (Int×Int))} {L:List (Int×Int)} {M Y:List Int} {X:List (Value×List Int)} {eb:Nat→Option Nat} {ec:Nat→Nat} {hs:List Nat} {u ul y yl z:Value} {v:BaseW}
set_option maxHeartbeats 2000000 in
theorem c6c(hE3:E.length≤1000)(hX:X.length≤1000)(hM3:M.length≤1000)(hC:N9 (Y4 E) E.length (cR L) L.length=0)(hH:N7 L.length (cI M) M.length=0)(hT:¬ ctE (Y4 E) (cR L) L.length (Y5 X) X.length (cI Y) Y.length=0):Y8 zP0q 31 c1O (⟨[(0,(.agg [.xl y E.length 1 (Y4 E),.xl yl L.length 2 (cR L)])),(1,(.agg [.xl u X.length 1 (Y5 X),.xl ul Y.length 1 (cI Y)])),(2,(.xl z M.length 1 (cI M)))],[],0,[]⟩) (BaseW.H (bw v 0 eb ec) hs) (U5 zP0q Try.f16 31 ((.tup [.v (.slice none 0 0),nI0 (ctE (Y4 E) (cR L) L.length (Y5 X) X.length (cI Y) Y.length)])) [] (bw v 0 eb ec)):=by
 have hcl_L:=Z3 L
 have hcl_Y:=Z4 Y
 have hcl_M:=Z4 M
 obtain ⟨hn,hm3,hrow,hlam,hcur⟩:=L3 hC
 rcases zB0q (P8 (N9 (Y4 E) E.length (cR L) L.length) 0) with hqnuot3_1|hqnuot3_1
 ·have ghqnuot3_1:=X6 hqnuot3_1
  rcases zB0q (P8 M.length L.length) with hqnuot3_2|hqnuot3_2
  ·have ghqnuot3_2:=X6 hqnuot3_2
   rcases zB0q (afB 0 1000 (cI M) M.length) with hqnuot3_3|hqnuot3_3
   ·rcases zB0q (P8 (ctE (Y4 E) (cR L) L.length (Y5 X) X.length (cI Y) Y.length) 0) with hqnuot3_4|hqnuot3_4
    ·have ghqnuot3_4:=X6 hqnuot3_4
     exact absurd (X6 hqnuot3_4) hT
    ·have ghqnuot3_4:=W5 hqnuot3_4
     exact Z8 V1 (g6 zC0q (X4 (X4 s5 r6) (X4 a9s (X4 a9B b0q))) 200 (T':=⟨[(6,(.v (Value.slice none 0 0))),(7,(nI0 (ctE (Y4 E) (cR L) L.length (Y5 X) X.length (cI Y) Y.length)))],[],0,[]⟩) (e:=.ret) (m:=4) (ps:=[S9 1 (Y4 E) E.length,X9 2 L.length (cR L),E.length≤1000,(!P8 (N9 (Y4 E) E.length (cR L) L.length) 0)=false,X8 0 1=true,(!P8 M.length L.length)=false,N8 1 M.length (cI M),M.length≤1000,(!afB 0 1000 (cI M) M.length)=false,K5 IntKind.i64 (0+1),X8 (0+1) 1=false,(!P8 0 0)=false,S9 1 (Y4 E) E.length,X9 2 L.length (cR L),b3o 1 (Y5 X) X.length,N8 1 Y.length (cI Y),N9 (Y4 E) E.length (cR L) L.length=0,X.length≤1000,(!P8 (ctE (Y4 E) (cR L) L.length (Y5 X) X.length (cI Y) Y.length) 0)=true]) (gH 13 ([.b false]++gH 4 ([.b true]++gH 9 ([.b false,.go,.go,.b false,.go,.go,.go,.b false]++gH 4 ([.b false]++gH 5 [.b true,.go,.go,.go]))))) (by kernel_rfl) (by kernel_rfl) ⟨⟨rfl,E,rfl,rfl⟩,⟨rfl,L,rfl,rfl⟩,hE3,(by rw [hqnuot3_1];rfl),rfl,(by rw [hqnuot3_2];rfl),⟨rfl,M,rfl,rfl⟩,(by omega),(by rw [hqnuot3_3];rfl),(by show -9223372036854775808≤(_:Int)∧(_:Int)≤9223372036854775807;constructor<;>decide),rfl,rfl,⟨rfl,E,rfl,rfl⟩,⟨rfl,L,rfl,rfl⟩,⟨rfl,X,rfl,rfl⟩,⟨rfl,Y,rfl,rfl⟩,hC,hX,(by rw [hqnuot3_4];rfl),trivial⟩ rfl (by show 0≤4;decide) ⟨⟨a0b _,a0b _,trivial⟩,trivial,rfl⟩ (by show 0≤0;decide)) (a9 (r:=(.tup [(.v (Value.slice none 0 0)),(nI0 (ctE (Y4 E) (cR L) L.length (Y5 X) X.length (cI Y) Y.length))])) (ys:=[]) (by rfl) (by rfl) (s6 (by kernel_rfl) (by kernel_rfl) rfl (.inr rfl)))
   ·exact absurd (U1 hH).2 (by rw [hqnuot3_3];decide)
  ·have ghqnuot3_2:=W5 hqnuot3_2
   exfalso
   have h9:=(U1 hH).1
   have h8:=W5 hqnuot3_2
   omega
 ·have ghqnuot3_1:=W5 hqnuot3_1
  exact absurd hC (W5 hqnuot3_1)
end
noncomputable def b9H:Code:=O0 Try.f16
set_option maxHeartbeats 2000000 in
theorem c20(y:Value)(E:List (Value×List (Int×Int)))(yl:Value)(L:List (Int×Int))(u:Value)(X:List (Value×List Int))(ul:Value)(Y:List Int)(z:Value)(M:List Int)(hE3:E.length≤1000)(hX:X.length≤1000)(hM3:M.length≤1000)(hC:N9 (Y4 E) E.length (cR L) L.length=0)(hH:N7 L.length (cI M) M.length=0)(hT:ctE (Y4 E) (cR L) L.length (Y5 X) X.length (cI Y) Y.length=0)(v:BaseW)(eb:Nat→Option Nat)(ec:Nat→Nat)(hs:List Nat):Y8 zP0q 31 b9H (⟨[(0,(.agg [.xl y E.length 1 (Y4 E),.xl yl L.length 2 (cR L)])),(1,(.agg [.xl u X.length 1 (Y5 X),.xl ul Y.length 1 (cI Y)])),(2,(.xl z M.length 1 (cI M)))],[],0,[]⟩) (BaseW.H (bw v 0 eb ec) hs) (U5 zP0q Try.f16 31 ((.tup [.sl 0 0 3 3,nI0 0])) [(.cells (cI (tI (A4 (V3 (Y5 X) (cI Y) (cI M)) L.length 3) 3)) 2)] (bw v 0 eb ec)):=by
 have hcl_L:=Z3 L
 have hcl_Y:=Z4 Y
 have hcl_M:=Z4 M
 obtain ⟨hn,hm3,hrow,hlam,hcur⟩:=L3 hC
 rcases zB0q (P8 (N9 (Y4 E) E.length (cR L) L.length) 0) with hqnuoo3_1|hqnuoo3_1
 ·have ghqnuoo3_1:=X6 hqnuoo3_1
  rcases zB0q (P8 M.length L.length) with hqnuoo3_2|hqnuoo3_2
  ·have ghqnuoo3_2:=X6 hqnuoo3_2
   rcases zB0q (afB 0 1000 (cI M) M.length) with hqnuoo3_3|hqnuoo3_3
   ·rcases zB0q (P8 (ctE (Y4 E) (cR L) L.length (Y5 X) X.length (cI Y) Y.length) 0) with hqnuoo3_4|hqnuoo3_4
    ·have ghqnuoo3_4:=X6 hqnuoo3_4
     exact Z8 V1 (P4 zC0q (X4 (X4 s5 r6) (X4 a9s (X4 a9B b0q))) 200 (T':=⟨[(6,(.sl 0 0 3 3)),(7,(nI0 (.ofNat 0)))],[],1,[(0,(.cells [(nI0 (W4 (V3 (Y5 X) (cI Y) (cI M) 0) L.length)),(nI0 (W4 (V3 (Y5 X) (cI Y) (cI M) 1) L.length)),(nI0 (W4 (V3 (Y5 X) (cI Y) (cI M) 2) L.length))] 2))]⟩) (e:=.ret) (m:=6) (ps:=[S9 1 (Y4 E) E.length,X9 2 L.length (cR L),E.length≤1000,(!P8 (N9 (Y4 E) E.length (cR L) L.length) 0)=false,X8 0 1=true,(!P8 M.length L.length)=false,N8 1 M.length (cI M),M.length≤1000,(!afB 0 1000 (cI M) M.length)=false,K5 IntKind.i64 (0+1),X8 (0+1) 1=false,(!P8 0 0)=false,S9 1 (Y4 E) E.length,X9 2 L.length (cR L),b3o 1 (Y5 X) X.length,N8 1 Y.length (cI Y),N9 (Y4 E) E.length (cR L) L.length=0,X.length≤1000,(!P8 (ctE (Y4 E) (cR L) L.length (Y5 X) X.length (cI Y) Y.length) 0)=false,S4 (Y4 E),S4 (cR L),S4 (cI M),S9 1 (Y4 E) E.length,X9 2 L.length (cR L),N8 1 M.length (cI M),S4 (Y4 E),S4 (cR L),S4 (cI M),S9 1 (Y4 E) E.length,X9 2 L.length (cR L),L.length≤8,b20 1 X.length 1 Y.length 1 M.length (Y5 X) (cI Y) (cI M) L.length]) (gH 13 ([.b false]++gH 4 ([.b true]++gH 9 ([.b false,.go,.go,.b false,.go,.go,.go,.b false]++gH 4 ([.b false]++gH 5 ([.b false]++gH 18 [])))))) [5] [(.sl 5 0 3 3),(nI0 (.ofNat 0))] [(.cells [(nI0 (W4 (V3 (Y5 X) (cI Y) (cI M) 0) L.length)),(nI0 (W4 (V3 (Y5 X) (cI Y) (cI M) 1) L.length)),(nI0 (W4 (V3 (Y5 X) (cI Y) (cI M) 2) L.length))] 2)] (by kernel_rfl) (by kernel_rfl) ⟨⟨rfl,E,rfl,rfl⟩,⟨rfl,L,rfl,rfl⟩,hE3,(by rw [hqnuoo3_1];rfl),rfl,(by rw [hqnuoo3_2];rfl),⟨rfl,M,rfl,rfl⟩,(by omega),(by rw [hqnuoo3_3];rfl),(by show -9223372036854775808≤(_:Int)∧(_:Int)≤9223372036854775807;constructor<;>decide),rfl,rfl,⟨rfl,E,rfl,rfl⟩,⟨rfl,L,rfl,rfl⟩,⟨rfl,X,rfl,rfl⟩,⟨rfl,Y,rfl,rfl⟩,hC,hX,(by rw [hqnuoo3_4];rfl),(X7 E),(Y3 (W6 _)),(Y3 (Z1 _)),⟨rfl,E,rfl,rfl⟩,⟨rfl,L,rfl,rfl⟩,⟨rfl,M,rfl,rfl⟩,(X7 E),(Y3 (W6 _)),(Y3 (Z1 _)),⟨rfl,E,rfl,rfl⟩,⟨rfl,L,rfl,rfl⟩,(by omega),(b7V hC hT hH),trivial⟩ rfl rfl (by decide) rfl ⟨c2o rfl,N1 _,trivial⟩ ⟨⟨by show 0<1;decide,Y1 (Z5 (N1 _) (Z5 (N1 _) (Z5 (N1 _) (Y2))))⟩,trivial⟩) (a9 (r:=(.tup [(.sl 0 0 3 3),(nI0 (.ofNat 0))])) (ys:=[(.cells [(nI0 (W4 (V3 (Y5 X) (cI Y) (cI M) 0) L.length)),(nI0 (W4 (V3 (Y5 X) (cI Y) (cI M) 1) L.length)),(nI0 (W4 (V3 (Y5 X) (cI Y) (cI M) 2) L.length))] 2)]) (by rfl) (by (rw [a1J])) (s6 (by kernel_rfl) (by kernel_rfl) rfl (.inr rfl)))
    ·have ghqnuoo3_4:=W5 hqnuoo3_4
     exact absurd hT (W5 hqnuoo3_4)
   ·exact absurd (U1 hH).2 (by rw [hqnuoo3_3];decide)
  ·have ghqnuoo3_2:=W5 hqnuoo3_2
   exfalso
   have h9:=(U1 hH).1
   have h8:=W5 hqnuoo3_2
   omega
 ·have ghqnuoo3_1:=W5 hqnuoo3_1
  exact absurd hC (W5 hqnuoo3_1)
theorem c0k(y:Value)(E:List (Value×List (Int×Int)))(yl:Value)(L:List (Int×Int))(u:Value)(X:List (Value×List Int))(ul:Value)(Y:List Int)(z:Value)(M:List Int)(hE3:E.length≤1000)(hX:X.length≤1000)(hM3:M.length≤1000)(hC:N9 (Y4 E) E.length (cR L) L.length=0)(hH:N7 L.length (cI M) M.length=0)(hT:ctE (Y4 E) (cR L) L.length (Y5 X) X.length (cI Y) Y.length=0):q6 zP0q 16 [(.agg [.xl y E.length 1 (Y4 E),.xl yl L.length 2 (cR L)]),(.agg [.xl u X.length 1 (Y5 X),.xl ul Y.length 1 (cI Y)]),(.xl z M.length 1 (cI M))] [] ((.tup [.sl 0 0 3 3,nI0 0])) [(.cells (cI (tI (A4 (V3 (Y5 X) (cI Y) (cI M)) L.length 3) 3)) 2)] :=
 I8 31 (by kernel_rfl) Try.func16 (by kernel_rfl) (by kernel_rfl) (by kernel_rfl) (fun v eb ec=>U9 (by kernel_rfl) (by kernel_rfl) (by kernel_rfl) (by kernel_rfl) (c20 y E yl L u X ul Y z M hE3 hX hM3 hC hH hT v eb ec []))
end
end Go.Proofs.Ytegmogadbnfbgaa
namespace Go.Proofs.Ytegmogadbnfbgaa
open Go Ev
noncomputable section
theorem b22(f:Nat→Int)(n:Nat):cI (tI f n)++[.v (.int .i64 (f n))]=cI (tI f (n+1)):=by
 rw [a1Y,a1Y]
 show cI (a5P f n)++cI [f n]=_
 rw [c04];rfl
def O3(c d:List AV)(g:Bool)(b:Nat):Int:=if (g == X8 0 (Z9 d (b*1)))=true then Z9 c (b*2+1) else Z9 c (b*2+0)
theorem a39{c d:List AV}{g:Bool}{b:Nat}(h:(g == X8 0 (Z9 d (b*1)))=true):O3 c d g b=Z9 c (b*2+1):=if_pos h
theorem a6t{c d:List AV}{g:Bool}{b:Nat}(h:¬ (g == X8 0 (Z9 d (b*1)))=true):O3 c d g b=Z9 c (b*2+0):=if_neg h
theorem a8W{c d:List AV}{g:Bool}{b:Nat}{v:Int}(h:O3 c d g b=v):cI (tI (O3 c d g) b)++[.v (.int .i64 v)]=cI (tI (O3 c d g) (b+1)):=by rw [← h];exact b22 _ _
theorem b63{c d:List AV}{g:Bool}{b:Nat}{v:Int}(hb:b=0)(h:O3 c d g b=v):[AV.v (.int .i64 v)]=cI (tI (O3 c d g) (b+1)):=by
 subst hb
 rw [← h,a1Y];rfl
end
end Go.Proofs.Ytegmogadbnfbgaa
namespace Go.Proofs.Ytegmogadbnfbgaa
open Go Ev
noncomputable section
end
end Go.Proofs.Ytegmogadbnfbgaa
namespace Go.Proofs.Ytegmogadbnfbgaa
open Go Ev
noncomputable section
def Q4(c0 c1 c2 cY cM:List AV)(i b:Nat):Int:=(match i with|0=>Z9 c0 (b*1)|1=>Z9 c1 (b*1)|_=>Z9 c2 (b*1))*Z9 cY (b*1)*Z9 cM (b*1)
theorem a7f{v0 v1 v2:Value}{X0 X1 X2:List Int}{cY cM:List AV}{i n:Nat}(hi:i<3):W4 (V3 (Y5 [(v0,X0),(v1,X1),(v2,X2)]) cY cM i) n=W4 (Q4 (cI X0) (cI X1) (cI X2) cY cM i) n:=by
 match i,hi with
 |0,_=>rfl
 |1,_=>rfl
 |2,_=>rfl
def O6(k n:Nat)(c:List AV):Prop:=k=1∧∃ X,c=cI X∧n=X.length
def q8(m:Nat):Prop:=m=3
theorem Z2{f:Nat→Int}{n:Nat}:List.take (n*(0+1)) (List.drop 0 (cI (tI f n)))=cI (tI f n):=by
 rw [List.drop_zero,List.take_of_length_le (by rw [Z4,Y9];omega)]
theorem a8d{c d:List AV}{g:Bool}{b:Nat}(h:Y7 100 c b):0≤O3 c d g b∧O3 c d g b≤100:=by
 unfold Y7 at h
 unfold O3
 split<;>omega
def spN(c0 c1 c2 cL cM:List AV)(n:Nat)(g:Bool)(k:Nat):Int:=W4 (Q4 (cI (tI (O3 c0 cM g) n)) (cI (tI (O3 c1 cM g) n)) (cI (tI (O3 c2 cM g) n)) (cI (tI (O3 cL cM g) n)) cM k) n
end
end Go.Proofs.Ytegmogadbnfbgaa
namespace Go.Proofs.Ytegmogadbnfbgaa
open Go Ev
noncomputable section
end
end Go.Proofs.Ytegmogadbnfbgaa
namespace Go.Proofs.Ytegmogadbnfbgaa
open Go Ev
noncomputable section
def Is1(k:Nat):Prop:=k=1
end
end Go.Proofs.Ytegmogadbnfbgaa
namespace Go.Proofs.Ytegmogadbnfbgaa
open Go Ev
noncomputable section
section
variable (E : List (Value × List (Int × Int))) (K : List Int) (L : List (Int × Int)) (M : List Int) (X : List (Value × List Int)) (Y : List Int) (q0 q1 u ul y yl z zk : Value)
@[reducible] def b6X:Ev.AB:=(.cells [.xl y E.length 1 (Y4 E),.xl yl L.length 2 (cR L),(.fn (.func 82) [] [.xp q0 1 1 [.xl z M.length 1 (cI M)] 0,.xp q1 1 1 [.xl zk K.length 1 (cI K)] 0])] 85)
@[reducible] def b4V:Ev.AB:=(.cells [.xl u X.length 1 (Y5 X),.xl ul Y.length 1 (cI Y)] 29)
end
def dfF(c d:List AV)(b:Nat):Int:=Z9 c (b*1) - Z9 d (b*1)
def V2(c d:List AV)(n:Nat):List AV:=cI (tI (dfF c d) n)
theorem a8s{c d:List AV}{n b:Nat}(h:b<n):Z9 (V2 c d n) (b*1)=Z9 c (b*1) - Z9 d (b*1):=by
 unfold V2
 rw [Nat.mul_one,l5 h]
 unfold dfF
 rw [Nat.mul_one]
theorem b6d{cX cY c d:List AV}{n i b:Nat}(h:b<n):V3 cX cY (V2 c d n) i b=Z9 (V4 cX (i*1)) (b*1)*Z9 cY (b*1)*(Z9 c (b*1) - Z9 d (b*1)):=by
 unfold V3
 rw [a8s h]
theorem a6d{c m k:List AV}{g:Bool}{b n:Nat}(hb:b<n)(h:(g == X8 0 (Z9 m (b*1) - Z9 k (b*1)))=true):O3 c (V2 m k n) g b=Z9 c (b*2+1):=a39 (by rw [a8s hb];exact h)
theorem a8O{c m k:List AV}{g:Bool}{b n:Nat}(hb:b<n)(h:¬ (g == X8 0 (Z9 m (b*1) - Z9 k (b*1)))=true):O3 c (V2 m k n) g b=Z9 c (b*2+0):=a6t (by rw [a8s hb];exact h)
theorem b4s{g:Fn}{l:List AV}(h:S4 l):S4 [.fn g [] l]:=fun σ τ hb x e=>by
 simp only [denL,den] at e ⊢
 cases h1:denL σ l with
 |none=>rw [h1] at e;cases e
 |some us =>
  rw [h1] at e
  rw [h σ τ hb us h1]
  exact e
theorem N3{y:Value}{n k i:Nat}{c:List AV}(h:S4 c):S4 [.xp y n k c i]:=fun σ τ hb x e=>by
 simp only [denL,den] at e ⊢
 cases h1:denL σ c with
 |none=>rw [h1] at e;cases e
 |some us =>
  rw [h1] at e
  rw [h σ τ hb us h1,hb]
  exact e
def a4L(n k i:Nat):Prop:=n=1∧k=1∧i=0
def b7r(k3 m k4 q k5 r k6 s:Nat)(cX cY cM cK:List AV)(n:Nat):Prop:=∃ (X:List (Value×List Int)) (Y M K:List Int),(k3=1∧cX=Y5 X∧m=X.length)∧(k4=1∧cY=cI Y∧q=Y.length)∧(k5=1∧cM=cI M∧r=M.length)∧(k6=1∧cK=cI K∧s=K.length)∧X.length=3∧(∀ i,i<3→R3 (Y5 X) (i*1)=n)∧Y.length=n∧M.length=n∧K.length=n∧(∀ i,i<3→∀ b,b<n→0≤Z9 (V4 (Y5 X) (i*1)) (b*1)∧Z9 (V4 (Y5 X) (i*1)) (b*1)≤100)∧(∀ b,b<n→0≤Z9 (cI Y) (b*1)∧Z9 (cI Y) (b*1)≤100)∧(∀ b,b<n → -1000≤Z9 (cI M) (b*1) - Z9 (cI K) (b*1)∧Z9 (cI M) (b*1) - Z9 (cI K) (b*1)≤1000)
noncomputable def c6q:Code:=O0 Try.f80
set_option maxHeartbeats 2000000 in
theorem c6A(y:Value)(E:List (Value×List (Int×Int)))(yl:Value)(L:List (Int×Int))(u:Value)(X:List (Value×List Int))(ul:Value)(Y:List Int)(q0 z:Value)(M:List Int)(q1 zk:Value)(K:List Int)(n c b:Nat)(hx3:X.length=3)(hxr:∀ i,i<3→R3 (Y5 X) (i*1)=n)(hy:Y.length=n)(hm:M.length=n)(hk:K.length=n)(hx1:∀ i,i<3→∀ b,b<n→0≤Z9 (V4 (Y5 X) (i*1)) (b*1)∧Z9 (V4 (Y5 X) (i*1)) (b*1)≤100)(hy1:∀ b,b<n→0≤Z9 (cI Y) (b*1)∧Z9 (cI Y) (b*1)≤100)(hm1:∀ b,b<n → -1000≤Z9 (cI M) (b*1) - Z9 (cI K) (b*1)∧Z9 (cI M) (b*1) - Z9 (cI K) (b*1)≤1000)(hc:c<3)(hb:b<n)(v:BaseW)(eb:Nat→Option Nat)(ec:Nat→Nat)(hs:List Nat):Y8 zP0q 26 c6q (⟨[(0,(nI0 c)),(1,(nI0 b)),(2,(.ptr 0 0)),(3,(.ptr 1 0))],[],2,[(0,(b4V X Y u ul)),(1,(b6X E K L M q0 q1 y yl z zk))]⟩) (BaseW.H (bw v 2 eb ec) hs) (b1H zP0q Try.f80 26 (.int .i64 (V3 (Y5 X) (cI Y) (V2 (cI M) (cI K) n) c b)) [(b4V X Y u ul),(b6X E K L M q0 q1 y yl z zk)] (bw v 2 eb ec)):=by
 have hcl_L:=Z3 L
 have hcl_Y:=Z4 Y
 have hcl_M:=Z4 M
 have hcl_K:=Z4 K
 exact Z8 V1 (Z7 zC0q (Z0) 200 (T':=⟨[(6,(nI0 (Z9 (V4 (Y5 X) (c*1)) (b*1)*Z9 (cI Y) (b*1)*(Z9 (cI M) (b*1) - Z9 (cI K) (b*1)))))],[],2,[(0,(.cells [(.xl (u) (X.length) 1 (Y5 X)),(.xl (ul) (Y.length) 1 (cI Y))] 29)),(1,(.cells [(.xl (y) (E.length) 1 (Y4 E)),(.xl (yl) (L.length) 2 (cR L)),(.fn (.func 82) [] [(AV.xp q0 1 1 [AV.xl z M.length 1 (cI M)] 0),(AV.xp q1 1 1 [AV.xl zk K.length 1 (cI K)] 0)])] 85))]⟩) (e:=.ret) (ps:=[c<X.length,W2 zP0q (Y5 X) (c*1) 27=some (AV.xl (xlY (Y5 X) (c*1)) (R3 (Y5 X) (c*1)) 1 (V4 (Y5 X) (c*1))),b<R3 (Y5 X) (c*1),W2 zP0q (V4 (Y5 X) (c*1)) (b*1) 2=some (AV.v (Value.int IntKind.i64 (Z9 (V4 (Y5 X) (c*1)) (b*1)))),b<Y.length,W2 zP0q (cI Y) (b*1) 2=some (AV.v (Value.int IntKind.i64 (Z9 (cI Y) (b*1)))),K5 IntKind.i64 (Z9 (V4 (Y5 X) (c*1)) (b*1)*Z9 (cI Y) (b*1)),b<M.length,W2 zP0q (cI M) (b*1) 2=some (AV.v (Value.int IntKind.i64 (Z9 (cI M) (b*1)))),b<K.length,W2 zP0q (cI K) (b*1) 2=some (AV.v (Value.int IntKind.i64 (Z9 (cI K) (b*1)))),K5 IntKind.i64 (Z9 (cI M) (b*1) - Z9 (cI K) (b*1)),K5 IntKind.i64 (Z9 (V4 (Y5 X) (c*1)) (b*1)*Z9 (cI Y) (b*1)*(Z9 (cI M) (b*1) - Z9 (cI K) (b*1)))]) (gH 4 ([.sym,.sym,.go,.sym,.sym,.go,.go,.go,.sym,.sym]++gH 10 ([.sym,.sym]++gH 6 ([.sym,.sym]++gH 5 [])))) (by kernel_rfl) (by kernel_rfl) ⟨(by omega),(by rw [Nat.mul_one];exact a08 (by omega) 27 (Try.underlying27) rfl),(by rw [hxr c hc];exact hb),(by have h8:=hxr c hc;obtain ⟨-,L9,e9,n9⟩:=a52 (R:=X) (i:=c) (by omega);rw [e9,Nat.mul_one];exact S6 (by omega) 2 (Try.underlying2) rfl),(by omega),(by rw [Nat.mul_one];exact S6 (show _<Y.length by omega) 2 (Try.underlying2) rfl),(by have h9:=B1 (hx1 c hc b hb) (hy1 b hb) (hm1 b hb);have h8:=hm1 b hb;show -9223372036854775808≤_∧_≤9223372036854775807;constructor<;>omega),(by omega),(by rw [Nat.mul_one];exact S6 (show _<M.length by omega) 2 (Try.underlying2) rfl),(by omega),(by rw [Nat.mul_one];exact S6 (show _<K.length by omega) 2 (Try.underlying2) rfl),(by have h9:=B1 (hx1 c hc b hb) (hy1 b hb) (hm1 b hb);have h8:=hm1 b hb;show -9223372036854775808≤_∧_≤9223372036854775807;constructor<;>omega),(by have h9:=B1 (hx1 c hc b hb) (hy1 b hb) (hm1 b hb);have h8:=hm1 b hb;show -9223372036854775808≤_∧_≤9223372036854775807;constructor<;>omega),trivial⟩ rfl) (b3U (r:=(.int .i64 (Z9 (V4 (Y5 X) (c*1)) (b*1)*Z9 (cI Y) (b*1)*(Z9 (cI M) (b*1) - Z9 (cI K) (b*1))))) (by (rw [b6d hb])) (b2F (v:=(nI0 (Z9 (V4 (Y5 X) (c*1)) (b*1)*Z9 (cI Y) (b*1)*(Z9 (cI M) (b*1) - Z9 (cI K) (b*1))))) (by kernel_rfl) (by kernel_rfl) rfl (.inr rfl)))
theorem c64(y:Value)(E:List (Value×List (Int×Int)))(yl:Value)(L:List (Int×Int))(u:Value)(X:List (Value×List Int))(ul:Value)(Y:List Int)(q0 z:Value)(M:List Int)(q1 zk:Value)(K:List Int)(n c b:Nat)(hx3:X.length=3)(hxr:∀ i,i<3→R3 (Y5 X) (i*1)=n)(hy:Y.length=n)(hm:M.length=n)(hk:K.length=n)(hx1:∀ i,i<3→∀ b,b<n→0≤Z9 (V4 (Y5 X) (i*1)) (b*1)∧Z9 (V4 (Y5 X) (i*1)) (b*1)≤100)(hy1:∀ b,b<n→0≤Z9 (cI Y) (b*1)∧Z9 (cI Y) (b*1)≤100)(hm1:∀ b,b<n → -1000≤Z9 (cI M) (b*1) - Z9 (cI K) (b*1)∧Z9 (cI M) (b*1) - Z9 (cI K) (b*1)≤1000)(hc:c<3)(hb:b<n):a8x zP0q 80 [(nI0 c),(nI0 b),(.ptr 0 0),(.ptr 1 0)] [(b4V X Y u ul),(b6X E K L M q0 q1 y yl z zk)] (.int .i64 (V3 (Y5 X) (cI Y) (V2 (cI M) (cI K) n) c b)) :=
 a34 26 Try.func80 (by kernel_rfl) (by kernel_rfl) (by kernel_rfl) (fun v eb ec=>U9 (by kernel_rfl) (by kernel_rfl) (by kernel_rfl) (by kernel_rfl) (c6A y E yl L u X ul Y q0 z M q1 zk K n c b hx3 hxr hy hm hk hx1 hy1 hm1 hc hb v eb ec []))
end
end Go.Proofs.Ytegmogadbnfbgaa
set_option maxHeartbeats 4000000
namespace Go.Proofs.Ytegmogadbnfbgaa
open Go Ev
noncomputable section
section
variable (E : List (Value × List (Int × Int))) (K : List Int) (L : List (Int × Int)) (M : List Int) (X : List (Value × List Int)) (Y : List Int) (i : Nat) (q0 q1 u ul y yl z zk : Value)
@[reducible] def a8L:Ev.AB:=(.cells [(.xl (u) (X.length) 1 (Y5 X)),(.xl (ul) (Y.length) 1 (cI Y))] 29)
@[reducible] def R7:Nat×Ev.AB:=(0,(a8L X Y u ul))
@[reducible] def a2D:Ev.AB:=(.cells [(.xl (y) (E.length) 1 (Y4 E)),(.xl (yl) (L.length) 2 (cR L)),(.fn (.func 82) [] [(AV.xp q0 1 1 [AV.xl z M.length 1 (cI M)] 0),(AV.xp q1 1 1 [AV.xl zk K.length 1 (cI K)] 0)])] 85)
@[reducible] def S0:Nat×Ev.AB:=(1,(a2D E K L M q0 q1 y yl z zk))
@[reducible] def R0:Nat×Ev.AB:=(2,(a2D E K L M q0 q1 y yl z zk))
@[reducible] def b78:Ev.AB:=(.cells [(.fn (.func 80) [] [(.ptr 0 0),(.ptr 1 0)])] 116)
@[reducible] def Q7:Nat×Ev.AB:=(3,b78)
@[reducible] def b1d:Ev.AB:=(.cells [(nI0 (.ofNat 0)),(nI0 (.ofNat 0)),(nI0 (.ofNat 0))] 82)
@[reducible] def R4:Nat×Ev.AB:=(4,b1d)
@[reducible] def o8:Nat×Ev.AB:=(5,(.cells (cI (tI (A4 (V3 (Y5 X) (cI Y) (V2 (cI M) (cI K) L.length)) L.length i) 3)) 82))
@[reducible] def F3:Nat×Ev.AB:=(6,(.cells [(nI0 i)] 3))
@[reducible] def b0A:Nat×Ev.AB:=(7,(a2D E K L M q0 q1 y yl z zk))
@[reducible] def a7w:Ev.Lit:=⟨[(2,(.ptr 2 0)),(3,(.ptr 3 0)),(4,(.ptr 4 0)),(5,(.ptr 5 0)),(6,(.ptr 6 0)),(8,(nI0 i)),(12,(.fn (.func 93) [] [(.ptr 7 0)]))],[],8,[(R7 X Y u ul),(S0 E K L M q0 q1 y yl z zk),(R0 E K L M q0 q1 y yl z zk),Q7,R4,(o8 K L M X Y i),(F3 i),(b0A E K L M q0 q1 y yl z zk)]⟩
@[reducible] def b6T:Ev.AB:=(.cells (cI (tI (f7 (V3 (Y5 X) (cI Y) (V2 (cI M) (cI K) L.length)) L.length i L.length) 3)) 82)
@[reducible] def a59:Nat×Ev.AB:=(5,(b6T K L M X Y i))
@[reducible] def b8O:Ev.Lit:=⟨[(2,(.ptr 2 0)),(3,(.ptr 3 0)),(4,(.ptr 4 0)),(5,(.ptr 5 0)),(6,(.ptr 6 0)),(8,(nI0 i))],[],7,[(R7 X Y u ul),(S0 E K L M q0 q1 y yl z zk),(R0 E K L M q0 q1 y yl z zk),Q7,R4,(o8 K L M X Y i),(F3 i)]⟩
@[reducible] def b8s:Ev.Lit:=⟨[(2,(.ptr 2 0)),(3,(.ptr 3 0)),(4,(.ptr 4 0)),(5,(.ptr 5 0)),(8,(nI0 i)),(9,(.v (.bool (X8 i 3))))],[],6,[(R7 X Y u ul),(S0 E K L M q0 q1 y yl z zk),(R0 E K L M q0 q1 y yl z zk),Q7,R4,(o8 K L M X Y i)]⟩
@[reducible] def b97:Ev.Lit:=⟨[(2,(.ptr 2 0)),(3,(.ptr 3 0)),(4,(.ptr 4 0)),(5,(.ptr 5 0)),(8,(nI0 i))],[8],10,[(R7 X Y u ul),(S0 E K L M q0 q1 y yl z zk),(R0 E K L M q0 q1 y yl z zk),Q7,R4,(a59 K L M X Y i),(8,(.defd .true))]⟩
@[reducible] def b8I:Ev.Lit:=⟨[(2,(.ptr 2 0)),(3,(.ptr 3 0)),(4,(.ptr 4 0)),(5,(.ptr 5 0)),(8,(nI0 (((i+1):Nat):Int)))],[],6,[(R7 X Y u ul),(S0 E K L M q0 q1 y yl z zk),(R0 E K L M q0 q1 y yl z zk),Q7,R4,(a59 K L M X Y i)]⟩
@[reducible] def b8t:Ev.Lit:=⟨[(2,(.ptr 2 0)),(3,(.ptr 3 0)),(4,(.ptr 4 0)),(5,(.ptr 5 0)),(8,(nI0 i))],[],8,[(R7 X Y u ul),(S0 E K L M q0 q1 y yl z zk),(R0 E K L M q0 q1 y yl z zk),Q7,R4,(a59 K L M X Y i)]⟩
@[reducible] def a4e:Nat×Ev.AV:=(8,(nI0 (.ofNat 0)))
@[reducible] def b5X:Nat×Ev.AB:=(5,b1d)
@[reducible] def b2H:Ev.Lit:=⟨[(2,(.ptr 2 0)),(3,(.ptr 3 0)),(4,(.ptr 4 0)),(5,(.ptr 5 0)),a4e],[],6,[(R7 X Y u ul),(S0 E K L M q0 q1 y yl z zk),(R0 E K L M q0 q1 y yl z zk),Q7,R4,b5X]⟩
@[reducible] def b2i:Ev.Lit:=⟨[(2,(.ptr 2 0)),(3,(.ptr 3 0)),(4,(.ptr 4 0)),(5,(.ptr 5 0)),(8,(nI0 i))],[],6,[(R7 X Y u ul),(S0 E K L M q0 q1 y yl z zk),(R0 E K L M q0 q1 y yl z zk),Q7,R4,(o8 K L M X Y i)]⟩
@[reducible] def b1X:Ev.Lit:=⟨[(2,(.ptr 2 0)),(3,(.ptr 3 0)),(4,(.ptr 4 0)),(5,(.ptr 5 0))],[],6,[(R7 X Y u ul),(S0 E K L M q0 q1 y yl z zk),(R0 E K L M q0 q1 y yl z zk),Q7,R4,b5X]⟩
@[reducible] def b65:Ev.Lit:=⟨[(2,(.ptr 2 0)),(3,(.ptr 3 0)),(4,(.ptr 4 0))],[],5,[(R7 X Y u ul),(S0 E K L M q0 q1 y yl z zk),(R0 E K L M q0 q1 y yl z zk),Q7,R4]⟩
@[reducible] def b69:Ev.Lit:=⟨[(4,(.ptr 4 0)),(5,(.ptr 5 0))],[],6,[(R7 X Y u ul),(S0 E K L M q0 q1 y yl z zk),R4,(5,(.cells (cI (tI (A4 (V3 (Y5 X) (cI Y) (V2 (cI M) (cI K) L.length)) L.length (3)) 3)) 82))]⟩
@[reducible] def b6K:Ev.AB:=(.cells [(nI0 (Z9 (cI (tI (A4 (V3 (Y5 X) (cI Y) (V2 (cI M) (cI K) L.length)) L.length 3) 3)) 0)),(nI0 (Z9 (cI (tI (A4 (V3 (Y5 X) (cI Y) (V2 (cI M) (cI K) L.length)) L.length 3) 3)) (0+1))),(nI0 (Z9 (cI (tI (A4 (V3 (Y5 X) (cI Y) (V2 (cI M) (cI K) L.length)) L.length 3) 3)) (0+1+1)))] 82)
@[reducible] def b5P:List Ev.AV:=[.xl y E.length 1 (Y4 E),.xl yl L.length 2 (cR L),(.fn (.func 82) [] [.xp q0 1 1 [.xl z M.length 1 (cI M)] 0,.xp q1 1 1 [.xl zk K.length 1 (cI K)] 0])]
@[reducible] def H8:Ev.AB:=(.cells (b5P E K L M q0 q1 y yl z zk) 85)
@[reducible] def b6a:Ev.AV:=(.agg (b5P E K L M q0 q1 y yl z zk))
@[reducible] def b70:List Ev.AV:=[.xl u X.length 1 (Y5 X),.xl ul Y.length 1 (cI Y)]
@[reducible] def I0:Ev.AB:=(.cells (b70 X Y u ul) 29)
@[reducible] def p8:Nat×Ev.AV:=(7,(nI0 L.length))
end
theorem b1x{y yl q0 z q1 zk:Value}{f:FuncId}{t2:TypeId}(E:List (Value×List (Int×Int)))(L:List (Int×Int))(M K:List Int):a1R (AB.cells [.xl y E.length 1 (Y4 E),.xl yl L.length 2 (cR L),.fn (.func f) [] [.xp q0 1 1 [.xl z M.length 1 (cI M)] 0,.xp q1 1 1 [.xl zk K.length 1 (cI K)] 0]] t2):=A3 (G0 (X5 (X7 E)) (G0 (X5 (Y3 (W6 L))) (b4s (G0 (N3 (X5 (Y3 (Z1 M)))) (N3 (X5 (Y3 (Z1 K))))))))
theorem a3z{u ul y yl q0 z q1 zk:Value}{f:FuncId}{t1 t2:TypeId}(X:List (Value×List Int))(Y:List Int)(E:List (Value×List (Int×Int)))(L:List (Int×Int))(M K:List Int):∀ x,x∈[AB.cells (b70 X Y u ul) t1,AB.cells [.xl y E.length 1 (Y4 E),.xl yl L.length 2 (cR L),.fn (.func f) [] [.xp q0 1 1 [.xl z M.length 1 (cI M)] 0,.xp q1 1 1 [.xl zk K.length 1 (cI K)] 0]] t2]→a1R x:=fun x hx=>by
 rcases List.mem_cons.1 hx with rfl|hx
 ·exact A3 (G0 (X5 (K8 X)) (X5 (Y3 (Z1 Y))))
 ·rw [List.mem_singleton.1 hx]
  exact b1x E L M K
def pdS:List AV→List AB→Option (Value×List Prop):=fun args xs =>
 match args with
 |[.v vc,.v vb,p,q]=>match a3o vc,a3o vb,a6R p 0,a6R q 1,xs with
  |some c,some b,true,true,[.cells l1 t1,.cells l2 t2]=>match l1,l2 with
   |[.xl u m k3 cX,.xl ul j k4 cY],[.xl y me k1 cE,.xl yl n k2 cL,.fn (.func f) lz lc]=>match lz,lc,Nat.beq f 82 with
    |[],[.xp q0 a1 a2 d0 a3,.xp q1 b1 b2 d1 b3],true=>match d0,d1 with
     |[.xl z r k5 cM],[.xl zk s k6 cK]=>some (.int .i64 (V3 cX cY (V2 cM cK n) c.toNat b.toNat),[a4H t1,a4y t2,S9 k1 cE me,X9 k2 n cL,b7r k3 m k4 j k5 r k6 s cX cY cM cK n,a4L a1 a2 a3,a4L b1 b2 b3,0≤c∧c<3,0≤b∧b.toNat<n])
     |_,_=>none
    |_,_,_=>none
   |_,_=>none
  |_,_,_,_,_=>none
 |_=>none
def pdO:O2:=b4j 80 pdS
theorem H0:Known zP0q (clsO pdO):=b38 (fun args xs r ps h hp=>by
 unfold pdS at h
 split at h
 ·split at h
  ·rename_i c b l1 t1 l2 t2 e1 e2 e3 e4
   split at h
   ·split at h
    ·rename_i e5
     split at h
     ·cases h
      obtain ⟨rfl,rfl,⟨rfl,E,rfl,rfl⟩,⟨rfl,L,rfl,rfl⟩,⟨X,Y,M,K,⟨rfl,rfl,rfl⟩,⟨rfl,rfl,rfl⟩,⟨rfl,rfl,rfl⟩,⟨rfl,rfl,rfl⟩,h1,h2,h3,h4,h4',h5,h6,h7⟩,⟨rfl,rfl,rfl⟩,⟨rfl,rfl,rfl⟩,hc,hb,-⟩:=hp
      rw [B2 e1,B2 e2,e8 e3,e8 e4,Nat.eq_of_beq_eq_true e5]
      obtain ⟨c,rfl⟩:∃ k:Nat,c=((k:Nat):Int):=⟨c.toNat,by omega⟩
      obtain ⟨b,rfl⟩:∃ k:Nat,b=((k:Nat):Int):=⟨b.toNat,by omega⟩
      exact ⟨fun x hx=>⟨a3z X Y E L M K x hx,by rcases List.mem_cons.1 hx with rfl|hx;exact a0n;rw [List.mem_singleton.1 hx];exact a0n⟩,c64 _ E _ L _ X _ Y _ _ M _ _ K L.length c b h1 h2 h3 h4 h4' h5 h6 h7 (by omega) hb.2⟩
     ·cases h
    ·cases h
   ·cases h
  ·cases h
 ·cases h)
noncomputable def c5G:Code:=O0 Try.f79
noncomputable def c5f:Code:=L2 c5G
noncomputable def c1H:Code:=L2 c5f
noncomputable def a2c:Code:=L2 c1H
noncomputable def b95:Code:=(f8 c1H)
noncomputable def b71:Code:=L2 b95
noncomputable def b8o:Code:=H3 b71
noncomputable def b8b:Code:=L2 b8o
noncomputable def b3a:Code:=L2 b8b
noncomputable def a4N:Code:=L2 b3a
noncomputable def b8i:Code:=a72 (f8 b3a)
noncomputable def b9a:Code:=L2 b8i
noncomputable def b3V:Code:=L2 b9a
noncomputable def O9:Code:=a72 b3V
section
variable (E : List (Value × List (Int × Int))) (K : List Int) (L : List (Int × Int)) (M : List Int) (X : List (Value × List Int)) (Y : List Int) (eb : Nat → Option Nat) (ec : Nat → Nat) (i : Nat) (q0 q1 u ul : Value) (v : BaseW) (y yl z zk : Value)
@[reducible] def b9s:=(a4I 16 (fun _:Unit=>((⟨[],[],10,9,[(3,(.ptr 3 0)),(5,(.ptr 5 0)),(6,(.ptr 6 0))],[(R7 X Y u ul),(S0 E K L M q0 q1 y yl z zk),(R0 E K L M q0 q1 y yl z zk),Q7,R4,(a59 K L M X Y i),(F3 i),(8,(.defd .true))],.ready,none,25,E4 O9,E3 O9,E5 O9,8⟩:Ev.Lit1)).lit) (fun _:Unit=>True) (bw v 10 eb ec))
end
noncomputable def b54:Code:=O0 Try.f93
noncomputable def b5o:Code:=L2 b54
noncomputable def c0C:Code:=H3 b5o
section
variable {E:List (Value×List (Int×Int))} {K M Y:List Int} {L:List (Int×Int)} {X:List (Value×List Int)} {eb:Nat→Option Nat} {ec:Nat→Nat} {hs:List Nat} {i:Nat} {q0 q1 u ul y yl z zk:Value} {v:BaseW}
theorem c0B(hn8:L.length≤8)(hx3:X.length=3)(hxr:∀ i,i<3→R3 (Y5 X) (i*1)=L.length)(hy:Y.length=L.length)(hm:M.length=L.length)(hk:K.length=L.length)(hx1:∀ i,i<3→∀ b,b<L.length→0≤Z9 (V4 (Y5 X) (i*1)) (b*1)∧Z9 (V4 (Y5 X) (i*1)) (b*1)≤100)(hy1:∀ b,b<L.length→0≤Z9 (cI Y) (b*1)∧Z9 (cI Y) (b*1)≤100)(hm1:∀ b,b<L.length → -1000≤Z9 (cI M) (b*1) - Z9 (cI K) (b*1)∧Z9 (cI M) (b*1) - Z9 (cI K) (b*1)≤1000)(hi1:i≤3)(hi2:True)(hqsd23_1:(X8 i 3)=true):Y8 zP0q 16 b5o ((⟨[(0,(.yld 9)),(p8 L),a4e],[],10,9,[(3,(.ptr 3 0)),(5,(.ptr 5 0)),(6,(.ptr 6 0))],[(R7 X Y u ul),(S0 E K L M q0 q1 y yl z zk),(R0 E K L M q0 q1 y yl z zk),Q7,R4,(o8 K L M X Y i),(F3 i),(8,(.defd .true))],.ready,none,25,E4 O9,E3 O9,E5 O9,8⟩:Ev.Lit1).lit) (bw v 10 eb ec) (b9s E K L M X Y eb ec i q0 q1 u ul v y yl z zk):=by
 have hcl_L:=Z3 L
 have hcl_Y:=Z4 Y
 have hcl_M:=Z4 M
 have hcl_K:=Z4 K
 have ghqsd23_1:=Y0 hqsd23_1
 refine U9 (T':=(⟨[(0,(.yld 9)),(p8 L),a4e],[],10,9,[(3,(.ptr 3 0)),(5,(.ptr 5 0)),(6,(.ptr 6 0))],[(R7 X Y u ul),(S0 E K L M q0 q1 y yl z zk),(R0 E K L M q0 q1 y yl z zk),Q7,R4,(o8 K L M X Y i),(F3 i),(8,(.defd .true))],.ready,none,25,E4 O9,E3 O9,E5 O9,8⟩:Ev.Lit1).lit) (by kernel_rfl) (by kernel_rfl) (by kernel_rfl) (by kernel_rfl) (a2i (ι:={j:Nat // j≤L.length∧True}) (T:=(fun j:{j:Nat // j≤L.length∧True}=>(⟨[(0,(.yld 9)),(p8 L),(8,(nI0 j.1))],[],10,9,[(3,(.ptr 3 0)),(5,(.ptr 5 0)),(6,(.ptr 6 0))],[(R7 X Y u ul),(S0 E K L M q0 q1 y yl z zk),(R0 E K L M q0 q1 y yl z zk),Q7,R4,(5,(.cells (cI (tI (f7 (V3 (Y5 X) (cI Y) (V2 (cI M) (cI K) L.length)) L.length i j.1) 3)) 82)),(F3 i),(8,(.defd .true))],.ready,none,25,E4 O9,E3 O9,E5 O9,8⟩:Ev.Lit1).lit)) (R:=(fun j:{j:Nat // j≤L.length∧True}=>L.length≤j.1)) (by kernel_rfl) (a62 (show ((⟨[(0,(.yld 9)),(p8 L),a4e],[],10,9,[(3,(.ptr 3 0)),(5,(.ptr 5 0)),(6,(.ptr 6 0))],[(R7 X Y u ul),(S0 E K L M q0 q1 y yl z zk),(R0 E K L M q0 q1 y yl z zk),Q7,R4,(o8 K L M X Y i),(F3 i),(8,(.defd .true))],.ready,none,25,E4 O9,E3 O9,E5 O9,8⟩:Ev.Lit1).lit:Ev.Lit)=(⟨[(0,(.yld 9)),(p8 L),(8,(nI0 0))],[],10,9,[(3,(.ptr 3 0)),(5,(.ptr 5 0)),(6,(.ptr 6 0))],[(R7 X Y u ul),(S0 E K L M q0 q1 y yl z zk),(R0 E K L M q0 q1 y yl z zk),Q7,R4,(5,(.cells (cI (tI (f7 (V3 (Y5 X) (cI Y) (V2 (cI M) (cI K) L.length)) L.length i 0) 3)) 82)),(F3 i),(8,(.defd .true))],.ready,none,25,E4 O9,E3 O9,E5 O9,8⟩:Ev.Lit1).lit from by (rw [a7G];rfl)) (g5 (by kernel_rfl) (fun j:{j:Nat // j≤L.length∧True}=>(⟨[(0,(.yld 9)),(p8 L),(8,(nI0 j.1))],[],10,9,[(3,(.ptr 3 0)),(5,(.ptr 5 0)),(6,(.ptr 6 0))],[(R7 X Y u ul),(S0 E K L M q0 q1 y yl z zk),(R0 E K L M q0 q1 y yl z zk),Q7,R4,(5,(.cells (cI (tI (f7 (V3 (Y5 X) (cI Y) (V2 (cI M) (cI K) L.length)) L.length i j.1) 3)) 82)),(F3 i),(8,(.defd .true))],.ready,none,25,E4 O9,E3 O9,E5 O9,8⟩:Ev.Lit1).lit) (fun j:{j:Nat // j≤L.length∧True}=>L.length - j.1) (fun i=>?_) ⟨0,Nat.zero_le _,trivial⟩)) (fun ixR hxR=>(fun (j0r:Nat) (h0ra:j0r≤L.length) (h0rb:True) (h0rc:L.length≤j0r)=>⟨(),show True from trivial,(by obtain ⟨i9,q1,q2⟩:=ixR;have h9:L.length≤i9:=hxR;have e:i9=L.length:=(by omega);subst e;exact u7 (by kernel_rfl) (by kernel_rfl) (by kernel_rfl) (by kernel_rfl))⟩) ixR.1 ixR.2.1 ixR.2.2 hxR))
 obtain ⟨j,hi1,hi2⟩:=i
 show Y8 zP0q 16 c0C ((⟨[(0,(.yld 9)),(p8 L),(8,(nI0 j))],[],10,9,[(3,(.ptr 3 0)),(5,(.ptr 5 0)),(6,(.ptr 6 0))],[(R7 X Y u ul),(S0 E K L M q0 q1 y yl z zk),(R0 E K L M q0 q1 y yl z zk),Q7,R4,(5,(.cells (cI (tI (f7 (V3 (Y5 X) (cI Y) (V2 (cI M) (cI K) L.length)) L.length i j) 3)) 82)),(F3 i),(8,(.defd .true))],.ready,none,25,E4 O9,E3 O9,E5 O9,8⟩:Ev.Lit1).lit) (bw v 10 eb ec) (a4C _ _ _ _ _ _ _ _)
 rcases zB0q (X8 j L.length) with hl0_1|hl0_1
 ·have ghl0_1:=Y0 hl0_1
  refine Ev.step_on ⟨j+1,by omega,trivial⟩ (by show L.length - (j+1)<L.length - j;omega) ?_
  show Y8 _ _ _ _ _ (F4 _ isN ((⟨[(0,(.yld 9)),(p8 L),(8,(nI0 (((j+1):Nat):Int)))],[],10,9,[(3,(.ptr 3 0)),(5,(.ptr 5 0)),(6,(.ptr 6 0))],[(R7 X Y u ul),(S0 E K L M q0 q1 y yl z zk),(R0 E K L M q0 q1 y yl z zk),Q7,R4,(5,(.cells (cI (tI (f7 (V3 (Y5 X) (cI Y) (V2 (cI M) (cI K) L.length)) L.length i (j+1)) 3)) 82)),(F3 i),(8,(.defd .true))],.ready,none,25,E4 O9,E3 O9,E5 O9,8⟩:Ev.Lit1).lit) _)
  rw [show ((cI (tI (f7 (V3 (Y5 X) (cI Y) (V2 (cI M) (cI K) L.length)) L.length i (j+1)) 3)):List AV)=(S3 (cI (tI (f7 (V3 (Y5 X) (cI Y) (V2 (cI M) (cI K) L.length)) L.length i j) 3)) (0+i*1) [(nI0 (Z9 (cI (tI (f7 (V3 (Y5 X) (cI Y) (V2 (cI M) (cI K) L.length)) L.length i j) 3)) (0+i*1)+V3 (Y5 X) (cI Y) (V2 (cI M) (cI K) L.length) i j))]) from by (refine (a9A (i:=i) (j:=j) (by omega) ?_).symm;rw [a8h (i:=i) (by omega)])]
  exact E0 zC0q (H0) 200 (T':=(⟨[(0,(.yld 9)),(p8 L),(8,(nI0 (((j+1):Nat):Int)))],[],10,9,[(3,(.ptr 3 0)),(5,(.ptr 5 0)),(6,(.ptr 6 0))],[(R7 X Y u ul),(S0 E K L M q0 q1 y yl z zk),(R0 E K L M q0 q1 y yl z zk),Q7,R4,(5,(.cells (S3 (cI (tI (f7 (V3 (Y5 X) (cI Y) (V2 (cI M) (cI K) L.length)) L.length i j) 3)) (0+i*1) [(nI0 (Z9 (cI (tI (f7 (V3 (Y5 X) (cI Y) (V2 (cI M) (cI K) L.length)) L.length i j) 3)) (0+i*1)+V3 (Y5 X) (cI Y) (V2 (cI M) (cI K) L.length) i j))]) 82)),(F3 i),(8,(.defd .true))],.ready,none,25,E4 O9,E3 O9,E5 O9,8⟩:Ev.Lit1)) (e:=.normal) (ps:=[X8 j L.length=true,i<3,W2 zP0q (cI (tI (f7 (V3 (Y5 X) (cI Y) (V2 (cI M) (cI K) L.length)) L.length i j) 3)) (0+i*1) 2=some (AV.v (Value.int IntKind.i64 (Z9 (cI (tI (f7 (V3 (Y5 X) (cI Y) (V2 (cI M) (cI K) L.length)) L.length i j) 3)) (0+i*1)))),a4H 29,a4y 85,S9 1 (Y4 E) E.length,X9 2 L.length (cR L),b7r 1 X.length 1 Y.length 1 M.length 1 K.length (Y5 X) (cI Y) (cI M) (cI K) L.length,a4L 1 1 0,a4L 1 1 0,(0:Int)≤((i:Nat):Int)∧((i:Nat):Int)<3,(0:Int)≤((j:Nat):Int)∧j<L.length,K5 IntKind.i64 (Z9 (cI (tI (f7 (V3 (Y5 X) (cI Y) (V2 (cI M) (cI K) L.length)) L.length i j) 3)) (0+i*1)+V3 (Y5 X) (cI Y) (V2 (cI M) (cI K) L.length) i j),i<3,0+i*1+([(nI0 (Z9 (cI (tI (f7 (V3 (Y5 X) (cI Y) (V2 (cI M) (cI K) L.length)) L.length i j) 3)) (0+i*1)+V3 (Y5 X) (cI Y) (V2 (cI M) (cI K) L.length) i j))]:List AV).length≤((cI (tI (f7 (V3 (Y5 X) (cI Y) (V2 (cI M) (cI K) L.length)) L.length i j) 3)):List AV).length,(!true)=false,K5 IntKind.i64 (((j:Nat):Int)+1)]) ([.go,.b true]++gH 6 ([.sym,.sym]++gH 4 [.sym,.sym,.go,.b false,.go,.go])) (by kernel_rfl) (by kernel_rfl) ⟨hl0_1,(by omega),(S6 (by rw [Y9];omega) 2 (Try.underlying2) rfl),rfl,rfl,⟨rfl,E,rfl,rfl⟩,⟨rfl,L,rfl,rfl⟩,⟨X,Y,M,K,⟨rfl,rfl,rfl⟩,⟨rfl,rfl,rfl⟩,⟨rfl,rfl,rfl⟩,⟨rfl,rfl,rfl⟩,hx3,hxr,hy,hm,hk,hx1,hy1,hm1⟩,⟨rfl,rfl,rfl⟩,⟨rfl,rfl,rfl⟩,(by omega),(by omega),(by rw [a8h (by omega)];have h9:=a8o (p:=V3 (Y5 X) (cI Y) (V2 (cI M) (cI K) L.length) i) (m:=10000000) (n:=j) (fun b hb=>by rw [b6d (by omega)];exact (B1 (hx1 i (by omega) b (by omega)) (hy1 b (by omega)) (hm1 b (by omega))).2);have h8 : -10000000≤V3 (Y5 X) (cI Y) (V2 (cI M) (cI K) L.length) i j∧V3 (Y5 X) (cI Y) (V2 (cI M) (cI K) L.length) i j≤10000000:=(by rw [b6d (by omega)];exact (B1 (hx1 i (by omega) j (by omega)) (hy1 j (by omega)) (hm1 j (by omega))).2);show -9223372036854775808≤_∧_≤9223372036854775807;constructor<;>omega),(by omega),(by show 0+i*1+1≤_;rw [Z4,Y9];omega),rfl,(by show -9223372036854775808≤_∧_≤9223372036854775807;constructor<;>omega),trivial⟩ rfl
 ·have ghl0_1:=Z6 hl0_1
  exact Ev.step_out (by show L.length≤j;omega) (E0 zC0q (H0) 200 (T':=(⟨[(0,(.yld 9)),(p8 L),(8,(nI0 j))],[],10,9,[(3,(.ptr 3 0)),(5,(.ptr 5 0)),(6,(.ptr 6 0))],[(R7 X Y u ul),(S0 E K L M q0 q1 y yl z zk),(R0 E K L M q0 q1 y yl z zk),Q7,R4,(5,(.cells (cI (tI (f7 (V3 (Y5 X) (cI Y) (V2 (cI M) (cI K) L.length)) L.length i j) 3)) 82)),(F3 i),(8,(.defd .true))],.ready,none,25,E4 O9,E3 O9,E5 O9,8⟩:Ev.Lit1)) (e:=.exit 0) (ps:=[X8 j L.length=false]) [.go,.b false] (by kernel_rfl) (by kernel_rfl) ⟨hl0_1,trivial⟩ rfl)
theorem c18(hn8:L.length≤8)(hx3:X.length=3)(hxr:∀ i,i<3→R3 (Y5 X) (i*1)=L.length)(hy:Y.length=L.length)(hm:M.length=L.length)(hk:K.length=L.length)(hx1:∀ i,i<3→∀ b,b<L.length→0≤Z9 (V4 (Y5 X) (i*1)) (b*1)∧Z9 (V4 (Y5 X) (i*1)) (b*1)≤100)(hy1:∀ b,b<L.length→0≤Z9 (cI Y) (b*1)∧Z9 (cI Y) (b*1)≤100)(hm1:∀ b,b<L.length → -1000≤Z9 (cI M) (b*1) - Z9 (cI K) (b*1)∧Z9 (cI M) (b*1) - Z9 (cI K) (b*1)≤1000)(hi1:i≤3)(hi2:True)(hqsd23_1:(X8 i 3)=true):Y8 zP0q 16 b54 ((⟨[(0,(.yld 9)),(1,(.ptr 7 0))],[],10,9,[(3,(.ptr 3 0)),(5,(.ptr 5 0)),(6,(.ptr 6 0))],[(R7 X Y u ul),(S0 E K L M q0 q1 y yl z zk),(R0 E K L M q0 q1 y yl z zk),Q7,R4,(o8 K L M X Y i),(F3 i),(b0A E K L M q0 q1 y yl z zk),(8,(.defd .true))],.ready,none,25,E4 O9,E3 O9,E5 O9,8⟩:Ev.Lit1).lit) (bw v 10 eb ec) (b9s E K L M X Y eb ec i q0 q1 u ul v y yl z zk):=by
 have hcl_L:=Z3 L
 have hcl_Y:=Z4 Y
 have hcl_M:=Z4 M
 have hcl_K:=Z4 K
 have ghqsd23_1:=Y0 hqsd23_1
 exact O5 (T':=(⟨[(0,(.yld 9)),(p8 L),a4e],[],10,9,[(3,(.ptr 3 0)),(5,(.ptr 5 0)),(6,(.ptr 6 0))],[(R7 X Y u ul),(S0 E K L M q0 q1 y yl z zk),(R0 E K L M q0 q1 y yl z zk),Q7,R4,(o8 K L M X Y i),(F3 i),(8,(.defd .true))],.ready,none,25,E4 O9,E3 O9,E5 O9,8⟩:Ev.Lit1).lit) (by kernel_rfl) (E0 zC0q (H0) 200 (T':=(⟨[(0,(.yld 9)),(p8 L),a4e],[],10,9,[(3,(.ptr 3 0)),(5,(.ptr 5 0)),(6,(.ptr 6 0))],[(R7 X Y u ul),(S0 E K L M q0 q1 y yl z zk),(R0 E K L M q0 q1 y yl z zk),Q7,R4,(o8 K L M X Y i),(F3 i),(8,(.defd .true))],.ready,none,25,E4 O9,E3 O9,E5 O9,8⟩:Ev.Lit1)) (e:=.normal) (ps:=[]) (gH 5 []) (by kernel_rfl) (by kernel_rfl) trivial rfl) (c0B hn8 hx3 hxr hy hm hk hx1 hy1 hm1 hi1 hi2 hqsd23_1)
theorem c32(hn8:L.length≤8)(hx3:X.length=3)(hxr:∀ i,i<3→R3 (Y5 X) (i*1)=L.length)(hy:Y.length=L.length)(hm:M.length=L.length)(hk:K.length=L.length)(hx1:∀ i,i<3→∀ b,b<L.length→0≤Z9 (V4 (Y5 X) (i*1)) (b*1)∧Z9 (V4 (Y5 X) (i*1)) (b*1)≤100)(hy1:∀ b,b<L.length→0≤Z9 (cI Y) (b*1)∧Z9 (cI Y) (b*1)≤100)(hm1:∀ b,b<L.length → -1000≤Z9 (cI M) (b*1) - Z9 (cI K) (b*1)∧Z9 (cI M) (b*1) - Z9 (cI K) (b*1)≤1000)(hi1:i≤3)(hi2:True)(hqsd23_1:(X8 i 3)=true):Y8 zP0q 25 a4N ((b8t E K L M X Y i q0 q1 u ul y yl z zk)) (BaseW.H (bw v 2 eb ec) hs) (Hd.StepC zP0q 25 0 (fun i:{i:Nat // i≤3∧True}=>⟨[(2,(.ptr 2 0)),(3,(.ptr 3 0)),(4,(.ptr 4 0)),(5,(.ptr 5 0)),(8,(nI0 i.1))],[],6,[(R7 X Y u ul),(S0 E K L M q0 q1 y yl z zk),(R0 E K L M q0 q1 y yl z zk),Q7,R4,(5,(.cells (cI (tI (A4 (V3 (Y5 X) (cI Y) (V2 (cI M) (cI K) L.length)) L.length i.1) 3)) 82))]⟩) (fun i:{i:Nat // i≤3∧True}=>3 - i.1) a2c (bw v 2 eb ec) (U5 zP0q Try.f79 25 ((.agg [nI0 (W4 (V3 (Y5 X) (cI Y) (V2 (cI M) (cI K) L.length) 0) L.length),nI0 (W4 (V3 (Y5 X) (cI Y) (V2 (cI M) (cI K) L.length) 1) L.length),nI0 (W4 (V3 (Y5 X) (cI Y) (V2 (cI M) (cI K) L.length) 2) L.length)])) [(I0 X Y u ul),(H8 E K L M q0 q1 y yl z zk)] (bw v 2 eb ec)) (⟨i,hi1,hi2⟩:{i:Nat // i≤3∧True})):=by
 have hcl_L:=Z3 L
 have hcl_Y:=Z4 Y
 have hcl_M:=Z4 M
 have hcl_K:=Z4 K
 have ghqsd23_1:=Y0 hqsd23_1
 exact Z8 V9 (g6 zC0q (H0) 200 (T':=(b8I E K L M X Y i q0 q1 u ul y yl z zk)) (e:=.normal) (m:=8) (ps:=[K5 IntKind.i64 (((i:Nat):Int)+1)]) [.go,.go] (by kernel_rfl) (by kernel_rfl) ⟨(by show -9223372036854775808≤_∧_≤9223372036854775807;constructor<;>omega),trivial⟩ rfl (by show 6≤8;decide) ⟨⟨x6 (by show 2<6;decide),x6 (by show 3<6;decide),x6 (by show 4<6;decide),x6 (by show 5<6;decide),a0b _,trivial⟩,⟨⟨by show 0<6;decide,J9 (S7 (B0 (X5 (K8 _))) (S7 (a0e (Z1 Y)) (fun _ hz=>absurd hz List.not_mem_nil)))⟩,⟨by show 1<6;decide,J9 (S7 (B0 (X5 (X7 _))) (S7 (a0e (W6 L)) (S7 (a7z (fun _ hz=>absurd hz List.not_mem_nil) (S7 (B0 (N3 (X5 (Y3 (Z1 _))))) (S7 (B0 (N3 (X5 (Y3 (Z1 _))))) (fun _ hz=>absurd hz List.not_mem_nil)))) (fun _ hz=>absurd hz List.not_mem_nil))))⟩,⟨by show 2<6;decide,J9 (S7 (B0 (X5 (X7 _))) (S7 (a0e (W6 L)) (S7 (a7z (fun _ hz=>absurd hz List.not_mem_nil) (S7 (B0 (N3 (X5 (Y3 (Z1 _))))) (S7 (B0 (N3 (X5 (Y3 (Z1 _))))) (fun _ hz=>absurd hz List.not_mem_nil)))) (fun _ hz=>absurd hz List.not_mem_nil))))⟩,⟨by show 3<6;decide,J9 (S7 (a7z (fun _ hz=>absurd hz List.not_mem_nil) (S7 (x6 (by show 0<6;decide)) (S7 (x6 (by show 1<6;decide)) (fun _ hz=>absurd hz List.not_mem_nil)))) (fun _ hz=>absurd hz List.not_mem_nil))⟩,⟨by show 4<6;decide,J9 (S7 (a0b _) (S7 (a0b _) (S7 (a0b _) (fun _ hz=>absurd hz List.not_mem_nil))))⟩,⟨by show 5<6;decide,a7H (Z1 _)⟩,trivial⟩,rfl⟩ (by show 2≤6;decide)) (Hd.en_on (⟨i+1,by omega,trivial⟩) (by show 3 - (i+1)<3 - i;omega) (show ((b8I E K L M X Y i q0 q1 u ul y yl z zk):Ev.Lit)=⟨[(2,(.ptr 2 0)),(3,(.ptr 3 0)),(4,(.ptr 4 0)),(5,(.ptr 5 0)),(8,(nI0 (((i+1):Nat):Int)))],[],6,[(R7 X Y u ul),(S0 E K L M q0 q1 y yl z zk),(R0 E K L M q0 q1 y yl z zk),Q7,R4,(5,(.cells (cI (tI (A4 (V3 (Y5 X) (cI Y) (V2 (cI M) (cI K) L.length)) L.length (i+1)) 3)) 82))]⟩ from by have hz_:=congrArg (fun (xq0:Ev.AB)=>(⟨[(2,(.ptr 2 0)),(3,(.ptr 3 0)),(4,(.ptr 4 0)),(5,(.ptr 5 0)),(8,(nI0 (((i+1):Nat):Int)))],[],6,[(R7 X Y u ul),(S0 E K L M q0 q1 y yl z zk),(R0 E K L M q0 q1 y yl z zk),Q7,R4,(5,xq0)]⟩:Ev.Lit)) (congrArg (fun z=>Ev.AB.cells z 82) (show ((cI (tI (f7 (V3 (Y5 X) (cI Y) (V2 (cI M) (cI K) L.length)) L.length i L.length) 3)):List Ev.AV)=(cI (tI (A4 (V3 (Y5 X) (cI Y) (V2 (cI M) (cI K) L.length)) L.length (i+1)) 3)) from by rw [b2X]));exact hz_))
theorem c5r(hn8:L.length≤8)(hx3:X.length=3)(hxr:∀ i,i<3→R3 (Y5 X) (i*1)=L.length)(hy:Y.length=L.length)(hm:M.length=L.length)(hk:K.length=L.length)(hx1:∀ i,i<3→∀ b,b<L.length→0≤Z9 (V4 (Y5 X) (i*1)) (b*1)∧Z9 (V4 (Y5 X) (i*1)) (b*1)≤100)(hy1:∀ b,b<L.length→0≤Z9 (cI Y) (b*1)∧Z9 (cI Y) (b*1)≤100)(hm1:∀ b,b<L.length → -1000≤Z9 (cI M) (b*1) - Z9 (cI K) (b*1)∧Z9 (cI M) (b*1) - Z9 (cI K) (b*1)≤1000)(hi1:i≤3)(hi2:True)(hqsd23_1:(X8 i 3)=true):Y8 zP0q 25 O9 ((a7w E K L M X Y i q0 q1 u ul y yl z zk)) (BaseW.H (bw v 2 eb ec) hs) (a3J 2 (Hd.AfterB zP0q 25 1 a4N (bw v 2 eb ec) (Hd.StepC zP0q 25 0 (fun i:{i:Nat // i≤3∧True}=>⟨[(2,(.ptr 2 0)),(3,(.ptr 3 0)),(4,(.ptr 4 0)),(5,(.ptr 5 0)),(8,(nI0 i.1))],[],6,[(R7 X Y u ul),(S0 E K L M q0 q1 y yl z zk),(R0 E K L M q0 q1 y yl z zk),Q7,R4,(5,(.cells (cI (tI (A4 (V3 (Y5 X) (cI Y) (V2 (cI M) (cI K) L.length)) L.length i.1) 3)) 82))]⟩) (fun i:{i:Nat // i≤3∧True}=>3 - i.1) a2c (bw v 2 eb ec) (U5 zP0q Try.f79 25 ((.agg [nI0 (W4 (V3 (Y5 X) (cI Y) (V2 (cI M) (cI K) L.length) 0) L.length),nI0 (W4 (V3 (Y5 X) (cI Y) (V2 (cI M) (cI K) L.length) 1) L.length),nI0 (W4 (V3 (Y5 X) (cI Y) (V2 (cI M) (cI K) L.length) 2) L.length)])) [(I0 X Y u ul),(H8 E K L M q0 q1 y yl z zk)] (bw v 2 eb ec)) (⟨i,hi1,hi2⟩:{i:Nat // i≤3∧True})))):=by
 have hcl_L:=Z3 L
 have hcl_Y:=Z4 Y
 have hcl_M:=Z4 M
 have hcl_K:=Z4 K
 have ghqsd23_1:=Y0 hqsd23_1
 refine U9 (T':=(a7w E K L M X Y i q0 q1 u ul y yl z zk)) (by kernel_rfl) (by kernel_rfl) (by kernel_rfl) (by kernel_rfl) ?_
 exact a19 (T1:=(⟨[(0,(.yld 9)),(1,(.ptr 7 0))],[],10,9,[(3,(.ptr 3 0)),(5,(.ptr 5 0)),(6,(.ptr 6 0))],[(R7 X Y u ul),(S0 E K L M q0 q1 y yl z zk),(R0 E K L M q0 q1 y yl z zk),Q7,R4,(o8 K L M X Y i),(F3 i),(b0A E K L M q0 q1 y yl z zk),(8,(.defd .true))],.ready,none,25,E4 O9,E3 O9,E5 O9,8⟩:Ev.Lit1)) (T2:=(fun _:Unit=>(⟨[],[],10,9,[(3,(.ptr 3 0)),(5,(.ptr 5 0)),(6,(.ptr 6 0))],[(R7 X Y u ul),(S0 E K L M q0 q1 y yl z zk),(R0 E K L M q0 q1 y yl z zk),Q7,R4,(a59 K L M X Y i),(F3 i),(8,(.defd .true))],.ready,none,25,E4 O9,E3 O9,E5 O9,8⟩:Ev.Lit1))) (T3:=fun _:Unit=>(b97 E K L M X Y i q0 q1 u ul y yl z zk)) (R:=(fun _:Unit=>True)) (k:=93) (l:=9) (szk:=16) (K:=10) (e:=fun _=>.normal) rfl (by kernel_rfl) Try.func93 (by kernel_rfl) (by kernel_rfl) (by kernel_rfl) (by kernel_rfl) (by kernel_rfl) (fun _ _=>rfl) (fun v eb ec=>c18 hn8 hx3 hxr hy hm hk hx1 hy1 hm1 hi1 hi2 hqsd23_1) (fun _ _=>by kernel_rfl) (fun _ _=>a8V (T:=(b97 E K L M X Y i q0 q1 u ul y yl z zk)) (T':=(b8t E K L M X Y i q0 q1 u ul y yl z zk)) (m:=8) [0,1,2,3,4,5,6,7] [(.ptr 2 0),(.ptr 3 0),(.ptr 4 0),(.ptr 5 0),(nI0 i)] [(a8L X Y u ul),(a2D E K L M q0 q1 y yl z zk),(a2D E K L M q0 q1 y yl z zk),b78,b1d,(b6T K L M X Y i)] rfl (by kernel_rfl) rfl rfl (by decide) (by kernel_rfl) (by kernel_rfl) ⟨V5 rfl,V5 rfl,V5 rfl,V5 rfl,N1 _,trivial⟩ ⟨⟨by show 0<8;decide,Y1 (Z5 (T6 (X5 (K8 _))) (Z5 (Q2 (Y6 (Z1 Y))) (Y2)))⟩,⟨by show 1<8;decide,Y1 (Z5 (T6 (X5 (X7 _))) (Z5 (Q2 (Y6 (W6 L))) (Z5 (f6 (Y2) (Z5 (T6 (N3 (X5 (Y3 (Z1 _))))) (Z5 (T6 (N3 (X5 (Y3 (Z1 _))))) (Y2)))) (Y2))))⟩,⟨by show 2<8;decide,Y1 (Z5 (T6 (X5 (X7 _))) (Z5 (Q2 (Y6 (W6 L))) (Z5 (f6 (Y2) (Z5 (T6 (N3 (X5 (Y3 (Z1 _))))) (Z5 (T6 (N3 (X5 (Y3 (Z1 _))))) (Y2)))) (Y2))))⟩,⟨by show 3<8;decide,Y1 (Z5 (f6 (Y2) (Z5 (V5 rfl) (Z5 (V5 rfl) (Y2)))) (Y2))⟩,⟨by show 4<8;decide,Y1 (Z5 (N1 _) (Z5 (N1 _) (Z5 (N1 _) (Y2))))⟩,⟨by show 5<8;decide,Y1 (Y6 (Z1 _))⟩,trivial⟩ ⟨(by show 0≠8;decide),(by show 1≠8;decide),(by show 2≠8;decide),(by show 3≠8;decide),(by show 4≠8;decide),(by show 5≠8;decide),trivial⟩ (by show 2≤8;decide) (fun b hb=>(by have hb2:b<2:=hb;match b,hb2 with|0,_=>rfl|1,_=>rfl)) (fun hs=>b9n (Hd.en_bn (c32 hn8 hx3 hxr hy hm hk hx1 hy1 hm1 hi1 hi2 hqsd23_1))))
theorem c4S(hn8:L.length≤8)(hx3:X.length=3)(hxr:∀ i,i<3→R3 (Y5 X) (i*1)=L.length)(hy:Y.length=L.length)(hm:M.length=L.length)(hk:K.length=L.length)(hx1:∀ i,i<3→∀ b,b<L.length→0≤Z9 (V4 (Y5 X) (i*1)) (b*1)∧Z9 (V4 (Y5 X) (i*1)) (b*1)≤100)(hy1:∀ b,b<L.length→0≤Z9 (cI Y) (b*1)∧Z9 (cI Y) (b*1)≤100)(hm1:∀ b,b<L.length → -1000≤Z9 (cI M) (b*1) - Z9 (cI K) (b*1)∧Z9 (cI M) (b*1) - Z9 (cI K) (b*1)≤1000)(hi1:i≤3)(hi2:True)(hqsd23_1:(X8 i 3)=true):Y8 zP0q 25 O9 ((a7w E K L M X Y i q0 q1 u ul y yl z zk)) (BaseW.H (bw v 2 eb ec) hs) (a3J 2 (Hd.AfterB zP0q 25 1 a4N (bw v 2 eb ec) (Hd.StepC zP0q 25 0 (fun i:{i:Nat // i≤3∧True}=>⟨[(2,(.ptr 2 0)),(3,(.ptr 3 0)),(4,(.ptr 4 0)),(5,(.ptr 5 0)),(8,(nI0 i.1))],[],6,[(R7 X Y u ul),(S0 E K L M q0 q1 y yl z zk),(R0 E K L M q0 q1 y yl z zk),Q7,R4,(5,(.cells (cI (tI (A4 (V3 (Y5 X) (cI Y) (V2 (cI M) (cI K) L.length)) L.length i.1) 3)) 82))]⟩) (fun i:{i:Nat // i≤3∧True}=>3 - i.1) a2c (bw v 2 eb ec) (U5 zP0q Try.f79 25 ((.agg [nI0 (W4 (V3 (Y5 X) (cI Y) (V2 (cI M) (cI K) L.length) 0) L.length),nI0 (W4 (V3 (Y5 X) (cI Y) (V2 (cI M) (cI K) L.length) 1) L.length),nI0 (W4 (V3 (Y5 X) (cI Y) (V2 (cI M) (cI K) L.length) 2) L.length)])) [(I0 X Y u ul),(H8 E K L M q0 q1 y yl z zk)] (bw v 2 eb ec)) (⟨i,hi1,hi2⟩:{i:Nat // i≤3∧True})))):=by
 exact c5r hn8 hx3 hxr hy hm hk hx1 hy1 hm1 hi1 hi2 hqsd23_1
theorem c2G(hn8:L.length≤8)(hx3:X.length=3)(hxr:∀ i,i<3→R3 (Y5 X) (i*1)=L.length)(hy:Y.length=L.length)(hm:M.length=L.length)(hk:K.length=L.length)(hx1:∀ i,i<3→∀ b,b<L.length→0≤Z9 (V4 (Y5 X) (i*1)) (b*1)∧Z9 (V4 (Y5 X) (i*1)) (b*1)≤100)(hy1:∀ b,b<L.length→0≤Z9 (cI Y) (b*1)∧Z9 (cI Y) (b*1)≤100)(hm1:∀ b,b<L.length → -1000≤Z9 (cI M) (b*1) - Z9 (cI K) (b*1)∧Z9 (cI M) (b*1) - Z9 (cI K) (b*1)≤1000)(hi1:i≤3)(hi2:True)(hqsd23_1:(X8 i 3)=true):Y8 zP0q 25 b3V ((a7w E K L M X Y i q0 q1 u ul y yl z zk)) (BaseW.H (bw v 2 eb ec) hs) (Hd.AfterB zP0q 25 1 a4N (bw v 2 eb ec) (Hd.StepC zP0q 25 0 (fun i:{i:Nat // i≤3∧True}=>⟨[(2,(.ptr 2 0)),(3,(.ptr 3 0)),(4,(.ptr 4 0)),(5,(.ptr 5 0)),(8,(nI0 i.1))],[],6,[(R7 X Y u ul),(S0 E K L M q0 q1 y yl z zk),(R0 E K L M q0 q1 y yl z zk),Q7,R4,(5,(.cells (cI (tI (A4 (V3 (Y5 X) (cI Y) (V2 (cI M) (cI K) L.length)) L.length i.1) 3)) 82))]⟩) (fun i:{i:Nat // i≤3∧True}=>3 - i.1) a2c (bw v 2 eb ec) (U5 zP0q Try.f79 25 ((.agg [nI0 (W4 (V3 (Y5 X) (cI Y) (V2 (cI M) (cI K) L.length) 0) L.length),nI0 (W4 (V3 (Y5 X) (cI Y) (V2 (cI M) (cI K) L.length) 1) L.length),nI0 (W4 (V3 (Y5 X) (cI Y) (V2 (cI M) (cI K) L.length) 2) L.length)])) [(I0 X Y u ul),(H8 E K L M q0 q1 y yl z zk)] (bw v 2 eb ec)) (⟨i,hi1,hi2⟩:{i:Nat // i≤3∧True}))):=by
 exact a7Y (id:=2) (by kernel_rfl) (by kernel_rfl) (c4S hn8 hx3 hxr hy hm hk hx1 hy1 hm1 hi1 hi2 hqsd23_1)
theorem c3S(hn8:L.length≤8)(hx3:X.length=3)(hxr:∀ i,i<3→R3 (Y5 X) (i*1)=L.length)(hy:Y.length=L.length)(hm:M.length=L.length)(hk:K.length=L.length)(hx1:∀ i,i<3→∀ b,b<L.length→0≤Z9 (V4 (Y5 X) (i*1)) (b*1)∧Z9 (V4 (Y5 X) (i*1)) (b*1)≤100)(hy1:∀ b,b<L.length→0≤Z9 (cI Y) (b*1)∧Z9 (cI Y) (b*1)≤100)(hm1:∀ b,b<L.length → -1000≤Z9 (cI M) (b*1) - Z9 (cI K) (b*1)∧Z9 (cI M) (b*1) - Z9 (cI K) (b*1)≤1000)(hi1:i≤3)(hi2:True)(hqsd23_1:(X8 i 3)=true):Y8 zP0q 25 b3V ((a7w E K L M X Y i q0 q1 u ul y yl z zk)) (BaseW.H (bw v 2 eb ec) hs) (Hd.AfterB zP0q 25 1 a4N (bw v 2 eb ec) (Hd.StepC zP0q 25 0 (fun i:{i:Nat // i≤3∧True}=>⟨[(2,(.ptr 2 0)),(3,(.ptr 3 0)),(4,(.ptr 4 0)),(5,(.ptr 5 0)),(8,(nI0 i.1))],[],6,[(R7 X Y u ul),(S0 E K L M q0 q1 y yl z zk),(R0 E K L M q0 q1 y yl z zk),Q7,R4,(5,(.cells (cI (tI (A4 (V3 (Y5 X) (cI Y) (V2 (cI M) (cI K) L.length)) L.length i.1) 3)) 82))]⟩) (fun i:{i:Nat // i≤3∧True}=>3 - i.1) a2c (bw v 2 eb ec) (U5 zP0q Try.f79 25 ((.agg [nI0 (W4 (V3 (Y5 X) (cI Y) (V2 (cI M) (cI K) L.length) 0) L.length),nI0 (W4 (V3 (Y5 X) (cI Y) (V2 (cI M) (cI K) L.length) 1) L.length),nI0 (W4 (V3 (Y5 X) (cI Y) (V2 (cI M) (cI K) L.length) 2) L.length)])) [(I0 X Y u ul),(H8 E K L M q0 q1 y yl z zk)] (bw v 2 eb ec)) (⟨i,hi1,hi2⟩:{i:Nat // i≤3∧True}))):=by
 exact c2G hn8 hx3 hxr hy hm hk hx1 hy1 hm1 hi1 hi2 hqsd23_1
theorem c5a(hn8:L.length≤8)(hx3:X.length=3)(hxr:∀ i,i<3→R3 (Y5 X) (i*1)=L.length)(hy:Y.length=L.length)(hm:M.length=L.length)(hk:K.length=L.length)(hx1:∀ i,i<3→∀ b,b<L.length→0≤Z9 (V4 (Y5 X) (i*1)) (b*1)∧Z9 (V4 (Y5 X) (i*1)) (b*1)≤100)(hy1:∀ b,b<L.length→0≤Z9 (cI Y) (b*1)∧Z9 (cI Y) (b*1)≤100)(hm1:∀ b,b<L.length → -1000≤Z9 (cI M) (b*1) - Z9 (cI K) (b*1)∧Z9 (cI M) (b*1) - Z9 (cI K) (b*1)≤1000)(hi1:i≤3)(hi2:True)(hqsd23_1:(X8 i 3)=true):Y8 zP0q 25 b9a ((b8O E K L M X Y i q0 q1 u ul y yl z zk)) (BaseW.H (bw v 2 eb ec) hs) (Hd.AfterB zP0q 25 1 a4N (bw v 2 eb ec) (Hd.StepC zP0q 25 0 (fun i:{i:Nat // i≤3∧True}=>⟨[(2,(.ptr 2 0)),(3,(.ptr 3 0)),(4,(.ptr 4 0)),(5,(.ptr 5 0)),(8,(nI0 i.1))],[],6,[(R7 X Y u ul),(S0 E K L M q0 q1 y yl z zk),(R0 E K L M q0 q1 y yl z zk),Q7,R4,(5,(.cells (cI (tI (A4 (V3 (Y5 X) (cI Y) (V2 (cI M) (cI K) L.length)) L.length i.1) 3)) 82))]⟩) (fun i:{i:Nat // i≤3∧True}=>3 - i.1) a2c (bw v 2 eb ec) (U5 zP0q Try.f79 25 ((.agg [nI0 (W4 (V3 (Y5 X) (cI Y) (V2 (cI M) (cI K) L.length) 0) L.length),nI0 (W4 (V3 (Y5 X) (cI Y) (V2 (cI M) (cI K) L.length) 1) L.length),nI0 (W4 (V3 (Y5 X) (cI Y) (V2 (cI M) (cI K) L.length) 2) L.length)])) [(I0 X Y u ul),(H8 E K L M q0 q1 y yl z zk)] (bw v 2 eb ec)) (⟨i,hi1,hi2⟩:{i:Nat // i≤3∧True}))):=by
 have hcl_L:=Z3 L
 have hcl_Y:=Z4 Y
 have hcl_M:=Z4 M
 have hcl_K:=Z4 K
 have ghqsd23_1:=Y0 hqsd23_1
 refine Hd.goes_seqA (by kernel_rfl) ?_
 exact Z8 V9 (Z7 zC0q (H0) 200 (T':=(a7w E K L M X Y i q0 q1 u ul y yl z zk)) (e:=.normal) (ps:=[]) (gH 5 []) (by kernel_rfl) (by kernel_rfl) trivial rfl) (Hd.en_n (c3S hn8 hx3 hxr hy hm hk hx1 hy1 hm1 hi1 hi2 hqsd23_1))
theorem c5o(hn8:L.length≤8)(hx3:X.length=3)(hxr:∀ i,i<3→R3 (Y5 X) (i*1)=L.length)(hy:Y.length=L.length)(hm:M.length=L.length)(hk:K.length=L.length)(hx1:∀ i,i<3→∀ b,b<L.length→0≤Z9 (V4 (Y5 X) (i*1)) (b*1)∧Z9 (V4 (Y5 X) (i*1)) (b*1)≤100)(hy1:∀ b,b<L.length→0≤Z9 (cI Y) (b*1)∧Z9 (cI Y) (b*1)≤100)(hm1:∀ b,b<L.length → -1000≤Z9 (cI M) (b*1) - Z9 (cI K) (b*1)∧Z9 (cI M) (b*1) - Z9 (cI K) (b*1)≤1000)(hi1:i≤3)(hi2:True)(hqsd23_1:(X8 i 3)=true):Y8 zP0q 25 b8i ((b2i E K L M X Y i q0 q1 u ul y yl z zk)) (BaseW.H (bw v 2 eb ec) hs) (Hd.AfterB zP0q 25 1 a4N (bw v 2 eb ec) (Hd.StepC zP0q 25 0 (fun i:{i:Nat // i≤3∧True}=>⟨[(2,(.ptr 2 0)),(3,(.ptr 3 0)),(4,(.ptr 4 0)),(5,(.ptr 5 0)),(8,(nI0 i.1))],[],6,[(R7 X Y u ul),(S0 E K L M q0 q1 y yl z zk),(R0 E K L M q0 q1 y yl z zk),Q7,R4,(5,(.cells (cI (tI (A4 (V3 (Y5 X) (cI Y) (V2 (cI M) (cI K) L.length)) L.length i.1) 3)) 82))]⟩) (fun i:{i:Nat // i≤3∧True}=>3 - i.1) a2c (bw v 2 eb ec) (U5 zP0q Try.f79 25 ((.agg [nI0 (W4 (V3 (Y5 X) (cI Y) (V2 (cI M) (cI K) L.length) 0) L.length),nI0 (W4 (V3 (Y5 X) (cI Y) (V2 (cI M) (cI K) L.length) 1) L.length),nI0 (W4 (V3 (Y5 X) (cI Y) (V2 (cI M) (cI K) L.length) 2) L.length)])) [(I0 X Y u ul),(H8 E K L M q0 q1 y yl z zk)] (bw v 2 eb ec)) (⟨i,hi1,hi2⟩:{i:Nat // i≤3∧True}))):=by
 have hcl_L:=Z3 L
 have hcl_Y:=Z4 Y
 have hcl_M:=Z4 M
 have hcl_K:=Z4 K
 have ghqsd23_1:=Y0 hqsd23_1
 refine Hd.goes_seqA (by kernel_rfl) ?_
 exact Z8 V9 (Z7 zC0q (H0) 200 (T':=(b8O E K L M X Y i q0 q1 u ul y yl z zk)) (e:=.normal) (ps:=[]) [.go,.go,.go] (by kernel_rfl) (by kernel_rfl) trivial rfl) (Hd.en_n (c5a hn8 hx3 hxr hy hm hk hx1 hy1 hm1 hi1 hi2 hqsd23_1))
theorem c5k(hn8:L.length≤8)(hx3:X.length=3)(hxr:∀ i,i<3→R3 (Y5 X) (i*1)=L.length)(hy:Y.length=L.length)(hm:M.length=L.length)(hk:K.length=L.length)(hx1:∀ i,i<3→∀ b,b<L.length→0≤Z9 (V4 (Y5 X) (i*1)) (b*1)∧Z9 (V4 (Y5 X) (i*1)) (b*1)≤100)(hy1:∀ b,b<L.length→0≤Z9 (cI Y) (b*1)∧Z9 (cI Y) (b*1)≤100)(hm1:∀ b,b<L.length → -1000≤Z9 (cI M) (b*1) - Z9 (cI K) (b*1)∧Z9 (cI M) (b*1) - Z9 (cI K) (b*1)≤1000)(hi1:i≤3)(hi2:True)(hqsd23_1:(X8 i 3)=true):Y8 zP0q 25 (f8 b3a) ((b2i E K L M X Y i q0 q1 u ul y yl z zk)) (BaseW.H (bw v 2 eb ec) hs) (Hd.AfterN zP0q 25 a4N (bw v 2 eb ec) (Hd.StepC zP0q 25 0 (fun i:{i:Nat // i≤3∧True}=>⟨[(2,(.ptr 2 0)),(3,(.ptr 3 0)),(4,(.ptr 4 0)),(5,(.ptr 5 0)),(8,(nI0 i.1))],[],6,[(R7 X Y u ul),(S0 E K L M q0 q1 y yl z zk),(R0 E K L M q0 q1 y yl z zk),Q7,R4,(5,(.cells (cI (tI (A4 (V3 (Y5 X) (cI Y) (V2 (cI M) (cI K) L.length)) L.length i.1) 3)) 82))]⟩) (fun i:{i:Nat // i≤3∧True}=>3 - i.1) a2c (bw v 2 eb ec) (U5 zP0q Try.f79 25 ((.agg [nI0 (W4 (V3 (Y5 X) (cI Y) (V2 (cI M) (cI K) L.length) 0) L.length),nI0 (W4 (V3 (Y5 X) (cI Y) (V2 (cI M) (cI K) L.length) 1) L.length),nI0 (W4 (V3 (Y5 X) (cI Y) (V2 (cI M) (cI K) L.length) 2) L.length)])) [(I0 X Y u ul),(H8 E K L M q0 q1 y yl z zk)] (bw v 2 eb ec)) (⟨i,hi1,hi2⟩:{i:Nat // i≤3∧True}))):=by
 exact Hd.goes_blkA (id:=1) (by kernel_rfl) (by kernel_rfl) (c5o hn8 hx3 hxr hy hm hk hx1 hy1 hm1 hi1 hi2 hqsd23_1)
theorem c3K(hn8:L.length≤8)(hx3:X.length=3)(hxr:∀ i,i<3→R3 (Y5 X) (i*1)=L.length)(hy:Y.length=L.length)(hm:M.length=L.length)(hk:K.length=L.length)(hx1:∀ i,i<3→∀ b,b<L.length→0≤Z9 (V4 (Y5 X) (i*1)) (b*1)∧Z9 (V4 (Y5 X) (i*1)) (b*1)≤100)(hy1:∀ b,b<L.length→0≤Z9 (cI Y) (b*1)∧Z9 (cI Y) (b*1)≤100)(hm1:∀ b,b<L.length → -1000≤Z9 (cI M) (b*1) - Z9 (cI K) (b*1)∧Z9 (cI M) (b*1) - Z9 (cI K) (b*1)≤1000)(hi1:i≤3)(hi2:True)(hqsd23_1:(X8 i 3)=true):Y8 zP0q 25 b3a ((b2i E K L M X Y i q0 q1 u ul y yl z zk)) (BaseW.H (bw v 2 eb ec) hs) (Hd.StepC zP0q 25 0 (fun i:{i:Nat // i≤3∧True}=>⟨[(2,(.ptr 2 0)),(3,(.ptr 3 0)),(4,(.ptr 4 0)),(5,(.ptr 5 0)),(8,(nI0 i.1))],[],6,[(R7 X Y u ul),(S0 E K L M q0 q1 y yl z zk),(R0 E K L M q0 q1 y yl z zk),Q7,R4,(5,(.cells (cI (tI (A4 (V3 (Y5 X) (cI Y) (V2 (cI M) (cI K) L.length)) L.length i.1) 3)) 82))]⟩) (fun i:{i:Nat // i≤3∧True}=>3 - i.1) a2c (bw v 2 eb ec) (U5 zP0q Try.f79 25 ((.agg [nI0 (W4 (V3 (Y5 X) (cI Y) (V2 (cI M) (cI K) L.length) 0) L.length),nI0 (W4 (V3 (Y5 X) (cI Y) (V2 (cI M) (cI K) L.length) 1) L.length),nI0 (W4 (V3 (Y5 X) (cI Y) (V2 (cI M) (cI K) L.length) 2) L.length)])) [(I0 X Y u ul),(H8 E K L M q0 q1 y yl z zk)] (bw v 2 eb ec)) (⟨i,hi1,hi2⟩:{i:Nat // i≤3∧True})):=by
 exact Hd.goes_seqA (by kernel_rfl) (c5k hn8 hx3 hxr hy hm hk hx1 hy1 hm1 hi1 hi2 hqsd23_1)
theorem c43(hn8:L.length≤8)(hx3:X.length=3)(hxr:∀ i,i<3→R3 (Y5 X) (i*1)=L.length)(hy:Y.length=L.length)(hm:M.length=L.length)(hk:K.length=L.length)(hx1:∀ i,i<3→∀ b,b<L.length→0≤Z9 (V4 (Y5 X) (i*1)) (b*1)∧Z9 (V4 (Y5 X) (i*1)) (b*1)≤100)(hy1:∀ b,b<L.length→0≤Z9 (cI Y) (b*1)∧Z9 (cI Y) (b*1)≤100)(hm1:∀ b,b<L.length → -1000≤Z9 (cI M) (b*1) - Z9 (cI K) (b*1)∧Z9 (cI M) (b*1) - Z9 (cI K) (b*1)≤1000)(h0b:True)(hqsd23_1:(X8 3 3)=false):Y8 zP0q 25 a2c ((b69 E K L M X Y q0 q1 u ul y yl z zk)) (BaseW.H (bw v 2 eb ec) hs) (U5 zP0q Try.f79 25 ((.agg [nI0 (W4 (V3 (Y5 X) (cI Y) (V2 (cI M) (cI K) L.length) 0) L.length),nI0 (W4 (V3 (Y5 X) (cI Y) (V2 (cI M) (cI K) L.length) 1) L.length),nI0 (W4 (V3 (Y5 X) (cI Y) (V2 (cI M) (cI K) L.length) 2) L.length)])) [(I0 X Y u ul),(H8 E K L M q0 q1 y yl z zk)] (bw v 2 eb ec)):=by
 have hcl_L:=Z3 L
 have hcl_Y:=Z4 Y
 have hcl_M:=Z4 M
 have hcl_K:=Z4 K
 have ghqsd23_1:=Z6 hqsd23_1
 exact Z8 V1 (P4 zC0q (H0) 200 (T':=⟨[(4,(.ptr 2 0))],[],3,[(R7 X Y u ul),(S0 E K L M q0 q1 y yl z zk),(2,(b6K K L M X Y))]⟩) (e:=.ret) (m:=6) (ps:=[W2 zP0q (cI (tI (A4 (V3 (Y5 X) (cI Y) (V2 (cI M) (cI K) L.length)) L.length 3) 3)) 0 82=some (AV.agg [AV.v (Value.int IntKind.i64 (Z9 (cI (tI (A4 (V3 (Y5 X) (cI Y) (V2 (cI M) (cI K) L.length)) L.length 3) 3)) 0)),AV.v (Value.int IntKind.i64 (Z9 (cI (tI (A4 (V3 (Y5 X) (cI Y) (V2 (cI M) (cI K) L.length)) L.length 3) 3)) (0+1))),AV.v (Value.int IntKind.i64 (Z9 (cI (tI (A4 (V3 (Y5 X) (cI Y) (V2 (cI M) (cI K) L.length)) L.length 3) 3)) (0+1+1)))])]) [.sym,.go] [0,1,4] [(.ptr 4 0)] [(a8L X Y u ul),(a2D E K L M q0 q1 y yl z zk),(b6K K L M X Y)] (by kernel_rfl) (by kernel_rfl) ⟨(by rw [a1J];kernel_rfl),trivial⟩ rfl rfl (by decide) rfl ⟨V5 rfl,trivial⟩ ⟨⟨by show 0<3;decide,Y1 (Z5 (T6 (X5 (K8 _))) (Z5 (Q2 (Y6 (Z1 Y))) (Y2)))⟩,⟨by show 1<3;decide,Y1 (Z5 (T6 (X5 (X7 _))) (Z5 (Q2 (Y6 (W6 L))) (Z5 (f6 (Y2) (Z5 (T6 (N3 (X5 (Y3 (Z1 _))))) (Z5 (T6 (N3 (X5 (Y3 (Z1 _))))) (Y2)))) (Y2))))⟩,⟨by show 2<3;decide,Y1 (Z5 (N1 _) (Z5 (N1 _) (Z5 (N1 _) (Y2))))⟩,trivial⟩ (by show 2≤3;decide) (fun b hb=>(by have hb2:b<2:=hb;match b,hb2 with|0,_=>rfl|1,_=>rfl))) (a9 (r:=(.agg [(nI0 (Z9 (cI (tI (A4 (V3 (Y5 X) (cI Y) (V2 (cI M) (cI K) L.length)) L.length 3) 3)) 0)),(nI0 (Z9 (cI (tI (A4 (V3 (Y5 X) (cI Y) (V2 (cI M) (cI K) L.length)) L.length 3) 3)) (0+1))),(nI0 (Z9 (cI (tI (A4 (V3 (Y5 X) (cI Y) (V2 (cI M) (cI K) L.length)) L.length 3) 3)) (0+1+1)))])) (ys:=[(a8L X Y u ul),(a2D E K L M q0 q1 y yl z zk)]) (by (rw [a1J];rfl)) (by rfl) (s6 (by kernel_rfl) (by kernel_rfl) rfl (.inr rfl)))
theorem c46(hn8:L.length≤8)(hx3:X.length=3)(hxr:∀ i,i<3→R3 (Y5 X) (i*1)=L.length)(hy:Y.length=L.length)(hm:M.length=L.length)(hk:K.length=L.length)(hx1:∀ i,i<3→∀ b,b<L.length→0≤Z9 (V4 (Y5 X) (i*1)) (b*1)∧Z9 (V4 (Y5 X) (i*1)) (b*1)≤100)(hy1:∀ b,b<L.length→0≤Z9 (cI Y) (b*1)∧Z9 (cI Y) (b*1)≤100)(hm1:∀ b,b<L.length → -1000≤Z9 (cI M) (b*1) - Z9 (cI K) (b*1)∧Z9 (cI M) (b*1) - Z9 (cI K) (b*1)≤1000)(hi1:i≤3)(hi2:True):Y8 zP0q 25 b8b ((b8s E K L M X Y i q0 q1 u ul y yl z zk)) (BaseW.H (bw v 2 eb ec) hs) (Hd.StepC zP0q 25 0 (fun i:{i:Nat // i≤3∧True}=>⟨[(2,(.ptr 2 0)),(3,(.ptr 3 0)),(4,(.ptr 4 0)),(5,(.ptr 5 0)),(8,(nI0 i.1))],[],6,[(R7 X Y u ul),(S0 E K L M q0 q1 y yl z zk),(R0 E K L M q0 q1 y yl z zk),Q7,R4,(5,(.cells (cI (tI (A4 (V3 (Y5 X) (cI Y) (V2 (cI M) (cI K) L.length)) L.length i.1) 3)) 82))]⟩) (fun i:{i:Nat // i≤3∧True}=>3 - i.1) a2c (bw v 2 eb ec) (U5 zP0q Try.f79 25 ((.agg [nI0 (W4 (V3 (Y5 X) (cI Y) (V2 (cI M) (cI K) L.length) 0) L.length),nI0 (W4 (V3 (Y5 X) (cI Y) (V2 (cI M) (cI K) L.length) 1) L.length),nI0 (W4 (V3 (Y5 X) (cI Y) (V2 (cI M) (cI K) L.length) 2) L.length)])) [(I0 X Y u ul),(H8 E K L M q0 q1 y yl z zk)] (bw v 2 eb ec)) (⟨i,hi1,hi2⟩:{i:Nat // i≤3∧True})):=by
 have hcl_L:=Z3 L
 have hcl_Y:=Z4 Y
 have hcl_M:=Z4 M
 have hcl_K:=Z4 K
 refine Hd.goes_seqA (by kernel_rfl) ?_
 rcases zB0q (X8 i 3) with hqsd23_1|hqsd23_1
 ·have ghqsd23_1:=Y0 hqsd23_1
  exact Z8 V9 (Z7 zC0q (H0) 200 (T':=(b2i E K L M X Y i q0 q1 u ul y yl z zk)) (e:=.normal) (ps:=[X8 i 3=true]) [.b true] (by kernel_rfl) (by kernel_rfl) ⟨hqsd23_1,trivial⟩ rfl) (Hd.en_n (c3K hn8 hx3 hxr hy hm hk hx1 hy1 hm1 hi1 hi2 hqsd23_1))
 ·have ghqsd23_1:=Z6 hqsd23_1
  obtain rfl:3=i:=by omega
  exact Z8 B7 (Z7 zC0q (H0) 200 (T':=(b69 E K L M X Y q0 q1 u ul y yl z zk)) (e:=.exit 0) (ps:=[X8 3 3=false]) [.b false] (by kernel_rfl) (by kernel_rfl) ⟨hqsd23_1,trivial⟩ rfl) (Hd.en_o (by intro h;cases h) (Hd.en_sx (c43 hn8 hx3 hxr hy hm hk hx1 hy1 hm1 hi2 hqsd23_1)))
theorem c55(hn8:L.length≤8)(hx3:X.length=3)(hxr:∀ i,i<3→R3 (Y5 X) (i*1)=L.length)(hy:Y.length=L.length)(hm:M.length=L.length)(hk:K.length=L.length)(hx1:∀ i,i<3→∀ b,b<L.length→0≤Z9 (V4 (Y5 X) (i*1)) (b*1)∧Z9 (V4 (Y5 X) (i*1)) (b*1)≤100)(hy1:∀ b,b<L.length→0≤Z9 (cI Y) (b*1)∧Z9 (cI Y) (b*1)≤100)(hm1:∀ b,b<L.length → -1000≤Z9 (cI M) (b*1) - Z9 (cI K) (b*1)∧Z9 (cI M) (b*1) - Z9 (cI K) (b*1)≤1000)(hi1:i≤3)(hi2:True):Y8 zP0q 25 b8o (⟨[(2,(.ptr 2 0)),(3,(.ptr 3 0)),(4,(.ptr 4 0)),(5,(.ptr 5 0)),(8,(nI0 i))],[],6,[(R7 X Y u ul),(S0 E K L M q0 q1 y yl z zk),(R0 E K L M q0 q1 y yl z zk),Q7,R4,(o8 K L M X Y i)]⟩) (BaseW.H (bw v 2 eb ec) hs) (Hd.StepC zP0q 25 0 (fun i:{i:Nat // i≤3∧True}=>⟨[(2,(.ptr 2 0)),(3,(.ptr 3 0)),(4,(.ptr 4 0)),(5,(.ptr 5 0)),(8,(nI0 i.1))],[],6,[(R7 X Y u ul),(S0 E K L M q0 q1 y yl z zk),(R0 E K L M q0 q1 y yl z zk),Q7,R4,(5,(.cells (cI (tI (A4 (V3 (Y5 X) (cI Y) (V2 (cI M) (cI K) L.length)) L.length i.1) 3)) 82))]⟩) (fun i:{i:Nat // i≤3∧True}=>3 - i.1) a2c (bw v 2 eb ec) (U5 zP0q Try.f79 25 ((.agg [nI0 (W4 (V3 (Y5 X) (cI Y) (V2 (cI M) (cI K) L.length) 0) L.length),nI0 (W4 (V3 (Y5 X) (cI Y) (V2 (cI M) (cI K) L.length) 1) L.length),nI0 (W4 (V3 (Y5 X) (cI Y) (V2 (cI M) (cI K) L.length) 2) L.length)])) [(I0 X Y u ul),(H8 E K L M q0 q1 y yl z zk)] (bw v 2 eb ec)) (⟨i,hi1,hi2⟩:{i:Nat // i≤3∧True})):=by
 have hcl_L:=Z3 L
 have hcl_Y:=Z4 Y
 have hcl_M:=Z4 M
 have hcl_K:=Z4 K
 refine Hd.goes_seqA (by kernel_rfl) ?_
 exact Z8 V9 (Z7 zC0q (H0) 200 (T':=(b8s E K L M X Y i q0 q1 u ul y yl z zk)) (e:=.normal) (ps:=[]) [.go] (by kernel_rfl) (by kernel_rfl) trivial rfl) (Hd.en_n (c46 hn8 hx3 hxr hy hm hk hx1 hy1 hm1 hi1 hi2))
theorem c3C(hn8:L.length≤8)(hx3:X.length=3)(hxr:∀ i,i<3→R3 (Y5 X) (i*1)=L.length)(hy:Y.length=L.length)(hm:M.length=L.length)(hk:K.length=L.length)(hx1:∀ i,i<3→∀ b,b<L.length→0≤Z9 (V4 (Y5 X) (i*1)) (b*1)∧Z9 (V4 (Y5 X) (i*1)) (b*1)≤100)(hy1:∀ b,b<L.length→0≤Z9 (cI Y) (b*1)∧Z9 (cI Y) (b*1)≤100)(hm1:∀ b,b<L.length → -1000≤Z9 (cI M) (b*1) - Z9 (cI K) (b*1)∧Z9 (cI M) (b*1) - Z9 (cI K) (b*1)≤1000):Y8 zP0q 25 b71 ((b2H E K L M X Y q0 q1 u ul y yl z zk)) (BaseW.H (bw v 2 eb ec) hs) (Hd.AfterN zP0q 25 a2c (bw v 2 eb ec) (U5 zP0q Try.f79 25 ((.agg [nI0 (W4 (V3 (Y5 X) (cI Y) (V2 (cI M) (cI K) L.length) 0) L.length),nI0 (W4 (V3 (Y5 X) (cI Y) (V2 (cI M) (cI K) L.length) 1) L.length),nI0 (W4 (V3 (Y5 X) (cI Y) (V2 (cI M) (cI K) L.length) 2) L.length)])) [(I0 X Y u ul),(H8 E K L M q0 q1 y yl z zk)] (bw v 2 eb ec))):=by
 have hcl_L:=Z3 L
 have hcl_Y:=Z4 Y
 have hcl_M:=Z4 M
 have hcl_K:=Z4 K
 rw [show ((b2H E K L M X Y q0 q1 u ul y yl z zk):Ev.Lit)=⟨[(2,(.ptr 2 0)),(3,(.ptr 3 0)),(4,(.ptr 4 0)),(5,(.ptr 5 0)),(8,(nI0 0))],[],6,[(R7 X Y u ul),(S0 E K L M q0 q1 y yl z zk),(R0 E K L M q0 q1 y yl z zk),Q7,R4,(5,(.cells (cI (tI (A4 (V3 (Y5 X) (cI Y) (V2 (cI M) (cI K) L.length)) L.length 0) 3)) 82))]⟩ from by (rw [a9a];rfl)]
 exact Hd.goes_loopA (id:=0) (by kernel_rfl) (by kernel_rfl) (fun i:{i:Nat // i≤3∧True}=>⟨[(2,(.ptr 2 0)),(3,(.ptr 3 0)),(4,(.ptr 4 0)),(5,(.ptr 5 0)),(8,(nI0 i.1))],[],6,[(R7 X Y u ul),(S0 E K L M q0 q1 y yl z zk),(R0 E K L M q0 q1 y yl z zk),Q7,R4,(5,(.cells (cI (tI (A4 (V3 (Y5 X) (cI Y) (V2 (cI M) (cI K) L.length)) L.length i.1) 3)) 82))]⟩) (fun i:{i:Nat // i≤3∧True}=>3 - i.1) (fun ix_ hs=>c55 hn8 hx3 hxr hy hm hk hx1 hy1 hm1 ix_.2.1 ix_.2.2) ⟨0,Nat.zero_le _,trivial⟩ hs
theorem c2x(hn8:L.length≤8)(hx3:X.length=3)(hxr:∀ i,i<3→R3 (Y5 X) (i*1)=L.length)(hy:Y.length=L.length)(hm:M.length=L.length)(hk:K.length=L.length)(hx1:∀ i,i<3→∀ b,b<L.length→0≤Z9 (V4 (Y5 X) (i*1)) (b*1)∧Z9 (V4 (Y5 X) (i*1)) (b*1)≤100)(hy1:∀ b,b<L.length→0≤Z9 (cI Y) (b*1)∧Z9 (cI Y) (b*1)≤100)(hm1:∀ b,b<L.length → -1000≤Z9 (cI M) (b*1) - Z9 (cI K) (b*1)∧Z9 (cI M) (b*1) - Z9 (cI K) (b*1)≤1000):Y8 zP0q 25 b71 ((b2H E K L M X Y q0 q1 u ul y yl z zk)) (BaseW.H (bw v 2 eb ec) hs) (Hd.AfterN zP0q 25 a2c (bw v 2 eb ec) (U5 zP0q Try.f79 25 ((.agg [nI0 (W4 (V3 (Y5 X) (cI Y) (V2 (cI M) (cI K) L.length) 0) L.length),nI0 (W4 (V3 (Y5 X) (cI Y) (V2 (cI M) (cI K) L.length) 1) L.length),nI0 (W4 (V3 (Y5 X) (cI Y) (V2 (cI M) (cI K) L.length) 2) L.length)])) [(I0 X Y u ul),(H8 E K L M q0 q1 y yl z zk)] (bw v 2 eb ec))):=by
 exact c3C hn8 hx3 hxr hy hm hk hx1 hy1 hm1
theorem c2E(hn8:L.length≤8)(hx3:X.length=3)(hxr:∀ i,i<3→R3 (Y5 X) (i*1)=L.length)(hy:Y.length=L.length)(hm:M.length=L.length)(hk:K.length=L.length)(hx1:∀ i,i<3→∀ b,b<L.length→0≤Z9 (V4 (Y5 X) (i*1)) (b*1)∧Z9 (V4 (Y5 X) (i*1)) (b*1)≤100)(hy1:∀ b,b<L.length→0≤Z9 (cI Y) (b*1)∧Z9 (cI Y) (b*1)≤100)(hm1:∀ b,b<L.length → -1000≤Z9 (cI M) (b*1) - Z9 (cI K) (b*1)∧Z9 (cI M) (b*1) - Z9 (cI K) (b*1)≤1000):Y8 zP0q 25 b95 ((b1X E K L M X Y q0 q1 u ul y yl z zk)) (BaseW.H (bw v 2 eb ec) hs) (Hd.AfterN zP0q 25 a2c (bw v 2 eb ec) (U5 zP0q Try.f79 25 ((.agg [nI0 (W4 (V3 (Y5 X) (cI Y) (V2 (cI M) (cI K) L.length) 0) L.length),nI0 (W4 (V3 (Y5 X) (cI Y) (V2 (cI M) (cI K) L.length) 1) L.length),nI0 (W4 (V3 (Y5 X) (cI Y) (V2 (cI M) (cI K) L.length) 2) L.length)])) [(I0 X Y u ul),(H8 E K L M q0 q1 y yl z zk)] (bw v 2 eb ec))):=by
 have hcl_L:=Z3 L
 have hcl_Y:=Z4 Y
 have hcl_M:=Z4 M
 have hcl_K:=Z4 K
 refine Hd.goes_seqA (by kernel_rfl) ?_
 exact Z8 V9 (Z7 zC0q (H0) 200 (T':=(b2H E K L M X Y q0 q1 u ul y yl z zk)) (e:=.normal) (ps:=[]) [.go] (by kernel_rfl) (by kernel_rfl) trivial rfl) (Hd.en_n (c2x hn8 hx3 hxr hy hm hk hx1 hy1 hm1))
theorem c5V(hn8:L.length≤8)(hx3:X.length=3)(hxr:∀ i,i<3→R3 (Y5 X) (i*1)=L.length)(hy:Y.length=L.length)(hm:M.length=L.length)(hk:K.length=L.length)(hx1:∀ i,i<3→∀ b,b<L.length→0≤Z9 (V4 (Y5 X) (i*1)) (b*1)∧Z9 (V4 (Y5 X) (i*1)) (b*1)≤100)(hy1:∀ b,b<L.length→0≤Z9 (cI Y) (b*1)∧Z9 (cI Y) (b*1)≤100)(hm1:∀ b,b<L.length → -1000≤Z9 (cI M) (b*1) - Z9 (cI K) (b*1)∧Z9 (cI M) (b*1) - Z9 (cI K) (b*1)≤1000):Y8 zP0q 25 c1H ((b1X E K L M X Y q0 q1 u ul y yl z zk)) (BaseW.H (bw v 2 eb ec) hs) (U5 zP0q Try.f79 25 ((.agg [nI0 (W4 (V3 (Y5 X) (cI Y) (V2 (cI M) (cI K) L.length) 0) L.length),nI0 (W4 (V3 (Y5 X) (cI Y) (V2 (cI M) (cI K) L.length) 1) L.length),nI0 (W4 (V3 (Y5 X) (cI Y) (V2 (cI M) (cI K) L.length) 2) L.length)])) [(I0 X Y u ul),(H8 E K L M q0 q1 y yl z zk)] (bw v 2 eb ec)):=by
 exact Hd.goes_seqA (by kernel_rfl) (c2E hn8 hx3 hxr hy hm hk hx1 hy1 hm1)
theorem c6J(hn8:L.length≤8)(hx3:X.length=3)(hxr:∀ i,i<3→R3 (Y5 X) (i*1)=L.length)(hy:Y.length=L.length)(hm:M.length=L.length)(hk:K.length=L.length)(hx1:∀ i,i<3→∀ b,b<L.length→0≤Z9 (V4 (Y5 X) (i*1)) (b*1)∧Z9 (V4 (Y5 X) (i*1)) (b*1)≤100)(hy1:∀ b,b<L.length→0≤Z9 (cI Y) (b*1)∧Z9 (cI Y) (b*1)≤100)(hm1:∀ b,b<L.length → -1000≤Z9 (cI M) (b*1) - Z9 (cI K) (b*1)∧Z9 (cI M) (b*1) - Z9 (cI K) (b*1)≤1000):Y8 zP0q 25 c5f ((b65 E K L M X Y q0 q1 u ul y yl z zk)) (BaseW.H (bw v 2 eb ec) hs) (U5 zP0q Try.f79 25 ((.agg [nI0 (W4 (V3 (Y5 X) (cI Y) (V2 (cI M) (cI K) L.length) 0) L.length),nI0 (W4 (V3 (Y5 X) (cI Y) (V2 (cI M) (cI K) L.length) 1) L.length),nI0 (W4 (V3 (Y5 X) (cI Y) (V2 (cI M) (cI K) L.length) 2) L.length)])) [(I0 X Y u ul),(H8 E K L M q0 q1 y yl z zk)] (bw v 2 eb ec)):=by
 have hcl_L:=Z3 L
 have hcl_Y:=Z4 Y
 have hcl_M:=Z4 M
 have hcl_K:=Z4 K
 refine Hd.goes_seqA (by kernel_rfl) ?_
 exact Z8 V9 (Z7 zC0q (H0) 200 (T':=(b1X E K L M X Y q0 q1 u ul y yl z zk)) (e:=.normal) (ps:=[]) [.go] (by kernel_rfl) (by kernel_rfl) trivial rfl) (Hd.en_n (c5V hn8 hx3 hxr hy hm hk hx1 hy1 hm1))
end
theorem c6M(y:Value)(E:List (Value×List (Int×Int)))(yl:Value)(L:List (Int×Int))(u:Value)(X:List (Value×List Int))(ul:Value)(Y:List Int)(q0 z:Value)(M:List Int)(q1 zk:Value)(K:List Int)(hn8:L.length≤8)(hx3:X.length=3)(hxr:∀ i,i<3→R3 (Y5 X) (i*1)=L.length)(hy:Y.length=L.length)(hm:M.length=L.length)(hk:K.length=L.length)(hx1:∀ i,i<3→∀ b,b<L.length→0≤Z9 (V4 (Y5 X) (i*1)) (b*1)∧Z9 (V4 (Y5 X) (i*1)) (b*1)≤100)(hy1:∀ b,b<L.length→0≤Z9 (cI Y) (b*1)∧Z9 (cI Y) (b*1)≤100)(hm1:∀ b,b<L.length → -1000≤Z9 (cI M) (b*1) - Z9 (cI K) (b*1)∧Z9 (cI M) (b*1) - Z9 (cI K) (b*1)≤1000)(v:BaseW)(eb:Nat→Option Nat)(ec:Nat→Nat)(hs:List Nat):Y8 zP0q 25 c5G (⟨[(0,(b6a E K L M q0 q1 y yl z zk)),(1,(.fn (.func 80) [] [.ptr 0 0,.ptr 1 0]))],[],2,[(0,(I0 X Y u ul)),(1,(H8 E K L M q0 q1 y yl z zk))]⟩) (BaseW.H (bw v 2 eb ec) hs) (U5 zP0q Try.f79 25 ((.agg [nI0 (W4 (V3 (Y5 X) (cI Y) (V2 (cI M) (cI K) L.length) 0) L.length),nI0 (W4 (V3 (Y5 X) (cI Y) (V2 (cI M) (cI K) L.length) 1) L.length),nI0 (W4 (V3 (Y5 X) (cI Y) (V2 (cI M) (cI K) L.length) 2) L.length)])) [(I0 X Y u ul),(H8 E K L M q0 q1 y yl z zk)] (bw v 2 eb ec)):=by
 have hcl_L:=Z3 L
 have hcl_Y:=Z4 Y
 have hcl_M:=Z4 M
 have hcl_K:=Z4 K
 refine Hd.goes_seqA (by kernel_rfl) ?_
 exact Z8 V9 (Z7 zC0q (H0) 200 (T':=(b65 E K L M X Y q0 q1 u ul y yl z zk)) (e:=.normal) (ps:=[]) [.go,.go,.go] (by kernel_rfl) (by kernel_rfl) trivial rfl) (Hd.en_n (c6J hn8 hx3 hxr hy hm hk hx1 hy1 hm1))
theorem c6Q(y:Value)(E:List (Value×List (Int×Int)))(yl:Value)(L:List (Int×Int))(u:Value)(X:List (Value×List Int))(ul:Value)(Y:List Int)(q0 z:Value)(M:List Int)(q1 zk:Value)(K:List Int)(hn8:L.length≤8)(hx3:X.length=3)(hxr:∀ i,i<3→R3 (Y5 X) (i*1)=L.length)(hy:Y.length=L.length)(hm:M.length=L.length)(hk:K.length=L.length)(hx1:∀ i,i<3→∀ b,b<L.length→0≤Z9 (V4 (Y5 X) (i*1)) (b*1)∧Z9 (V4 (Y5 X) (i*1)) (b*1)≤100)(hy1:∀ b,b<L.length→0≤Z9 (cI Y) (b*1)∧Z9 (cI Y) (b*1)≤100)(hm1:∀ b,b<L.length → -1000≤Z9 (cI M) (b*1) - Z9 (cI K) (b*1)∧Z9 (cI M) (b*1) - Z9 (cI K) (b*1)≤1000):q6 zP0q 79 [(b6a E K L M q0 q1 y yl z zk),(.fn (.func 80) [] [.ptr 0 0,.ptr 1 0])] [(I0 X Y u ul),(H8 E K L M q0 q1 y yl z zk)] ((.agg [nI0 (W4 (V3 (Y5 X) (cI Y) (V2 (cI M) (cI K) L.length) 0) L.length),nI0 (W4 (V3 (Y5 X) (cI Y) (V2 (cI M) (cI K) L.length) 1) L.length),nI0 (W4 (V3 (Y5 X) (cI Y) (V2 (cI M) (cI K) L.length) 2) L.length)])) [(I0 X Y u ul),(H8 E K L M q0 q1 y yl z zk)] :=
 I8 25 (by kernel_rfl) Try.func79 (by kernel_rfl) (by kernel_rfl) (by kernel_rfl) (fun v eb ec=>U9 (by kernel_rfl) (by kernel_rfl) (by kernel_rfl) (by kernel_rfl) (c6M y E yl L u X ul Y q0 z M q1 zk K hn8 hx3 hxr hy hm hk hx1 hy1 hm1 v eb ec []))
end
end Go.Proofs.Ytegmogadbnfbgaa
namespace Go.Proofs.Ytegmogadbnfbgaa
open Go Ev
noncomputable section
section
variable (E : List (Value × List (Int × Int))) (K : List Int) (L : List (Int × Int)) (M : List Int) (q0 q1 y yl z zk : Value)
@[reducible] def b9c:List Ev.AV:=[AV.xl y E.length 1 (Y4 E),AV.xl yl L.length 2 (cR L),AV.fn (Fn.func 82) [] [AV.xp q0 1 1 [AV.xl z M.length 1 (cI M)] 0,AV.xp q1 1 1 [AV.xl zk K.length 1 (cI K)] 0]]
@[reducible] def b8x:Ev.AV:=(.agg [.xl y E.length 1 (Y4 E),.xl yl L.length 2 (cR L),(.fn (.func 82) [] [.xp q0 1 1 [.xl z M.length 1 (cI M)] 0,.xp q1 1 1 [.xl zk K.length 1 (cI K)] 0])])
end
def sdS:List AV→List AB→Option ((AV×List AB)×List Prop):=fun args xs =>
 match args,xs with
 |[.agg [.xl y me k1 cE,.xl yl n k2 cL,.fn (.func f) lz lc],.fn (.func g) gl gc],[.cells l1 t1,.cells l2 t2]=>match l1,lz,lc,gl,gc with
  |[.xl u m k3 cX,.xl ul j k4 cY],[],[.xp q0 a1 a2 d0 a3,.xp q1 b1 b2 d1 b3],[],[p,q]=>match Nat.beq f 82,Nat.beq g 80,a6R p 0,a6R q 1,d0,d1 with
   |true,true,true,true,[.xl z r k5 cM],[.xl zk s k6 cK]=>some ((.agg [.v (.int .i64 (W4 (V3 cX cY (V2 cM cK n) 0) n)),.v (.int .i64 (W4 (V3 cX cY (V2 cM cK n) 1) n)),.v (.int .i64 (W4 (V3 cX cY (V2 cM cK n) 2) n))],[.cells l1 t1,.cells l2 t2]),[a4H t1,a4y t2,S9 k1 cE me,X9 k2 n cL,b7r k3 m k4 j k5 r k6 s cX cY cM cK n,a4L a1 a2 a3,a4L b1 b2 b3,n≤8,l2=[.xl y me k1 cE,.xl yl n k2 cL,.fn (.func f) lz lc]])
   |_,_,_,_,_,_=>none
  |_,_,_,_,_=>none
 |_,_=>none
def sdO:O2:=a9E 79 sdS
theorem b6Y:Known zP0q (clsO sdO):=a38 (fun args xs r ys ps h hp=>by
 unfold sdS at h
 split at h
 ·split at h
  ·split at h
   ·rename_i e1 e2 e3 e4
    cases h
    obtain ⟨rfl,rfl,⟨rfl,E,rfl,rfl⟩,⟨rfl,L,rfl,rfl⟩,⟨X,Y,M,K,⟨rfl,rfl,rfl⟩,⟨rfl,rfl,rfl⟩,⟨rfl,rfl,rfl⟩,⟨rfl,rfl,rfl⟩,h1,h2,h3,h4,h4',h5,h6,h7⟩,⟨rfl,rfl,rfl⟩,⟨rfl,rfl,rfl⟩,h8,rfl,-⟩:=hp
    rw [e8 e3,e8 e4,Nat.eq_of_beq_eq_true e1,Nat.eq_of_beq_eq_true e2]
    exact ⟨a3z X Y E L M K,a3z X Y E L M K,c6Q _ E _ L _ X _ Y _ _ M _ _ K h8 h1 h2 h3 h4 h4' h5 h6 h7⟩
   ·cases h
  ·cases h
 ·cases h)
noncomputable def c5Z:Code:=O0 Try.f54
set_option maxHeartbeats 2000000 in
theorem c6U(y:Value)(E:List (Value×List (Int×Int)))(yl:Value)(L:List (Int×Int))(u:Value)(X:List (Value×List Int))(ul:Value)(Y:List Int)(q0 z:Value)(M:List Int)(q1 zk:Value)(K:List Int)(hn8:L.length≤8)(hx3:X.length=3)(hxr:∀ i,i<3→R3 (Y5 X) (i*1)=L.length)(hy:Y.length=L.length)(hm:M.length=L.length)(hk:K.length=L.length)(hx1:∀ i,i<3→∀ b,b<L.length→0≤Z9 (V4 (Y5 X) (i*1)) (b*1)∧Z9 (V4 (Y5 X) (i*1)) (b*1)≤100)(hy1:∀ b,b<L.length→0≤Z9 (cI Y) (b*1)∧Z9 (cI Y) (b*1)≤100)(hm1:∀ b,b<L.length → -1000≤Z9 (cI M) (b*1) - Z9 (cI K) (b*1)∧Z9 (cI M) (b*1) - Z9 (cI K) (b*1)≤1000)(w:World)(hs:List Nat):Y8 zP0q 8 c5Z (⟨[(0,(b8x E K L M q0 q1 y yl z zk)),(1,(.agg [.xl u X.length 1 (Y5 X),.xl ul Y.length 1 (cI Y)]))],[],0,[]⟩) (BaseW.H w hs) (U0 zP0q Try.f54 8 (.agg #[.int .i64 (W4 (V3 (Y5 X) (cI Y) (V2 (cI M) (cI K) L.length) 0) L.length),.int .i64 (W4 (V3 (Y5 X) (cI Y) (V2 (cI M) (cI K) L.length) 1) L.length),.int .i64 (W4 (V3 (Y5 X) (cI Y) (V2 (cI M) (cI K) L.length) 2) L.length)]) w):=by
 have hcl_L:=Z3 L
 have hcl_Y:=Z4 Y
 have hcl_M:=Z4 M
 have hcl_K:=Z4 K
 exact Z8 V1 (Z7 zC0q (b6Y) 200 (T':=⟨[(4,(.ptr 2 0))],[],3,[(2,(.cells [(nI0 (W4 (V3 (Y5 X) (cI Y) (V2 (cI M) (cI K) L.length) 0) L.length)),(nI0 (W4 (V3 (Y5 X) (cI Y) (V2 (cI M) (cI K) L.length) 1) L.length)),(nI0 (W4 (V3 (Y5 X) (cI Y) (V2 (cI M) (cI K) L.length) 2) L.length))] 82))]⟩) (e:=.ret) (ps:=[S4 (Y4 E),S4 (cR L),S4 [AV.xl z M.length 1 (cI M)],S4 [AV.xl zk K.length 1 (cI K)],a4H 29,a4y 85,S9 1 (Y4 E) E.length,X9 2 L.length (cR L),b7r 1 X.length 1 Y.length 1 M.length 1 K.length (Y5 X) (cI Y) (cI M) (cI K) L.length,a4L 1 1 0,a4L 1 1 0,L.length≤8,(AV.agg (b9c E K L M q0 q1 y yl z zk)).cells=(b9c E K L M q0 q1 y yl z zk)]) (gH 6 []) (by kernel_rfl) (by kernel_rfl) ⟨(X7 E),(Y3 (W6 _)),(X5 (Y3 (Z1 _))),(X5 (Y3 (Z1 _))),rfl,rfl,⟨rfl,E,rfl,rfl⟩,⟨rfl,L,rfl,rfl⟩,⟨X,Y,M,K,⟨rfl,rfl,rfl⟩,⟨rfl,rfl,rfl⟩,⟨rfl,rfl,rfl⟩,⟨rfl,rfl,rfl⟩,hx3,hxr,hy,hm,hk,hx1,hy1,hm1⟩,⟨rfl,rfl,rfl⟩,⟨rfl,rfl,rfl⟩,hn8,rfl,trivial⟩ rfl) (Hd.en_eq (r:=.agg #[(.int .i64 (W4 (V3 (Y5 X) (cI Y) (V2 (cI M) (cI K) L.length) 0) L.length)),(.int .i64 (W4 (V3 (Y5 X) (cI Y) (V2 (cI M) (cI K) L.length) 1) L.length)),(.int .i64 (W4 (V3 (Y5 X) (cI Y) (V2 (cI M) (cI K) L.length) 2) L.length))]) (by rfl) (Hd.en_ret (v:=(.agg [(nI0 (W4 (V3 (Y5 X) (cI Y) (V2 (cI M) (cI K) L.length) 0) L.length)),(nI0 (W4 (V3 (Y5 X) (cI Y) (V2 (cI M) (cI K) L.length) 1) L.length)),(nI0 (W4 (V3 (Y5 X) (cI Y) (V2 (cI M) (cI K) L.length) 2) L.length))])) (by kernel_rfl) rfl))
theorem c6C(y:Value)(E:List (Value×List (Int×Int)))(yl:Value)(L:List (Int×Int))(u:Value)(X:List (Value×List Int))(ul:Value)(Y:List Int)(q0 z:Value)(M:List Int)(q1 zk:Value)(K:List Int)(hn8:L.length≤8)(hx3:X.length=3)(hxr:∀ i,i<3→R3 (Y5 X) (i*1)=L.length)(hy:Y.length=L.length)(hm:M.length=L.length)(hk:K.length=L.length)(hx1:∀ i,i<3→∀ b,b<L.length→0≤Z9 (V4 (Y5 X) (i*1)) (b*1)∧Z9 (V4 (Y5 X) (i*1)) (b*1)≤100)(hy1:∀ b,b<L.length→0≤Z9 (cI Y) (b*1)∧Z9 (cI Y) (b*1)≤100)(hm1:∀ b,b<L.length → -1000≤Z9 (cI M) (b*1) - Z9 (cI K) (b*1)∧Z9 (cI M) (b*1) - Z9 (cI K) (b*1)≤1000):GivesA zP0q 54 [(b8x E K L M q0 q1 y yl z zk),(.agg [.xl u X.length 1 (Y5 X),.xl ul Y.length 1 (cI Y)])] (.agg #[.int .i64 (W4 (V3 (Y5 X) (cI Y) (V2 (cI M) (cI K) L.length) 0) L.length),.int .i64 (W4 (V3 (Y5 X) (cI Y) (V2 (cI M) (cI K) L.length) 1) L.length),.int .i64 (W4 (V3 (Y5 X) (cI Y) (V2 (cI M) (cI K) L.length) 2) L.length)]) :=
 U3 8 Try.func54 (by kernel_rfl) (by kernel_rfl) (by kernel_rfl) (fun w=>U9 (by kernel_rfl) (by kernel_rfl) (by kernel_rfl) (by kernel_rfl) (c6U y E yl L u X ul Y q0 z M q1 zk K hn8 hx3 hxr hy hm hk hx1 hy1 hm1 w []))
end
end Go.Proofs.Ytegmogadbnfbgaa
set_option maxHeartbeats 4000000
namespace Go.Proofs.Ytegmogadbnfbgaa
open Go Ev
noncomputable section
theorem b89{a:Int}(h : -9223372036854775808≤a)(k:a≤9223372036854775807):K5 .i64 a:=⟨h,k⟩
section
variable (E : List (Value × List (Int × Int))) (K : List Int) (L : List (Int × Int)) (M : List Int) (P : List (Int × Int)) (g : Bool) (q0 q1 y yl yr z zk : Value)
@[reducible] def b8m:Ev.AB:=(.cells [(.xl (y) (E.length) 1 (Y4 E)),(.xl (yl) (L.length) 2 (cR L)),(.fn (.func 82) [] [(AV.xp q0 1 1 [AV.xl z M.length 1 (cI M)] 0),(AV.xp q1 1 1 [AV.xl zk K.length 1 (cI K)] 0)])] 85)
@[reducible] def a3k:Nat×Ev.AB:=(0,(b8m E K L M q0 q1 y yl z zk))
@[reducible] def a0p:Nat×Ev.AB:=(1,(.cells [(.xl (yr) (P.length) 2 (cR P))] 23))
@[reducible] def a0i:Nat×Ev.AB:=(2,(.cells [(.v (.bool (g)))] 4))
@[reducible] def a43:Nat×Ev.AB:=(3,(.cells [(.v (Value.slice none 0 0))] 27))
@[reducible] def b43:Nat×Ev.AB:=(4,(b8m E K L M q0 q1 y yl z zk))
@[reducible] def a7R:Ev.Lit:=⟨[(3,(.ptr 0 0)),(4,(.ptr 1 0)),(5,(.ptr 2 0)),(7,(.ptr 3 0)),(11,(.fn (.func 93) [] [(.ptr 4 0)]))],[],5,[(a3k E K L M q0 q1 y yl z zk),(a0p P yr),(a0i g),a43,(b43 E K L M q0 q1 y yl z zk)]⟩
@[reducible] def b6P:Ev.Lit:=⟨[(3,(.ptr 0 0)),(4,(.ptr 1 0)),(5,(.ptr 2 0)),(7,(.ptr 3 0))],[],4,[(a3k E K L M q0 q1 y yl z zk),(a0p P yr),(a0i g),a43]⟩
@[reducible] def b8C:Ev.Lit:=⟨[(3,(.ptr 0 0)),(4,(.ptr 1 0)),(5,(.ptr 2 0))],[],3,[(a3k E K L M q0 q1 y yl z zk),(a0p P yr),(a0i g)]⟩
@[reducible] def a3A:=(tI (O3 (cR P) (V2 (cI M) (cI K) L.length) g) L.length)
@[reducible] def b5M:Ev.AB:=(.cells [(.slu 8 0 (a3A K L M P g).length 0)] 27)
@[reducible] def b0Y:Nat×Ev.AB:=(3,(b5M K L M P g))
@[reducible] def C6:Ev.AB:=(.row (cI (a3A K L M P g)) 2 1)
@[reducible] def b0T:Nat×Ev.AB:=(8,(C6 K L M P g))
@[reducible] def b8y:Ev.Lit:=⟨[(7,(.ptr 3 0))],[5],9,[(b0Y K L M P g),(5,(.defd .true)),(b0T K L M P g)]⟩
@[reducible] def b8r:Ev.Lit:=⟨[(7,(.ptr 3 0))],[],6,[(3,(.cells [(.slu 5 0 (a3A K L M P g).length 0)] 27)),(5,(C6 K L M P g))]⟩
@[reducible] def b9f:Ev.AV:=(.agg [.xl y E.length 1 (Y4 E),.xl yl L.length 2 (cR L),(.fn (.func 82) [] [.xp q0 1 1 [.xl z M.length 1 (cI M)] 0,.xp q1 1 1 [.xl zk K.length 1 (cI K)] 0])])
end
noncomputable def c7g:Code:=O0 Try.f64
theorem c6m(y:Value)(E:List (Value×List (Int×Int)))(yl:Value)(L:List (Int×Int))(z:Value)(M:List Int)(zk:Value)(K:List Int)(v:BaseW)(eb:Nat→Option Nat)(ec:Nat→Nat)(hs:List Nat):Y8 zP0q 10 c7g (⟨[(0,(.agg [.xl y E.length 1 (Y4 E),.xl yl L.length 2 (cR L)])),(1,(.xl z M.length 1 (cI M))),(2,(.xl zk K.length 1 (cI K)))],[],0,[]⟩) (BaseW.H (bw v 0 eb ec) hs) (U5 zP0q Try.f64 10 ((.agg [.xl y E.length 1 (Y4 E),.xl yl L.length 2 (cR L),.fn (.func 82) [] [.ptr 0 0,.ptr 1 0]])) [(.cells [.xl z M.length 1 (cI M)] 114),(.cells [.xl zk K.length 1 (cI K)] 114)] (bw v 0 eb ec)):=by
 have hcl_L:=Z3 L
 have hcl_M:=Z4 M
 have hcl_K:=Z4 K
 exact Z8 V1 (P4 zC0q (Z0) 200 (T':=⟨[(6,(.ptr 2 0))],[],3,[(0,(.cells [(.xl (z) (M.length) 1 (cI M))] 114)),(1,(.cells [(.xl (zk) (K.length) 1 (cI K))] 114)),(2,(.cells [(.xl (y) (E.length) 1 (Y4 E)),(.xl (yl) (L.length) 2 (cR L)),(.fn (.func 82) [] [(.ptr 0 0),(.ptr 1 0)])] 85))]⟩) (e:=.ret) (m:=4) (ps:=[]) (gH 8 []) [1,2,3] [(.ptr 3 0)] [(.cells [(.xl (z) (M.length) 1 (cI M))] 114),(.cells [(.xl (zk) (K.length) 1 (cI K))] 114),(.cells [(.xl (y) (E.length) 1 (Y4 E)),(.xl (yl) (L.length) 2 (cR L)),(.fn (.func 82) [] [(.ptr 1 0),(.ptr 2 0)])] 85)] (by kernel_rfl) (by kernel_rfl) trivial rfl rfl (by decide) rfl ⟨V5 rfl,trivial⟩ ⟨⟨by show 0<3;decide,Y1 (Z5 (Q2 (Y6 (Z1 M))) (Y2))⟩,⟨by show 1<3;decide,Y1 (Z5 (Q2 (Y6 (Z1 K))) (Y2))⟩,⟨by show 2<3;decide,Y1 (Z5 (T6 (X5 (X7 _))) (Z5 (Q2 (Y6 (W6 L))) (Z5 (f6 (Y2) (Z5 (V5 rfl) (Z5 (V5 rfl) (Y2)))) (Y2))))⟩,trivial⟩) (a9 (r:=(.agg [(.xl (y) (E.length) 1 (Y4 E)),(.xl (yl) (L.length) 2 (cR L)),(.fn (.func 82) [] [(.ptr 0 0),(.ptr 1 0)])])) (ys:=[(.cells [(.xl (z) (M.length) 1 (cI M))] 114),(.cells [(.xl (zk) (K.length) 1 (cI K))] 114)]) (by rfl) (by rfl) (s6 (by kernel_rfl) (by kernel_rfl) rfl (.inr rfl)))
theorem c6o(y:Value)(E:List (Value×List (Int×Int)))(yl:Value)(L:List (Int×Int))(z:Value)(M:List Int)(zk:Value)(K:List Int):q6 zP0q 64 [(.agg [.xl y E.length 1 (Y4 E),.xl yl L.length 2 (cR L)]),(.xl z M.length 1 (cI M)),(.xl zk K.length 1 (cI K))] [] ((.agg [.xl y E.length 1 (Y4 E),.xl yl L.length 2 (cR L),.fn (.func 82) [] [.ptr 0 0,.ptr 1 0]])) [(.cells [.xl z M.length 1 (cI M)] 114),(.cells [.xl zk K.length 1 (cI K)] 114)] :=
 I8 10 (by kernel_rfl) Try.func64 (by kernel_rfl) (by kernel_rfl) (by kernel_rfl) (fun v eb ec=>U9 (by kernel_rfl) (by kernel_rfl) (by kernel_rfl) (by kernel_rfl) (c6m y E yl L z M zk K v eb ec []))
noncomputable def c2P:Code:=O0 Try.f90
noncomputable def c3z:Code:=L2 c2P
noncomputable def b9G:Code:=L2 c3z
noncomputable def b3P:Code:=L2 b9G
noncomputable def b8f:Code:=(f8 b9G)
noncomputable def b6u:Code:=L2 b8f
noncomputable def W3:Code:=a72 b6u
noncomputable def b6V:Code:=O0 Try.f93
noncomputable def b6R:Code:=L2 b6V
noncomputable def b1W:Code:=H3 b6R
section
variable {E:List (Value×List (Int×Int))} {K M:List Int} {L P:List (Int×Int)} {eb:Nat→Option Nat} {ec:Nat→Nat} {g:Bool} {hs:List Nat} {q0 q1 y yl yr z zk:Value} {v:BaseW}
theorem b9X(hn:1≤L.length∧L.length≤8)(hP:P.length=L.length)(hm:M.length=L.length)(hk:K.length=L.length)(hm1:∀ b,b<L.length → -1000≤Z9 (cI M) (b*1) - Z9 (cI K) (b*1)∧Z9 (cI M) (b*1) - Z9 (cI K) (b*1)≤1000):Y8 zP0q 16 b6R ((⟨[(0,(.yld 6)),(7,(nI0 L.length)),(8,(nI0 (.ofNat 0)))],[],7,6,[(3,(.ptr 0 0)),(4,(.ptr 1 0)),(5,(.ptr 2 0)),(7,(.ptr 3 0))],[(0,(.cells [(.xl (y) (E.length) 1 (Y4 E)),(.xl (yl) (L.length) 2 (cR L)),(.fn (.func 82) [] [(AV.xp q0 1 1 [AV.xl z M.length 1 (cI M)] 0),(AV.xp q1 1 1 [AV.xl zk K.length 1 (cI K)] 0)])] 85)),(1,(.cells [(.xl (yr) (P.length) 2 (cR P))] 23)),(2,(.cells [(.v (.bool (g)))] 4)),(3,(.cells [(.v (Value.slice none 0 0))] 27)),(5,(.defd .true))],.ready,none,35,E4 W3,E3 W3,E5 W3,5⟩:Ev.Lit1).lit) (bw v 7 eb ec) (a4I 16 (fun _:Unit=>((⟨[],[],9,6,[(3,(.ptr 0 0)),(4,(.ptr 1 0)),(5,(.ptr 2 0)),(7,(.ptr 3 0))],[(0,(.cells [(.xl (y) (E.length) 1 (Y4 E)),(.xl (yl) (L.length) 2 (cR L)),(.fn (.func 82) [] [(AV.xp q0 1 1 [AV.xl z M.length 1 (cI M)] 0),(AV.xp q1 1 1 [AV.xl zk K.length 1 (cI K)] 0)])] 85)),(1,(.cells [(.xl (yr) (P.length) 2 (cR P))] 23)),(2,(.cells [(.v (.bool (g)))] 4)),(3,(.cells [(.slu 8 0 (tI (O3 (cR P) (V2 (cI M) (cI K) L.length) g) L.length).length 0)] 27)),(5,(.defd .true)),(8,(.row (cI (tI (O3 (cR P) (V2 (cI M) (cI K) L.length) g) L.length)) 2 1))],.ready,none,35,E4 W3,E3 W3,E5 W3,5⟩:Ev.Lit1)).lit) (fun _:Unit=>True) (bw v 7 eb ec)):=by
 have hcl_L:=Z3 L
 have hcl_M:=Z4 M
 have hcl_K:=Z4 K
 have hcl_P:=Z3 P
 refine U9 (T':=(⟨[(0,(.yld 6)),(7,(nI0 L.length)),(8,(nI0 (.ofNat 0)))],[],7,6,[(3,(.ptr 0 0)),(4,(.ptr 1 0)),(5,(.ptr 2 0)),(7,(.ptr 3 0))],[(0,(.cells [(.xl (y) (E.length) 1 (Y4 E)),(.xl (yl) (L.length) 2 (cR L)),(.fn (.func 82) [] [(AV.xp q0 1 1 [AV.xl z M.length 1 (cI M)] 0),(AV.xp q1 1 1 [AV.xl zk K.length 1 (cI K)] 0)])] 85)),(1,(.cells [(.xl (yr) (P.length) 2 (cR P))] 23)),(2,(.cells [(.v (.bool (g)))] 4)),(3,(.cells [(.v (Value.slice none 0 0))] 27)),(5,(.defd .true))],.ready,none,35,E4 W3,E3 W3,E5 W3,5⟩:Ev.Lit1).lit) (by kernel_rfl) (by kernel_rfl) (by kernel_rfl) (by kernel_rfl) (a2i (ι:={i:Nat // i≤L.length∧True}) (T:=(fun i:{i:Nat // i≤L.length∧True}=>((Ev.fam0 (⟨[(0,(.yld 6)),(7,(nI0 L.length)),(8,(nI0 i.1))],[],7,6,[(3,(.ptr 0 0)),(4,(.ptr 1 0)),(5,(.ptr 2 0)),(7,(.ptr 3 0))],[(0,(.cells [(.xl (y) (E.length) 1 (Y4 E)),(.xl (yl) (L.length) 2 (cR L)),(.fn (.func 82) [] [(AV.xp q0 1 1 [AV.xl z M.length 1 (cI M)] 0),(AV.xp q1 1 1 [AV.xl zk K.length 1 (cI K)] 0)])] 85)),(1,(.cells [(.xl (yr) (P.length) 2 (cR P))] 23)),(2,(.cells [(.v (.bool (g)))] 4)),(3,(.cells [(.v (Value.slice none 0 0))] 27)),(5,(.defd .true))],.ready,none,35,E4 W3,E3 W3,E5 W3,5⟩:Ev.Lit1).lit (fun k=>(⟨[(0,(.yld 6)),(7,(nI0 L.length)),(8,(nI0 i.1))],[],9,6,[(3,(.ptr 0 0)),(4,(.ptr 1 0)),(5,(.ptr 2 0)),(7,(.ptr 3 0))],[(0,(.cells [(.xl (y) (E.length) 1 (Y4 E)),(.xl (yl) (L.length) 2 (cR L)),(.fn (.func 82) [] [(AV.xp q0 1 1 [AV.xl z M.length 1 (cI M)] 0),(AV.xp q1 1 1 [AV.xl zk K.length 1 (cI K)] 0)])] 85)),(1,(.cells [(.xl (yr) (P.length) 2 (cR P))] 23)),(2,(.cells [(.v (.bool (g)))] 4)),(3,(.cells [(.slu 8 0 (k+1) 0)] 27)),(5,(.defd .true)),(8,(.row (cI (tI (O3 (cR P) (V2 (cI M) (cI K) L.length) g) i.1)) 2 1))],.ready,none,35,E4 W3,E3 W3,E5 W3,5⟩:Ev.Lit1).lit) (tI (O3 (cR P) (V2 (cI M) (cI K) L.length) g) i.1).length):Ev.Lit))) (R:=(fun i:{i:Nat // i≤L.length∧True}=>L.length≤i.1)) (by kernel_rfl) (a62 (show ((⟨[(0,(.yld 6)),(7,(nI0 L.length)),(8,(nI0 (.ofNat 0)))],[],7,6,[(3,(.ptr 0 0)),(4,(.ptr 1 0)),(5,(.ptr 2 0)),(7,(.ptr 3 0))],[(0,(.cells [(.xl (y) (E.length) 1 (Y4 E)),(.xl (yl) (L.length) 2 (cR L)),(.fn (.func 82) [] [(AV.xp q0 1 1 [AV.xl z M.length 1 (cI M)] 0),(AV.xp q1 1 1 [AV.xl zk K.length 1 (cI K)] 0)])] 85)),(1,(.cells [(.xl (yr) (P.length) 2 (cR P))] 23)),(2,(.cells [(.v (.bool (g)))] 4)),(3,(.cells [(.v (Value.slice none 0 0))] 27)),(5,(.defd .true))],.ready,none,35,E4 W3,E3 W3,E5 W3,5⟩:Ev.Lit1).lit:Ev.Lit)=(Ev.fam0 (⟨[(0,(.yld 6)),(7,(nI0 L.length)),(8,(nI0 0))],[],7,6,[(3,(.ptr 0 0)),(4,(.ptr 1 0)),(5,(.ptr 2 0)),(7,(.ptr 3 0))],[(0,(.cells [(.xl (y) (E.length) 1 (Y4 E)),(.xl (yl) (L.length) 2 (cR L)),(.fn (.func 82) [] [(AV.xp q0 1 1 [AV.xl z M.length 1 (cI M)] 0),(AV.xp q1 1 1 [AV.xl zk K.length 1 (cI K)] 0)])] 85)),(1,(.cells [(.xl (yr) (P.length) 2 (cR P))] 23)),(2,(.cells [(.v (.bool (g)))] 4)),(3,(.cells [(.v (Value.slice none 0 0))] 27)),(5,(.defd .true))],.ready,none,35,E4 W3,E3 W3,E5 W3,5⟩:Ev.Lit1).lit (fun k=>(⟨[(0,(.yld 6)),(7,(nI0 L.length)),(8,(nI0 0))],[],9,6,[(3,(.ptr 0 0)),(4,(.ptr 1 0)),(5,(.ptr 2 0)),(7,(.ptr 3 0))],[(0,(.cells [(.xl (y) (E.length) 1 (Y4 E)),(.xl (yl) (L.length) 2 (cR L)),(.fn (.func 82) [] [(AV.xp q0 1 1 [AV.xl z M.length 1 (cI M)] 0),(AV.xp q1 1 1 [AV.xl zk K.length 1 (cI K)] 0)])] 85)),(1,(.cells [(.xl (yr) (P.length) 2 (cR P))] 23)),(2,(.cells [(.v (.bool (g)))] 4)),(3,(.cells [(.slu 8 0 (k+1) 0)] 27)),(5,(.defd .true)),(8,(.row (cI (tI (O3 (cR P) (V2 (cI M) (cI K) L.length) g) 0)) 2 1))],.ready,none,35,E4 W3,E3 W3,E5 W3,5⟩:Ev.Lit1).lit) (tI (O3 (cR P) (V2 (cI M) (cI K) L.length) g) 0).length) from by (rw [show (tI (O3 (cR P) (V2 (cI M) (cI K) L.length) g) 0).length=0 from Y9 _ _];rfl)) (g5 (by kernel_rfl) (fun i:{i:Nat // i≤L.length∧True}=>((Ev.fam0 (⟨[(0,(.yld 6)),(7,(nI0 L.length)),(8,(nI0 i.1))],[],7,6,[(3,(.ptr 0 0)),(4,(.ptr 1 0)),(5,(.ptr 2 0)),(7,(.ptr 3 0))],[(0,(.cells [(.xl (y) (E.length) 1 (Y4 E)),(.xl (yl) (L.length) 2 (cR L)),(.fn (.func 82) [] [(AV.xp q0 1 1 [AV.xl z M.length 1 (cI M)] 0),(AV.xp q1 1 1 [AV.xl zk K.length 1 (cI K)] 0)])] 85)),(1,(.cells [(.xl (yr) (P.length) 2 (cR P))] 23)),(2,(.cells [(.v (.bool (g)))] 4)),(3,(.cells [(.v (Value.slice none 0 0))] 27)),(5,(.defd .true))],.ready,none,35,E4 W3,E3 W3,E5 W3,5⟩:Ev.Lit1).lit (fun k=>(⟨[(0,(.yld 6)),(7,(nI0 L.length)),(8,(nI0 i.1))],[],9,6,[(3,(.ptr 0 0)),(4,(.ptr 1 0)),(5,(.ptr 2 0)),(7,(.ptr 3 0))],[(0,(.cells [(.xl (y) (E.length) 1 (Y4 E)),(.xl (yl) (L.length) 2 (cR L)),(.fn (.func 82) [] [(AV.xp q0 1 1 [AV.xl z M.length 1 (cI M)] 0),(AV.xp q1 1 1 [AV.xl zk K.length 1 (cI K)] 0)])] 85)),(1,(.cells [(.xl (yr) (P.length) 2 (cR P))] 23)),(2,(.cells [(.v (.bool (g)))] 4)),(3,(.cells [(.slu 8 0 (k+1) 0)] 27)),(5,(.defd .true)),(8,(.row (cI (tI (O3 (cR P) (V2 (cI M) (cI K) L.length) g) i.1)) 2 1))],.ready,none,35,E4 W3,E3 W3,E5 W3,5⟩:Ev.Lit1).lit) (tI (O3 (cR P) (V2 (cI M) (cI K) L.length) g) i.1).length):Ev.Lit)) (fun i:{i:Nat // i≤L.length∧True}=>L.length - i.1) (fun i=>?_) ⟨0,Nat.zero_le _,trivial⟩)) (fun ixR hxR=>(fun (i0r:Nat) (h0ra:i0r≤L.length) (h0rb:True) (h0rc:L.length≤i0r)=>⟨(),show True from trivial,(by obtain ⟨i9,q1,q2⟩:=ixR;have h9:L.length≤i9:=hxR;have e:i9=L.length:=(by omega);subst e;obtain ⟨k,hk⟩:∃ k,(tI (O3 (cR P) (V2 (cI M) (cI K) L.length) g) L.length).length=k+1:=⟨L.length - 1,by rw [Y9];omega⟩;show a6P (Ev.Lit.fs (Ev.fam0 _ _ (tI (O3 (cR P) (V2 (cI M) (cI K) L.length) g) L.length).length)) _;rw [hk];exact u7 (by kernel_rfl) (by kernel_rfl) (by kernel_rfl) (by kernel_rfl))⟩) ixR.1 ixR.2.1 ixR.2.2 hxR))
 obtain ⟨i,hi1,hi2⟩:=i
 show Y8 zP0q 16 b1W ((Ev.fam0 (⟨[(0,(.yld 6)),(7,(nI0 L.length)),(8,(nI0 i))],[],7,6,[(3,(.ptr 0 0)),(4,(.ptr 1 0)),(5,(.ptr 2 0)),(7,(.ptr 3 0))],[(0,(.cells [(.xl (y) (E.length) 1 (Y4 E)),(.xl (yl) (L.length) 2 (cR L)),(.fn (.func 82) [] [(AV.xp q0 1 1 [AV.xl z M.length 1 (cI M)] 0),(AV.xp q1 1 1 [AV.xl zk K.length 1 (cI K)] 0)])] 85)),(1,(.cells [(.xl (yr) (P.length) 2 (cR P))] 23)),(2,(.cells [(.v (.bool (g)))] 4)),(3,(.cells [(.v (Value.slice none 0 0))] 27)),(5,(.defd .true))],.ready,none,35,E4 W3,E3 W3,E5 W3,5⟩:Ev.Lit1).lit (fun k=>(⟨[(0,(.yld 6)),(7,(nI0 L.length)),(8,(nI0 i))],[],9,6,[(3,(.ptr 0 0)),(4,(.ptr 1 0)),(5,(.ptr 2 0)),(7,(.ptr 3 0))],[(0,(.cells [(.xl (y) (E.length) 1 (Y4 E)),(.xl (yl) (L.length) 2 (cR L)),(.fn (.func 82) [] [(AV.xp q0 1 1 [AV.xl z M.length 1 (cI M)] 0),(AV.xp q1 1 1 [AV.xl zk K.length 1 (cI K)] 0)])] 85)),(1,(.cells [(.xl (yr) (P.length) 2 (cR P))] 23)),(2,(.cells [(.v (.bool (g)))] 4)),(3,(.cells [(.slu 8 0 (k+1) 0)] 27)),(5,(.defd .true)),(8,(.row (cI (tI (O3 (cR P) (V2 (cI M) (cI K) L.length) g) i)) 2 1))],.ready,none,35,E4 W3,E3 W3,E5 W3,5⟩:Ev.Lit1).lit) (tI (O3 (cR P) (V2 (cI M) (cI K) L.length) g) i).length)) (bw v 7 eb ec) (a4C _ _ _ _ _ _ _ _)
 cases hc:(tI (O3 (cR P) (V2 (cI M) (cI K) L.length) g) i).length with
 |zero =>
  show Y8 zP0q 16 b1W ((⟨[(0,(.yld 6)),(7,(nI0 L.length)),(8,(nI0 i))],[],7,6,[(3,(.ptr 0 0)),(4,(.ptr 1 0)),(5,(.ptr 2 0)),(7,(.ptr 3 0))],[(0,(.cells [(.xl (y) (E.length) 1 (Y4 E)),(.xl (yl) (L.length) 2 (cR L)),(.fn (.func 82) [] [(AV.xp q0 1 1 [AV.xl z M.length 1 (cI M)] 0),(AV.xp q1 1 1 [AV.xl zk K.length 1 (cI K)] 0)])] 85)),(1,(.cells [(.xl (yr) (P.length) 2 (cR P))] 23)),(2,(.cells [(.v (.bool (g)))] 4)),(3,(.cells [(.v (Value.slice none 0 0))] 27)),(5,(.defd .true))],.ready,none,35,E4 W3,E3 W3,E5 W3,5⟩:Ev.Lit1).lit) (bw v 7 eb ec) (a4C _ _ _ _ _ _ _ _)
  rcases zB0q (X8 i L.length) with hz0_1|hz0_1
  ·have ghz0_1:=Y0 hz0_1
   rcases zB0q (g == X8 0 (Z9 (cI M) (i*1) - Z9 (cI K) (i*1))) with hz0_2|hz0_2
   ·refine Ev.step_on ⟨i+1,by omega,trivial⟩ (by show L.length - (i+1)<L.length - i;omega) ?_
    have hcn:(tI (O3 (cR P) (V2 (cI M) (cI K) L.length) g) (i+1)).length=0+1:=by (have h9:=Y9 (O3 (cR P) (V2 (cI M) (cI K) L.length) g) i;rw [Y9];omega)
    show Y8 _ _ _ _ _ (F4 _ isN (Ev.fam0 (⟨[(0,(.yld 6)),(7,(nI0 L.length)),(8,(nI0 (((i+1):Nat):Int)))],[],7,6,[(3,(.ptr 0 0)),(4,(.ptr 1 0)),(5,(.ptr 2 0)),(7,(.ptr 3 0))],[(0,(.cells [(.xl (y) (E.length) 1 (Y4 E)),(.xl (yl) (L.length) 2 (cR L)),(.fn (.func 82) [] [(AV.xp q0 1 1 [AV.xl z M.length 1 (cI M)] 0),(AV.xp q1 1 1 [AV.xl zk K.length 1 (cI K)] 0)])] 85)),(1,(.cells [(.xl (yr) (P.length) 2 (cR P))] 23)),(2,(.cells [(.v (.bool (g)))] 4)),(3,(.cells [(.v (Value.slice none 0 0))] 27)),(5,(.defd .true))],.ready,none,35,E4 W3,E3 W3,E5 W3,5⟩:Ev.Lit1).lit (fun k=>(⟨[(0,(.yld 6)),(7,(nI0 L.length)),(8,(nI0 (((i+1):Nat):Int)))],[],9,6,[(3,(.ptr 0 0)),(4,(.ptr 1 0)),(5,(.ptr 2 0)),(7,(.ptr 3 0))],[(0,(.cells [(.xl (y) (E.length) 1 (Y4 E)),(.xl (yl) (L.length) 2 (cR L)),(.fn (.func 82) [] [(AV.xp q0 1 1 [AV.xl z M.length 1 (cI M)] 0),(AV.xp q1 1 1 [AV.xl zk K.length 1 (cI K)] 0)])] 85)),(1,(.cells [(.xl (yr) (P.length) 2 (cR P))] 23)),(2,(.cells [(.v (.bool (g)))] 4)),(3,(.cells [(.slu 8 0 (k+1) 0)] 27)),(5,(.defd .true)),(8,(.row (cI (tI (O3 (cR P) (V2 (cI M) (cI K) L.length) g) (i+1))) 2 1))],.ready,none,35,E4 W3,E3 W3,E5 W3,5⟩:Ev.Lit1).lit) (tI (O3 (cR P) (V2 (cI M) (cI K) L.length) g) (i+1)).length) _)
    rw [hcn]
    show Y8 _ _ _ _ _ (F4 _ isN ((⟨[(0,(.yld 6)),(7,(nI0 L.length)),(8,(nI0 (((i+1):Nat):Int)))],[],9,6,[(3,(.ptr 0 0)),(4,(.ptr 1 0)),(5,(.ptr 2 0)),(7,(.ptr 3 0))],[(0,(.cells [(.xl (y) (E.length) 1 (Y4 E)),(.xl (yl) (L.length) 2 (cR L)),(.fn (.func 82) [] [(AV.xp q0 1 1 [AV.xl z M.length 1 (cI M)] 0),(AV.xp q1 1 1 [AV.xl zk K.length 1 (cI K)] 0)])] 85)),(1,(.cells [(.xl (yr) (P.length) 2 (cR P))] 23)),(2,(.cells [(.v (.bool (g)))] 4)),(3,(.cells [(.slu 8 0 (0+1) 0)] 27)),(5,(.defd .true)),(8,(.row (cI (tI (O3 (cR P) (V2 (cI M) (cI K) L.length) g) (i+1))) 2 1))],.ready,none,35,E4 W3,E3 W3,E5 W3,5⟩:Ev.Lit1).lit) _)
    exact a0C zC0q (Z0) 200 (T':=(⟨[(0,(.yld 6)),(7,(nI0 L.length)),(8,(nI0 (((i+1):Nat):Int)))],[],9,6,[(3,(.ptr 0 0)),(4,(.ptr 1 0)),(5,(.ptr 2 0)),(7,(.ptr 3 0))],[(0,(.cells [(.xl (y) (E.length) 1 (Y4 E)),(.xl (yl) (L.length) 2 (cR L)),(.fn (.func 82) [] [(AV.xp q0 1 1 [AV.xl z M.length 1 (cI M)] 0),(AV.xp q1 1 1 [AV.xl zk K.length 1 (cI K)] 0)])] 85)),(1,(.cells [(.xl (yr) (P.length) 2 (cR P))] 23)),(2,(.cells [(.v (.bool (g)))] 4)),(3,(.cells [(.slu 8 0 (0+1) 0)] 27)),(5,(.defd .true)),(8,(.row (cI (tI (O3 (cR P) (V2 (cI M) (cI K) L.length) g) (i+1))) 2 1))],.ready,none,35,E4 W3,E3 W3,E5 W3,5⟩:Ev.Lit1)) (e:=.normal) (m:=9) (ps:=[X8 i L.length=true,i<P.length,i*2+0<((cR P):List AV).length,W2 zP0q (cR P) (i*2+0) 2=some (AV.v (Value.int IntKind.i64 (Z9 (cR P) (i*2+0)))),i<M.length,W2 zP0q (cI M) (i*1) 2=some (AV.v (Value.int IntKind.i64 (Z9 (cI M) (i*1)))),i<K.length,W2 zP0q (cI K) (i*1) 2=some (AV.v (Value.int IntKind.i64 (Z9 (cI K) (i*1)))),K5 IntKind.i64 (Z9 (cI M) (i*1) - Z9 (cI K) (i*1)),(g == X8 0 (Z9 (cI M) (i*1) - Z9 (cI K) (i*1)))=true,i<P.length,i*2+1<((cR P):List AV).length,W2 zP0q (cR P) (i*2+1) 2=some (AV.v (Value.int IntKind.i64 (Z9 (cR P) (i*2+1)))),(!true)=false,K5 IntKind.i64 (((i:Nat):Int)+1)]) ([.go,.b true]++gH 7 ([.sym,.sym,.sym]++gH 11 ([.sym,.sym]++gH 6 ([.sym,.sym]++gH 5 ([.b true,.go,.go,.sym,.sym,.sym]++gH 7 [.b false,.go,.go]))))) [0,1,2,3,4,5,6,7,8] [(.yld 6),(nI0 L.length),(nI0 (((i:Nat):Int)+1))] [(.ptr 0 0),(.ptr 1 0),(.ptr 2 0),(.ptr 3 0)] [(.cells [(.xl (y) (E.length) 1 (Y4 E)),(.xl (yl) (L.length) 2 (cR L)),(.fn (.func 82) [] [(AV.xp q0 1 1 [AV.xl z M.length 1 (cI M)] 0),(AV.xp q1 1 1 [AV.xl zk K.length 1 (cI K)] 0)])] 85),(.cells [(.xl (yr) (P.length) 2 (cR P))] 23),(.cells [(.v (.bool (g)))] 4),(.cells [(.slu 8 0 1 0)] 27),(.defd .true),(.row [(nI0 (Z9 (cR P) (i*2+1)))] 2 1)] (by kernel_rfl) (by kernel_rfl) ⟨hz0_1,(by omega),(by rw [Z3];omega),(a7n (i:=i) (by omega) (by omega) 2 (Try.underlying2) rfl),(by omega),(by rw [Nat.mul_one];exact S6 (show _<M.length by omega) 2 (Try.underlying2) rfl),(by omega),(by rw [Nat.mul_one];exact S6 (show _<K.length by omega) 2 (Try.underlying2) rfl),(by have h9:=hm1 i (by omega);show -9223372036854775808≤_∧_≤9223372036854775807;constructor<;>omega),hz0_2,(by omega),(by rw [Z3];omega),(a7n (i:=i) (by omega) (by omega) 2 (Try.underlying2) rfl),rfl,(b89 (by omega) (by omega)),trivial⟩ rfl rfl (by decide) rfl ⟨a8N rfl,N1 _,M7 (show ((((i:Nat):Int)+1):Int)=(((i+1):Nat):Int) from by omega),trivial⟩ ⟨V5 rfl,V5 rfl,V5 rfl,V5 rfl,trivial⟩ ⟨⟨by show 0<9;decide,Y1 (Z5 (T6 (X5 (X7 _))) (Z5 (Q2 (Y6 (W6 L))) (Z5 (f6 (Y2) (Z5 (T6 (N3 (X5 (Y3 (Z1 _))))) (Z5 (T6 (N3 (X5 (Y3 (Z1 _))))) (Y2)))) (Y2))))⟩,⟨by show 1<9;decide,Y1 (Z5 (Q2 (Y6 (W6 P))) (Y2))⟩,⟨by show 2<9;decide,Y1 (Z5 (N1 _) (Y2))⟩,⟨by show 3<9;decide,Y1 (Z5 (S8 rfl) (Y2))⟩,⟨by show 5<9;decide,a2J⟩,⟨by show 8<9;decide,U6 (A9 (show ((cI (tI (O3 (cR P) (V2 (cI M) (cI K) L.length) g) (i+1))):List AV)=[(nI0 (Z9 (cR P) (i*2+1)))] from by (exact (b63 (by have h9:=Y9 (O3 (cR P) (V2 (cI M) (cI K) L.length) g) i;omega) (a6d (c:=cR P) (n:=L.length) (by omega) hz0_2)).symm)) (Z1 _))⟩,trivial⟩ (by show 6<9;decide) (by show 5<9;decide) (by show 7≤9;decide) (fun b hb=>(by have hb2:b<7:=hb;match b,hb2 with|0,_=>rfl|1,_=>rfl|2,_=>rfl|3,_=>rfl|4,_=>rfl|5,_=>rfl|6,_=>rfl))
   ·refine Ev.step_on ⟨i+1,by omega,trivial⟩ (by show L.length - (i+1)<L.length - i;omega) ?_
    have hcn:(tI (O3 (cR P) (V2 (cI M) (cI K) L.length) g) (i+1)).length=0+1:=by (have h9:=Y9 (O3 (cR P) (V2 (cI M) (cI K) L.length) g) i;rw [Y9];omega)
    show Y8 _ _ _ _ _ (F4 _ isN (Ev.fam0 (⟨[(0,(.yld 6)),(7,(nI0 L.length)),(8,(nI0 (((i+1):Nat):Int)))],[],7,6,[(3,(.ptr 0 0)),(4,(.ptr 1 0)),(5,(.ptr 2 0)),(7,(.ptr 3 0))],[(0,(.cells [(.xl (y) (E.length) 1 (Y4 E)),(.xl (yl) (L.length) 2 (cR L)),(.fn (.func 82) [] [(AV.xp q0 1 1 [AV.xl z M.length 1 (cI M)] 0),(AV.xp q1 1 1 [AV.xl zk K.length 1 (cI K)] 0)])] 85)),(1,(.cells [(.xl (yr) (P.length) 2 (cR P))] 23)),(2,(.cells [(.v (.bool (g)))] 4)),(3,(.cells [(.v (Value.slice none 0 0))] 27)),(5,(.defd .true))],.ready,none,35,E4 W3,E3 W3,E5 W3,5⟩:Ev.Lit1).lit (fun k=>(⟨[(0,(.yld 6)),(7,(nI0 L.length)),(8,(nI0 (((i+1):Nat):Int)))],[],9,6,[(3,(.ptr 0 0)),(4,(.ptr 1 0)),(5,(.ptr 2 0)),(7,(.ptr 3 0))],[(0,(.cells [(.xl (y) (E.length) 1 (Y4 E)),(.xl (yl) (L.length) 2 (cR L)),(.fn (.func 82) [] [(AV.xp q0 1 1 [AV.xl z M.length 1 (cI M)] 0),(AV.xp q1 1 1 [AV.xl zk K.length 1 (cI K)] 0)])] 85)),(1,(.cells [(.xl (yr) (P.length) 2 (cR P))] 23)),(2,(.cells [(.v (.bool (g)))] 4)),(3,(.cells [(.slu 8 0 (k+1) 0)] 27)),(5,(.defd .true)),(8,(.row (cI (tI (O3 (cR P) (V2 (cI M) (cI K) L.length) g) (i+1))) 2 1))],.ready,none,35,E4 W3,E3 W3,E5 W3,5⟩:Ev.Lit1).lit) (tI (O3 (cR P) (V2 (cI M) (cI K) L.length) g) (i+1)).length) _)
    rw [hcn]
    show Y8 _ _ _ _ _ (F4 _ isN ((⟨[(0,(.yld 6)),(7,(nI0 L.length)),(8,(nI0 (((i+1):Nat):Int)))],[],9,6,[(3,(.ptr 0 0)),(4,(.ptr 1 0)),(5,(.ptr 2 0)),(7,(.ptr 3 0))],[(0,(.cells [(.xl (y) (E.length) 1 (Y4 E)),(.xl (yl) (L.length) 2 (cR L)),(.fn (.func 82) [] [(AV.xp q0 1 1 [AV.xl z M.length 1 (cI M)] 0),(AV.xp q1 1 1 [AV.xl zk K.length 1 (cI K)] 0)])] 85)),(1,(.cells [(.xl (yr) (P.length) 2 (cR P))] 23)),(2,(.cells [(.v (.bool (g)))] 4)),(3,(.cells [(.slu 8 0 (0+1) 0)] 27)),(5,(.defd .true)),(8,(.row (cI (tI (O3 (cR P) (V2 (cI M) (cI K) L.length) g) (i+1))) 2 1))],.ready,none,35,E4 W3,E3 W3,E5 W3,5⟩:Ev.Lit1).lit) _)
    exact a0C zC0q (Z0) 200 (T':=(⟨[(0,(.yld 6)),(7,(nI0 L.length)),(8,(nI0 (((i+1):Nat):Int)))],[],9,6,[(3,(.ptr 0 0)),(4,(.ptr 1 0)),(5,(.ptr 2 0)),(7,(.ptr 3 0))],[(0,(.cells [(.xl (y) (E.length) 1 (Y4 E)),(.xl (yl) (L.length) 2 (cR L)),(.fn (.func 82) [] [(AV.xp q0 1 1 [AV.xl z M.length 1 (cI M)] 0),(AV.xp q1 1 1 [AV.xl zk K.length 1 (cI K)] 0)])] 85)),(1,(.cells [(.xl (yr) (P.length) 2 (cR P))] 23)),(2,(.cells [(.v (.bool (g)))] 4)),(3,(.cells [(.slu 8 0 (0+1) 0)] 27)),(5,(.defd .true)),(8,(.row (cI (tI (O3 (cR P) (V2 (cI M) (cI K) L.length) g) (i+1))) 2 1))],.ready,none,35,E4 W3,E3 W3,E5 W3,5⟩:Ev.Lit1)) (e:=.normal) (m:=9) (ps:=[X8 i L.length=true,i<P.length,i*2+0<((cR P):List AV).length,W2 zP0q (cR P) (i*2+0) 2=some (AV.v (Value.int IntKind.i64 (Z9 (cR P) (i*2+0)))),i<M.length,W2 zP0q (cI M) (i*1) 2=some (AV.v (Value.int IntKind.i64 (Z9 (cI M) (i*1)))),i<K.length,W2 zP0q (cI K) (i*1) 2=some (AV.v (Value.int IntKind.i64 (Z9 (cI K) (i*1)))),K5 IntKind.i64 (Z9 (cI M) (i*1) - Z9 (cI K) (i*1)),(g == X8 0 (Z9 (cI M) (i*1) - Z9 (cI K) (i*1)))=false,(!true)=false,K5 IntKind.i64 (((i:Nat):Int)+1)]) ([.go,.b true]++gH 7 ([.sym,.sym,.sym]++gH 11 ([.sym,.sym]++gH 6 ([.sym,.sym]++gH 5 ([.b false]++gH 6 [.b false,.go,.go]))))) [0,1,2,3,4,5,6,7,8] [(.yld 6),(nI0 L.length),(nI0 (((i:Nat):Int)+1))] [(.ptr 0 0),(.ptr 1 0),(.ptr 2 0),(.ptr 3 0)] [(.cells [(.xl (y) (E.length) 1 (Y4 E)),(.xl (yl) (L.length) 2 (cR L)),(.fn (.func 82) [] [(AV.xp q0 1 1 [AV.xl z M.length 1 (cI M)] 0),(AV.xp q1 1 1 [AV.xl zk K.length 1 (cI K)] 0)])] 85),(.cells [(.xl (yr) (P.length) 2 (cR P))] 23),(.cells [(.v (.bool (g)))] 4),(.cells [(.slu 8 0 1 0)] 27),(.defd .true),(.row [(nI0 (Z9 (cR P) (i*2+0)))] 2 1)] (by kernel_rfl) (by kernel_rfl) ⟨hz0_1,(by omega),(by rw [Z3];omega),(a7n (i:=i) (by omega) (by omega) 2 (Try.underlying2) rfl),(by omega),(by rw [Nat.mul_one];exact S6 (show _<M.length by omega) 2 (Try.underlying2) rfl),(by omega),(by rw [Nat.mul_one];exact S6 (show _<K.length by omega) 2 (Try.underlying2) rfl),(by have h9:=hm1 i (by omega);show -9223372036854775808≤_∧_≤9223372036854775807;constructor<;>omega),hz0_2,rfl,(b89 (by omega) (by omega)),trivial⟩ rfl rfl (by decide) rfl ⟨a8N rfl,N1 _,M7 (show ((((i:Nat):Int)+1):Int)=(((i+1):Nat):Int) from by omega),trivial⟩ ⟨V5 rfl,V5 rfl,V5 rfl,V5 rfl,trivial⟩ ⟨⟨by show 0<9;decide,Y1 (Z5 (T6 (X5 (X7 _))) (Z5 (Q2 (Y6 (W6 L))) (Z5 (f6 (Y2) (Z5 (T6 (N3 (X5 (Y3 (Z1 _))))) (Z5 (T6 (N3 (X5 (Y3 (Z1 _))))) (Y2)))) (Y2))))⟩,⟨by show 1<9;decide,Y1 (Z5 (Q2 (Y6 (W6 P))) (Y2))⟩,⟨by show 2<9;decide,Y1 (Z5 (N1 _) (Y2))⟩,⟨by show 3<9;decide,Y1 (Z5 (S8 rfl) (Y2))⟩,⟨by show 5<9;decide,a2J⟩,⟨by show 8<9;decide,U6 (A9 (show ((cI (tI (O3 (cR P) (V2 (cI M) (cI K) L.length) g) (i+1))):List AV)=[(nI0 (Z9 (cR P) (i*2+0)))] from by (exact (b63 (by have h9:=Y9 (O3 (cR P) (V2 (cI M) (cI K) L.length) g) i;omega) (a8O (c:=cR P) (m:=cI M) (k:=cI K) (g:=g) (b:=i) (n:=L.length) (by omega) (by rw [hz0_2];decide))).symm)) (Z1 _))⟩,trivial⟩ (by show 6<9;decide) (by show 5<9;decide) (by show 7≤9;decide) (fun b hb=>(by have hb2:b<7:=hb;match b,hb2 with|0,_=>rfl|1,_=>rfl|2,_=>rfl|3,_=>rfl|4,_=>rfl|5,_=>rfl|6,_=>rfl))
  ·have ghz0_1:=Z6 hz0_1
   exfalso
   have h9:=Y9 (O3 (cR P) (V2 (cI M) (cI K) L.length) g) i
   omega
 |succ k =>
  show Y8 zP0q 16 b1W ((⟨[(0,(.yld 6)),(7,(nI0 L.length)),(8,(nI0 i))],[],9,6,[(3,(.ptr 0 0)),(4,(.ptr 1 0)),(5,(.ptr 2 0)),(7,(.ptr 3 0))],[(0,(.cells [(.xl (y) (E.length) 1 (Y4 E)),(.xl (yl) (L.length) 2 (cR L)),(.fn (.func 82) [] [(AV.xp q0 1 1 [AV.xl z M.length 1 (cI M)] 0),(AV.xp q1 1 1 [AV.xl zk K.length 1 (cI K)] 0)])] 85)),(1,(.cells [(.xl (yr) (P.length) 2 (cR P))] 23)),(2,(.cells [(.v (.bool (g)))] 4)),(3,(.cells [(.slu 8 0 (k+1) 0)] 27)),(5,(.defd .true)),(8,(.row (cI (tI (O3 (cR P) (V2 (cI M) (cI K) L.length) g) i)) 2 1))],.ready,none,35,E4 W3,E3 W3,E5 W3,5⟩:Ev.Lit1).lit) (bw v 7 eb ec) (a4C _ _ _ _ _ _ _ _)
  rcases zB0q (X8 i L.length) with hs0_1|hs0_1
  ·have ghs0_1:=Y0 hs0_1
   rcases zB0q (g == X8 0 (Z9 (cI M) (i*1) - Z9 (cI K) (i*1))) with hs0_2|hs0_2
   ·refine Ev.step_on ⟨i+1,by omega,trivial⟩ (by show L.length - (i+1)<L.length - i;omega) ?_
    have hcn:(tI (O3 (cR P) (V2 (cI M) (cI K) L.length) g) (i+1)).length=k+1+1:=by (have h9:=Y9 (O3 (cR P) (V2 (cI M) (cI K) L.length) g) i;rw [Y9];omega)
    show Y8 _ _ _ _ _ (F4 _ isN (Ev.fam0 (⟨[(0,(.yld 6)),(7,(nI0 L.length)),(8,(nI0 (((i+1):Nat):Int)))],[],7,6,[(3,(.ptr 0 0)),(4,(.ptr 1 0)),(5,(.ptr 2 0)),(7,(.ptr 3 0))],[(0,(.cells [(.xl (y) (E.length) 1 (Y4 E)),(.xl (yl) (L.length) 2 (cR L)),(.fn (.func 82) [] [(AV.xp q0 1 1 [AV.xl z M.length 1 (cI M)] 0),(AV.xp q1 1 1 [AV.xl zk K.length 1 (cI K)] 0)])] 85)),(1,(.cells [(.xl (yr) (P.length) 2 (cR P))] 23)),(2,(.cells [(.v (.bool (g)))] 4)),(3,(.cells [(.v (Value.slice none 0 0))] 27)),(5,(.defd .true))],.ready,none,35,E4 W3,E3 W3,E5 W3,5⟩:Ev.Lit1).lit (fun k=>(⟨[(0,(.yld 6)),(7,(nI0 L.length)),(8,(nI0 (((i+1):Nat):Int)))],[],9,6,[(3,(.ptr 0 0)),(4,(.ptr 1 0)),(5,(.ptr 2 0)),(7,(.ptr 3 0))],[(0,(.cells [(.xl (y) (E.length) 1 (Y4 E)),(.xl (yl) (L.length) 2 (cR L)),(.fn (.func 82) [] [(AV.xp q0 1 1 [AV.xl z M.length 1 (cI M)] 0),(AV.xp q1 1 1 [AV.xl zk K.length 1 (cI K)] 0)])] 85)),(1,(.cells [(.xl (yr) (P.length) 2 (cR P))] 23)),(2,(.cells [(.v (.bool (g)))] 4)),(3,(.cells [(.slu 8 0 (k+1) 0)] 27)),(5,(.defd .true)),(8,(.row (cI (tI (O3 (cR P) (V2 (cI M) (cI K) L.length) g) (i+1))) 2 1))],.ready,none,35,E4 W3,E3 W3,E5 W3,5⟩:Ev.Lit1).lit) (tI (O3 (cR P) (V2 (cI M) (cI K) L.length) g) (i+1)).length) _)
    rw [hcn]
    show Y8 _ _ _ _ _ (F4 _ isN ((⟨[(0,(.yld 6)),(7,(nI0 L.length)),(8,(nI0 (((i+1):Nat):Int)))],[],9,6,[(3,(.ptr 0 0)),(4,(.ptr 1 0)),(5,(.ptr 2 0)),(7,(.ptr 3 0))],[(0,(.cells [(.xl (y) (E.length) 1 (Y4 E)),(.xl (yl) (L.length) 2 (cR L)),(.fn (.func 82) [] [(AV.xp q0 1 1 [AV.xl z M.length 1 (cI M)] 0),(AV.xp q1 1 1 [AV.xl zk K.length 1 (cI K)] 0)])] 85)),(1,(.cells [(.xl (yr) (P.length) 2 (cR P))] 23)),(2,(.cells [(.v (.bool (g)))] 4)),(3,(.cells [(.slu 8 0 (k+1+1) 0)] 27)),(5,(.defd .true)),(8,(.row (cI (tI (O3 (cR P) (V2 (cI M) (cI K) L.length) g) (i+1))) 2 1))],.ready,none,35,E4 W3,E3 W3,E5 W3,5⟩:Ev.Lit1).lit) _)
    exact a0C zC0q (Z0) 200 (T':=(⟨[(0,(.yld 6)),(7,(nI0 L.length)),(8,(nI0 (((i+1):Nat):Int)))],[],9,6,[(3,(.ptr 0 0)),(4,(.ptr 1 0)),(5,(.ptr 2 0)),(7,(.ptr 3 0))],[(0,(.cells [(.xl (y) (E.length) 1 (Y4 E)),(.xl (yl) (L.length) 2 (cR L)),(.fn (.func 82) [] [(AV.xp q0 1 1 [AV.xl z M.length 1 (cI M)] 0),(AV.xp q1 1 1 [AV.xl zk K.length 1 (cI K)] 0)])] 85)),(1,(.cells [(.xl (yr) (P.length) 2 (cR P))] 23)),(2,(.cells [(.v (.bool (g)))] 4)),(3,(.cells [(.slu 8 0 (k+1+1) 0)] 27)),(5,(.defd .true)),(8,(.row (cI (tI (O3 (cR P) (V2 (cI M) (cI K) L.length) g) (i+1))) 2 1))],.ready,none,35,E4 W3,E3 W3,E5 W3,5⟩:Ev.Lit1)) (e:=.normal) (m:=11) (ps:=[X8 i L.length=true,i<P.length,i*2+0<((cR P):List AV).length,W2 zP0q (cR P) (i*2+0) 2=some (AV.v (Value.int IntKind.i64 (Z9 (cR P) (i*2+0)))),i<M.length,W2 zP0q (cI M) (i*1) 2=some (AV.v (Value.int IntKind.i64 (Z9 (cI M) (i*1)))),i<K.length,W2 zP0q (cI K) (i*1) 2=some (AV.v (Value.int IntKind.i64 (Z9 (cI K) (i*1)))),K5 IntKind.i64 (Z9 (cI M) (i*1) - Z9 (cI K) (i*1)),(g == X8 0 (Z9 (cI M) (i*1) - Z9 (cI K) (i*1)))=true,i<P.length,i*2+1<((cR P):List AV).length,W2 zP0q (cR P) (i*2+1) 2=some (AV.v (Value.int IntKind.i64 (Z9 (cR P) (i*2+1)))),((cI (tI (O3 (cR P) (V2 (cI M) (cI K) L.length) g) i)):List AV).length=(k+1)*1,k+1+1≤1000000,(!true)=false,K5 IntKind.i64 (((i:Nat):Int)+1)]) ([.go,.b true]++gH 7 ([.sym,.sym,.sym]++gH 11 ([.sym,.sym]++gH 6 ([.sym,.sym]++gH 5 ([.b true,.go,.go,.sym,.sym,.sym]++gH 4 [.sym,.go,.go,.b false,.go,.go]))))) [0,1,2,3,4,5,6,7,10] [(.yld 6),(nI0 L.length),(nI0 (((i:Nat):Int)+1))] [(.ptr 0 0),(.ptr 1 0),(.ptr 2 0),(.ptr 3 0)] [(.cells [(.xl (y) (E.length) 1 (Y4 E)),(.xl (yl) (L.length) 2 (cR L)),(.fn (.func 82) [] [(AV.xp q0 1 1 [AV.xl z M.length 1 (cI M)] 0),(AV.xp q1 1 1 [AV.xl zk K.length 1 (cI K)] 0)])] 85),(.cells [(.xl (yr) (P.length) 2 (cR P))] 23),(.cells [(.v (.bool (g)))] 4),(.cells [(.slu 10 0 (k+1+1) 0)] 27),(.defd .true),(.row ((cI (tI (O3 (cR P) (V2 (cI M) (cI K) L.length) g) i))++[(nI0 (Z9 (cR P) (i*2+1)))]) 2 1)] (by kernel_rfl) (by kernel_rfl) ⟨hs0_1,(by omega),(by rw [Z3];omega),(a7n (i:=i) (by omega) (by omega) 2 (Try.underlying2) rfl),(by omega),(by rw [Nat.mul_one];exact S6 (show _<M.length by omega) 2 (Try.underlying2) rfl),(by omega),(by rw [Nat.mul_one];exact S6 (show _<K.length by omega) 2 (Try.underlying2) rfl),(by have h9:=hm1 i (by omega);show -9223372036854775808≤_∧_≤9223372036854775807;constructor<;>omega),hs0_2,(by omega),(by rw [Z3];omega),(a7n (i:=i) (by omega) (by omega) 2 (Try.underlying2) rfl),(by have h9:=Y9 (O3 (cR P) (V2 (cI M) (cI K) L.length) g) i;show (cI _).length=_;rw [Z4,Y9];omega),(by have h9:=Y9 (O3 (cR P) (V2 (cI M) (cI K) L.length) g) i;have h8:=Y9 (O3 (cR P) (V2 (cI M) (cI K) L.length) g) (i+1);omega),rfl,(b89 (by omega) (by omega)),trivial⟩ rfl rfl (by decide) rfl ⟨a8N rfl,N1 _,M7 (show ((((i:Nat):Int)+1):Int)=(((i+1):Nat):Int) from by omega),trivial⟩ ⟨V5 rfl,V5 rfl,V5 rfl,V5 rfl,trivial⟩ ⟨⟨by show 0<9;decide,Y1 (Z5 (T6 (X5 (X7 _))) (Z5 (Q2 (Y6 (W6 L))) (Z5 (f6 (Y2) (Z5 (T6 (N3 (X5 (Y3 (Z1 _))))) (Z5 (T6 (N3 (X5 (Y3 (Z1 _))))) (Y2)))) (Y2))))⟩,⟨by show 1<9;decide,Y1 (Z5 (Q2 (Y6 (W6 P))) (Y2))⟩,⟨by show 2<9;decide,Y1 (Z5 (N1 _) (Y2))⟩,⟨by show 3<9;decide,Y1 (Z5 (S8 rfl) (Y2))⟩,⟨by show 5<9;decide,a2J⟩,⟨by show 8<9;decide,U6 (A9 (show ((cI (tI (O3 (cR P) (V2 (cI M) (cI K) L.length) g) (i+1))):List AV)=((cI (tI (O3 (cR P) (V2 (cI M) (cI K) L.length) g) i))++[(nI0 (Z9 (cR P) (i*2+1)))]) from by first|exact (a8W (a6d (c:=cR P) (n:=L.length) (by omega) hs0_2)).symm|(rw [List.take_of_length_le (by have h9:=Y9 (O3 (cR P) (V2 (cI M) (cI K) L.length) g) i;rw [List.length_drop,Z4,Y9];omega),List.drop_zero];exact (a8W (a6d (c:=cR P) (n:=L.length) (by omega) hs0_2)).symm)) (Z1 _))⟩,trivial⟩ (by show 6<9;decide) (by show 5<9;decide) (by show 7≤9;decide) (fun b hb=>(by have hb2:b<7:=hb;match b,hb2 with|0,_=>rfl|1,_=>rfl|2,_=>rfl|3,_=>rfl|4,_=>rfl|5,_=>rfl|6,_=>rfl))
   ·refine Ev.step_on ⟨i+1,by omega,trivial⟩ (by show L.length - (i+1)<L.length - i;omega) ?_
    have hcn:(tI (O3 (cR P) (V2 (cI M) (cI K) L.length) g) (i+1)).length=k+1+1:=by (have h9:=Y9 (O3 (cR P) (V2 (cI M) (cI K) L.length) g) i;rw [Y9];omega)
    show Y8 _ _ _ _ _ (F4 _ isN (Ev.fam0 (⟨[(0,(.yld 6)),(7,(nI0 L.length)),(8,(nI0 (((i+1):Nat):Int)))],[],7,6,[(3,(.ptr 0 0)),(4,(.ptr 1 0)),(5,(.ptr 2 0)),(7,(.ptr 3 0))],[(0,(.cells [(.xl (y) (E.length) 1 (Y4 E)),(.xl (yl) (L.length) 2 (cR L)),(.fn (.func 82) [] [(AV.xp q0 1 1 [AV.xl z M.length 1 (cI M)] 0),(AV.xp q1 1 1 [AV.xl zk K.length 1 (cI K)] 0)])] 85)),(1,(.cells [(.xl (yr) (P.length) 2 (cR P))] 23)),(2,(.cells [(.v (.bool (g)))] 4)),(3,(.cells [(.v (Value.slice none 0 0))] 27)),(5,(.defd .true))],.ready,none,35,E4 W3,E3 W3,E5 W3,5⟩:Ev.Lit1).lit (fun k=>(⟨[(0,(.yld 6)),(7,(nI0 L.length)),(8,(nI0 (((i+1):Nat):Int)))],[],9,6,[(3,(.ptr 0 0)),(4,(.ptr 1 0)),(5,(.ptr 2 0)),(7,(.ptr 3 0))],[(0,(.cells [(.xl (y) (E.length) 1 (Y4 E)),(.xl (yl) (L.length) 2 (cR L)),(.fn (.func 82) [] [(AV.xp q0 1 1 [AV.xl z M.length 1 (cI M)] 0),(AV.xp q1 1 1 [AV.xl zk K.length 1 (cI K)] 0)])] 85)),(1,(.cells [(.xl (yr) (P.length) 2 (cR P))] 23)),(2,(.cells [(.v (.bool (g)))] 4)),(3,(.cells [(.slu 8 0 (k+1) 0)] 27)),(5,(.defd .true)),(8,(.row (cI (tI (O3 (cR P) (V2 (cI M) (cI K) L.length) g) (i+1))) 2 1))],.ready,none,35,E4 W3,E3 W3,E5 W3,5⟩:Ev.Lit1).lit) (tI (O3 (cR P) (V2 (cI M) (cI K) L.length) g) (i+1)).length) _)
    rw [hcn]
    show Y8 _ _ _ _ _ (F4 _ isN ((⟨[(0,(.yld 6)),(7,(nI0 L.length)),(8,(nI0 (((i+1):Nat):Int)))],[],9,6,[(3,(.ptr 0 0)),(4,(.ptr 1 0)),(5,(.ptr 2 0)),(7,(.ptr 3 0))],[(0,(.cells [(.xl (y) (E.length) 1 (Y4 E)),(.xl (yl) (L.length) 2 (cR L)),(.fn (.func 82) [] [(AV.xp q0 1 1 [AV.xl z M.length 1 (cI M)] 0),(AV.xp q1 1 1 [AV.xl zk K.length 1 (cI K)] 0)])] 85)),(1,(.cells [(.xl (yr) (P.length) 2 (cR P))] 23)),(2,(.cells [(.v (.bool (g)))] 4)),(3,(.cells [(.slu 8 0 (k+1+1) 0)] 27)),(5,(.defd .true)),(8,(.row (cI (tI (O3 (cR P) (V2 (cI M) (cI K) L.length) g) (i+1))) 2 1))],.ready,none,35,E4 W3,E3 W3,E5 W3,5⟩:Ev.Lit1).lit) _)
    exact a0C zC0q (Z0) 200 (T':=(⟨[(0,(.yld 6)),(7,(nI0 L.length)),(8,(nI0 (((i+1):Nat):Int)))],[],9,6,[(3,(.ptr 0 0)),(4,(.ptr 1 0)),(5,(.ptr 2 0)),(7,(.ptr 3 0))],[(0,(.cells [(.xl (y) (E.length) 1 (Y4 E)),(.xl (yl) (L.length) 2 (cR L)),(.fn (.func 82) [] [(AV.xp q0 1 1 [AV.xl z M.length 1 (cI M)] 0),(AV.xp q1 1 1 [AV.xl zk K.length 1 (cI K)] 0)])] 85)),(1,(.cells [(.xl (yr) (P.length) 2 (cR P))] 23)),(2,(.cells [(.v (.bool (g)))] 4)),(3,(.cells [(.slu 8 0 (k+1+1) 0)] 27)),(5,(.defd .true)),(8,(.row (cI (tI (O3 (cR P) (V2 (cI M) (cI K) L.length) g) (i+1))) 2 1))],.ready,none,35,E4 W3,E3 W3,E5 W3,5⟩:Ev.Lit1)) (e:=.normal) (m:=11) (ps:=[X8 i L.length=true,i<P.length,i*2+0<((cR P):List AV).length,W2 zP0q (cR P) (i*2+0) 2=some (AV.v (Value.int IntKind.i64 (Z9 (cR P) (i*2+0)))),i<M.length,W2 zP0q (cI M) (i*1) 2=some (AV.v (Value.int IntKind.i64 (Z9 (cI M) (i*1)))),i<K.length,W2 zP0q (cI K) (i*1) 2=some (AV.v (Value.int IntKind.i64 (Z9 (cI K) (i*1)))),K5 IntKind.i64 (Z9 (cI M) (i*1) - Z9 (cI K) (i*1)),(g == X8 0 (Z9 (cI M) (i*1) - Z9 (cI K) (i*1)))=false,((cI (tI (O3 (cR P) (V2 (cI M) (cI K) L.length) g) i)):List AV).length=(k+1)*1,k+1+1≤1000000,(!true)=false,K5 IntKind.i64 (((i:Nat):Int)+1)]) ([.go,.b true]++gH 7 ([.sym,.sym,.sym]++gH 11 ([.sym,.sym]++gH 6 ([.sym,.sym]++gH 5 [.b false,.go,.go,.go,.sym,.go,.go,.b false,.go,.go])))) [0,1,2,3,4,5,6,7,10] [(.yld 6),(nI0 L.length),(nI0 (((i:Nat):Int)+1))] [(.ptr 0 0),(.ptr 1 0),(.ptr 2 0),(.ptr 3 0)] [(.cells [(.xl (y) (E.length) 1 (Y4 E)),(.xl (yl) (L.length) 2 (cR L)),(.fn (.func 82) [] [(AV.xp q0 1 1 [AV.xl z M.length 1 (cI M)] 0),(AV.xp q1 1 1 [AV.xl zk K.length 1 (cI K)] 0)])] 85),(.cells [(.xl (yr) (P.length) 2 (cR P))] 23),(.cells [(.v (.bool (g)))] 4),(.cells [(.slu 10 0 (k+1+1) 0)] 27),(.defd .true),(.row ((cI (tI (O3 (cR P) (V2 (cI M) (cI K) L.length) g) i))++[(nI0 (Z9 (cR P) (i*2+0)))]) 2 1)] (by kernel_rfl) (by kernel_rfl) ⟨hs0_1,(by omega),(by rw [Z3];omega),(a7n (i:=i) (by omega) (by omega) 2 (Try.underlying2) rfl),(by omega),(by rw [Nat.mul_one];exact S6 (show _<M.length by omega) 2 (Try.underlying2) rfl),(by omega),(by rw [Nat.mul_one];exact S6 (show _<K.length by omega) 2 (Try.underlying2) rfl),(by have h9:=hm1 i (by omega);show -9223372036854775808≤_∧_≤9223372036854775807;constructor<;>omega),hs0_2,(by have h9:=Y9 (O3 (cR P) (V2 (cI M) (cI K) L.length) g) i;show (cI _).length=_;rw [Z4,Y9];omega),(by have h9:=Y9 (O3 (cR P) (V2 (cI M) (cI K) L.length) g) i;have h8:=Y9 (O3 (cR P) (V2 (cI M) (cI K) L.length) g) (i+1);omega),rfl,(b89 (by omega) (by omega)),trivial⟩ rfl rfl (by decide) rfl ⟨a8N rfl,N1 _,M7 (show ((((i:Nat):Int)+1):Int)=(((i+1):Nat):Int) from by omega),trivial⟩ ⟨V5 rfl,V5 rfl,V5 rfl,V5 rfl,trivial⟩ ⟨⟨by show 0<9;decide,Y1 (Z5 (T6 (X5 (X7 _))) (Z5 (Q2 (Y6 (W6 L))) (Z5 (f6 (Y2) (Z5 (T6 (N3 (X5 (Y3 (Z1 _))))) (Z5 (T6 (N3 (X5 (Y3 (Z1 _))))) (Y2)))) (Y2))))⟩,⟨by show 1<9;decide,Y1 (Z5 (Q2 (Y6 (W6 P))) (Y2))⟩,⟨by show 2<9;decide,Y1 (Z5 (N1 _) (Y2))⟩,⟨by show 3<9;decide,Y1 (Z5 (S8 rfl) (Y2))⟩,⟨by show 5<9;decide,a2J⟩,⟨by show 8<9;decide,U6 (A9 (show ((cI (tI (O3 (cR P) (V2 (cI M) (cI K) L.length) g) (i+1))):List AV)=((cI (tI (O3 (cR P) (V2 (cI M) (cI K) L.length) g) i))++[(nI0 (Z9 (cR P) (i*2+0)))]) from by first|exact (a8W (a8O (c:=cR P) (m:=cI M) (k:=cI K) (g:=g) (b:=i) (n:=L.length) (by omega) (by rw [hs0_2];decide))).symm|(rw [List.take_of_length_le (by have h9:=Y9 (O3 (cR P) (V2 (cI M) (cI K) L.length) g) i;rw [List.length_drop,Z4,Y9];omega),List.drop_zero];exact (a8W (a8O (c:=cR P) (m:=cI M) (k:=cI K) (g:=g) (b:=i) (n:=L.length) (by omega) (by rw [hs0_2];decide))).symm)) (Z1 _))⟩,trivial⟩ (by show 6<9;decide) (by show 5<9;decide) (by show 7≤9;decide) (fun b hb=>(by have hb2:b<7:=hb;match b,hb2 with|0,_=>rfl|1,_=>rfl|2,_=>rfl|3,_=>rfl|4,_=>rfl|5,_=>rfl|6,_=>rfl))
  ·have ghs0_1:=Z6 hs0_1
   refine Ev.step_out (by show L.length≤i;omega) ?_
   show Y8 _ _ _ _ _ (F4 _ (isX 0) (Ev.fam0 (⟨[(0,(.yld 6)),(7,(nI0 L.length)),(8,(nI0 i))],[],7,6,[(3,(.ptr 0 0)),(4,(.ptr 1 0)),(5,(.ptr 2 0)),(7,(.ptr 3 0))],[(0,(.cells [(.xl (y) (E.length) 1 (Y4 E)),(.xl (yl) (L.length) 2 (cR L)),(.fn (.func 82) [] [(AV.xp q0 1 1 [AV.xl z M.length 1 (cI M)] 0),(AV.xp q1 1 1 [AV.xl zk K.length 1 (cI K)] 0)])] 85)),(1,(.cells [(.xl (yr) (P.length) 2 (cR P))] 23)),(2,(.cells [(.v (.bool (g)))] 4)),(3,(.cells [(.v (Value.slice none 0 0))] 27)),(5,(.defd .true))],.ready,none,35,E4 W3,E3 W3,E5 W3,5⟩:Ev.Lit1).lit (fun k=>(⟨[(0,(.yld 6)),(7,(nI0 L.length)),(8,(nI0 i))],[],9,6,[(3,(.ptr 0 0)),(4,(.ptr 1 0)),(5,(.ptr 2 0)),(7,(.ptr 3 0))],[(0,(.cells [(.xl (y) (E.length) 1 (Y4 E)),(.xl (yl) (L.length) 2 (cR L)),(.fn (.func 82) [] [(AV.xp q0 1 1 [AV.xl z M.length 1 (cI M)] 0),(AV.xp q1 1 1 [AV.xl zk K.length 1 (cI K)] 0)])] 85)),(1,(.cells [(.xl (yr) (P.length) 2 (cR P))] 23)),(2,(.cells [(.v (.bool (g)))] 4)),(3,(.cells [(.slu 8 0 (k+1) 0)] 27)),(5,(.defd .true)),(8,(.row (cI (tI (O3 (cR P) (V2 (cI M) (cI K) L.length) g) i)) 2 1))],.ready,none,35,E4 W3,E3 W3,E5 W3,5⟩:Ev.Lit1).lit) (tI (O3 (cR P) (V2 (cI M) (cI K) L.length) g) i).length) _)
   rw [hc]
   exact E0 zC0q (Z0) 200 (T':=(⟨[(0,(.yld 6)),(7,(nI0 L.length)),(8,(nI0 i))],[],9,6,[(3,(.ptr 0 0)),(4,(.ptr 1 0)),(5,(.ptr 2 0)),(7,(.ptr 3 0))],[(0,(.cells [(.xl (y) (E.length) 1 (Y4 E)),(.xl (yl) (L.length) 2 (cR L)),(.fn (.func 82) [] [(AV.xp q0 1 1 [AV.xl z M.length 1 (cI M)] 0),(AV.xp q1 1 1 [AV.xl zk K.length 1 (cI K)] 0)])] 85)),(1,(.cells [(.xl (yr) (P.length) 2 (cR P))] 23)),(2,(.cells [(.v (.bool (g)))] 4)),(3,(.cells [(.slu 8 0 (k+1) 0)] 27)),(5,(.defd .true)),(8,(.row (cI (tI (O3 (cR P) (V2 (cI M) (cI K) L.length) g) i)) 2 1))],.ready,none,35,E4 W3,E3 W3,E5 W3,5⟩:Ev.Lit1)) (e:=.exit 0) (ps:=[X8 i L.length=false]) [.go,.b false] (by kernel_rfl) (by kernel_rfl) ⟨hs0_1,trivial⟩ rfl
theorem c1L(hn:1≤L.length∧L.length≤8)(hP:P.length=L.length)(hm:M.length=L.length)(hk:K.length=L.length)(hm1:∀ b,b<L.length → -1000≤Z9 (cI M) (b*1) - Z9 (cI K) (b*1)∧Z9 (cI M) (b*1) - Z9 (cI K) (b*1)≤1000):Y8 zP0q 16 b6V ((⟨[(0,(.yld 6)),(1,(.ptr 4 0))],[],7,6,[(3,(.ptr 0 0)),(4,(.ptr 1 0)),(5,(.ptr 2 0)),(7,(.ptr 3 0))],[(a3k E K L M q0 q1 y yl z zk),(a0p P yr),(a0i g),a43,(b43 E K L M q0 q1 y yl z zk),(5,(.defd .true))],.ready,none,35,E4 W3,E3 W3,E5 W3,5⟩:Ev.Lit1).lit) (bw v 7 eb ec) (a4I 16 (fun _:Unit=>((⟨[],[],9,6,[(3,(.ptr 0 0)),(4,(.ptr 1 0)),(5,(.ptr 2 0)),(7,(.ptr 3 0))],[(a3k E K L M q0 q1 y yl z zk),(a0p P yr),(a0i g),(b0Y K L M P g),(5,(.defd .true)),(b0T K L M P g)],.ready,none,35,E4 W3,E3 W3,E5 W3,5⟩:Ev.Lit1)).lit) (fun _:Unit=>True) (bw v 7 eb ec)):=by
 have hcl_L:=Z3 L
 have hcl_M:=Z4 M
 have hcl_K:=Z4 K
 have hcl_P:=Z3 P
 exact O5 (T':=(⟨[(0,(.yld 6)),(7,(nI0 L.length)),(8,(nI0 (.ofNat 0)))],[],7,6,[(3,(.ptr 0 0)),(4,(.ptr 1 0)),(5,(.ptr 2 0)),(7,(.ptr 3 0))],[(a3k E K L M q0 q1 y yl z zk),(a0p P yr),(a0i g),a43,(5,(.defd .true))],.ready,none,35,E4 W3,E3 W3,E5 W3,5⟩:Ev.Lit1).lit) (by kernel_rfl) (E0 zC0q (Z0) 200 (T':=(⟨[(0,(.yld 6)),(7,(nI0 L.length)),(8,(nI0 (.ofNat 0)))],[],7,6,[(3,(.ptr 0 0)),(4,(.ptr 1 0)),(5,(.ptr 2 0)),(7,(.ptr 3 0))],[(a3k E K L M q0 q1 y yl z zk),(a0p P yr),(a0i g),a43,(5,(.defd .true))],.ready,none,35,E4 W3,E3 W3,E5 W3,5⟩:Ev.Lit1)) (e:=.normal) (ps:=[]) (gH 5 []) (by kernel_rfl) (by kernel_rfl) trivial rfl) (b9X hn hP hm hk hm1)
theorem c4l(hn:1≤L.length∧L.length≤8)(hP:P.length=L.length)(hm:M.length=L.length)(hk:K.length=L.length)(hm1:∀ b,b<L.length → -1000≤Z9 (cI M) (b*1) - Z9 (cI K) (b*1)∧Z9 (cI M) (b*1) - Z9 (cI K) (b*1)≤1000):Y8 zP0q 35 b3P ((b8r K L M P g)) (BaseW.H (bw v 0 eb ec) hs) (U5 zP0q Try.f90 35 ((.slu 0 0 L.length 0)) [(C6 K L M P g)] (bw v 0 eb ec)):=by
 have hcl_L:=Z3 L
 have hcl_M:=Z4 M
 have hcl_K:=Z4 K
 have hcl_P:=Z3 P
 exact Z8 V1 (P4 zC0q (Z0) 200 (T':=⟨[(6,(.slu 0 0 ((a3A K L M P g).length) 0))],[],1,[(0,(C6 K L M P g))]⟩) (e:=.ret) (m:=6) (ps:=[]) [.go,.go] [5] [(.slu 5 0 ((a3A K L M P g).length) 0)] [(C6 K L M P g)] (by kernel_rfl) (by kernel_rfl) trivial rfl rfl (by decide) rfl ⟨S8 rfl,trivial⟩ ⟨⟨by show 0<1;decide,U6 (Y6 (Z1 _))⟩,trivial⟩) (a9 (r:=(.slu 0 0 ((a3A K L M P g).length) 0)) (ys:=[(C6 K L M P g)]) (by (rw [Y9])) (by rfl) (s6 (by kernel_rfl) (by kernel_rfl) rfl (.inr rfl)))
theorem c3s(hn:1≤L.length∧L.length≤8)(hP:P.length=L.length)(hm:M.length=L.length)(hk:K.length=L.length)(hm1:∀ b,b<L.length → -1000≤Z9 (cI M) (b*1) - Z9 (cI K) (b*1)∧Z9 (cI M) (b*1) - Z9 (cI K) (b*1)≤1000):Y8 zP0q 35 W3 ((a7R E K L M P g q0 q1 y yl yr z zk)) (BaseW.H (bw v 0 eb ec) hs) (Hd.AfterB zP0q 35 0 b3P (bw v 0 eb ec) (U5 zP0q Try.f90 35 ((.slu 0 0 L.length 0)) [(C6 K L M P g)] (bw v 0 eb ec))):=by
 have hcl_L:=Z3 L
 have hcl_M:=Z4 M
 have hcl_K:=Z4 K
 have hcl_P:=Z3 P
 refine U9 (T':=(a7R E K L M P g q0 q1 y yl yr z zk)) (by kernel_rfl) (by kernel_rfl) (by kernel_rfl) (by kernel_rfl) ?_
 exact a19 (T1:=(⟨[(0,(.yld 6)),(1,(.ptr 4 0))],[],7,6,[(3,(.ptr 0 0)),(4,(.ptr 1 0)),(5,(.ptr 2 0)),(7,(.ptr 3 0))],[(a3k E K L M q0 q1 y yl z zk),(a0p P yr),(a0i g),a43,(b43 E K L M q0 q1 y yl z zk),(5,(.defd .true))],.ready,none,35,E4 W3,E3 W3,E5 W3,5⟩:Ev.Lit1)) (T2:=(fun _:Unit=>(⟨[],[],9,6,[(3,(.ptr 0 0)),(4,(.ptr 1 0)),(5,(.ptr 2 0)),(7,(.ptr 3 0))],[(a3k E K L M q0 q1 y yl z zk),(a0p P yr),(a0i g),(b0Y K L M P g),(5,(.defd .true)),(b0T K L M P g)],.ready,none,35,E4 W3,E3 W3,E5 W3,5⟩:Ev.Lit1))) (T3:=fun _:Unit=>(b8y K L M P g)) (R:=(fun _:Unit=>True)) (k:=93) (l:=6) (szk:=16) (K:=7) (e:=fun _=>.normal) rfl (by kernel_rfl) Try.func93 (by kernel_rfl) (by kernel_rfl) (by kernel_rfl) (by kernel_rfl) (by kernel_rfl) (fun _ _=>rfl) (fun v eb ec=>c1L hn hP hm hk hm1) (fun _ _=>by kernel_rfl) (fun _ _=>a8V (T:=(b8y K L M P g)) (T':=(b8r K L M P g)) (m:=5) [0,1,2,3,4,8] [(.ptr 3 0)] [(b5M K L M P g),(C6 K L M P g)] rfl (by kernel_rfl) rfl rfl (by decide) (by kernel_rfl) (by kernel_rfl) ⟨V5 rfl,trivial⟩ ⟨⟨by show 3<6;decide,Y1 (Z5 (S8 rfl) (Y2))⟩,⟨by show 5<6;decide,U6 (Y6 (Z1 _))⟩,trivial⟩ ⟨(by show 3≠5;decide),(by show 8≠5;decide),trivial⟩ (Nat.zero_le _) (fun b h=>absurd h (Nat.not_lt_zero b)) (fun hs=>Hd.en_bn (c4l hn hP hm hk hm1)))
theorem c3o(hn:1≤L.length∧L.length≤8)(hP:P.length=L.length)(hm:M.length=L.length)(hk:K.length=L.length)(hm1:∀ b,b<L.length → -1000≤Z9 (cI M) (b*1) - Z9 (cI K) (b*1)∧Z9 (cI M) (b*1) - Z9 (cI K) (b*1)≤1000):Y8 zP0q 35 W3 ((a7R E K L M P g q0 q1 y yl yr z zk)) (BaseW.H (bw v 0 eb ec) hs) (Hd.AfterB zP0q 35 0 b3P (bw v 0 eb ec) (U5 zP0q Try.f90 35 ((.slu 0 0 L.length 0)) [(C6 K L M P g)] (bw v 0 eb ec))):=by
 exact c3s hn hP hm hk hm1
theorem c4I(hn:1≤L.length∧L.length≤8)(hP:P.length=L.length)(hm:M.length=L.length)(hk:K.length=L.length)(hm1:∀ b,b<L.length → -1000≤Z9 (cI M) (b*1) - Z9 (cI K) (b*1)∧Z9 (cI M) (b*1) - Z9 (cI K) (b*1)≤1000):Y8 zP0q 35 b6u ((a7R E K L M P g q0 q1 y yl yr z zk)) (BaseW.H (bw v 0 eb ec) hs) (Hd.AfterN zP0q 35 b3P (bw v 0 eb ec) (U5 zP0q Try.f90 35 ((.slu 0 0 L.length 0)) [(C6 K L M P g)] (bw v 0 eb ec))):=by
 exact Hd.goes_blkA (id:=0) (by kernel_rfl) (by kernel_rfl) (c3o hn hP hm hk hm1)
theorem c3Q(hn:1≤L.length∧L.length≤8)(hP:P.length=L.length)(hm:M.length=L.length)(hk:K.length=L.length)(hm1:∀ b,b<L.length → -1000≤Z9 (cI M) (b*1) - Z9 (cI K) (b*1)∧Z9 (cI M) (b*1) - Z9 (cI K) (b*1)≤1000):Y8 zP0q 35 b6u ((a7R E K L M P g q0 q1 y yl yr z zk)) (BaseW.H (bw v 0 eb ec) hs) (Hd.AfterN zP0q 35 b3P (bw v 0 eb ec) (U5 zP0q Try.f90 35 ((.slu 0 0 L.length 0)) [(C6 K L M P g)] (bw v 0 eb ec))):=by
 exact c4I hn hP hm hk hm1
theorem c2m(hn:1≤L.length∧L.length≤8)(hP:P.length=L.length)(hm:M.length=L.length)(hk:K.length=L.length)(hm1:∀ b,b<L.length → -1000≤Z9 (cI M) (b*1) - Z9 (cI K) (b*1)∧Z9 (cI M) (b*1) - Z9 (cI K) (b*1)≤1000):Y8 zP0q 35 b8f ((b6P E K L M P g q0 q1 y yl yr z zk)) (BaseW.H (bw v 0 eb ec) hs) (Hd.AfterN zP0q 35 b3P (bw v 0 eb ec) (U5 zP0q Try.f90 35 ((.slu 0 0 L.length 0)) [(C6 K L M P g)] (bw v 0 eb ec))):=by
 have hcl_L:=Z3 L
 have hcl_M:=Z4 M
 have hcl_K:=Z4 K
 have hcl_P:=Z3 P
 refine Hd.goes_seqA (by kernel_rfl) ?_
 exact Z8 V9 (Z7 zC0q (Z0) 200 (T':=(a7R E K L M P g q0 q1 y yl yr z zk)) (e:=.normal) (ps:=[]) (gH 5 []) (by kernel_rfl) (by kernel_rfl) trivial rfl) (Hd.en_n (c3Q hn hP hm hk hm1))
theorem c6u(hn:1≤L.length∧L.length≤8)(hP:P.length=L.length)(hm:M.length=L.length)(hk:K.length=L.length)(hm1:∀ b,b<L.length → -1000≤Z9 (cI M) (b*1) - Z9 (cI K) (b*1)∧Z9 (cI M) (b*1) - Z9 (cI K) (b*1)≤1000):Y8 zP0q 35 b9G ((b6P E K L M P g q0 q1 y yl yr z zk)) (BaseW.H (bw v 0 eb ec) hs) (U5 zP0q Try.f90 35 ((.slu 0 0 L.length 0)) [(C6 K L M P g)] (bw v 0 eb ec)):=by
 exact Hd.goes_seqA (by kernel_rfl) (c2m hn hP hm hk hm1)
theorem c69(hn:1≤L.length∧L.length≤8)(hP:P.length=L.length)(hm:M.length=L.length)(hk:K.length=L.length)(hm1:∀ b,b<L.length → -1000≤Z9 (cI M) (b*1) - Z9 (cI K) (b*1)∧Z9 (cI M) (b*1) - Z9 (cI K) (b*1)≤1000):Y8 zP0q 35 c3z ((b8C E K L M P g q0 q1 y yl yr z zk)) (BaseW.H (bw v 0 eb ec) hs) (U5 zP0q Try.f90 35 ((.slu 0 0 L.length 0)) [(C6 K L M P g)] (bw v 0 eb ec)):=by
 have hcl_L:=Z3 L
 have hcl_M:=Z4 M
 have hcl_K:=Z4 K
 have hcl_P:=Z3 P
 refine Hd.goes_seqA (by kernel_rfl) ?_
 exact Z8 V9 (Z7 zC0q (Z0) 200 (T':=(b6P E K L M P g q0 q1 y yl yr z zk)) (e:=.normal) (ps:=[]) [.go] (by kernel_rfl) (by kernel_rfl) trivial rfl) (Hd.en_n (c6u hn hP hm hk hm1))
end
theorem c6G(y:Value)(E:List (Value×List (Int×Int)))(yl:Value)(L:List (Int×Int))(q0 z:Value)(M:List Int)(q1 zk:Value)(K:List Int)(yr:Value)(P:List (Int×Int))(g:Bool)(hn:1≤L.length∧L.length≤8)(hP:P.length=L.length)(hm:M.length=L.length)(hk:K.length=L.length)(hm1:∀ b,b<L.length → -1000≤Z9 (cI M) (b*1) - Z9 (cI K) (b*1)∧Z9 (cI M) (b*1) - Z9 (cI K) (b*1)≤1000)(v:BaseW)(eb:Nat→Option Nat)(ec:Nat→Nat)(hs:List Nat):Y8 zP0q 35 c2P (⟨[(0,(b9f E K L M q0 q1 y yl z zk)),(1,(.xl yr P.length 2 (cR P))),(2,(.v (.bool g)))],[],0,[]⟩) (BaseW.H (bw v 0 eb ec) hs) (U5 zP0q Try.f90 35 ((.slu 0 0 L.length 0)) [(C6 K L M P g)] (bw v 0 eb ec)):=by
 have hcl_L:=Z3 L
 have hcl_M:=Z4 M
 have hcl_K:=Z4 K
 have hcl_P:=Z3 P
 refine Hd.goes_seqA (by kernel_rfl) ?_
 exact Z8 V9 (Z7 zC0q (Z0) 200 (T':=(b8C E K L M P g q0 q1 y yl yr z zk)) (e:=.normal) (ps:=[]) (gH 4 []) (by kernel_rfl) (by kernel_rfl) trivial rfl) (Hd.en_n (c69 hn hP hm hk hm1))
theorem c6v(y:Value)(E:List (Value×List (Int×Int)))(yl:Value)(L:List (Int×Int))(q0 z:Value)(M:List Int)(q1 zk:Value)(K:List Int)(yr:Value)(P:List (Int×Int))(g:Bool)(hn:1≤L.length∧L.length≤8)(hP:P.length=L.length)(hm:M.length=L.length)(hk:K.length=L.length)(hm1:∀ b,b<L.length → -1000≤Z9 (cI M) (b*1) - Z9 (cI K) (b*1)∧Z9 (cI M) (b*1) - Z9 (cI K) (b*1)≤1000):q6 zP0q 90 [(b9f E K L M q0 q1 y yl z zk),(.xl yr P.length 2 (cR P)),(.v (.bool g))] [] ((.slu 0 0 L.length 0)) [(C6 K L M P g)] :=
 I8 35 (by kernel_rfl) Try.func90 (by kernel_rfl) (by kernel_rfl) (by kernel_rfl) (fun v eb ec=>U9 (by kernel_rfl) (by kernel_rfl) (by kernel_rfl) (by kernel_rfl) (c6G y E yl L q0 z M q1 zk K yr P g hn hP hm hk hm1 v eb ec []))
end
end Go.Proofs.Ytegmogadbnfbgaa
set_option maxHeartbeats 4000000
namespace Go.Proofs.Ytegmogadbnfbgaa
open Go Ev
noncomputable section
section
variable (E : List (Value × List (Int × Int))) (L : List (Int × Int)) (y yl : Value)
@[reducible] def a44:Nat×Ev.AB:=(0,(.cells [(.xl (y) (E.length) 1 (Y4 E)),(.xl (yl) (L.length) 2 (cR L))] 25))
@[reducible] def b0x:Ev.Lit:=⟨[(1,(.ptr 0 0)),(3,(nI0 (.ofNat 0)))],[],1,[(a44 E L y yl)]⟩
@[reducible] def a5O:Ev.Lit:=⟨[(1,(.ptr 0 0))],[],1,[(a44 E L y yl)]⟩
end
def gwP(c:List AV)(m n:Nat):Prop:=12<n∨6<m∨∃ i,i<m∧12<R3 c (i*1)
open Classical in
def gwB(c:List AV)(m n:Nat):Bool:=decide (gwP c m n)
theorem gwB_true{c:List AV}{m n:Nat}:gwB c m n=true↔gwP c m n:=@decide_eq_true_iff _ (Classical.propDecidable _)
theorem gwB_false{c:List AV}{m n:Nat}:gwB c m n=false↔¬ gwP c m n:=@decide_eq_false_iff_not _ (Classical.propDecidable _)
theorem a68{c:List AV}{m n:Nat}(h:12<n∨6<m):gwB c m n=true:=gwB_true.2 (h.elim .inl (fun h=>.inr (.inl h)))
theorem b7P{c:List AV}{m n i:Nat}(hi:i<m)(h:12<R3 c (i*1)):gwB c m n=true:=gwB_true.2 (.inr (.inr ⟨i,hi,h⟩))
theorem c1r{c:List AV}{m n:Nat}(h:¬ (12<n∨6<m))(h2:∀ i,i<m→¬ 12<R3 c (i*1)):gwB c m n=false:=gwB_false.2 (fun k=>by
 rcases k with k|k|⟨i,k1,k2⟩
 ·exact h (.inl k)
 ·exact h (.inr k)
 ·exact h2 i k1 k2)
theorem b92{c:List AV}{m n:Nat}(h:¬ gwB c m n=true):m≤6:=by
 rcases Nat.lt_or_ge 6 m with k|k
 ·exact absurd (a68 (.inr k)) h
 ·exact k
noncomputable def b8F:Code:=O0 Try.f13
noncomputable def b96:Code:=L2 b8F
noncomputable def b52:Code:=L2 b96
noncomputable def a9o:Code:=L2 b52
noncomputable def b72:Code:=(f8 b52)
noncomputable def b15:Code:=L2 b72
noncomputable def c1m:Code:=H3 b15
section
variable {E:List (Value×List (Int×Int))} {L:List (Int×Int)} {hs:List Nat} {i:Nat} {w:World} {y yl:Value}
theorem c0h(hqgwg7_1:(X8 12 L.length)=false)(hqgwg7_2:(X8 6 E.length)=false)(h0b:∀ j,j<(E.length)→¬ 12<R3 (Y4 E) (j*1))(hqgwg18_1:(X8 E.length E.length)=false):Y8 zP0q 28 a9o (⟨[],[],1,[]⟩) (BaseW.H w hs) (U0 zP0q Try.f13 28 (.bool (gwB (Y4 E) E.length L.length)) w):=by
 have hcl_L:=Z3 L
 have ghqgwg7_1:=Z6 hqgwg7_1
 have ghqgwg7_2:=Z6 hqgwg7_2
 have ghqgwg18_1:=Z6 hqgwg18_1
 exact Z8 V1 (Z7 zC0q (Z0) 200 (T':=⟨[(2,(.v (.bool .false)))],[],1,[]⟩) (e:=.ret) (ps:=[]) [.go] (by kernel_rfl) (by kernel_rfl) trivial rfl) (Hd.en_eq (r:=(.bool .false)) (by rw [c1r (c:=(Y4 E)) (m:=E.length) (n:=L.length) (by omega) h0b]) (Hd.en_ret (v:=(.v (.bool .false))) (by kernel_rfl) rfl))
theorem b9w(hqgwg7_1:(X8 12 L.length)=false)(hqgwg7_2:(X8 6 E.length)=false)(hi1:i≤E.length)(hi2:∀ j,j<i→¬ 12<R3 (Y4 E) (j*1)):Y8 zP0q 28 c1m (⟨[(1,(.ptr 0 0)),(3,(nI0 i))],[],1,[(a44 E L y yl)]⟩) (BaseW.H w hs) (Hd.StepC zP0q 28 0 (fun i:{i:Nat // i≤E.length∧∀ j,j<i→¬ 12<R3 (Y4 E) (j*1)}=>⟨[(1,(.ptr 0 0)),(3,(nI0 i.1))],[],1,[(a44 E L y yl)]⟩) (fun i:{i:Nat // i≤E.length∧∀ j,j<i→¬ 12<R3 (Y4 E) (j*1)}=>E.length - i.1) a9o w (U0 zP0q Try.f13 28 (.bool (gwB (Y4 E) E.length L.length)) w) (⟨i,hi1,hi2⟩:{i:Nat // i≤E.length∧∀ j,j<i→¬ 12<R3 (Y4 E) (j*1)})):=by
 have hcl_L:=Z3 L
 have ghqgwg7_1:=Z6 hqgwg7_1
 have ghqgwg7_2:=Z6 hqgwg7_2
 rcases zB0q (X8 i E.length) with hqgwg18_1|hqgwg18_1
 ·have ghqgwg18_1:=Y0 hqgwg18_1
  rcases zB0q (X8 12 ((R3 (Y4 E) (i*1):Nat):Int)) with hqgwg18_2|hqgwg18_2
  ·have ghqgwg18_2:=Y0 hqgwg18_2
   exact Z8 V1 (Z7 zC0q (Z0) 200 (T':=⟨[(2,(.v (.bool .true)))],[],1,[]⟩) (e:=.ret) (ps:=[X8 i E.length=true,i<E.length,W2 zP0q (Y4 E) (i*1) 23=some (AV.xl (xlY (Y4 E) (i*1)) (R3 (Y4 E) (i*1)) 2 (V4 (Y4 E) (i*1))),X8 12 ((R3 (Y4 E) (i*1):Nat):Int)=true]) (gH 5 [.b true,.go,.go,.go,.sym,.sym,.go,.go,.b true,.go]) (by kernel_rfl) (by kernel_rfl) ⟨hqgwg18_1,(by omega),(by rw [Nat.mul_one];exact I9 (by omega) 23 (Try.underlying23) rfl),hqgwg18_2,trivial⟩ rfl) (Hd.en_so (by intro h;cases h) (by intro h;cases h) (Hd.en_eq (r:=(.bool .true)) (by rw [b7P (c:=(Y4 E)) (m:=E.length) (n:=L.length) (i:=i) (by omega) (by omega)]) (Hd.en_ret (v:=(.v (.bool .true))) (by kernel_rfl) rfl)))
  ·have ghqgwg18_2:=Z6 hqgwg18_2
   exact Z8 V9 (Z7 zC0q (Z0) 200 (T':=⟨[(1,(.ptr 0 0)),(3,(nI0 (((i+1):Nat):Int)))],[],1,[(a44 E L y yl)]⟩) (e:=.normal) (ps:=[X8 i E.length=true,i<E.length,W2 zP0q (Y4 E) (i*1) 23=some (AV.xl (xlY (Y4 E) (i*1)) (R3 (Y4 E) (i*1)) 2 (V4 (Y4 E) (i*1))),X8 12 ((R3 (Y4 E) (i*1):Nat):Int)=false,K5 IntKind.i64 (((i:Nat):Int)+1)]) (gH 5 [.b true,.go,.go,.go,.sym,.sym,.go,.go,.b false,.go,.go,.go]) (by kernel_rfl) (by kernel_rfl) ⟨hqgwg18_1,(by omega),(by rw [Nat.mul_one];exact I9 (by omega) 23 (Try.underlying23) rfl),hqgwg18_2,(by show -9223372036854775808≤_∧_≤9223372036854775807;constructor<;>omega),trivial⟩ rfl) (Hd.en_on (⟨i+1,by omega,(B3 (q:=fun j=>¬ 12<R3 (Y4 E) (j*1)) hi2 (by omega))⟩) (by show E.length - (i+1)<E.length - i;omega) rfl)
 ·have ghqgwg18_1:=Z6 hqgwg18_1
  obtain rfl:i=E.length:=by omega
  exact Z8 B7 (Z7 zC0q (Z0) 200 (T':=⟨[],[],1,[]⟩) (e:=.exit 0) (ps:=[X8 E.length E.length=false]) (gH 5 [.b false]) (by kernel_rfl) (by kernel_rfl) ⟨hqgwg18_1,trivial⟩ rfl) (Hd.en_sx (c0h hqgwg7_1 hqgwg7_2 hi2 hqgwg18_1))
theorem c0F(hqgwg7_1:(X8 12 L.length)=false)(hqgwg7_2:(X8 6 E.length)=false):Y8 zP0q 28 b15 ((b0x E L y yl)) (BaseW.H w hs) (Hd.AfterN zP0q 28 a9o w (U0 zP0q Try.f13 28 (.bool (gwB (Y4 E) E.length L.length)) w)):=by
 have hcl_L:=Z3 L
 have ghqgwg7_1:=Z6 hqgwg7_1
 have ghqgwg7_2:=Z6 hqgwg7_2
 exact Hd.goes_loopA (id:=0) (by kernel_rfl) (by kernel_rfl) (fun i:{i:Nat // i≤E.length∧∀ j,j<i→¬ 12<R3 (Y4 E) (j*1)}=>⟨[(1,(.ptr 0 0)),(3,(nI0 i.1))],[],1,[(a44 E L y yl)]⟩) (fun i:{i:Nat // i≤E.length∧∀ j,j<i→¬ 12<R3 (Y4 E) (j*1)}=>E.length - i.1) (fun ix_ hs=>b9w hqgwg7_1 hqgwg7_2 ix_.2.1 ix_.2.2) ⟨0,Nat.zero_le _,(fun j hj=>by omega)⟩ hs
theorem c1w(hqgwg7_1:(X8 12 L.length)=false)(hqgwg7_2:(X8 6 E.length)=false):Y8 zP0q 28 b15 ((b0x E L y yl)) (BaseW.H w hs) (Hd.AfterN zP0q 28 a9o w (U0 zP0q Try.f13 28 (.bool (gwB (Y4 E) E.length L.length)) w)):=by
 exact c0F hqgwg7_1 hqgwg7_2
theorem c0O(hqgwg7_1:(X8 12 L.length)=false)(hqgwg7_2:(X8 6 E.length)=false):Y8 zP0q 28 b72 ((a5O E L y yl)) (BaseW.H w hs) (Hd.AfterN zP0q 28 a9o w (U0 zP0q Try.f13 28 (.bool (gwB (Y4 E) E.length L.length)) w)):=by
 have hcl_L:=Z3 L
 have ghqgwg7_1:=Z6 hqgwg7_1
 have ghqgwg7_2:=Z6 hqgwg7_2
 refine Hd.goes_seqA (by kernel_rfl) ?_
 exact Z8 V9 (Z7 zC0q (Z0) 200 (T':=(b0x E L y yl)) (e:=.normal) (ps:=[]) [.go] (by kernel_rfl) (by kernel_rfl) trivial rfl) (Hd.en_n (c1w hqgwg7_1 hqgwg7_2))
theorem c2I(hqgwg7_1:(X8 12 L.length)=false)(hqgwg7_2:(X8 6 E.length)=false):Y8 zP0q 28 b52 ((a5O E L y yl)) (BaseW.H w hs) (U0 zP0q Try.f13 28 (.bool (gwB (Y4 E) E.length L.length)) w):=by
 exact Hd.goes_seqA (by kernel_rfl) (c0O hqgwg7_1 hqgwg7_2)
theorem c4U:Y8 zP0q 28 b96 ((a5O E L y yl)) (BaseW.H w hs) (U0 zP0q Try.f13 28 (.bool (gwB (Y4 E) E.length L.length)) w):=by
 have hcl_L:=Z3 L
 refine Hd.goes_seqA (by kernel_rfl) ?_
 rcases zB0q (X8 12 L.length) with hqgwg7_1|hqgwg7_1
 ·have ghqgwg7_1:=Y0 hqgwg7_1
  exact Z8 V1 (Z7 zC0q (Z0) 200 (T':=⟨[(2,(.v (.bool .true)))],[],1,[]⟩) (e:=.ret) (ps:=[X8 12 L.length=true,true=true,true=true,true=true,true=true]) (gH 5 [.b true,.b true,.b true,.b true,.go,.b true,.go]) (by kernel_rfl) (by kernel_rfl) ⟨hqgwg7_1,rfl,rfl,rfl,rfl,trivial⟩ rfl) (Hd.en_o (by intro h;cases h) (Hd.en_eq (r:=(.bool .true)) (by rw [a68 (c:=(Y4 E)) (m:=E.length) (n:=L.length) (by omega)]) (Hd.en_ret (v:=(.v (.bool .true))) (by kernel_rfl) rfl)))
 ·have ghqgwg7_1:=Z6 hqgwg7_1
  rcases zB0q (X8 6 E.length) with hqgwg7_2|hqgwg7_2
  ·have ghqgwg7_2:=Y0 hqgwg7_2
   exact Z8 V1 (Z7 zC0q (Z0) 200 (T':=⟨[(2,(.v (.bool .true)))],[],1,[]⟩) (e:=.ret) (ps:=[X8 12 L.length=false,false=false,false=false,false=false,X8 6 E.length=true]) (gH 5 [.b false,.go,.b false,.go,.b false,.go,.b false,.go,.go,.b true,.go]) (by kernel_rfl) (by kernel_rfl) ⟨hqgwg7_1,rfl,rfl,rfl,hqgwg7_2,trivial⟩ rfl) (Hd.en_o (by intro h;cases h) (Hd.en_eq (r:=(.bool .true)) (by rw [a68 (c:=(Y4 E)) (m:=E.length) (n:=L.length) (by omega)]) (Hd.en_ret (v:=(.v (.bool .true))) (by kernel_rfl) rfl)))
  ·have ghqgwg7_2:=Z6 hqgwg7_2
   exact Z8 V9 (Z7 zC0q (Z0) 200 (T':=(a5O E L y yl)) (e:=.normal) (ps:=[X8 12 L.length=false,false=false,false=false,false=false,X8 6 E.length=false]) (gH 5 [.b false,.go,.b false,.go,.b false,.go,.b false,.go,.go,.b false]) (by kernel_rfl) (by kernel_rfl) ⟨hqgwg7_1,rfl,rfl,rfl,hqgwg7_2,trivial⟩ rfl) (Hd.en_n (c2I hqgwg7_1 hqgwg7_2))
end
theorem c3q(y:Value)(E:List (Value×List (Int×Int)))(yl:Value)(L:List (Int×Int))(w:World)(hs:List Nat):Y8 zP0q 28 b8F (⟨[(0,(.agg [.xl y E.length 1 (Y4 E),.xl yl L.length 2 (cR L)]))],[],0,[]⟩) (BaseW.H w hs) (U0 zP0q Try.f13 28 (.bool (gwB (Y4 E) E.length L.length)) w):=by
 have hcl_L:=Z3 L
 refine Hd.goes_seqA (by kernel_rfl) ?_
 exact Z8 V9 (Z7 zC0q (Z0) 200 (T':=(a5O E L y yl)) (e:=.normal) (ps:=[]) [.go,.go] (by kernel_rfl) (by kernel_rfl) trivial rfl) (Hd.en_n (c4U))
theorem c4Q(y:Value)(E:List (Value×List (Int×Int)))(yl:Value)(L:List (Int×Int)):GivesA zP0q 13 [(.agg [.xl y E.length 1 (Y4 E),.xl yl L.length 2 (cR L)])] (.bool (gwB (Y4 E) E.length L.length)) :=
 U3 28 Try.func13 (by kernel_rfl) (by kernel_rfl) (by kernel_rfl) (fun w=>U9 (by kernel_rfl) (by kernel_rfl) (by kernel_rfl) (by kernel_rfl) (c3q y E yl L w []))
end
end Go.Proofs.Ytegmogadbnfbgaa
namespace Go.Proofs.Ytegmogadbnfbgaa
open Go Ev
noncomputable section
def y7(c d:List AV)(n:Nat):Prop:=∀ b,b<n → -1000≤Z9 c (b*1) - Z9 d (b*1)∧Z9 c (b*1) - Z9 d (b*1)≤1000
def c4C:List Yw→Option (t6×List Prop):=fun vs =>
 match vs with
 |[.str [.ext a0,.ext a1,.fnc f0 cc],.one (.ext ar),.one (.ext ag)]=>match a0,a1,f0,cc with
  |.xl y m k1 cE,.xl yl n k2 cL,.func f,[.xl z r k5 cM,.xl zk s k6 cK]=>match ar,ag,Nat.beq f 82 with
   |.xl yr q kp cP,.v (.bool g),true=>some (.blk (fun i=>.slu i 0 n 0) (.row (cI (tI (O3 cP (V2 cM cK n) g) n)) 2 1),[S9 k1 cE m,X9 k2 n cL,N8 k5 r cM,N8 k6 s cK,X9 kp q cP,1≤n∧n≤8,q=n,r=n,s=n,y7 cM cK n])
   |_,_,_=>none
  |_,_,_,_=>none
 |_=>none
def c5X:O2:=l4 90 [.str [.ext,.ext,.fnc],.one .ext,.one .ext] c4C
theorem a4b:Known zP0q (clsO c5X):=z9 (fun vs r ps h hp=>by
 unfold c4C at h
 split at h
 ·split at h
  ·split at h
   ·rename_i e1
    cases h
    obtain ⟨⟨rfl,E,rfl,rfl⟩,⟨rfl,L,rfl,rfl⟩,⟨rfl,M,rfl,rfl⟩,⟨rfl,K,rfl,rfl⟩,⟨rfl,P,rfl,rfl⟩,h1,h2,h3,h4,h5,-⟩:=hp
    rw [Nat.eq_of_beq_eq_true e1]
    refine ⟨⟨⟨P6 (J7 E),P6 (T9 (W6 L)),⟨P6 (T9 (Z1 M)),P6 (T9 (Z1 K)),trivial⟩,trivial⟩,P6 (T9 (W6 P)),a3i _,trivial⟩,⟨[[[],[],[undef,undef]],[[]],[[]]],⟨trivial,trivial,rfl,trivial⟩,trivial,trivial,trivial⟩,fun ys hy=>?_⟩
    match ys,hy with
    |[[x0,x1,[q0,q1]],zs1,zs2],_=>exact a42 (c6v _ E _ L q0 _ M q1 _ K _ P _ h1 h2 h3 h4 h5) (one_slu _ (Z1 _))
   ·cases h
  ·cases h
 ·cases h)
theorem c1C(y:Value)(E:List (Value×List (Int×Int)))(yl:Value)(L:List (Int×Int))(u v0:Value)(X0:List Int)(v1:Value)(X1:List Int)(v2:Value)(X2:List Int)(ul:Value)(Y:List Int)(q0 z:Value)(M:List Int)(q1 zk:Value)(K:List Int)(h8:L.length≤8)(h0:X0.length=L.length)(h1:X1.length=L.length)(h2:X2.length=L.length)(h3:Y.length=L.length)(h4:M.length=L.length)(h5:K.length=L.length)
  (m0:∀ b,b<L.length→0≤Z9 (cI X0) (b*1)∧Z9 (cI X0) (b*1)≤100) (m1:∀ b,b<L.length→0≤Z9 (cI X1) (b*1)∧Z9 (cI X1) (b*1)≤100) (m2:∀ b,b<L.length→0≤Z9 (cI X2) (b*1)∧Z9 (cI X2) (b*1)≤100) (m3:∀ b,b<L.length→0≤Z9 (cI Y) (b*1)∧Z9 (cI Y) (b*1)≤100) (m4:y7 (cI M) (cI K) L.length) :
  GivesA zP0q 54 [.agg [.xl y E.length 1 (Y4 E),.xl yl L.length 2 (cR L),.fn (.func 82) [] [.xp q0 1 1 [.xl z M.length 1 (cI M)] 0,.xp q1 1 1 [.xl zk K.length 1 (cI K)] 0]],.agg [.xl u 3 1 [.xl v0 X0.length 1 (cI X0),.xl v1 X1.length 1 (cI X1),.xl v2 X2.length 1 (cI X2)],.xl ul Y.length 1 (cI Y)]] (.agg #[.int .i64 (W4 (Q4 (cI X0) (cI X1) (cI X2) (cI Y) (V2 (cI M) (cI K) L.length) 0) L.length),.int .i64 (W4 (Q4 (cI X0) (cI X1) (cI X2) (cI Y) (V2 (cI M) (cI K) L.length) 1) L.length),.int .i64 (W4 (Q4 (cI X0) (cI X1) (cI X2) (cI Y) (V2 (cI M) (cI K) L.length) 2) L.length)]):=by
 have hg:=c6C y E yl L u [(v0,X0),(v1,X1),(v2,X2)] ul Y q0 z M q1 zk K h8 rfl (fun i hi=>by match i,hi with|0,_=>exact h0|1,_=>exact h1|2,_=>exact h2) h3 h4 h5 (fun i hi b hb=>by match i,hi with|0,_=>exact m0 b hb|1,_=>exact m1 b hb|2,_=>exact m2 b hb) m3 m4
 rw [a7f (by decide),a7f (by decide),a7f (by decide)] at hg
 exact hg
def b1p(c0 c1 c2 cY:List AV)(n:Nat):Prop:=(∀ b,b<n→0≤Z9 c0 (b*1)∧Z9 c0 (b*1)≤100)∧(∀ b,b<n→0≤Z9 c1 (b*1)∧Z9 c1 (b*1)≤100)∧(∀ b,b<n→0≤Z9 c2 (b*1)∧Z9 c2 (b*1)≤100)∧(∀ b,b<n→0≤Z9 cY (b*1)∧Z9 cY (b*1)≤100)
def c27:List Yw→Option (t6×List Prop):=fun vs =>
 match vs with
 |[.str [.ext a0,.ext a1,.fnc f0 cc],.str [.lls mx k3 rows,.lst nx k4 cY]]=>match a0,a1,f0,cc with
  |.xl y m k1 cE,.xl yl n k2 cL,.func f,[.xl z r k5 cM,.xl zk s k6 cK]=>match Nat.beq f 82,rows with
   |true,[(n0,c0),(n1,c1),(n2,c2)]=>some (.val (.agg [.v (.int .i64 (W4 (Q4 c0 c1 c2 cY (V2 cM cK n) 0) n)),.v (.int .i64 (W4 (Q4 c0 c1 c2 cY (V2 cM cK n) 1) n)),.v (.int .i64 (W4 (Q4 c0 c1 c2 cY (V2 cM cK n) 2) n))]),[S9 k1 cE m,X9 k2 n cL,N8 k5 r cM,N8 k6 s cK,n≤8,O6 k3 n0 c0,O6 k3 n1 c1,O6 k3 n2 c2,O6 k4 nx cY,n0=n,n1=n,n2=n,nx=n,r=n,s=n,q8 mx,b1p c0 c1 c2 cY n,y7 cM cK n])
   |_,_=>none
  |_,_,_,_=>none
 |_=>none
def c70:O2:=l4 54 [.str [.ext,.ext,.fnc],.str [.lls 0,.lst 0]] c27
theorem a3y:Known zP0q (clsO c70):=z9 (fun vs r ps h hp=>by
 unfold c27 at h
 split at h
 ·split at h
  ·split at h
   ·rename_i e1
    cases h
    obtain ⟨⟨rfl,E,rfl,rfl⟩,⟨rfl,L,rfl,rfl⟩,⟨rfl,M,rfl,rfl⟩,⟨rfl,K,rfl,rfl⟩,h8,⟨rfl,X0,rfl,rfl⟩,⟨-,X1,rfl,rfl⟩,⟨-,X2,rfl,rfl⟩,⟨rfl,Y,rfl,rfl⟩,h0,h1,h2,h3,h4,h5,rfl,⟨m0,m1,m2,m3⟩,m4,-⟩:=hp
    rw [Nat.eq_of_beq_eq_true e1]
    refine ⟨⟨⟨P6 (J7 E),P6 (T9 (W6 L)),⟨P6 (T9 (Z1 M)),P6 (T9 (Z1 K)),trivial⟩,trivial⟩,⟨⟨⟨_,Z1 X0⟩,⟨_,Z1 X1⟩,⟨_,Z1 X2⟩,trivial⟩,⟨_,Z1 Y⟩,trivial⟩,trivial⟩,⟨[[[],[],[undef,undef]],[[undef,undef,undef,undef],[undef]]],⟨trivial,trivial,rfl,trivial⟩,⟨rfl,trivial,trivial⟩,trivial⟩,fun ys hy=>?_⟩
    match ys,hy with
    |[[x0,x1,[q0,q1]],[[u,v0,v1,v2],us]],_ =>
     refine ⟨_,rfl,?_⟩
     exact c1C _ E _ L u v0 X0 v1 X1 v2 X2 _ Y q0 _ M q1 _ K h8 h0 h1 h2 h3 h4 h5 m0 m1 m2 m3 m4
   ·cases h
  ·cases h
 ·cases h)
def lbS:List AV→List AB→Option ((AV×List AB)×List Prop):=fun args xs =>
 match args,xs with
 |[.agg [.xl y m k1 cE,.xl yl n k2 cL],.xl z r k5 cM,.xl zk s k6 cK],[]=>some ((.agg [.xl y m k1 cE,.xl yl n k2 cL,.fn (.func 82) [] [.ptr 0 0,.ptr 1 0]],[.cells [.xl z r k5 cM] 114,.cells [.xl zk s k6 cK] 114]),[S9 k1 cE m,X9 k2 n cL,N8 k5 r cM,N8 k6 s cK])
 |_,_=>none
def lbO:O2:=a9E 64 lbS
theorem a5D:Known zP0q (clsO lbO):=a38 (fun args xs r ys ps h hp=>by
 unfold lbS at h
 split at h
 ·cases h
  obtain ⟨⟨rfl,E,rfl,rfl⟩,⟨rfl,L,rfl,rfl⟩,⟨rfl,M,rfl,rfl⟩,⟨rfl,K,rfl,rfl⟩,-⟩:=hp
  refine ⟨fun x hx=>absurd hx List.not_mem_nil,fun x hx=>?_,c6o _ E _ L _ M _ K⟩
  rcases List.mem_cons.1 hx with rfl|hx
  ·exact A3 (X5 (Y3 (Z1 M)))
  ·rw [List.mem_singleton.1 hx]
   exact A3 (X5 (Y3 (Z1 K)))
 ·cases h)
def c8(e1 e2 e3:Int):Int:=if e1=0 then (if e2=0 then e3 else e2) else e1
theorem b8H{e1 e2 e3:Int}(h:¬ e1=0):c8 e1 e2 e3=e1:=if_neg h
theorem b51{e1 e2 e3:Int}(h:e1=0)(h2:¬ e2=0):c8 e1 e2 e3=e2:=by
 unfold c8;rw [if_pos h,if_neg h2]
theorem a4J{e1 e2 e3:Int}(h:e1=0)(h2:e2=0):c8 e1 e2 e3=e3:=by
 unfold c8;rw [if_pos h,if_pos h2]
theorem a0V{e1 e2 e3:Int}(h:c8 e1 e2 e3=0):e1=0∧e2=0∧e3=0:=by
 by_cases h1:e1=0
 ·by_cases h2:e2=0
  ·rw [a4J h1 h2] at h;exact ⟨h1,h2,h⟩
  ·rw [b51 h1 h2] at h;exact absurd h h2
 ·rw [b8H h1] at h;exact absurd h h1
theorem F6{M K:List Int}{n:Nat}(h1:N7 n (cI M) M.length=0)(h2:N7 n (cI K) K.length=0):y7 (cI M) (cI K) n:=fun b hb=>by
 have a1:=afB_true.1 (U1 h1).2 b (by have:=(U1 h1).1;omega)
 have a2:=afB_true.1 (U1 h2).2 b (by have:=(U1 h2).1;omega)
 omega
theorem a5k{c0 c1 c2 cL d:List AV}{g:Bool}{n:Nat}(h0:∀ b,b<n→Y7 100 c0 b)(h1:∀ b,b<n→Y7 100 c1 b)(h2:∀ b,b<n→Y7 100 c2 b)(h3:∀ b,b<n→Y7 100 cL b):b1p (cI (tI (O3 c0 d g) n)) (cI (tI (O3 c1 d g) n)) (cI (tI (O3 c2 d g) n)) (cI (tI (O3 cL d g) n)) n:=by
 refine ⟨fun b hb=>?_,fun b hb=>?_,fun b hb=>?_,fun b hb=>?_⟩
 ·rw [Nat.mul_one,l5 hb];exact a8d (h0 b hb)
 ·rw [Nat.mul_one,l5 hb];exact a8d (h1 b hb)
 ·rw [Nat.mul_one,l5 hb];exact a8d (h2 b hb)
 ·rw [Nat.mul_one,l5 hb];exact a8d (h3 b hb)
noncomputable def c5Q:Code:=O0 Try.f51
set_option maxHeartbeats 2000000 in
theorem c6K(y:Value)(E:List (Value×List (Int×Int)))(yl:Value)(L:List (Int×Int))(u z:Value)(M:List Int)(zk:Value)(K:List Int)(hE3:E.length≤1000)(hM3:M.length≤1000)(hK3:K.length≤1000)(w:World)(hs:List Nat):Y8 zP0q 29 c5Q (⟨[(0,(.agg [.xl y E.length 1 (Y4 E),.xl yl L.length 2 (cR L)])),(1,(.xl u 2 1 [.xl z M.length 1 (cI M),.xl zk K.length 1 (cI K)]))],[],0,[]⟩) (BaseW.H w hs) (U0 zP0q Try.f51 29 (.int .i64 (c8 (N9 (Y4 E) E.length (cR L) L.length) (N7 L.length (cI M) M.length) (N7 L.length (cI K) K.length))) w):=by
 have hcl_L:=Z3 L
 have hcl_M:=Z4 M
 have hcl_K:=Z4 K
 rcases zB0q (P8 (N9 (Y4 E) E.length (cR L) L.length) 0) with hqcx3_1|hqcx3_1
 ·have ghqcx3_1:=X6 hqcx3_1
  rcases zB0q (P8 M.length L.length) with hqcx3_2|hqcx3_2
  ·have ghqcx3_2:=X6 hqcx3_2
   rcases zB0q (afB 0 1000 (cI M) M.length) with hqcx3_3|hqcx3_3
   ·rcases zB0q (P8 K.length L.length) with hqcx3_4|hqcx3_4
    ·have ghqcx3_4:=X6 hqcx3_4
     rcases zB0q (afB 0 1000 (cI K) K.length) with hqcx3_5|hqcx3_5
     ·exact Z8 V1 (Z7 zC0q (X4 s5 r6) 200 (T':=⟨[(4,(nI0 (.ofNat 0)))],[],1,[]⟩) (e:=.ret) (ps:=[S9 1 (Y4 E) E.length,X9 2 L.length (cR L),E.length≤1000,(!P8 (N9 (Y4 E) E.length (cR L) L.length) 0)=false,X8 0 2=true,(!P8 M.length L.length)=false,N8 1 M.length (cI M),M.length≤1000,(!afB 0 1000 (cI M) M.length)=false,K5 IntKind.i64 (0+1),X8 (0+1) 2=true,(!P8 K.length L.length)=false,N8 1 K.length (cI K),K.length≤1000,(!afB 0 1000 (cI K) K.length)=false,K5 IntKind.i64 (0+1+1),X8 (0+1+1) 2=false]) (gH 6 ([.b false]++gH 4 ([.b true]++gH 9 ([.b false,.go,.go,.b false,.go,.go,.go,.b true]++gH 9 [.b false,.go,.go,.b false,.go,.go,.go,.b false,.go])))) (by kernel_rfl) (by kernel_rfl) ⟨⟨rfl,E,rfl,rfl⟩,⟨rfl,L,rfl,rfl⟩,hE3,(by rw [hqcx3_1];rfl),rfl,(by rw [hqcx3_2];rfl),⟨rfl,M,rfl,rfl⟩,(by omega),(by rw [hqcx3_3];rfl),(by show -9223372036854775808≤(_:Int)∧(_:Int)≤9223372036854775807;constructor<;>decide),rfl,(by rw [hqcx3_4];rfl),⟨rfl,K,rfl,rfl⟩,(by omega),(by rw [hqcx3_5];rfl),(by show -9223372036854775808≤(_:Int)∧(_:Int)≤9223372036854775807;constructor<;>decide),rfl,trivial⟩ rfl) (Hd.en_eq (r:=(.int .i64 0)) (by (rw [a4J (X6 hqcx3_1) (a3R (by have h9:=X6 hqcx3_2;omega) hqcx3_3),(a3R (by have h9:=X6 hqcx3_4;omega) hqcx3_5)])) (Hd.en_ret (v:=(nI0 (.ofNat 0))) (by kernel_rfl) rfl))
     ·exact Z8 V1 (Z7 zC0q (X4 s5 r6) 200 (T':=⟨[(4,(nI0 (.ofNat 2)))],[],1,[]⟩) (e:=.ret) (ps:=[S9 1 (Y4 E) E.length,X9 2 L.length (cR L),E.length≤1000,(!P8 (N9 (Y4 E) E.length (cR L) L.length) 0)=false,X8 0 2=true,(!P8 M.length L.length)=false,N8 1 M.length (cI M),M.length≤1000,(!afB 0 1000 (cI M) M.length)=false,K5 IntKind.i64 (0+1),X8 (0+1) 2=true,(!P8 K.length L.length)=false,N8 1 K.length (cI K),K.length≤1000,(!afB 0 1000 (cI K) K.length)=true]) (gH 6 ([.b false]++gH 4 ([.b true]++gH 9 ([.b false,.go,.go,.b false,.go,.go,.go,.b true]++gH 9 [.b false,.go,.go,.b true,.go])))) (by kernel_rfl) (by kernel_rfl) ⟨⟨rfl,E,rfl,rfl⟩,⟨rfl,L,rfl,rfl⟩,hE3,(by rw [hqcx3_1];rfl),rfl,(by rw [hqcx3_2];rfl),⟨rfl,M,rfl,rfl⟩,(by omega),(by rw [hqcx3_3];rfl),(by show -9223372036854775808≤(_:Int)∧(_:Int)≤9223372036854775807;constructor<;>decide),rfl,(by rw [hqcx3_4];rfl),⟨rfl,K,rfl,rfl⟩,(by omega),(by rw [hqcx3_5];rfl),trivial⟩ rfl) (Hd.en_eq (r:=(.int .i64 2)) (by (rw [a4J (X6 hqcx3_1) (a3R (by have h9:=X6 hqcx3_2;omega) hqcx3_3),a35 (n:=L.length) (d:=cI K) (k:=K.length) (by have h9:=X6 hqcx3_4;omega) (by rw [hqcx3_5];decide)])) (Hd.en_ret (v:=(nI0 (.ofNat 2))) (by kernel_rfl) rfl))
    ·have ghqcx3_4:=W5 hqcx3_4
     exact Z8 V1 (Z7 zC0q (X4 s5 r6) 200 (T':=⟨[(4,(nI0 (.ofNat 15)))],[],1,[]⟩) (e:=.ret) (ps:=[S9 1 (Y4 E) E.length,X9 2 L.length (cR L),E.length≤1000,(!P8 (N9 (Y4 E) E.length (cR L) L.length) 0)=false,X8 0 2=true,(!P8 M.length L.length)=false,N8 1 M.length (cI M),M.length≤1000,(!afB 0 1000 (cI M) M.length)=false,K5 IntKind.i64 (0+1),X8 (0+1) 2=true,(!P8 K.length L.length)=true]) (gH 6 ([.b false]++gH 4 ([.b true]++gH 9 ([.b false,.go,.go,.b false,.go,.go,.go,.b true]++gH 9 [.b true,.go])))) (by kernel_rfl) (by kernel_rfl) ⟨⟨rfl,E,rfl,rfl⟩,⟨rfl,L,rfl,rfl⟩,hE3,(by rw [hqcx3_1];rfl),rfl,(by rw [hqcx3_2];rfl),⟨rfl,M,rfl,rfl⟩,(by omega),(by rw [hqcx3_3];rfl),(by show -9223372036854775808≤(_:Int)∧(_:Int)≤9223372036854775807;constructor<;>decide),rfl,(by rw [hqcx3_4];rfl),trivial⟩ rfl) (Hd.en_eq (r:=(.int .i64 15)) (by (rw [a4J (X6 hqcx3_1) (a3R (by have h9:=X6 hqcx3_2;omega) hqcx3_3),a4W (n:=L.length) (d:=cI K) (k:=K.length) (by have h9:=W5 hqcx3_4;omega)])) (Hd.en_ret (v:=(nI0 (.ofNat 15))) (by kernel_rfl) rfl))
   ·exact Z8 V1 (Z7 zC0q (X4 s5 r6) 200 (T':=⟨[(4,(nI0 (.ofNat 2)))],[],1,[]⟩) (e:=.ret) (ps:=[S9 1 (Y4 E) E.length,X9 2 L.length (cR L),E.length≤1000,(!P8 (N9 (Y4 E) E.length (cR L) L.length) 0)=false,X8 0 2=true,(!P8 M.length L.length)=false,N8 1 M.length (cI M),M.length≤1000,(!afB 0 1000 (cI M) M.length)=true]) (gH 6 ([.b false]++gH 4 ([.b true]++gH 9 [.b false,.go,.go,.b true,.go]))) (by kernel_rfl) (by kernel_rfl) ⟨⟨rfl,E,rfl,rfl⟩,⟨rfl,L,rfl,rfl⟩,hE3,(by rw [hqcx3_1];rfl),rfl,(by rw [hqcx3_2];rfl),⟨rfl,M,rfl,rfl⟩,(by omega),(by rw [hqcx3_3];rfl),trivial⟩ rfl) (Hd.en_eq (r:=(.int .i64 2)) (by (rw [b51 (X6 hqcx3_1) (by rw [a35 (n:=L.length) (d:=cI M) (k:=M.length) (by have h9:=X6 hqcx3_2;omega) (by rw [hqcx3_3];decide)];decide),a35 (n:=L.length) (d:=cI M) (k:=M.length) (by have h9:=X6 hqcx3_2;omega) (by rw [hqcx3_3];decide)])) (Hd.en_ret (v:=(nI0 (.ofNat 2))) (by kernel_rfl) rfl))
  ·have ghqcx3_2:=W5 hqcx3_2
   exact Z8 V1 (Z7 zC0q (X4 s5 r6) 200 (T':=⟨[(4,(nI0 (.ofNat 15)))],[],1,[]⟩) (e:=.ret) (ps:=[S9 1 (Y4 E) E.length,X9 2 L.length (cR L),E.length≤1000,(!P8 (N9 (Y4 E) E.length (cR L) L.length) 0)=false,X8 0 2=true,(!P8 M.length L.length)=true]) (gH 6 ([.b false]++gH 4 ([.b true]++gH 9 [.b true,.go]))) (by kernel_rfl) (by kernel_rfl) ⟨⟨rfl,E,rfl,rfl⟩,⟨rfl,L,rfl,rfl⟩,hE3,(by rw [hqcx3_1];rfl),rfl,(by rw [hqcx3_2];rfl),trivial⟩ rfl) (Hd.en_eq (r:=(.int .i64 15)) (by (rw [b51 (X6 hqcx3_1) (by rw [a4W (n:=L.length) (d:=cI M) (k:=M.length) (by have h9:=W5 hqcx3_2;omega)];decide),a4W (n:=L.length) (d:=cI M) (k:=M.length) (by have h9:=W5 hqcx3_2;omega)])) (Hd.en_ret (v:=(nI0 (.ofNat 15))) (by kernel_rfl) rfl))
 ·have ghqcx3_1:=W5 hqcx3_1
  exact Z8 V1 (Z7 zC0q (X4 s5 r6) 200 (T':=⟨[(4,(nI0 (N9 (Y4 E) E.length (cR L) L.length)))],[],1,[]⟩) (e:=.ret) (ps:=[S9 1 (Y4 E) E.length,X9 2 L.length (cR L),E.length≤1000,(!P8 (N9 (Y4 E) E.length (cR L) L.length) 0)=true]) (gH 6 [.b true,.go,.go]) (by kernel_rfl) (by kernel_rfl) ⟨⟨rfl,E,rfl,rfl⟩,⟨rfl,L,rfl,rfl⟩,hE3,(by rw [hqcx3_1];rfl),trivial⟩ rfl) (Hd.en_eq (r:=(.int .i64 (N9 (Y4 E) E.length (cR L) L.length))) (by (rw [b8H (W5 hqcx3_1)])) (Hd.en_ret (v:=(nI0 (N9 (Y4 E) E.length (cR L) L.length))) (by kernel_rfl) rfl))
theorem c2n(y:Value)(E:List (Value×List (Int×Int)))(yl:Value)(L:List (Int×Int))(u z:Value)(M:List Int)(zk:Value)(K:List Int)(hE3:E.length≤1000)(hM3:M.length≤1000)(hK3:K.length≤1000):GivesA zP0q 51 [(.agg [.xl y E.length 1 (Y4 E),.xl yl L.length 2 (cR L)]),(.xl u 2 1 [.xl z M.length 1 (cI M),.xl zk K.length 1 (cI K)])] (.int .i64 (c8 (N9 (Y4 E) E.length (cR L) L.length) (N7 L.length (cI M) M.length) (N7 L.length (cI K) K.length))) :=
 U3 29 Try.func51 (by kernel_rfl) (by kernel_rfl) (by kernel_rfl) (fun w=>U9 (by kernel_rfl) (by kernel_rfl) (by kernel_rfl) (by kernel_rfl) (c6K y E yl L u z M zk K hE3 hM3 hK3 w []))
def b75(q:Nat):Prop:=q=2
def c4i:List Yw→Option (t6×List Prop):=fun vs =>
 match vs with
 |[.one (.ext a),.one (.lls q k rows)]=>match a,rows with
  |.agg [.xl y m k1 cE,.xl yl n k2 cL],[(r,cM),(s,cK)]=>some (.val (.v (.int .i64 (c8 (N9 cE m cL n) (N7 n cM r) (N7 n cK s)))),[S9 k1 cE m,X9 k2 n cL,N8 k r cM,N8 k s cK,b75 q,m≤1000,r≤1000,s≤1000,¬ c8 (N9 cE m cL n) (N7 n cM r) (N7 n cK s)=0])
  |_,_=>none
 |_=>none
def c6h:O2:=l4 51 [.one .ext,.one (.lls 0)] c4i
theorem c24:Known zP0q (clsO c6h):=z9 (fun vs r ps h hp=>by
 unfold c4i at h
 split at h
 ·split at h
  ·cases h
   obtain ⟨⟨rfl,E,rfl,rfl⟩,⟨rfl,L,rfl,rfl⟩,⟨rfl,M,rfl,rfl⟩,⟨-,K,rfl,rfl⟩,rfl,h1,h2,h3,h4,-⟩:=hp
   rename_i y yl
   refine ⟨⟨(m9 (W0 (P6 (J7 E)) (W0 (P6 (T9 (W6 L))) P7))),⟨⟨_,Z1 M⟩,⟨_,Z1 K⟩,trivial⟩,trivial⟩,⟨[[[]],[[undef,undef,undef]]],⟨trivial,rfl,trivial⟩⟩,fun ys hy=>?_⟩
   match ys,hy with
   |[zs,[u,w0,w1]::us],_ =>
    refine ⟨_,rfl,?_⟩
    have hg:=c2n y E yl L u w0 M w1 K h1 h2 h3
    exact hg
  ·cases h
 ·cases h)
def c3P:List Yw→Option (t6×List Prop):=fun vs =>
 match vs with
 |[.one (.ext a),.one (.lls q k rows)]=>match a,rows with
  |.agg [.xl y m k1 cE,.xl yl n k2 cL],[(r,cM),(s,cK)]=>some (.val (.v (.int .i64 (0))),[S9 k1 cE m,X9 k2 n cL,N8 k r cM,N8 k s cK,b75 q,m≤1000,r≤1000,s≤1000,c8 (N9 cE m cL n) (N7 n cM r) (N7 n cK s)=0])
  |_,_=>none
 |_=>none
def c6b:O2:=l4 51 [.one .ext,.one (.lls 0)] c3P
theorem a41:Known zP0q (clsO c6b):=z9 (fun vs r ps h hp=>by
 unfold c3P at h
 split at h
 ·split at h
  ·cases h
   obtain ⟨⟨rfl,E,rfl,rfl⟩,⟨rfl,L,rfl,rfl⟩,⟨rfl,M,rfl,rfl⟩,⟨-,K,rfl,rfl⟩,rfl,h1,h2,h3,h4,-⟩:=hp
   rename_i y yl
   refine ⟨⟨(m9 (W0 (P6 (J7 E)) (W0 (P6 (T9 (W6 L))) P7))),⟨⟨_,Z1 M⟩,⟨_,Z1 K⟩,trivial⟩,trivial⟩,⟨[[[]],[[undef,undef,undef]]],⟨trivial,rfl,trivial⟩⟩,fun ys hy=>?_⟩
   match ys,hy with
   |[zs,[u,w0,w1]::us],_ =>
    refine ⟨_,rfl,?_⟩
    have hg:=c2n y E yl L u w0 M w1 K h1 h2 h3
    rw [h4] at hg;exact hg
  ·cases h
 ·cases h)
end
end Go.Proofs.Ytegmogadbnfbgaa
namespace Go.Proofs.Ytegmogadbnfbgaa
open Go Ev
noncomputable section
section
variable (K : List Int) (L : List (Int × Int)) (M : List Int) (P0 P1 P2 : List (Int × Int)) (v0 v1 v2 : Value)
@[reducible] def a3a:=(cI (tI (O3 (cR P0) (V2 (cI M) (cI K) L.length) false) L.length))
@[reducible] def a2Z:=(cI (tI (O3 (cR P1) (V2 (cI M) (cI K) L.length) false) L.length))
@[reducible] def a2I:=(cI (tI (O3 (cR P2) (V2 (cI M) (cI K) L.length) false) L.length))
@[reducible] def a0h:=(cI (tI (O3 (cR L) (V2 (cI M) (cI K) L.length) false) L.length))
@[reducible] def b3Y:=(P8 (W4 (Q4 (List.take (L.length*(0+1)) (List.drop 0 (a3a K L M P0))) (List.take (L.length*(0+1)) (List.drop 0 (a2Z K L M P1))) (List.take (L.length*(0+1)) (List.drop 0 (a2I K L M P2))) (List.take (L.length*(0+1)) (List.drop 0 (a0h K L M))) (V2 (cI M) (cI K) L.length) 0) L.length) 0&&(P8 (W4 (Q4 (List.take (L.length*(0+1)) (List.drop 0 (a3a K L M P0))) (List.take (L.length*(0+1)) (List.drop 0 (a2Z K L M P1))) (List.take (L.length*(0+1)) (List.drop 0 (a2I K L M P2))) (List.take (L.length*(0+1)) (List.drop 0 (a0h K L M))) (V2 (cI M) (cI K) L.length) 1) L.length) 0&&(P8 (W4 (Q4 (List.take (L.length*(0+1)) (List.drop 0 (a3a K L M P0))) (List.take (L.length*(0+1)) (List.drop 0 (a2Z K L M P1))) (List.take (L.length*(0+1)) (List.drop 0 (a2I K L M P2))) (List.take (L.length*(0+1)) (List.drop 0 (a0h K L M))) (V2 (cI M) (cI K) L.length) 2) L.length) 0&&true)))
@[reducible] def o6:=(cI (tI (O3 (cR P0) (V2 (cI M) (cI K) L.length) true) L.length))
@[reducible] def a0I:=(cI (tI (O3 (cR P1) (V2 (cI M) (cI K) L.length) true) L.length))
@[reducible] def a0K:=(cI (tI (O3 (cR P2) (V2 (cI M) (cI K) L.length) true) L.length))
@[reducible] def o7:=(cI (tI (O3 (cR L) (V2 (cI M) (cI K) L.length) true) L.length))
@[reducible] def b2Q:=(P8 (W4 (Q4 (List.take (L.length*(0+1)) (List.drop 0 (o6 K L M P0))) (List.take (L.length*(0+1)) (List.drop 0 (a0I K L M P1))) (List.take (L.length*(0+1)) (List.drop 0 (a0K K L M P2))) (List.take (L.length*(0+1)) (List.drop 0 (o7 K L M))) (V2 (cI M) (cI K) L.length) 0) L.length) 0&&(P8 (W4 (Q4 (List.take (L.length*(0+1)) (List.drop 0 (o6 K L M P0))) (List.take (L.length*(0+1)) (List.drop 0 (a0I K L M P1))) (List.take (L.length*(0+1)) (List.drop 0 (a0K K L M P2))) (List.take (L.length*(0+1)) (List.drop 0 (o7 K L M))) (V2 (cI M) (cI K) L.length) 1) L.length) 0&&(P8 (W4 (Q4 (List.take (L.length*(0+1)) (List.drop 0 (o6 K L M P0))) (List.take (L.length*(0+1)) (List.drop 0 (a0I K L M P1))) (List.take (L.length*(0+1)) (List.drop 0 (a0K K L M P2))) (List.take (L.length*(0+1)) (List.drop 0 (o7 K L M))) (V2 (cI M) (cI K) L.length) 2) L.length) 0&&true)))
@[reducible] def N0:List Ev.AV:=[AV.xl v0 P0.length 2 (cR P0),AV.xl v1 P1.length 2 (cR P1),AV.xl v2 P2.length 2 (cR P2)]
@[reducible] def b2e:List Ev.AV:=[.xl v0 P0.length 2 (cR P0),.xl v1 P1.length 2 (cR P1),.xl v2 P2.length 2 (cR P2)]
end
def zrB(c0 c1 c2 cL d:List AV)(n:Nat)(g:Bool):Prop:=spN c0 c1 c2 cL d n g 0=0∧spN c0 c1 c2 cL d n g 1=0∧spN c0 c1 c2 cL d n g 2=0
instance (c0 c1 c2 cL d:List AV) (n:Nat) (g:Bool):Decidable (zrB c0 c1 c2 cL d n g):=by unfold zrB;infer_instance
def p9(c0 c1 c2 cL d:List AV)(n:Nat):Int:=if zrB c0 c1 c2 cL d n true∧zrB c0 c1 c2 cL d n false then 0 else 19
theorem b5Q{c0 c1 c2 cL d:List AV}{n:Nat}(h:zrB c0 c1 c2 cL d n true)(h2:zrB c0 c1 c2 cL d n false):p9 c0 c1 c2 cL d n=0:=if_pos ⟨h,h2⟩
theorem c5u{c0 c1 c2 cL d:List AV}{n:Nat}(h:¬ zrB c0 c1 c2 cL d n true):p9 c0 c1 c2 cL d n=19:=if_neg (fun k=>h k.1)
theorem c3W{c0 c1 c2 cL d:List AV}{n:Nat}(h:¬ zrB c0 c1 c2 cL d n false):p9 c0 c1 c2 cL d n=19:=if_neg (fun k=>h k.2)
theorem zr_iff{c0 c1 c2 cL d:List AV}{n:Nat}{g:Bool}:(P8 (W4 (Q4 (List.take (n*(0+1)) (List.drop 0 (cI (tI (O3 c0 d g) n)))) (List.take (n*(0+1)) (List.drop 0 (cI (tI (O3 c1 d g) n)))) (List.take (n*(0+1)) (List.drop 0 (cI (tI (O3 c2 d g) n)))) (List.take (n*(0+1)) (List.drop 0 (cI (tI (O3 cL d g) n)))) d 0) n) 0&&(P8 (W4 (Q4 (List.take (n*(0+1)) (List.drop 0 (cI (tI (O3 c0 d g) n)))) (List.take (n*(0+1)) (List.drop 0 (cI (tI (O3 c1 d g) n)))) (List.take (n*(0+1)) (List.drop 0 (cI (tI (O3 c2 d g) n)))) (List.take (n*(0+1)) (List.drop 0 (cI (tI (O3 cL d g) n)))) d 1) n) 0&&(P8 (W4 (Q4 (List.take (n*(0+1)) (List.drop 0 (cI (tI (O3 c0 d g) n)))) (List.take (n*(0+1)) (List.drop 0 (cI (tI (O3 c1 d g) n)))) (List.take (n*(0+1)) (List.drop 0 (cI (tI (O3 c2 d g) n)))) (List.take (n*(0+1)) (List.drop 0 (cI (tI (O3 cL d g) n)))) d 2) n) 0&&true)))=true↔zrB c0 c1 c2 cL d n g:=by
 rw [Z2,Z2,Z2,Z2]
 unfold zrB spN
 simp [a0o]
theorem b8L{c0 c1 c2 cL d:List AV}{n:Nat}{g:Bool}(h:(P8 (W4 (Q4 (List.take (n*(0+1)) (List.drop 0 (cI (tI (O3 c0 d g) n)))) (List.take (n*(0+1)) (List.drop 0 (cI (tI (O3 c1 d g) n)))) (List.take (n*(0+1)) (List.drop 0 (cI (tI (O3 c2 d g) n)))) (List.take (n*(0+1)) (List.drop 0 (cI (tI (O3 cL d g) n)))) d 0) n) 0&&(P8 (W4 (Q4 (List.take (n*(0+1)) (List.drop 0 (cI (tI (O3 c0 d g) n)))) (List.take (n*(0+1)) (List.drop 0 (cI (tI (O3 c1 d g) n)))) (List.take (n*(0+1)) (List.drop 0 (cI (tI (O3 c2 d g) n)))) (List.take (n*(0+1)) (List.drop 0 (cI (tI (O3 cL d g) n)))) d 1) n) 0&&(P8 (W4 (Q4 (List.take (n*(0+1)) (List.drop 0 (cI (tI (O3 c0 d g) n)))) (List.take (n*(0+1)) (List.drop 0 (cI (tI (O3 c1 d g) n)))) (List.take (n*(0+1)) (List.drop 0 (cI (tI (O3 c2 d g) n)))) (List.take (n*(0+1)) (List.drop 0 (cI (tI (O3 cL d g) n)))) d 2) n) 0&&true)))=false):¬ zrB c0 c1 c2 cL d n g:=fun k=>by
 rw [zr_iff.2 k] at h
 cases h
noncomputable def c4f:Code:=O0 Try.f27
set_option maxHeartbeats 2000000 in
theorem c4X(y v0:Value)(P0:List (Int×Int))(v1:Value)(P1:List (Int×Int))(v2:Value)(P2:List (Int×Int))(yl:Value)(L:List (Int×Int))(z:Value)(M:List Int)(zk:Value)(K:List Int)(hC:N9 (b2e P0 P1 P2 v0 v1 v2) 3 (cR L) L.length=0)(hH1:N7 L.length (cI M) M.length=0)(hH2:N7 L.length (cI K) K.length=0)(w:World)(hs:List Nat):Y8 zP0q 27 c4f (⟨[(0,(.agg [.xl y 3 1 (b2e P0 P1 P2 v0 v1 v2),.xl yl L.length 2 (cR L)])),(1,(.xl z M.length 1 (cI M))),(2,(.xl zk K.length 1 (cI K)))],[],0,[]⟩) (BaseW.H w hs) (U0 zP0q Try.f27 27 (.int .i64 (p9 (cR P0) (cR P1) (cR P2) (cR L) (V2 (cI M) (cI K) L.length) L.length)) w):=by
 have hcl_P0:=Z3 P0
 have hcl_P1:=Z3 P1
 have hcl_P2:=Z3 P2
 have hcl_L:=Z3 L
 have hcl_M:=Z4 M
 have hcl_K:=Z4 K
 obtain ⟨hn,-,hrow,hlam,hcur⟩:=L3 hC
 have hM:=(U1 hH1).1
 have hK:=(U1 hH2).1
 rcases zB0q (b2Q K L M P0 P1 P2) with hqsuo3_1|hqsuo3_1
 ·rcases zB0q (b3Y K L M P0 P1 P2) with hqsuo3_2|hqsuo3_2
  ·exact Z8 V1 (Z7 zC0q (X4 a41 (X4 a5D (X4 a4b a3y))) 200 (T':=⟨[(6,(nI0 (.ofNat 0)))],[],35,[]⟩) (e:=.ret) (ps:=[0+2*(0+1)≤([(.xl (z) (M.length) 1 (cI M)),(.xl (zk) (K.length) 1 (cI K))]:List AV).length,((2:Nat)≤2),S9 1 (N0 P0 P1 P2 v0 v1 v2) 3,X9 2 L.length (cR L),N8 (0+1) M.length (cI M),N8 (0+1) K.length (cI K),b75 2,((3:Nat)≤1000),M.length≤1000,K.length≤1000,c8 (N9 (N0 P0 P1 P2 v0 v1 v2) 3 (cR L) L.length) (N7 L.length (cI M) M.length) (N7 L.length (cI K) K.length)=0,(!P8 0 0)=false,S4 (N0 P0 P1 P2 v0 v1 v2),S4 (cR L),S4 (cI M),S4 (cI K),S9 1 (N0 P0 P1 P2 v0 v1 v2) 3,X9 2 L.length (cR L),N8 1 M.length (cI M),N8 1 K.length (cI K),S4 (N0 P0 P1 P2 v0 v1 v2),S4 (cR L),X8 0 2=true,S9 1 (N0 P0 P1 P2 v0 v1 v2) 3,X9 2 L.length (cR L),N8 1 M.length (cI M),N8 1 K.length (cI K),X9 2 L.length (cR L),1≤L.length∧L.length≤8,L.length=L.length,M.length=L.length,K.length=L.length,y7 (cI M) (cI K) L.length,X8 0 3=true,S9 1 (N0 P0 P1 P2 v0 v1 v2) 3,X9 2 L.length (cR L),N8 1 M.length (cI M),N8 1 K.length (cI K),X9 2 P0.length (cR P0),1≤L.length∧L.length≤8,P0.length=L.length,M.length=L.length,K.length=L.length,y7 (cI M) (cI K) L.length,K5 IntKind.i64 (0+1),X8 (0+1) 3=true,S9 1 (N0 P0 P1 P2 v0 v1 v2) 3,X9 2 L.length (cR L),N8 1 M.length (cI M),N8 1 K.length (cI K),X9 2 P1.length (cR P1),1≤L.length∧L.length≤8,P1.length=L.length,M.length=L.length,K.length=L.length,y7 (cI M) (cI K) L.length,K5 IntKind.i64 (0+1+1),X8 (0+1+1) 3=true,S9 1 (N0 P0 P1 P2 v0 v1 v2) 3,X9 2 L.length (cR L),N8 1 M.length (cI M),N8 1 K.length (cI K),X9 2 P2.length (cR P2),1≤L.length∧L.length≤8,P2.length=L.length,M.length=L.length,K.length=L.length,y7 (cI M) (cI K) L.length,K5 IntKind.i64 (0+1+1+1),X8 (0+1+1+1) 3=false,0+(0+1+1+1)*(0+1)≤([(.slu 10 0 (L.length) 0),(.slu 13 0 (L.length) 0),(.slu 16 0 (L.length) 0)]:List AV).length,0+L.length*(0+1)≤((o6 K L M P0):List AV).length,0+L.length*(0+1)≤((a0I K L M P1):List AV).length,0+L.length*(0+1)≤((a0K K L M P2):List AV).length,0+L.length*(0+1)≤((o7 K L M):List AV).length,S9 1 (N0 P0 P1 P2 v0 v1 v2) 3,X9 2 L.length (cR L),N8 1 M.length (cI M),N8 1 K.length (cI K),L.length≤8,O6 (0+1) L.length (List.take (L.length*(0+1)) (List.drop 0 (o6 K L M P0))),O6 (0+1) L.length (List.take (L.length*(0+1)) (List.drop 0 (a0I K L M P1))),O6 (0+1) L.length (List.take (L.length*(0+1)) (List.drop 0 (a0K K L M P2))),O6 (0+1) L.length (List.take (L.length*(0+1)) (List.drop 0 (o7 K L M))),L.length=L.length,L.length=L.length,L.length=L.length,L.length=L.length,M.length=L.length,K.length=L.length,q8 (0+1+1+1),b1p (List.take (L.length*(0+1)) (List.drop 0 (o6 K L M P0))) (List.take (L.length*(0+1)) (List.drop 0 (a0I K L M P1))) (List.take (L.length*(0+1)) (List.drop 0 (a0K K L M P2))) (List.take (L.length*(0+1)) (List.drop 0 (o7 K L M))) L.length,y7 (cI M) (cI K) L.length,(!(b2Q K L M P0 P1 P2))=false,K5 IntKind.i64 (0+1),X8 (0+1) 2=true,S9 1 (N0 P0 P1 P2 v0 v1 v2) 3,X9 2 L.length (cR L),N8 1 M.length (cI M),N8 1 K.length (cI K),X9 2 L.length (cR L),1≤L.length∧L.length≤8,L.length=L.length,M.length=L.length,K.length=L.length,y7 (cI M) (cI K) L.length,X8 0 3=true,S9 1 (N0 P0 P1 P2 v0 v1 v2) 3,X9 2 L.length (cR L),N8 1 M.length (cI M),N8 1 K.length (cI K),X9 2 P0.length (cR P0),1≤L.length∧L.length≤8,P0.length=L.length,M.length=L.length,K.length=L.length,y7 (cI M) (cI K) L.length,K5 IntKind.i64 (0+1),X8 (0+1) 3=true,S9 1 (N0 P0 P1 P2 v0 v1 v2) 3,X9 2 L.length (cR L),N8 1 M.length (cI M),N8 1 K.length (cI K),X9 2 P1.length (cR P1),1≤L.length∧L.length≤8,P1.length=L.length,M.length=L.length,K.length=L.length,y7 (cI M) (cI K) L.length,K5 IntKind.i64 (0+1+1),X8 (0+1+1) 3=true,S9 1 (N0 P0 P1 P2 v0 v1 v2) 3,X9 2 L.length (cR L),N8 1 M.length (cI M),N8 1 K.length (cI K),X9 2 P2.length (cR P2),1≤L.length∧L.length≤8,P2.length=L.length,M.length=L.length,K.length=L.length,y7 (cI M) (cI K) L.length,K5 IntKind.i64 (0+1+1+1),X8 (0+1+1+1) 3=false,0+(0+1+1+1)*(0+1)≤([(.slu 24 0 (L.length) 0),(.slu 27 0 (L.length) 0),(.slu 30 0 (L.length) 0)]:List AV).length,0+L.length*(0+1)≤((a3a K L M P0):List AV).length,0+L.length*(0+1)≤((a2Z K L M P1):List AV).length,0+L.length*(0+1)≤((a2I K L M P2):List AV).length,0+L.length*(0+1)≤((a0h K L M):List AV).length,S9 1 (N0 P0 P1 P2 v0 v1 v2) 3,X9 2 L.length (cR L),N8 1 M.length (cI M),N8 1 K.length (cI K),L.length≤8,O6 (0+1) L.length (List.take (L.length*(0+1)) (List.drop 0 (a3a K L M P0))),O6 (0+1) L.length (List.take (L.length*(0+1)) (List.drop 0 (a2Z K L M P1))),O6 (0+1) L.length (List.take (L.length*(0+1)) (List.drop 0 (a2I K L M P2))),O6 (0+1) L.length (List.take (L.length*(0+1)) (List.drop 0 (a0h K L M))),L.length=L.length,L.length=L.length,L.length=L.length,L.length=L.length,M.length=L.length,K.length=L.length,q8 (0+1+1+1),b1p (List.take (L.length*(0+1)) (List.drop 0 (a3a K L M P0))) (List.take (L.length*(0+1)) (List.drop 0 (a2Z K L M P1))) (List.take (L.length*(0+1)) (List.drop 0 (a2I K L M P2))) (List.take (L.length*(0+1)) (List.drop 0 (a0h K L M))) L.length,y7 (cI M) (cI K) L.length,(!(b3Y K L M P0 P1 P2))=false,K5 IntKind.i64 (0+1+1),X8 (0+1+1) 2=false,false=false]) (gH 9 ([.b false]++gH 9 ([.b true]++gH 20 ([.b true]++gH 15 ([.b true]++gH 15 ([.b true]++gH 15 ([.b false]++gH 8 ([.b false,.go,.go,.go,.b true]++gH 20 ([.b true]++gH 15 ([.b true]++gH 15 ([.b true]++gH 15 ([.b false]++gH 8 ([.b false,.go,.go,.go,.b false]++gH 10 [.b false,.go]))))))))))))) (by kernel_rfl) (by kernel_rfl) ⟨(by show 0+2*(0+1)≤2;decide),(by decide),⟨rfl,[(v0,P0),(v1,P1),(v2,P2)],rfl,rfl⟩,⟨rfl,L,rfl,rfl⟩,⟨rfl,M,rfl,rfl⟩,⟨rfl,K,rfl,rfl⟩,rfl,(by decide),(by omega),(by omega),((a4J hC hH1).trans hH2),rfl,(X7 [(v0,P0),(v1,P1),(v2,P2)]),(Y3 (W6 _)),(Y3 (Z1 _)),(Y3 (Z1 _)),⟨rfl,[(v0,P0),(v1,P1),(v2,P2)],rfl,rfl⟩,⟨rfl,L,rfl,rfl⟩,⟨rfl,M,rfl,rfl⟩,⟨rfl,K,rfl,rfl⟩,(X7 [(v0,P0),(v1,P1),(v2,P2)]),(Y3 (W6 _)),rfl,⟨rfl,[(v0,P0),(v1,P1),(v2,P2)],rfl,rfl⟩,⟨rfl,L,rfl,rfl⟩,⟨rfl,M,rfl,rfl⟩,⟨rfl,K,rfl,rfl⟩,⟨rfl,L,rfl,rfl⟩,hn,rfl,hM,hK,(F6 hH1 hH2),rfl,⟨rfl,[(v0,P0),(v1,P1),(v2,P2)],rfl,rfl⟩,⟨rfl,L,rfl,rfl⟩,⟨rfl,M,rfl,rfl⟩,⟨rfl,K,rfl,rfl⟩,⟨rfl,P0,rfl,rfl⟩,hn,(hrow 0 (by decide)),hM,hK,(F6 hH1 hH2),(by show -9223372036854775808≤(_:Int)∧(_:Int)≤9223372036854775807;constructor<;>decide),rfl,⟨rfl,[(v0,P0),(v1,P1),(v2,P2)],rfl,rfl⟩,⟨rfl,L,rfl,rfl⟩,⟨rfl,M,rfl,rfl⟩,⟨rfl,K,rfl,rfl⟩,⟨rfl,P1,rfl,rfl⟩,hn,(hrow 1 (by decide)),hM,hK,(F6 hH1 hH2),(by show -9223372036854775808≤(_:Int)∧(_:Int)≤9223372036854775807;constructor<;>decide),rfl,⟨rfl,[(v0,P0),(v1,P1),(v2,P2)],rfl,rfl⟩,⟨rfl,L,rfl,rfl⟩,⟨rfl,M,rfl,rfl⟩,⟨rfl,K,rfl,rfl⟩,⟨rfl,P2,rfl,rfl⟩,hn,(hrow 2 (by decide)),hM,hK,(F6 hH1 hH2),(by show -9223372036854775808≤(_:Int)∧(_:Int)≤9223372036854775807;constructor<;>decide),rfl,(by show 0+3*(0+1)≤3;decide),(by rw [Z4,Y9];omega),(by rw [Z4,Y9];omega),(by rw [Z4,Y9];omega),(by rw [Z4,Y9];omega),⟨rfl,[(v0,P0),(v1,P1),(v2,P2)],rfl,rfl⟩,⟨rfl,L,rfl,rfl⟩,⟨rfl,M,rfl,rfl⟩,⟨rfl,K,rfl,rfl⟩,hn.2,⟨rfl,_,Z2,(Y9 _ _).symm⟩,⟨rfl,_,Z2,(Y9 _ _).symm⟩,⟨rfl,_,Z2,(Y9 _ _).symm⟩,⟨rfl,_,Z2,(Y9 _ _).symm⟩,rfl,rfl,rfl,rfl,hM,hK,rfl,(by rw [Z2,Z2,Z2,Z2];exact a5k (hcur 0 (by decide)) (hcur 1 (by decide)) (hcur 2 (by decide)) hlam),(F6 hH1 hH2),(by rw [hqsuo3_1];rfl),(by show -9223372036854775808≤(_:Int)∧(_:Int)≤9223372036854775807;constructor<;>decide),rfl,⟨rfl,[(v0,P0),(v1,P1),(v2,P2)],rfl,rfl⟩,⟨rfl,L,rfl,rfl⟩,⟨rfl,M,rfl,rfl⟩,⟨rfl,K,rfl,rfl⟩,⟨rfl,L,rfl,rfl⟩,hn,rfl,hM,hK,(F6 hH1 hH2),rfl,⟨rfl,[(v0,P0),(v1,P1),(v2,P2)],rfl,rfl⟩,⟨rfl,L,rfl,rfl⟩,⟨rfl,M,rfl,rfl⟩,⟨rfl,K,rfl,rfl⟩,⟨rfl,P0,rfl,rfl⟩,hn,(hrow 0 (by decide)),hM,hK,(F6 hH1 hH2),(by show -9223372036854775808≤(_:Int)∧(_:Int)≤9223372036854775807;constructor<;>decide),rfl,⟨rfl,[(v0,P0),(v1,P1),(v2,P2)],rfl,rfl⟩,⟨rfl,L,rfl,rfl⟩,⟨rfl,M,rfl,rfl⟩,⟨rfl,K,rfl,rfl⟩,⟨rfl,P1,rfl,rfl⟩,hn,(hrow 1 (by decide)),hM,hK,(F6 hH1 hH2),(by show -9223372036854775808≤(_:Int)∧(_:Int)≤9223372036854775807;constructor<;>decide),rfl,⟨rfl,[(v0,P0),(v1,P1),(v2,P2)],rfl,rfl⟩,⟨rfl,L,rfl,rfl⟩,⟨rfl,M,rfl,rfl⟩,⟨rfl,K,rfl,rfl⟩,⟨rfl,P2,rfl,rfl⟩,hn,(hrow 2 (by decide)),hM,hK,(F6 hH1 hH2),(by show -9223372036854775808≤(_:Int)∧(_:Int)≤9223372036854775807;constructor<;>decide),rfl,(by show 0+3*(0+1)≤3;decide),(by rw [Z4,Y9];omega),(by rw [Z4,Y9];omega),(by rw [Z4,Y9];omega),(by rw [Z4,Y9];omega),⟨rfl,[(v0,P0),(v1,P1),(v2,P2)],rfl,rfl⟩,⟨rfl,L,rfl,rfl⟩,⟨rfl,M,rfl,rfl⟩,⟨rfl,K,rfl,rfl⟩,hn.2,⟨rfl,_,Z2,(Y9 _ _).symm⟩,⟨rfl,_,Z2,(Y9 _ _).symm⟩,⟨rfl,_,Z2,(Y9 _ _).symm⟩,⟨rfl,_,Z2,(Y9 _ _).symm⟩,rfl,rfl,rfl,rfl,hM,hK,rfl,(by rw [Z2,Z2,Z2,Z2];exact a5k (hcur 0 (by decide)) (hcur 1 (by decide)) (hcur 2 (by decide)) hlam),(F6 hH1 hH2),(by rw [hqsuo3_2];rfl),(by show -9223372036854775808≤(_:Int)∧(_:Int)≤9223372036854775807;constructor<;>decide),rfl,rfl,trivial⟩ rfl) (Hd.en_eq (r:=(.int .i64 0)) (by (rw [b5Q (zr_iff.1 hqsuo3_1) (zr_iff.1 hqsuo3_2)])) (Hd.en_ret (v:=(nI0 (.ofNat 0))) (by kernel_rfl) rfl))
  ·exact Z8 V1 (Z7 zC0q (X4 a41 (X4 a5D (X4 a4b a3y))) 200 (T':=⟨[(6,(nI0 (.ofNat 19)))],[],35,[]⟩) (e:=.ret) (ps:=[0+2*(0+1)≤([(.xl (z) (M.length) 1 (cI M)),(.xl (zk) (K.length) 1 (cI K))]:List AV).length,((2:Nat)≤2),S9 1 (N0 P0 P1 P2 v0 v1 v2) 3,X9 2 L.length (cR L),N8 (0+1) M.length (cI M),N8 (0+1) K.length (cI K),b75 2,((3:Nat)≤1000),M.length≤1000,K.length≤1000,c8 (N9 (N0 P0 P1 P2 v0 v1 v2) 3 (cR L) L.length) (N7 L.length (cI M) M.length) (N7 L.length (cI K) K.length)=0,(!P8 0 0)=false,S4 (N0 P0 P1 P2 v0 v1 v2),S4 (cR L),S4 (cI M),S4 (cI K),S9 1 (N0 P0 P1 P2 v0 v1 v2) 3,X9 2 L.length (cR L),N8 1 M.length (cI M),N8 1 K.length (cI K),S4 (N0 P0 P1 P2 v0 v1 v2),S4 (cR L),X8 0 2=true,S9 1 (N0 P0 P1 P2 v0 v1 v2) 3,X9 2 L.length (cR L),N8 1 M.length (cI M),N8 1 K.length (cI K),X9 2 L.length (cR L),1≤L.length∧L.length≤8,L.length=L.length,M.length=L.length,K.length=L.length,y7 (cI M) (cI K) L.length,X8 0 3=true,S9 1 (N0 P0 P1 P2 v0 v1 v2) 3,X9 2 L.length (cR L),N8 1 M.length (cI M),N8 1 K.length (cI K),X9 2 P0.length (cR P0),1≤L.length∧L.length≤8,P0.length=L.length,M.length=L.length,K.length=L.length,y7 (cI M) (cI K) L.length,K5 IntKind.i64 (0+1),X8 (0+1) 3=true,S9 1 (N0 P0 P1 P2 v0 v1 v2) 3,X9 2 L.length (cR L),N8 1 M.length (cI M),N8 1 K.length (cI K),X9 2 P1.length (cR P1),1≤L.length∧L.length≤8,P1.length=L.length,M.length=L.length,K.length=L.length,y7 (cI M) (cI K) L.length,K5 IntKind.i64 (0+1+1),X8 (0+1+1) 3=true,S9 1 (N0 P0 P1 P2 v0 v1 v2) 3,X9 2 L.length (cR L),N8 1 M.length (cI M),N8 1 K.length (cI K),X9 2 P2.length (cR P2),1≤L.length∧L.length≤8,P2.length=L.length,M.length=L.length,K.length=L.length,y7 (cI M) (cI K) L.length,K5 IntKind.i64 (0+1+1+1),X8 (0+1+1+1) 3=false,0+(0+1+1+1)*(0+1)≤([(.slu 10 0 (L.length) 0),(.slu 13 0 (L.length) 0),(.slu 16 0 (L.length) 0)]:List AV).length,0+L.length*(0+1)≤((o6 K L M P0):List AV).length,0+L.length*(0+1)≤((a0I K L M P1):List AV).length,0+L.length*(0+1)≤((a0K K L M P2):List AV).length,0+L.length*(0+1)≤((o7 K L M):List AV).length,S9 1 (N0 P0 P1 P2 v0 v1 v2) 3,X9 2 L.length (cR L),N8 1 M.length (cI M),N8 1 K.length (cI K),L.length≤8,O6 (0+1) L.length (List.take (L.length*(0+1)) (List.drop 0 (o6 K L M P0))),O6 (0+1) L.length (List.take (L.length*(0+1)) (List.drop 0 (a0I K L M P1))),O6 (0+1) L.length (List.take (L.length*(0+1)) (List.drop 0 (a0K K L M P2))),O6 (0+1) L.length (List.take (L.length*(0+1)) (List.drop 0 (o7 K L M))),L.length=L.length,L.length=L.length,L.length=L.length,L.length=L.length,M.length=L.length,K.length=L.length,q8 (0+1+1+1),b1p (List.take (L.length*(0+1)) (List.drop 0 (o6 K L M P0))) (List.take (L.length*(0+1)) (List.drop 0 (a0I K L M P1))) (List.take (L.length*(0+1)) (List.drop 0 (a0K K L M P2))) (List.take (L.length*(0+1)) (List.drop 0 (o7 K L M))) L.length,y7 (cI M) (cI K) L.length,(!(b2Q K L M P0 P1 P2))=false,K5 IntKind.i64 (0+1),X8 (0+1) 2=true,S9 1 (N0 P0 P1 P2 v0 v1 v2) 3,X9 2 L.length (cR L),N8 1 M.length (cI M),N8 1 K.length (cI K),X9 2 L.length (cR L),1≤L.length∧L.length≤8,L.length=L.length,M.length=L.length,K.length=L.length,y7 (cI M) (cI K) L.length,X8 0 3=true,S9 1 (N0 P0 P1 P2 v0 v1 v2) 3,X9 2 L.length (cR L),N8 1 M.length (cI M),N8 1 K.length (cI K),X9 2 P0.length (cR P0),1≤L.length∧L.length≤8,P0.length=L.length,M.length=L.length,K.length=L.length,y7 (cI M) (cI K) L.length,K5 IntKind.i64 (0+1),X8 (0+1) 3=true,S9 1 (N0 P0 P1 P2 v0 v1 v2) 3,X9 2 L.length (cR L),N8 1 M.length (cI M),N8 1 K.length (cI K),X9 2 P1.length (cR P1),1≤L.length∧L.length≤8,P1.length=L.length,M.length=L.length,K.length=L.length,y7 (cI M) (cI K) L.length,K5 IntKind.i64 (0+1+1),X8 (0+1+1) 3=true,S9 1 (N0 P0 P1 P2 v0 v1 v2) 3,X9 2 L.length (cR L),N8 1 M.length (cI M),N8 1 K.length (cI K),X9 2 P2.length (cR P2),1≤L.length∧L.length≤8,P2.length=L.length,M.length=L.length,K.length=L.length,y7 (cI M) (cI K) L.length,K5 IntKind.i64 (0+1+1+1),X8 (0+1+1+1) 3=false,0+(0+1+1+1)*(0+1)≤([(.slu 24 0 (L.length) 0),(.slu 27 0 (L.length) 0),(.slu 30 0 (L.length) 0)]:List AV).length,0+L.length*(0+1)≤((a3a K L M P0):List AV).length,0+L.length*(0+1)≤((a2Z K L M P1):List AV).length,0+L.length*(0+1)≤((a2I K L M P2):List AV).length,0+L.length*(0+1)≤((a0h K L M):List AV).length,S9 1 (N0 P0 P1 P2 v0 v1 v2) 3,X9 2 L.length (cR L),N8 1 M.length (cI M),N8 1 K.length (cI K),L.length≤8,O6 (0+1) L.length (List.take (L.length*(0+1)) (List.drop 0 (a3a K L M P0))),O6 (0+1) L.length (List.take (L.length*(0+1)) (List.drop 0 (a2Z K L M P1))),O6 (0+1) L.length (List.take (L.length*(0+1)) (List.drop 0 (a2I K L M P2))),O6 (0+1) L.length (List.take (L.length*(0+1)) (List.drop 0 (a0h K L M))),L.length=L.length,L.length=L.length,L.length=L.length,L.length=L.length,M.length=L.length,K.length=L.length,q8 (0+1+1+1),b1p (List.take (L.length*(0+1)) (List.drop 0 (a3a K L M P0))) (List.take (L.length*(0+1)) (List.drop 0 (a2Z K L M P1))) (List.take (L.length*(0+1)) (List.drop 0 (a2I K L M P2))) (List.take (L.length*(0+1)) (List.drop 0 (a0h K L M))) L.length,y7 (cI M) (cI K) L.length,(!(b3Y K L M P0 P1 P2))=true,true=true]) (gH 9 ([.b false]++gH 9 ([.b true]++gH 20 ([.b true]++gH 15 ([.b true]++gH 15 ([.b true]++gH 15 ([.b false]++gH 8 ([.b false,.go,.go,.go,.b true]++gH 20 ([.b true]++gH 15 ([.b true]++gH 15 ([.b true]++gH 15 ([.b false]++gH 8 ([.b true]++gH 10 [.b true,.go]))))))))))))) (by kernel_rfl) (by kernel_rfl) ⟨(by show 0+2*(0+1)≤2;decide),(by decide),⟨rfl,[(v0,P0),(v1,P1),(v2,P2)],rfl,rfl⟩,⟨rfl,L,rfl,rfl⟩,⟨rfl,M,rfl,rfl⟩,⟨rfl,K,rfl,rfl⟩,rfl,(by decide),(by omega),(by omega),((a4J hC hH1).trans hH2),rfl,(X7 [(v0,P0),(v1,P1),(v2,P2)]),(Y3 (W6 _)),(Y3 (Z1 _)),(Y3 (Z1 _)),⟨rfl,[(v0,P0),(v1,P1),(v2,P2)],rfl,rfl⟩,⟨rfl,L,rfl,rfl⟩,⟨rfl,M,rfl,rfl⟩,⟨rfl,K,rfl,rfl⟩,(X7 [(v0,P0),(v1,P1),(v2,P2)]),(Y3 (W6 _)),rfl,⟨rfl,[(v0,P0),(v1,P1),(v2,P2)],rfl,rfl⟩,⟨rfl,L,rfl,rfl⟩,⟨rfl,M,rfl,rfl⟩,⟨rfl,K,rfl,rfl⟩,⟨rfl,L,rfl,rfl⟩,hn,rfl,hM,hK,(F6 hH1 hH2),rfl,⟨rfl,[(v0,P0),(v1,P1),(v2,P2)],rfl,rfl⟩,⟨rfl,L,rfl,rfl⟩,⟨rfl,M,rfl,rfl⟩,⟨rfl,K,rfl,rfl⟩,⟨rfl,P0,rfl,rfl⟩,hn,(hrow 0 (by decide)),hM,hK,(F6 hH1 hH2),(by show -9223372036854775808≤(_:Int)∧(_:Int)≤9223372036854775807;constructor<;>decide),rfl,⟨rfl,[(v0,P0),(v1,P1),(v2,P2)],rfl,rfl⟩,⟨rfl,L,rfl,rfl⟩,⟨rfl,M,rfl,rfl⟩,⟨rfl,K,rfl,rfl⟩,⟨rfl,P1,rfl,rfl⟩,hn,(hrow 1 (by decide)),hM,hK,(F6 hH1 hH2),(by show -9223372036854775808≤(_:Int)∧(_:Int)≤9223372036854775807;constructor<;>decide),rfl,⟨rfl,[(v0,P0),(v1,P1),(v2,P2)],rfl,rfl⟩,⟨rfl,L,rfl,rfl⟩,⟨rfl,M,rfl,rfl⟩,⟨rfl,K,rfl,rfl⟩,⟨rfl,P2,rfl,rfl⟩,hn,(hrow 2 (by decide)),hM,hK,(F6 hH1 hH2),(by show -9223372036854775808≤(_:Int)∧(_:Int)≤9223372036854775807;constructor<;>decide),rfl,(by show 0+3*(0+1)≤3;decide),(by rw [Z4,Y9];omega),(by rw [Z4,Y9];omega),(by rw [Z4,Y9];omega),(by rw [Z4,Y9];omega),⟨rfl,[(v0,P0),(v1,P1),(v2,P2)],rfl,rfl⟩,⟨rfl,L,rfl,rfl⟩,⟨rfl,M,rfl,rfl⟩,⟨rfl,K,rfl,rfl⟩,hn.2,⟨rfl,_,Z2,(Y9 _ _).symm⟩,⟨rfl,_,Z2,(Y9 _ _).symm⟩,⟨rfl,_,Z2,(Y9 _ _).symm⟩,⟨rfl,_,Z2,(Y9 _ _).symm⟩,rfl,rfl,rfl,rfl,hM,hK,rfl,(by rw [Z2,Z2,Z2,Z2];exact a5k (hcur 0 (by decide)) (hcur 1 (by decide)) (hcur 2 (by decide)) hlam),(F6 hH1 hH2),(by rw [hqsuo3_1];rfl),(by show -9223372036854775808≤(_:Int)∧(_:Int)≤9223372036854775807;constructor<;>decide),rfl,⟨rfl,[(v0,P0),(v1,P1),(v2,P2)],rfl,rfl⟩,⟨rfl,L,rfl,rfl⟩,⟨rfl,M,rfl,rfl⟩,⟨rfl,K,rfl,rfl⟩,⟨rfl,L,rfl,rfl⟩,hn,rfl,hM,hK,(F6 hH1 hH2),rfl,⟨rfl,[(v0,P0),(v1,P1),(v2,P2)],rfl,rfl⟩,⟨rfl,L,rfl,rfl⟩,⟨rfl,M,rfl,rfl⟩,⟨rfl,K,rfl,rfl⟩,⟨rfl,P0,rfl,rfl⟩,hn,(hrow 0 (by decide)),hM,hK,(F6 hH1 hH2),(by show -9223372036854775808≤(_:Int)∧(_:Int)≤9223372036854775807;constructor<;>decide),rfl,⟨rfl,[(v0,P0),(v1,P1),(v2,P2)],rfl,rfl⟩,⟨rfl,L,rfl,rfl⟩,⟨rfl,M,rfl,rfl⟩,⟨rfl,K,rfl,rfl⟩,⟨rfl,P1,rfl,rfl⟩,hn,(hrow 1 (by decide)),hM,hK,(F6 hH1 hH2),(by show -9223372036854775808≤(_:Int)∧(_:Int)≤9223372036854775807;constructor<;>decide),rfl,⟨rfl,[(v0,P0),(v1,P1),(v2,P2)],rfl,rfl⟩,⟨rfl,L,rfl,rfl⟩,⟨rfl,M,rfl,rfl⟩,⟨rfl,K,rfl,rfl⟩,⟨rfl,P2,rfl,rfl⟩,hn,(hrow 2 (by decide)),hM,hK,(F6 hH1 hH2),(by show -9223372036854775808≤(_:Int)∧(_:Int)≤9223372036854775807;constructor<;>decide),rfl,(by show 0+3*(0+1)≤3;decide),(by rw [Z4,Y9];omega),(by rw [Z4,Y9];omega),(by rw [Z4,Y9];omega),(by rw [Z4,Y9];omega),⟨rfl,[(v0,P0),(v1,P1),(v2,P2)],rfl,rfl⟩,⟨rfl,L,rfl,rfl⟩,⟨rfl,M,rfl,rfl⟩,⟨rfl,K,rfl,rfl⟩,hn.2,⟨rfl,_,Z2,(Y9 _ _).symm⟩,⟨rfl,_,Z2,(Y9 _ _).symm⟩,⟨rfl,_,Z2,(Y9 _ _).symm⟩,⟨rfl,_,Z2,(Y9 _ _).symm⟩,rfl,rfl,rfl,rfl,hM,hK,rfl,(by rw [Z2,Z2,Z2,Z2];exact a5k (hcur 0 (by decide)) (hcur 1 (by decide)) (hcur 2 (by decide)) hlam),(F6 hH1 hH2),(by rw [hqsuo3_2];rfl),rfl,trivial⟩ rfl) (Hd.en_eq (r:=(.int .i64 19)) (by (rw [c3W (b8L hqsuo3_2)])) (Hd.en_ret (v:=(nI0 (.ofNat 19))) (by kernel_rfl) rfl))
 ·exact Z8 V1 (Z7 zC0q (X4 a41 (X4 a5D (X4 a4b a3y))) 200 (T':=⟨[(6,(nI0 (.ofNat 19)))],[],21,[]⟩) (e:=.ret) (ps:=[0+2*(0+1)≤([(.xl (z) (M.length) 1 (cI M)),(.xl (zk) (K.length) 1 (cI K))]:List AV).length,((2:Nat)≤2),S9 1 (N0 P0 P1 P2 v0 v1 v2) 3,X9 2 L.length (cR L),N8 (0+1) M.length (cI M),N8 (0+1) K.length (cI K),b75 2,((3:Nat)≤1000),M.length≤1000,K.length≤1000,c8 (N9 (N0 P0 P1 P2 v0 v1 v2) 3 (cR L) L.length) (N7 L.length (cI M) M.length) (N7 L.length (cI K) K.length)=0,(!P8 0 0)=false,S4 (N0 P0 P1 P2 v0 v1 v2),S4 (cR L),S4 (cI M),S4 (cI K),S9 1 (N0 P0 P1 P2 v0 v1 v2) 3,X9 2 L.length (cR L),N8 1 M.length (cI M),N8 1 K.length (cI K),S4 (N0 P0 P1 P2 v0 v1 v2),S4 (cR L),X8 0 2=true,S9 1 (N0 P0 P1 P2 v0 v1 v2) 3,X9 2 L.length (cR L),N8 1 M.length (cI M),N8 1 K.length (cI K),X9 2 L.length (cR L),1≤L.length∧L.length≤8,L.length=L.length,M.length=L.length,K.length=L.length,y7 (cI M) (cI K) L.length,X8 0 3=true,S9 1 (N0 P0 P1 P2 v0 v1 v2) 3,X9 2 L.length (cR L),N8 1 M.length (cI M),N8 1 K.length (cI K),X9 2 P0.length (cR P0),1≤L.length∧L.length≤8,P0.length=L.length,M.length=L.length,K.length=L.length,y7 (cI M) (cI K) L.length,K5 IntKind.i64 (0+1),X8 (0+1) 3=true,S9 1 (N0 P0 P1 P2 v0 v1 v2) 3,X9 2 L.length (cR L),N8 1 M.length (cI M),N8 1 K.length (cI K),X9 2 P1.length (cR P1),1≤L.length∧L.length≤8,P1.length=L.length,M.length=L.length,K.length=L.length,y7 (cI M) (cI K) L.length,K5 IntKind.i64 (0+1+1),X8 (0+1+1) 3=true,S9 1 (N0 P0 P1 P2 v0 v1 v2) 3,X9 2 L.length (cR L),N8 1 M.length (cI M),N8 1 K.length (cI K),X9 2 P2.length (cR P2),1≤L.length∧L.length≤8,P2.length=L.length,M.length=L.length,K.length=L.length,y7 (cI M) (cI K) L.length,K5 IntKind.i64 (0+1+1+1),X8 (0+1+1+1) 3=false,0+(0+1+1+1)*(0+1)≤([(.slu 10 0 (L.length) 0),(.slu 13 0 (L.length) 0),(.slu 16 0 (L.length) 0)]:List AV).length,0+L.length*(0+1)≤((o6 K L M P0):List AV).length,0+L.length*(0+1)≤((a0I K L M P1):List AV).length,0+L.length*(0+1)≤((a0K K L M P2):List AV).length,0+L.length*(0+1)≤((o7 K L M):List AV).length,S9 1 (N0 P0 P1 P2 v0 v1 v2) 3,X9 2 L.length (cR L),N8 1 M.length (cI M),N8 1 K.length (cI K),L.length≤8,O6 (0+1) L.length (List.take (L.length*(0+1)) (List.drop 0 (o6 K L M P0))),O6 (0+1) L.length (List.take (L.length*(0+1)) (List.drop 0 (a0I K L M P1))),O6 (0+1) L.length (List.take (L.length*(0+1)) (List.drop 0 (a0K K L M P2))),O6 (0+1) L.length (List.take (L.length*(0+1)) (List.drop 0 (o7 K L M))),L.length=L.length,L.length=L.length,L.length=L.length,L.length=L.length,M.length=L.length,K.length=L.length,q8 (0+1+1+1),b1p (List.take (L.length*(0+1)) (List.drop 0 (o6 K L M P0))) (List.take (L.length*(0+1)) (List.drop 0 (a0I K L M P1))) (List.take (L.length*(0+1)) (List.drop 0 (a0K K L M P2))) (List.take (L.length*(0+1)) (List.drop 0 (o7 K L M))) L.length,y7 (cI M) (cI K) L.length,(!(b2Q K L M P0 P1 P2))=true,true=true]) (gH 9 ([.b false]++gH 9 ([.b true]++gH 20 ([.b true]++gH 15 ([.b true]++gH 15 ([.b true]++gH 15 ([.b false]++gH 8 ([.b true]++gH 10 [.b true,.go])))))))) (by kernel_rfl) (by kernel_rfl) ⟨(by show 0+2*(0+1)≤2;decide),(by decide),⟨rfl,[(v0,P0),(v1,P1),(v2,P2)],rfl,rfl⟩,⟨rfl,L,rfl,rfl⟩,⟨rfl,M,rfl,rfl⟩,⟨rfl,K,rfl,rfl⟩,rfl,(by decide),(by omega),(by omega),((a4J hC hH1).trans hH2),rfl,(X7 [(v0,P0),(v1,P1),(v2,P2)]),(Y3 (W6 _)),(Y3 (Z1 _)),(Y3 (Z1 _)),⟨rfl,[(v0,P0),(v1,P1),(v2,P2)],rfl,rfl⟩,⟨rfl,L,rfl,rfl⟩,⟨rfl,M,rfl,rfl⟩,⟨rfl,K,rfl,rfl⟩,(X7 [(v0,P0),(v1,P1),(v2,P2)]),(Y3 (W6 _)),rfl,⟨rfl,[(v0,P0),(v1,P1),(v2,P2)],rfl,rfl⟩,⟨rfl,L,rfl,rfl⟩,⟨rfl,M,rfl,rfl⟩,⟨rfl,K,rfl,rfl⟩,⟨rfl,L,rfl,rfl⟩,hn,rfl,hM,hK,(F6 hH1 hH2),rfl,⟨rfl,[(v0,P0),(v1,P1),(v2,P2)],rfl,rfl⟩,⟨rfl,L,rfl,rfl⟩,⟨rfl,M,rfl,rfl⟩,⟨rfl,K,rfl,rfl⟩,⟨rfl,P0,rfl,rfl⟩,hn,(hrow 0 (by decide)),hM,hK,(F6 hH1 hH2),(by show -9223372036854775808≤(_:Int)∧(_:Int)≤9223372036854775807;constructor<;>decide),rfl,⟨rfl,[(v0,P0),(v1,P1),(v2,P2)],rfl,rfl⟩,⟨rfl,L,rfl,rfl⟩,⟨rfl,M,rfl,rfl⟩,⟨rfl,K,rfl,rfl⟩,⟨rfl,P1,rfl,rfl⟩,hn,(hrow 1 (by decide)),hM,hK,(F6 hH1 hH2),(by show -9223372036854775808≤(_:Int)∧(_:Int)≤9223372036854775807;constructor<;>decide),rfl,⟨rfl,[(v0,P0),(v1,P1),(v2,P2)],rfl,rfl⟩,⟨rfl,L,rfl,rfl⟩,⟨rfl,M,rfl,rfl⟩,⟨rfl,K,rfl,rfl⟩,⟨rfl,P2,rfl,rfl⟩,hn,(hrow 2 (by decide)),hM,hK,(F6 hH1 hH2),(by show -9223372036854775808≤(_:Int)∧(_:Int)≤9223372036854775807;constructor<;>decide),rfl,(by show 0+3*(0+1)≤3;decide),(by rw [Z4,Y9];omega),(by rw [Z4,Y9];omega),(by rw [Z4,Y9];omega),(by rw [Z4,Y9];omega),⟨rfl,[(v0,P0),(v1,P1),(v2,P2)],rfl,rfl⟩,⟨rfl,L,rfl,rfl⟩,⟨rfl,M,rfl,rfl⟩,⟨rfl,K,rfl,rfl⟩,hn.2,⟨rfl,_,Z2,(Y9 _ _).symm⟩,⟨rfl,_,Z2,(Y9 _ _).symm⟩,⟨rfl,_,Z2,(Y9 _ _).symm⟩,⟨rfl,_,Z2,(Y9 _ _).symm⟩,rfl,rfl,rfl,rfl,hM,hK,rfl,(by rw [Z2,Z2,Z2,Z2];exact a5k (hcur 0 (by decide)) (hcur 1 (by decide)) (hcur 2 (by decide)) hlam),(F6 hH1 hH2),(by rw [hqsuo3_1];rfl),rfl,trivial⟩ rfl) (Hd.en_eq (r:=(.int .i64 19)) (by (rw [c5u (b8L hqsuo3_1)])) (Hd.en_ret (v:=(nI0 (.ofNat 19))) (by kernel_rfl) rfl))
theorem c4T(y v0:Value)(P0:List (Int×Int))(v1:Value)(P1:List (Int×Int))(v2:Value)(P2:List (Int×Int))(yl:Value)(L:List (Int×Int))(z:Value)(M:List Int)(zk:Value)(K:List Int)(hC:N9 (b2e P0 P1 P2 v0 v1 v2) 3 (cR L) L.length=0)(hH1:N7 L.length (cI M) M.length=0)(hH2:N7 L.length (cI K) K.length=0):GivesA zP0q 27 [(.agg [.xl y 3 1 (b2e P0 P1 P2 v0 v1 v2),.xl yl L.length 2 (cR L)]),(.xl z M.length 1 (cI M)),(.xl zk K.length 1 (cI K))] (.int .i64 (p9 (cR P0) (cR P1) (cR P2) (cR L) (V2 (cI M) (cI K) L.length) L.length)) :=
 U3 27 Try.func27 (by kernel_rfl) (by kernel_rfl) (by kernel_rfl) (fun w=>U9 (by kernel_rfl) (by kernel_rfl) (by kernel_rfl) (by kernel_rfl) (c4X y v0 P0 v1 P1 v2 P2 yl L z M zk K hC hH1 hH2 w []))
end
end Go.Proofs.Ytegmogadbnfbgaa
namespace Go.Proofs.Ytegmogadbnfbgaa
open Go Ev
noncomputable section
def cH:List Int→List AV
 |[]=>[]
 |n::l=>.v (.int .u16 n)::cH l
def cHv:List Int→List Value
 |[]=>[]
 |n::l=>.int .u16 n::cHv l
theorem L5:∀ L:List Int,O4 (cH L)=some (cHv L)
 |[]=>rfl
 |n::l=>by simp only [cH,O4,plain,L5 l,cHv]
theorem b4Z:∀ (L:List Int) (i:Nat) (h:i<L.length),(cH L)[i]? = some (.v (.int .u16 (L[i])))
 |[],i,h=>by simp at h
 |x::l,0,h=>rfl
 |x::l,i+1,h=>b4Z l i (by simpa using h)
theorem b5v{L:List Int}{i:Nat}(h:i<L.length):Z9 (cH L) i=L[i]:=a2M (b4Z L i h)
theorem b7W{L:List Int}{i:Nat}(h:i<L.length)(t:TypeId){d:TypeDesc}(hd:Try.prog.underlying t=some d)(ha:a6Z d=false):W2 zP0q (cH L) i t=some (.v (.int .u16 (Z9 (cH L) i))):=by
 simp only [W2,hd,ha,D0,b4Z L i h,b5v h]
def N4(L:List Int):Prop:=∀ n∈L,0≤n∧n≤65535
theorem a8F{L:List Int}(h:N4 L){i:Nat}(hi:i<L.length):0≤Z9 (cH L) i∧Z9 (cH L) i≤65535:=by
 rw [b5v hi];exact h _ (List.getElem_mem hi)
def pkV(lo hi:Int)(c:List AV)(m i:Nat):Int:=if m=0 then lo else lo+(Z9 c (i % m*1)).tmod (hi - lo+1)
theorem b7O{lo hi:Int}{c:List AV}{m i:Nat}(h:m=0):pkV lo hi c m i=lo:=if_pos h
theorem c0b{lo hi:Int}{B:List Int}{i:Nat}(hB:N4 B)(h:lo≤hi):lo≤pkV lo hi (cH B) B.length i∧pkV lo hi (cH B) B.length i≤hi:=by
 unfold pkV
 split
 ·omega
 ·rename_i hm
  have h1:=a8F hB (i:=i % B.length*1) (by rw [Nat.mul_one];exact Nat.mod_lt _ (by omega))
  have h2:=Int.tmod_nonneg (hi - lo+1) h1.1
  have h3:=Int.tmod_lt_of_pos (Z9 (cH B) (i % B.length*1)) (show 0<hi - lo+1 by omega)
  omega
def E9(c cB:List AV)(m o b:Nat):Int:=pkV (Z9 c (b*2+0)) (Z9 c (b*2+1)) cB m (o+b)
theorem S2{c:List AV}{B:List Int}{o n b:Nat}(hB:N4 B)(hb:b<n)(h:Y7 100 c b):N5 c (cI (tI (E9 c (cH B) B.length o) n)) b:=by
 unfold Y7 at h
 unfold N5
 rw [Nat.mul_one,l5 hb]
 exact c0b hB h.2.1
theorem a0S{c cB:List AV}{m o b:Nat}{v:Int}(h:E9 c cB m o b=v):cI (tI (E9 c cB m o) b)++[nI0 v]=cI (tI (E9 c cB m o) (b+1)):=by rw [← h];exact b22 _ _
theorem a1i{c cB:List AV}{m o b:Nat}{v:Int}(hb:b=0)(h:E9 c cB m o b=v):[AV.v (.int .i64 v)]=cI (tI (E9 c cB m o) (b+1)):=by
 subst hb
 rw [← h,a1Y];rfl
def q9(L P0 P1 P2:List (Int×Int))(n:Nat):Prop:=L.length=n+1∧n≤7∧P0.length=n+1∧P1.length=n+1∧P2.length=n+1∧(∀ b,b<n+1→Y7 100 (cR L) b)∧(∀ b,b<n+1→Y7 100 (cR P0) b)∧(∀ b,b<n+1→Y7 100 (cR P1) b)∧∀ b,b<n+1→Y7 100 (cR P2) b
theorem b05{x:Int}(h:0≤x∧x≤65535):IntKind.i64.wrap x=x:=by
 exact IntWalk.i64_in _ (by omega)
noncomputable def c6f:Code:=O0 Try.f47
set_option maxHeartbeats 2000000 in
theorem c65(lo hi:Int)(zb:Value)(B:List Int)(k:Nat)(hr:0≤lo∧lo≤hi∧hi≤1000)(hB:N4 B)(hk:k≤1000)(w:World)(hs:List Nat):Y8 zP0q 30 c6f (⟨[(0,(.agg [nI0 lo,nI0 hi])),(1,(.xl zb B.length 1 (cH B))),(2,(nI0 k))],[],0,[]⟩) (BaseW.H w hs) (U0 zP0q Try.f47 30 (.int .i64 (pkV lo hi (cH B) B.length k)) w):=by
 have hcl_B:=Z4 B
 rcases zB0q (P8 B.length 0) with hqpk3_1|hqpk3_1
 ·have ghqpk3_1:=X6 hqpk3_1
  exact Z8 V1 (Z7 zC0q (Z0) 200 (T':=⟨[(6,(nI0 (lo)))],[],1,[]⟩) (e:=.ret) (ps:=[P8 B.length 0=true]) (gH 5 [.b true,.go,.go,.go]) (by kernel_rfl) (by kernel_rfl) ⟨hqpk3_1,trivial⟩ rfl) (Hd.en_eq (r:=(.int .i64 (lo))) (by (rw [b7O (by omega)])) (Hd.en_ret (v:=(nI0 (lo))) (by kernel_rfl) rfl))
 ·have ghqpk3_1:=W5 hqpk3_1
  exact Z8 V1 (Z7 zC0q (Z0) 200 (T':=⟨[(6,(nI0 (lo+(IntKind.i64.wrap (Z9 (cH B) (k % B.length*1))).tmod (hi - lo+1))))],[],1,[]⟩) (e:=.ret) (ps:=[P8 B.length 0=false,(B.length:Int)≠0,k % B.length<B.length,W2 zP0q (cH B) (k % B.length*1) 73=some (AV.v (Value.int IntKind.u16 (Z9 (cH B) (k % B.length*1)))),K5 IntKind.i64 (hi - lo),K5 IntKind.i64 (hi - lo+1),hi - lo+1≠0,K5 IntKind.i64 (lo+(IntKind.i64.wrap (Z9 (cH B) (k % B.length*1))).tmod (hi - lo+1))]) (gH 5 ([.b false]++gH 7 ([.sym,.sym]++gH 10 []))) (by kernel_rfl) (by kernel_rfl) ⟨hqpk3_1,(by omega),(Nat.mod_lt _ (by omega)),(b7W (by rw [Nat.mul_one];exact Nat.mod_lt _ (by omega)) 73 (Try.underlying73) rfl),(by show -9223372036854775808≤_∧_≤9223372036854775807;constructor<;>omega),(by show -9223372036854775808≤_∧_≤9223372036854775807;constructor<;>omega),(by omega),(by have h8:=a8F hB (i:=k % B.length*1) (by rw [Nat.mul_one];exact Nat.mod_lt _ (by omega));rw [b05 h8];have h7:=Int.tmod_nonneg (hi - lo+1) h8.1;have h6:=Int.tmod_lt_of_pos (Z9 (cH B) (k % B.length*1)) (show 0<hi - lo+1 by omega);show -9223372036854775808≤_∧_≤9223372036854775807;constructor<;>omega),trivial⟩ rfl) (Hd.en_eq (r:=(.int .i64 (lo+(IntKind.i64.wrap (Z9 (cH B) (k % B.length*1))).tmod (hi - lo+1)))) (by (have h8:=a8F hB (i:=k % B.length*1) (by rw [Nat.mul_one];exact Nat.mod_lt _ (by omega));unfold pkV;rw [if_neg (by omega),b05 h8])) (Hd.en_ret (v:=(nI0 (lo+(IntKind.i64.wrap (Z9 (cH B) (k % B.length*1))).tmod (hi - lo+1)))) (by kernel_rfl) rfl))
theorem c6T(lo hi:Int)(zb:Value)(B:List Int)(k:Nat)(hr:0≤lo∧lo≤hi∧hi≤1000)(hB:N4 B)(hk:k≤1000):GivesA zP0q 47 [(.agg [nI0 lo,nI0 hi]),(.xl zb B.length 1 (cH B)),(nI0 k)] (.int .i64 (pkV lo hi (cH B) B.length k)) :=
 U3 30 Try.func47 (by kernel_rfl) (by kernel_rfl) (by kernel_rfl) (fun w=>U9 (by kernel_rfl) (by kernel_rfl) (by kernel_rfl) (by kernel_rfl) (c65 lo hi zb B k hr hB hk w []))
end
end Go.Proofs.Ytegmogadbnfbgaa
namespace Go.Proofs.Ytegmogadbnfbgaa
open Go.ChangeShapes Go.WideShapes Go.ChangeAt Go.RowKit
theorem b2t:∀ (n:Nat) (vs:List Value),vs.length=n*1→(∀ i,i<n→IsK [some .u16] ((vs.drop (i*1)).take 1))→∃ B:List Int,B.length=n∧vs=cHv B∧N4 B
 |0,vs,hl,_=>⟨[],rfl,List.eq_nil_of_length_eq_zero (by omega),by intro x hx;cases hx⟩
 |n+1,vs,hl,h=>by
  obtain ⟨a,l1,e1,⟨x,rfl,wx⟩,h1⟩:=a3j (h 0 (by omega))
  obtain rfl:=a8Y h1
  obtain ⟨r,rfl⟩:∃ r,vs = .int .u16 x::r:=by
   match vs,hl,e1 with
   |p::r,_,e=>simp at e;exact ⟨r,by rw [e]⟩
   |[],hl,_=>simp at hl
  obtain ⟨B,hB,rfl,hA⟩:=b2t n r (by simp at hl; omega) (fun i hi=>by
   have:=h (i+1) (by omega)
   rw [show (i+1)*1=i*1+1 from by omega] at this
   simpa using this)
  refine ⟨x::B,by simp [hB],rfl,fun y hy=>?_⟩
  rcases List.mem_cons.1 hy with rfl|hy
  ·exact c5i wx
  ·exact hA y hy
end Go.Proofs.Ytegmogadbnfbgaa
namespace Go.Proofs.Ytegmogadbnfbgaa
open Go Ev
noncomputable section
theorem b2Y{c d:List AV}{g:Bool}{n b:Nat}(hb:b<n)(h:Y7 100 c b):N5 c (cI (tI (O3 c d g) n)) b:=by
 unfold Y7 at h
 unfold N5
 rw [Nat.mul_one,l5 hb]
 unfold O3
 split<;>omega
theorem b39{p q:Nat→Int}:∀ {n:Nat},W4 p n - W4 q n=W4 (fun b=>p b - q b) n
 |0=>rfl
 |n+1=>by simp only [W4];rw [← b39 (n:=n)];omega
theorem a8k{c0 c1 c2 cY c d:List AV}{n k:Nat}:W4 (Q4 c0 c1 c2 cY c k) n - W4 (Q4 c0 c1 c2 cY d k) n=W4 (Q4 c0 c1 c2 cY (V2 c d n) k) n:=by
 rw [b39]
 refine a8T (fun b hb=>?_)
 unfold Q4
 rw [a8s hb,Int.mul_sub]
end
end Go.Proofs.Ytegmogadbnfbgaa
namespace Go.Proofs.Ytegmogadbnfbgaa
open Go Ev
noncomputable section
def a23(c0 c1 c2 cL x0 x1 x2 cY:List AV)(n:Nat):Prop:=(∀ b,b<n→N5 cL cY b)∧(∀ b,b<n→N5 c0 x0 b)∧(∀ b,b<n→N5 c1 x1 b)∧∀ b,b<n→N5 c2 x2 b
end
end Go.Proofs.Ytegmogadbnfbgaa
namespace Go.Proofs.Ytegmogadbnfbgaa
open Go Ev
noncomputable section
def c5p:List AV→Option (t6×List Prop):=fun vs =>
 match vs with
 |[.agg [.xl y m k1 cE,.xl yl n k2 cL]]=>some (.val (.v (.bool (gwB cE m n))),[S9 k1 cE m,X9 k2 n cL])
 |_=>none
def c5O:O2:=C5 13 c5p
theorem u6:Known zP0q (clsO c5O):=K0 (fun vs r ps h hp=>by
 unfold c5p at h
 split at h
 ·cases h
  obtain ⟨⟨rfl,E,rfl,rfl⟩,⟨rfl,L,rfl,rfl⟩,-⟩:=hp
  exact ⟨W0 (a11 E L) P7,_,rfl,c4Q _ E _ L⟩
 ·cases h)
def wkO:O2:=a3n 15 (fun xs=>match xs with | []=>some (.v (.bool true))|_=>none)
end
end Go.Proofs.Ytegmogadbnfbgaa
namespace Go.Proofs.Ytegmogadbnfbgaa
open Go Ev
noncomputable section
theorem b6E{p q:Nat→Int}:∀ {n:Nat},(∀ b,b<n→p b≤q b)→W4 p n≤W4 q n
 |0,_=>Int.le_refl _
 |n+1,h=>by
  simp only [W4]
  have:=b6E (p:=p) (q:=q) (n:=n) (fun b hb=>h b (by omega))
  have:=h n (by omega)
  omega
theorem b84{l0 h0 l1 h1 x y s:Int}(a:0≤l0∧l0≤x∧x≤h0)(b:0≤l1∧l1≤y∧y≤h1):(0≤s→l0*l1*s≤x*y*s∧x*y*s≤h0*h1*s)∧(s≤0→h0*h1*s≤x*y*s∧x*y*s≤l0*l1*s):=by
 have h2:l0*l1≤x*y:=Int.mul_le_mul a.2.1 b.2.1 b.1 (by omega)
 have h3:x*y≤h0*h1:=Int.mul_le_mul a.2.2 b.2.2 (by omega) (by omega)
 exact ⟨fun hs=>⟨Int.mul_le_mul_of_nonneg_right h2 hs,Int.mul_le_mul_of_nonneg_right h3 hs⟩,fun hs=>⟨Int.mul_le_mul_of_nonpos_right h3 hs,Int.mul_le_mul_of_nonpos_right h2 hs⟩⟩
theorem b2j{cP cL cM:List AV}{x y:Int}{b:Nat}(h0:Y7 100 cP b)(h1:Y7 100 cL b)(hx:Z9 cP (b*2+0)≤x∧x≤Z9 cP (b*2+1))(hy:Z9 cL (b*2+0)≤y∧y≤Z9 cL (b*2+1)) :
  O3 cP cM false b*O3 cL cM false b*Z9 cM (b*1)≤x*y*Z9 cM (b*1)∧x*y*Z9 cM (b*1)≤O3 cP cM true b*O3 cL cM true b*Z9 cM (b*1):=by
 unfold Y7 at h0 h1
 have hb:=b84 (s:=Z9 cM (b*1)) ⟨h0.1,hx⟩ ⟨h1.1,hy⟩
 cases e:X8 0 (Z9 cM (b*1)) with
 |true =>
  have e1:O3 cP cM false b=Z9 cP (b*2+0):=a6t (by rw [e];decide)
  have e2:O3 cL cM false b=Z9 cL (b*2+0):=a6t (by rw [e];decide)
  have e3:O3 cP cM true b=Z9 cP (b*2+1):=a39 (by rw [e];decide)
  have e4:O3 cL cM true b=Z9 cL (b*2+1):=a39 (by rw [e];decide)
  rw [e1,e2,e3,e4]
  exact hb.1 (by have:=Y0 e;omega)
 |false =>
  have e1:O3 cP cM false b=Z9 cP (b*2+1):=a39 (by rw [e];decide)
  have e2:O3 cL cM false b=Z9 cL (b*2+1):=a39 (by rw [e];decide)
  have e3:O3 cP cM true b=Z9 cP (b*2+0):=a6t (by rw [e];decide)
  have e4:O3 cL cM true b=Z9 cL (b*2+0):=a6t (by rw [e];decide)
  rw [e1,e2,e3,e4]
  exact hb.2 (by have:=Z6 e;omega)
theorem a8m{cP cL cM x y:List AV}{n:Nat}(h0:∀ b,b<n→Y7 100 cP b)(h1:∀ b,b<n→Y7 100 cL b)(hx:∀ b,b<n→N5 cP x b)(hy:∀ b,b<n→N5 cL y b) :
  W4 (fun b=>Z9 (cI (tI (O3 cP cM false) n)) (b*1)*Z9 (cI (tI (O3 cL cM false) n)) (b*1)*Z9 cM (b*1)) n≤W4 (fun b=>Z9 x (b*1)*Z9 y (b*1)*Z9 cM (b*1)) n∧W4 (fun b=>Z9 x (b*1)*Z9 y (b*1)*Z9 cM (b*1)) n≤W4 (fun b=>Z9 (cI (tI (O3 cP cM true) n)) (b*1)*Z9 (cI (tI (O3 cL cM true) n)) (b*1)*Z9 cM (b*1)) n:=by
 constructor<;>refine b6E (fun b hb=>?_)<;>rw [Nat.mul_one,l5 hb,l5 hb]
 ·have h:=(b2j (cM:=cM) (h0 b hb) (h1 b hb) (hx b hb) (hy b hb)).1
  rw [Nat.mul_one] at h;exact h
 ·have h:=(b2j (cM:=cM) (h0 b hb) (h1 b hb) (hx b hb) (hy b hb)).2
  rw [Nat.mul_one] at h;exact h
theorem c17{c0 c1 c2 cL cM x0 x1 x2 xL:List AV}{n:Nat}(hc0:∀ b,b<n→Y7 100 c0 b)(hc1:∀ b,b<n→Y7 100 c1 b)(hc2:∀ b,b<n→Y7 100 c2 b)(hL:∀ b,b<n→Y7 100 cL b)(h:a23 c0 c1 c2 cL x0 x1 x2 xL n):∀ k,k<3→spN c0 c1 c2 cL cM n false k≤W4 (Q4 x0 x1 x2 xL cM k) n∧W4 (Q4 x0 x1 x2 xL cM k) n≤spN c0 c1 c2 cL cM n true k:=fun k hk=>by
 match k,hk with
 |0,_=>exact a8m hc0 hL h.2.1 h.1
 |1,_=>exact a8m hc1 hL h.2.2.1 h.1
 |2,_=>exact a8m hc2 hL h.2.2.2 h.1
theorem b7q{c0 c1 c2 cL cM cK x0 x1 x2 xL:List AV}{n:Nat}(hc0:∀ b,b<n→Y7 100 c0 b)(hc1:∀ b,b<n→Y7 100 c1 b)(hc2:∀ b,b<n→Y7 100 c2 b)(hL:∀ b,b<n→Y7 100 cL b)(h:a23 c0 c1 c2 cL x0 x1 x2 xL n)(ht:zrB c0 c1 c2 cL (V2 cM cK n) n true)(hf:zrB c0 c1 c2 cL (V2 cM cK n) n false):W4 (Q4 x0 x1 x2 xL cM 0) n=W4 (Q4 x0 x1 x2 xL cK 0) n∧W4 (Q4 x0 x1 x2 xL cM 1) n=W4 (Q4 x0 x1 x2 xL cK 1) n∧W4 (Q4 x0 x1 x2 xL cM 2) n=W4 (Q4 x0 x1 x2 xL cK 2) n:=by
 have hb:=c17 (cM:=V2 cM cK n) hc0 hc1 hc2 hL h
 have d:=fun k=>a8k (c0:=x0) (c1:=x1) (c2:=x2) (cY:=xL) (c:=cM) (d:=cK) (n:=n) (k:=k)
 obtain ⟨t0,t1,t2⟩:=ht
 obtain ⟨f0,f1,f2⟩:=hf
 have b0:=hb 0 (by decide)
 have b1:=hb 1 (by decide)
 have b2:=hb 2 (by decide)
 have d0:=d 0
 have d1:=d 1
 have d2:=d 2
 exact ⟨by omega,by omega,by omega⟩
end
end Go.Proofs.Ytegmogadbnfbgaa
set_option maxHeartbeats 2000000
namespace Go.Proofs.Ytegmogadbnfbgaa
open Go Ev
noncomputable section
section
variable (E : List (Value × List (Int × Int))) (K : List Int) (L : List (Int × Int)) (M : List Int) (y yl z zk : Value)
@[reducible] def b5L:Ev.AV:=(.agg [.xl y E.length 1 (Y4 E),.xl yl L.length 2 (cR L)])
@[reducible] def b9b:Ev.Lit:=⟨[(0,(b5L E L y yl)),(1,(.xl z M.length 1 (cI M))),(2,(.xl zk K.length 1 (cI K)))],[],0,[]⟩
end
noncomputable def c2h:Code:=O0 Try.f42
theorem c2L(y:Value)(E:List (Value×List (Int×Int)))(yl:Value)(L:List (Int×Int))(z:Value)(M:List Int)(zk:Value)(K:List Int)(hF:gwB (Y4 E) E.length L.length=false∧M.length≤20∧K.length≤20∧c8 (N9 (Y4 E) E.length (cR L) L.length) (N7 L.length (cI M) M.length) (N7 L.length (cI K) K.length)=0)(w:World)(hs:List Nat):Y8 zP0q 27 c2h ((b9b E K L M y yl z zk)) (BaseW.H w hs) (U0 zP0q Try.f42 27 (.bool true) w):=by
 have hcl_L:=Z3 L
 have hcl_M:=Z4 M
 have hcl_K:=Z4 K
 rcases zB0q (gwB (Y4 E) E.length L.length) with hqfit3_1|hqfit3_1
 ·exact absurd hqfit3_1 (by rw [hF.1];decide)
 ·have hE6:=b92 (show ¬ gwB (Y4 E) E.length L.length=true by rw [hqfit3_1];decide)
  rcases zB0q (X8 20 M.length) with hqfit3_2|hqfit3_2
  ·have ghqfit3_2:=Y0 hqfit3_2
   exfalso
   have h9:=Y0 hqfit3_2
   have h8:=hF.2.1
   omega
  ·have ghqfit3_2:=Z6 hqfit3_2
   rcases zB0q (X8 20 K.length) with hqfit3_3|hqfit3_3
   ·have ghqfit3_3:=Y0 hqfit3_3
    exfalso
    have h9:=Y0 hqfit3_3
    have h8:=hF.2.2.1
    omega
   ·have ghqfit3_3:=Z6 hqfit3_3
    rcases zB0q (P8 (N9 (Y4 E) E.length (cR L) L.length) 0) with hqfit3_4|hqfit3_4
    ·have ghqfit3_4:=X6 hqfit3_4
     have hnE:=(L3 (X6 hqfit3_4)).1
     rcases zB0q (P8 (N7 L.length (cI M) M.length) 0) with hqfit3_5|hqfit3_5
     ·have ghqfit3_5:=X6 hqfit3_5
      exact Z8 V1 (Z7 zC0q (X4 u6 (X4 f9 g4)) 200 (T':=⟨[(6,(.v (.bool (P8 (N7 L.length (cI K) K.length) 0))))],[],2,[]⟩) (e:=.ret) (ps:=[S9 1 (Y4 E) E.length,X9 2 L.length (cR L),(!gwB (Y4 E) E.length L.length)=true,true=true,true=true,(!X8 20 M.length)=true,true=true,true=true,(!X8 20 K.length)=true,true=true,true=true,true=true,S9 1 (Y4 E) E.length,X9 2 L.length (cR L),E.length≤1000,(!P8 (N9 (Y4 E) E.length (cR L) L.length) 0)=false,S9 1 (Y4 E) E.length,X9 2 L.length (cR L),N8 1 M.length (cI M),L.length≤1000,(!P8 (N7 L.length (cI M) M.length) 0)=false,S9 1 (Y4 E) E.length,X9 2 L.length (cR L),N8 1 K.length (cI K),L.length≤1000,true=true]) (gH 5 ([.b true,.go,.b true,.go,.b true,.go,.go,.go,.b true,.go,.b true,.go,.b true,.go,.go,.go,.b true,.go,.b true,.go,.b true,.go,.b true]++gH 4 [.b false,.go,.go,.go,.b false,.go,.go,.go,.b true,.go,.go,.go])) (by kernel_rfl) (by kernel_rfl) ⟨⟨rfl,E,rfl,rfl⟩,⟨rfl,L,rfl,rfl⟩,(by rw [hqfit3_1];rfl),rfl,rfl,(by rw [hqfit3_2];rfl),rfl,rfl,(by rw [hqfit3_3];rfl),rfl,rfl,rfl,⟨rfl,E,rfl,rfl⟩,⟨rfl,L,rfl,rfl⟩,(by omega),(by rw [hqfit3_4];rfl),⟨rfl,E,rfl,rfl⟩,⟨rfl,L,rfl,rfl⟩,⟨rfl,M,rfl,rfl⟩,(by omega),(by rw [hqfit3_5];rfl),⟨rfl,E,rfl,rfl⟩,⟨rfl,L,rfl,rfl⟩,⟨rfl,K,rfl,rfl⟩,(by omega),rfl,trivial⟩ rfl) (Hd.en_eq (r:=(.bool (P8 (N7 L.length (cI K) K.length) 0))) (by (rw [a0o,decide_eq_true (a0V hF.2.2.2).2.2])) (Hd.en_ret (v:=(.v (.bool (P8 (N7 L.length (cI K) K.length) 0)))) (by kernel_rfl) rfl))
     ·have ghqfit3_5:=W5 hqfit3_5
      exact absurd (a0V hF.2.2.2).2.1 (W5 hqfit3_5)
    ·have ghqfit3_4:=W5 hqfit3_4
     exact absurd (a0V hF.2.2.2).1 (W5 hqfit3_4)
theorem c5s(y:Value)(E:List (Value×List (Int×Int)))(yl:Value)(L:List (Int×Int))(z:Value)(M:List Int)(zk:Value)(K:List Int)(hF:gwB (Y4 E) E.length L.length=false∧M.length≤20∧K.length≤20∧c8 (N9 (Y4 E) E.length (cR L) L.length) (N7 L.length (cI M) M.length) (N7 L.length (cI K) K.length)=0):GivesA zP0q 42 [(b5L E L y yl),(.xl z M.length 1 (cI M)),(.xl zk K.length 1 (cI K))] (.bool true) :=
 U3 27 Try.func42 (by kernel_rfl) (by kernel_rfl) (by kernel_rfl) (fun w=>U9 (by kernel_rfl) (by kernel_rfl) (by kernel_rfl) (by kernel_rfl) (c2L y E yl L z M zk K hF w []))
noncomputable def c2N:Code:=O0 Try.f42
theorem c2R(y:Value)(E:List (Value×List (Int×Int)))(yl:Value)(L:List (Int×Int))(z:Value)(M:List Int)(zk:Value)(K:List Int)(hF:¬ (gwB (Y4 E) E.length L.length=false∧M.length≤20∧K.length≤20∧c8 (N9 (Y4 E) E.length (cR L) L.length) (N7 L.length (cI M) M.length) (N7 L.length (cI K) K.length)=0))(w:World)(hs:List Nat):Y8 zP0q 27 c2N ((b9b E K L M y yl z zk)) (BaseW.H w hs) (U0 zP0q Try.f42 27 (.bool false) w):=by
 have hcl_L:=Z3 L
 have hcl_M:=Z4 M
 have hcl_K:=Z4 K
 rcases zB0q (gwB (Y4 E) E.length L.length) with hqfif3_1|hqfif3_1
 ·exact Z8 V1 (Z7 zC0q (X4 u6 (X4 f9 g4)) 200 (T':=⟨[(6,(.v (.bool .false)))],[],1,[]⟩) (e:=.ret) (ps:=[S9 1 (Y4 E) E.length,X9 2 L.length (cR L),(!gwB (Y4 E) E.length L.length)=false,false=false,false=false,false=false,false=false,false=false,false=false,false=false,false=false,false=false,false=false]) (gH 5 [.b false,.b false,.b false,.go,.go,.b false,.b false,.b false,.go,.go,.b false,.b false,.b false,.b false,.b false,.go,.go]) (by kernel_rfl) (by kernel_rfl) ⟨⟨rfl,E,rfl,rfl⟩,⟨rfl,L,rfl,rfl⟩,(by rw [hqfif3_1];rfl),rfl,rfl,rfl,rfl,rfl,rfl,rfl,rfl,rfl,rfl,trivial⟩ rfl) (Hd.en_eq (r:=(.bool .false)) (by rfl) (Hd.en_ret (v:=(.v (.bool .false))) (by kernel_rfl) rfl))
 ·have hE6:=b92 (show ¬ gwB (Y4 E) E.length L.length=true by rw [hqfif3_1];decide)
  rcases zB0q (X8 20 M.length) with hqfif3_2|hqfif3_2
  ·have ghqfif3_2:=Y0 hqfif3_2
   exact Z8 V1 (Z7 zC0q (X4 u6 (X4 f9 g4)) 200 (T':=⟨[(6,(.v (.bool .false)))],[],1,[]⟩) (e:=.ret) (ps:=[S9 1 (Y4 E) E.length,X9 2 L.length (cR L),(!gwB (Y4 E) E.length L.length)=true,true=true,true=true,(!X8 20 M.length)=false,false=false,false=false,false=false,false=false,false=false,false=false,false=false]) (gH 5 [.b true,.go,.b true,.go,.b true,.go,.go,.go,.b false,.b false,.b false,.go,.go,.b false,.b false,.b false,.b false,.b false,.go,.go]) (by kernel_rfl) (by kernel_rfl) ⟨⟨rfl,E,rfl,rfl⟩,⟨rfl,L,rfl,rfl⟩,(by rw [hqfif3_1];rfl),rfl,rfl,(by rw [hqfif3_2];rfl),rfl,rfl,rfl,rfl,rfl,rfl,rfl,trivial⟩ rfl) (Hd.en_eq (r:=(.bool .false)) (by rfl) (Hd.en_ret (v:=(.v (.bool .false))) (by kernel_rfl) rfl))
  ·have ghqfif3_2:=Z6 hqfif3_2
   rcases zB0q (X8 20 K.length) with hqfif3_3|hqfif3_3
   ·have ghqfif3_3:=Y0 hqfif3_3
    exact Z8 V1 (Z7 zC0q (X4 u6 (X4 f9 g4)) 200 (T':=⟨[(6,(.v (.bool .false)))],[],1,[]⟩) (e:=.ret) (ps:=[S9 1 (Y4 E) E.length,X9 2 L.length (cR L),(!gwB (Y4 E) E.length L.length)=true,true=true,true=true,(!X8 20 M.length)=true,true=true,true=true,(!X8 20 K.length)=false,false=false,false=false,false=false,false=false]) (gH 5 [.b true,.go,.b true,.go,.b true,.go,.go,.go,.b true,.go,.b true,.go,.b true,.go,.go,.go,.b false,.b false,.b false,.b false,.b false,.go,.go]) (by kernel_rfl) (by kernel_rfl) ⟨⟨rfl,E,rfl,rfl⟩,⟨rfl,L,rfl,rfl⟩,(by rw [hqfif3_1];rfl),rfl,rfl,(by rw [hqfif3_2];rfl),rfl,rfl,(by rw [hqfif3_3];rfl),rfl,rfl,rfl,rfl,trivial⟩ rfl) (Hd.en_eq (r:=(.bool .false)) (by rfl) (Hd.en_ret (v:=(.v (.bool .false))) (by kernel_rfl) rfl))
   ·have ghqfif3_3:=Z6 hqfif3_3
    rcases zB0q (P8 (N9 (Y4 E) E.length (cR L) L.length) 0) with hqfif3_4|hqfif3_4
    ·have ghqfif3_4:=X6 hqfif3_4
     have hnE:=(L3 (X6 hqfif3_4)).1
     rcases zB0q (P8 (N7 L.length (cI M) M.length) 0) with hqfif3_5|hqfif3_5
     ·have ghqfif3_5:=X6 hqfif3_5
      exact Z8 V1 (Z7 zC0q (X4 u6 (X4 f9 g4)) 200 (T':=⟨[(6,(.v (.bool (P8 (N7 L.length (cI K) K.length) 0))))],[],2,[]⟩) (e:=.ret) (ps:=[S9 1 (Y4 E) E.length,X9 2 L.length (cR L),(!gwB (Y4 E) E.length L.length)=true,true=true,true=true,(!X8 20 M.length)=true,true=true,true=true,(!X8 20 K.length)=true,true=true,true=true,true=true,S9 1 (Y4 E) E.length,X9 2 L.length (cR L),E.length≤1000,(!P8 (N9 (Y4 E) E.length (cR L) L.length) 0)=false,S9 1 (Y4 E) E.length,X9 2 L.length (cR L),N8 1 M.length (cI M),L.length≤1000,(!P8 (N7 L.length (cI M) M.length) 0)=false,S9 1 (Y4 E) E.length,X9 2 L.length (cR L),N8 1 K.length (cI K),L.length≤1000,true=true]) (gH 5 ([.b true,.go,.b true,.go,.b true,.go,.go,.go,.b true,.go,.b true,.go,.b true,.go,.go,.go,.b true,.go,.b true,.go,.b true,.go,.b true]++gH 4 [.b false,.go,.go,.go,.b false,.go,.go,.go,.b true,.go,.go,.go])) (by kernel_rfl) (by kernel_rfl) ⟨⟨rfl,E,rfl,rfl⟩,⟨rfl,L,rfl,rfl⟩,(by rw [hqfif3_1];rfl),rfl,rfl,(by rw [hqfif3_2];rfl),rfl,rfl,(by rw [hqfif3_3];rfl),rfl,rfl,rfl,⟨rfl,E,rfl,rfl⟩,⟨rfl,L,rfl,rfl⟩,(by omega),(by rw [hqfif3_4];rfl),⟨rfl,E,rfl,rfl⟩,⟨rfl,L,rfl,rfl⟩,⟨rfl,M,rfl,rfl⟩,(by omega),(by rw [hqfif3_5];rfl),⟨rfl,E,rfl,rfl⟩,⟨rfl,L,rfl,rfl⟩,⟨rfl,K,rfl,rfl⟩,(by omega),rfl,trivial⟩ rfl) (Hd.en_eq (r:=(.bool (P8 (N7 L.length (cI K) K.length) 0))) (by (rw [a0o,decide_eq_false (fun h7=>hF ⟨hqfif3_1,by have h9:=Z6 hqfif3_2;omega,by have h9:=Z6 hqfif3_3;omega,(a4J (X6 hqfif3_4) (X6 hqfif3_5)).trans h7⟩)])) (Hd.en_ret (v:=(.v (.bool (P8 (N7 L.length (cI K) K.length) 0)))) (by kernel_rfl) rfl))
     ·have ghqfif3_5:=W5 hqfif3_5
      exact Z8 V1 (Z7 zC0q (X4 u6 (X4 f9 g4)) 200 (T':=⟨[(6,(.v (.bool (P8 (N7 L.length (cI M) M.length) 0))))],[],2,[]⟩) (e:=.ret) (ps:=[S9 1 (Y4 E) E.length,X9 2 L.length (cR L),(!gwB (Y4 E) E.length L.length)=true,true=true,true=true,(!X8 20 M.length)=true,true=true,true=true,(!X8 20 K.length)=true,true=true,true=true,true=true,S9 1 (Y4 E) E.length,X9 2 L.length (cR L),E.length≤1000,(!P8 (N9 (Y4 E) E.length (cR L) L.length) 0)=false,S9 1 (Y4 E) E.length,X9 2 L.length (cR L),N8 1 M.length (cI M),L.length≤1000,(!P8 (N7 L.length (cI M) M.length) 0)=true,S9 1 (Y4 E) E.length,X9 2 L.length (cR L),N8 1 M.length (cI M),L.length≤1000,true=true]) (gH 5 ([.b true,.go,.b true,.go,.b true,.go,.go,.go,.b true,.go,.b true,.go,.b true,.go,.go,.go,.b true,.go,.b true,.go,.b true,.go,.b true]++gH 4 [.b false,.go,.go,.go,.b true,.go,.go,.go,.b true,.go,.go,.go])) (by kernel_rfl) (by kernel_rfl) ⟨⟨rfl,E,rfl,rfl⟩,⟨rfl,L,rfl,rfl⟩,(by rw [hqfif3_1];rfl),rfl,rfl,(by rw [hqfif3_2];rfl),rfl,rfl,(by rw [hqfif3_3];rfl),rfl,rfl,rfl,⟨rfl,E,rfl,rfl⟩,⟨rfl,L,rfl,rfl⟩,(by omega),(by rw [hqfif3_4];rfl),⟨rfl,E,rfl,rfl⟩,⟨rfl,L,rfl,rfl⟩,⟨rfl,M,rfl,rfl⟩,(by omega),(by rw [hqfif3_5];rfl),⟨rfl,E,rfl,rfl⟩,⟨rfl,L,rfl,rfl⟩,⟨rfl,M,rfl,rfl⟩,(by omega),rfl,trivial⟩ rfl) (Hd.en_eq (r:=(.bool (P8 (N7 L.length (cI M) M.length) 0))) (by (rw [hqfif3_5])) (Hd.en_ret (v:=(.v (.bool (P8 (N7 L.length (cI M) M.length) 0)))) (by kernel_rfl) rfl))
    ·have ghqfif3_4:=W5 hqfif3_4
     exact Z8 V1 (Z7 zC0q (X4 u6 (X4 f9 g4)) 200 (T':=⟨[(6,(.v (.bool (P8 (N9 (Y4 E) E.length (cR L) L.length) 0))))],[],2,[]⟩) (e:=.ret) (ps:=[S9 1 (Y4 E) E.length,X9 2 L.length (cR L),(!gwB (Y4 E) E.length L.length)=true,true=true,true=true,(!X8 20 M.length)=true,true=true,true=true,(!X8 20 K.length)=true,true=true,true=true,true=true,S9 1 (Y4 E) E.length,X9 2 L.length (cR L),E.length≤1000,(!P8 (N9 (Y4 E) E.length (cR L) L.length) 0)=true,S9 1 (Y4 E) E.length,X9 2 L.length (cR L),E.length≤1000,true=true]) (gH 5 ([.b true,.go,.b true,.go,.b true,.go,.go,.go,.b true,.go,.b true,.go,.b true,.go,.go,.go,.b true,.go,.b true,.go,.b true,.go,.b true]++gH 4 [.b true,.go,.go,.b true,.go,.go,.go])) (by kernel_rfl) (by kernel_rfl) ⟨⟨rfl,E,rfl,rfl⟩,⟨rfl,L,rfl,rfl⟩,(by rw [hqfif3_1];rfl),rfl,rfl,(by rw [hqfif3_2];rfl),rfl,rfl,(by rw [hqfif3_3];rfl),rfl,rfl,rfl,⟨rfl,E,rfl,rfl⟩,⟨rfl,L,rfl,rfl⟩,(by omega),(by rw [hqfif3_4];rfl),⟨rfl,E,rfl,rfl⟩,⟨rfl,L,rfl,rfl⟩,(by omega),rfl,trivial⟩ rfl) (Hd.en_eq (r:=(.bool (P8 (N9 (Y4 E) E.length (cR L) L.length) 0))) (by (rw [hqfif3_4])) (Hd.en_ret (v:=(.v (.bool (P8 (N9 (Y4 E) E.length (cR L) L.length) 0)))) (by kernel_rfl) rfl))
theorem c3a(y:Value)(E:List (Value×List (Int×Int)))(yl:Value)(L:List (Int×Int))(z:Value)(M:List Int)(zk:Value)(K:List Int)(hF:¬ (gwB (Y4 E) E.length L.length=false∧M.length≤20∧K.length≤20∧c8 (N9 (Y4 E) E.length (cR L) L.length) (N7 L.length (cI M) M.length) (N7 L.length (cI K) K.length)=0)):GivesA zP0q 42 [(b5L E L y yl),(.xl z M.length 1 (cI M)),(.xl zk K.length 1 (cI K))] (.bool false) :=
 U3 27 Try.func42 (by kernel_rfl) (by kernel_rfl) (by kernel_rfl) (fun w=>U9 (by kernel_rfl) (by kernel_rfl) (by kernel_rfl) (by kernel_rfl) (c2R y E yl L z M zk K hF w []))
noncomputable def c68:Code:=O0 Try.f22
theorem c5T(y z:Value)(a0 a1 a2:Int)(w:World)(hs:List Nat):Y8 zP0q 26 c68 (⟨[(0,(.xl y 3 1 [nI0 a0,nI0 a1,nI0 a2])),(1,(.xl z 3 1 [nI0 a0,nI0 a1,nI0 a2]))],[],0,[]⟩) (BaseW.H w hs) (U0 zP0q Try.f22 26 (.bool true) w):=by
 rcases zB0q (P8 a0 a0) with hqlt3_1|hqlt3_1
 ·have ghqlt3_1:=X6 hqlt3_1
  rcases zB0q (P8 a1 a1) with hqlt3_2|hqlt3_2
  ·have ghqlt3_2:=X6 hqlt3_2
   rcases zB0q (P8 a2 a2) with hqlt3_3|hqlt3_3
   ·have ghqlt3_3:=X6 hqlt3_3
    exact Z8 V1 (Z7 zC0q (Z0) 200 (T':=⟨[(4,(.v (.bool .true)))],[],0,[]⟩) (e:=.ret) (ps:=[(!P8 3 3)=false,X8 0 3=true,(!P8 a0 a0)=false,K5 IntKind.i64 (0+1),X8 (0+1) 3=true,(!P8 a1 a1)=false,K5 IntKind.i64 (0+1+1),X8 (0+1+1) 3=true,(!P8 a2 a2)=false,K5 IntKind.i64 (0+1+1+1),X8 (0+1+1+1) 3=false]) (gH 6 ([.b false]++gH 5 ([.b true]++gH 9 ([.b false]++gH 7 ([.b true]++gH 9 ([.b false]++gH 7 ([.b true]++gH 9 ([.b false]++gH 7 [.b false,.go])))))))) (by kernel_rfl) (by kernel_rfl) ⟨(by simp [a0o]),rfl,(by rw [hqlt3_1];rfl),(by show -9223372036854775808≤(_:Int)∧(_:Int)≤9223372036854775807;constructor<;>decide),rfl,(by rw [hqlt3_2];rfl),(by show -9223372036854775808≤(_:Int)∧(_:Int)≤9223372036854775807;constructor<;>decide),rfl,(by rw [hqlt3_3];rfl),(by show -9223372036854775808≤(_:Int)∧(_:Int)≤9223372036854775807;constructor<;>decide),rfl,trivial⟩ rfl) (Hd.en_eq (r:=(.bool .true)) (by rfl) (Hd.en_ret (v:=(.v (.bool .true))) (by kernel_rfl) rfl))
   ·have ghqlt3_3:=W5 hqlt3_3
    exact absurd rfl (W5 hqlt3_3)
  ·have ghqlt3_2:=W5 hqlt3_2
   exact absurd rfl (W5 hqlt3_2)
 ·have ghqlt3_1:=W5 hqlt3_1
  exact absurd rfl (W5 hqlt3_1)
theorem c2A(y z:Value)(a0 a1 a2:Int):GivesA zP0q 22 [(.xl y 3 1 [nI0 a0,nI0 a1,nI0 a2]),(.xl z 3 1 [nI0 a0,nI0 a1,nI0 a2])] (.bool true) :=
 U3 26 Try.func22 (by kernel_rfl) (by kernel_rfl) (by kernel_rfl) (fun w=>U9 (by kernel_rfl) (by kernel_rfl) (by kernel_rfl) (by kernel_rfl) (c5T y z a0 a1 a2 w []))
end
end Go.Proofs.Ytegmogadbnfbgaa
