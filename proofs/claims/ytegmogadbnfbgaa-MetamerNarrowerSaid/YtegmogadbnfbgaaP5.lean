/- Texts of this proof, put together. -/
import Derived.Test.YtegmogadbnfbgaaP4
import Derived.Test.YtegmogadbnfbgaaP3
import Derived.Test.YtegmogadbnfbgaaP2
set_option linter.all false
set_option maxHeartbeats 4000000
namespace Go.Proofs.Ytegmogadbnfbgaa
open Go Ev
noncomputable section
theorem a0Z{a:Int}(h : -9223372036854775808≤a)(k:a≤9223372036854775807):L3 .i64 a:=⟨h,k⟩
section
variable (B : List Int) (L P0 P1 P2 : List (Int × Int)) (i j n : Nat) (v0 v1 v2 y yl zb : Value)
@[reducible] def Q4:Nat×Ev.AV:=(1,(.xl (zb) (B.length) 1 (cH B)))
@[reducible] def g6:Ev.AB:=(.cells [(.xl (y) (3) 1 [(.xl (v0) (P0.length) 2 (cR P0)),(.xl (v1) (P1.length) 2 (cR P1)),(.xl (v2) (P2.length) 2 (cR P2))]),(.xl (yl) (L.length) 2 (cR L))] 25)
@[reducible] def Q5:Nat×Ev.AB:=(0,(g6 L P0 P1 P2 v0 v1 v2 y yl))
@[reducible] def y9:Ev.AB:=(.cells [(.v (Value.slice none 0 0)),(.v (Value.slice none 0 0))] 29)
@[reducible] def Q7:Nat×Ev.AB:=(1,y9)
@[reducible] def J9:Ev.AB:=(.row (cI (tI (V0 (cR L) (cH B) B.length 0) (n+1))) 2 1)
@[reducible] def M1:Nat×Ev.AB:=(3,(J9 B L n))
@[reducible] def b7U:Ev.Lit:=⟨[(Q4 B zb),(2,(.ptr 0 0)),(4,(.ptr 1 0)),(5,(.ptr 2 0)),(6,(nI0 (((n+1):Nat):Int))),(8,(nI0 0))],[],4,[(Q5 L P0 P1 P2 v0 v1 v2 y yl),Q7,(2,(.cells [(.v (.slice none 0 0)),(.slu 3 0 (n+1) 0)] 29)),(M1 B L n)]⟩
@[reducible] def b9:Ev.AB:=(.cells [(.slu 4 0 1 0),(.slu 3 0 (n+1) 0)] 29)
@[reducible] def J4:Ev.AB:=(.row (cI (tI (V0 (cR P0) (cH B) B.length (n+1)) (n+1))) 2 1)
@[reducible] def G7:Nat×Ev.AB:=(5,(J4 B P0 n))
@[reducible] def b43:Ev.Lit:=⟨[(Q4 B zb),(2,(.ptr 0 0)),(4,(.ptr 1 0)),(5,(.ptr 2 0)),(6,(nI0 (((2*(n+1)):Nat):Int))),(8,(nI0 1))],[],6,[(Q5 L P0 P1 P2 v0 v1 v2 y yl),Q7,(2,(b9 n)),(M1 B L n),(4,(.row [(.slu 5 0 (n+1) 0)] 27 1)),(G7 B P0 n)]⟩
@[reducible] def a08:Ev.AB:=(.cells [(.slu 4 0 2 0),(.slu 3 0 (n+1) 0)] 29)
@[reducible] def n8:Ev.AB:=(.row [(.slu 5 0 (n+1) 0),(.slu 6 0 (n+1) 0)] 27 1)
@[reducible] def N3:Ev.AB:=(.row (cI (tI (V0 (cR P1) (cH B) B.length (2*(n+1))) (n+1))) 2 1)
@[reducible] def b4m:Ev.Lit:=⟨[(Q4 B zb),(2,(.ptr 0 0)),(4,(.ptr 1 0)),(5,(.ptr 2 0)),(6,(nI0 (((3*(n+1)):Nat):Int))),(8,(nI0 2))],[],7,[(Q5 L P0 P1 P2 v0 v1 v2 y yl),Q7,(2,(a08 n)),(M1 B L n),(4,(n8 n)),(G7 B P0 n),(6,(N3 B P1 n))]⟩
@[reducible] def F7:Ev.AB:=(.row (cI (tI (V0 (cR P2) (cH B) B.length (3*(n+1))) (n+1))) 2 1)
@[reducible] def b8T:Ev.Lit:=⟨[(Q4 B zb),(2,(.ptr 0 0)),(4,(.ptr 1 0)),(5,(.ptr 2 0)),(6,(nI0 (((4*(n+1)):Nat):Int))),(8,(nI0 3))],[],8,[(Q5 L P0 P1 P2 v0 v1 v2 y yl),Q7,(2,(.cells [(.slu 4 0 3 0),(.slu 3 0 (n+1) 0)] 29)),(M1 B L n),(4,(.row [(.slu 5 0 (n+1) 0),(.slu 6 0 (n+1) 0),(.slu 7 0 (n+1) 0)] 27 1)),(G7 B P0 n),(6,(N3 B P1 n)),(7,(F7 B P2 n))]⟩
@[reducible] def a26:=(Ev.fam0 ((b7U B L P0 P1 P2 n v0 v1 v2 y yl zb):Ev.Lit) (Ev.fam0 ((b43 B L P0 P1 P2 n v0 v1 v2 y yl zb):Ev.Lit) (Ev.fam0 ((b4m B L P0 P1 P2 n v0 v1 v2 y yl zb):Ev.Lit) (fun _=>((b8T B L P0 P1 P2 n v0 v1 v2 y yl zb):Ev.Lit)))))
@[reducible] def b86:Ev.Lit:=⟨[(Q4 B zb),(2,(.ptr 0 0)),(4,(.ptr 1 0)),(5,(.ptr 2 0)),(6,(nI0 (((3*(n+1))+(j+1):Nat):Int))),(8,(nN 2)),(9,(.slu 7 0 (j+1) 0)),(10,(nI0 (((j+1):Nat):Int)))],[],8,[(Q5 L P0 P1 P2 v0 v1 v2 y yl),Q7,(2,(a08 n)),(M1 B L n),(4,(n8 n)),(G7 B P0 n),(6,(N3 B P1 n)),(7,(.row (cI (tI (V0 (cR P2) (cH B) B.length (3*(n+1))) (j+1))) 2 1))]⟩
@[reducible] def c2B:Ev.Lit:=⟨[(Q4 B zb),(2,(.ptr 0 0)),(4,(.ptr 1 0)),(5,(.ptr 2 0)),(6,(nI0 (((3*(n+1)+((n)+1):Nat):Int)))),(8,(nN 2)),(9,(.slu 7 0 ((n)+1) 0))],[],8,[(Q5 L P0 P1 P2 v0 v1 v2 y yl),Q7,(2,(a08 n)),(M1 B L n),(4,(n8 n)),(G7 B P0 n),(6,(N3 B P1 n)),(7,(.row (cI (tI (V0 (cR P2) (cH B) B.length (3*(n+1))) ((n)+1))) 2 1))]⟩
@[reducible] def c2G:Ev.Lit:=⟨[(Q4 B zb),(2,(.ptr 0 0)),(4,(.ptr 1 0)),(5,(.ptr 2 0)),(6,(nI0 (((3*(n+1)+(n+1):Nat):Int)))),(8,(nN 2))],[],10,[(Q5 L P0 P1 P2 v0 v1 v2 y yl),Q7,(2,(.cells [(.slu 9 0 3 0),(.slu 3 0 (n+1) 0)] 29)),(M1 B L n),(G7 B P0 n),(6,(N3 B P1 n)),(7,(F7 B P2 n)),(9,(.row [(.slu 5 0 (n+1) 0),(.slu 6 0 (n+1) 0),(.slu 7 0 (n+1) 0)] 27 1))]⟩
@[reducible] def b77:Ev.Lit:=⟨[(Q4 B zb),(2,(.ptr 0 0)),(4,(.ptr 1 0)),(5,(.ptr 2 0)),(6,(nI0 (((3*(n+1):Nat):Int)))),(8,(nN 2)),(9,(.v (Value.slice none 0 0))),(10,(nI0 0))],[],7,[(Q5 L P0 P1 P2 v0 v1 v2 y yl),Q7,(2,(a08 n)),(M1 B L n),(4,(n8 n)),(G7 B P0 n),(6,(N3 B P1 n))]⟩
@[reducible] def b7K:Ev.Lit:=⟨[(Q4 B zb),(2,(.ptr 0 0)),(4,(.ptr 1 0)),(5,(.ptr 2 0)),(6,(nI0 (((3*(n+1):Nat):Int)))),(8,(nN 2)),(9,(.v (Value.slice none 0 0))),(10,(nN 0))],[],7,[(Q5 L P0 P1 P2 v0 v1 v2 y yl),Q7,(2,(a08 n)),(M1 B L n),(4,(n8 n)),(G7 B P0 n),(6,(N3 B P1 n))]⟩
@[reducible] def b6p:Ev.Lit:=⟨[(Q4 B zb),(2,(.ptr 0 0)),(4,(.ptr 1 0)),(5,(.ptr 2 0)),(6,(nI0 (((2*(n+1))+(j+1):Nat):Int))),(8,(nN 1)),(9,(.slu 6 0 (j+1) 0)),(10,(nI0 (((j+1):Nat):Int)))],[],7,[(Q5 L P0 P1 P2 v0 v1 v2 y yl),Q7,(2,(b9 n)),(M1 B L n),(4,(.row [(.slu 5 0 (n+1) 0)] 27 1)),(G7 B P0 n),(6,(.row (cI (tI (V0 (cR P1) (cH B) B.length (2*(n+1))) (j+1))) 2 1))]⟩
@[reducible] def b9D:Ev.Lit:=⟨[(Q4 B zb),(2,(.ptr 0 0)),(4,(.ptr 1 0)),(5,(.ptr 2 0)),(6,(nI0 (((3*(n+1):Nat):Int)))),(8,(nN 2)),(9,(.v (Value.slice none 0 0)))],[],7,[(Q5 L P0 P1 P2 v0 v1 v2 y yl),Q7,(2,(a08 n)),(M1 B L n),(4,(n8 n)),(G7 B P0 n),(6,(N3 B P1 n))]⟩
@[reducible] def b7B:Ev.Lit:=⟨[(Q4 B zb),(2,(.ptr 0 0)),(4,(.ptr 1 0)),(5,(.ptr 2 0)),(6,(nI0 (((2*(n+1)+((n)+1):Nat):Int)))),(8,(nN 1)),(9,(.slu 6 0 ((n)+1) 0))],[],7,[(Q5 L P0 P1 P2 v0 v1 v2 y yl),Q7,(2,(b9 n)),(M1 B L n),(4,(.row [(.slu 5 0 (n+1) 0)] 27 1)),(G7 B P0 n),(6,(.row (cI (tI (V0 (cR P1) (cH B) B.length (2*(n+1))) ((n)+1))) 2 1))]⟩
@[reducible] def b7P:Ev.Lit:=⟨[(Q4 B zb),(2,(.ptr 0 0)),(4,(.ptr 1 0)),(5,(.ptr 2 0)),(6,(nI0 (((2*(n+1)+(n+1):Nat):Int)))),(8,(nN 1))],[],9,[(Q5 L P0 P1 P2 v0 v1 v2 y yl),Q7,(2,(.cells [(.slu 8 0 2 0),(.slu 3 0 (n+1) 0)] 29)),(M1 B L n),(G7 B P0 n),(6,(N3 B P1 n)),(8,(n8 n))]⟩
@[reducible] def b03:Ev.Lit:=⟨[(Q4 B zb),(2,(.ptr 0 0)),(4,(.ptr 1 0)),(5,(.ptr 2 0)),(6,(nI0 (((3*(n+1):Nat):Int)))),(8,(nN 2))],[],7,[(Q5 L P0 P1 P2 v0 v1 v2 y yl),Q7,(2,(a08 n)),(M1 B L n),(4,(n8 n)),(G7 B P0 n),(6,(N3 B P1 n))]⟩
@[reducible] def b3B:Ev.Lit:=⟨[(Q4 B zb),(2,(.ptr 0 0)),(4,(.ptr 1 0)),(5,(.ptr 2 0)),(6,(nI0 (((2*(n+1):Nat):Int)))),(8,(nN 1)),(9,(.v (Value.slice none 0 0))),(10,(nI0 0))],[],6,[(Q5 L P0 P1 P2 v0 v1 v2 y yl),Q7,(2,(b9 n)),(M1 B L n),(4,(.row [(.slu 5 0 (n+1) 0)] 27 1)),(G7 B P0 n)]⟩
@[reducible] def b2N:Ev.Lit:=⟨[(Q4 B zb),(2,(.ptr 0 0)),(4,(.ptr 1 0)),(5,(.ptr 2 0)),(6,(nI0 (((2*(n+1):Nat):Int)))),(8,(nN 1)),(9,(.v (Value.slice none 0 0))),(10,(nN 0))],[],6,[(Q5 L P0 P1 P2 v0 v1 v2 y yl),Q7,(2,(b9 n)),(M1 B L n),(4,(.row [(.slu 5 0 (n+1) 0)] 27 1)),(G7 B P0 n)]⟩
@[reducible] def a0w:Ev.AB:=(.cells [(.v (Value.slice none 0 0)),(.slu 3 0 (n+1) 0)] 29)
@[reducible] def b2Q:Ev.Lit:=⟨[(Q4 B zb),(2,(.ptr 0 0)),(4,(.ptr 1 0)),(5,(.ptr 2 0)),(6,(nI0 (((n+1)+(j+1):Nat):Int))),(8,(nN 0)),(9,(.slu 4 0 (j+1) 0)),(10,(nI0 (((j+1):Nat):Int)))],[],5,[(Q5 L P0 P1 P2 v0 v1 v2 y yl),Q7,(2,(a0w n)),(M1 B L n),(4,(.row (cI (tI (V0 (cR P0) (cH B) B.length (n+1)) (j+1))) 2 1))]⟩
@[reducible] def b2U:Ev.Lit:=⟨[(Q4 B zb),(2,(.ptr 0 0)),(4,(.ptr 1 0)),(5,(.ptr 2 0)),(6,(nI0 (((2*(n+1):Nat):Int)))),(8,(nN 1)),(9,(.v (Value.slice none 0 0)))],[],6,[(Q5 L P0 P1 P2 v0 v1 v2 y yl),Q7,(2,(b9 n)),(M1 B L n),(4,(.row [(.slu 5 0 (n+1) 0)] 27 1)),(G7 B P0 n)]⟩
@[reducible] def b6F:Ev.Lit:=⟨[(Q4 B zb),(2,(.ptr 0 0)),(4,(.ptr 1 0)),(5,(.ptr 2 0)),(6,(nI0 (((n+1+((n)+1):Nat):Int)))),(8,(nN 0)),(9,(.slu 4 0 ((n)+1) 0))],[],5,[(Q5 L P0 P1 P2 v0 v1 v2 y yl),Q7,(2,(a0w n)),(M1 B L n),(4,(.row (cI (tI (V0 (cR P0) (cH B) B.length (n+1)) ((n)+1))) 2 1))]⟩
@[reducible] def b7a:Ev.Lit:=⟨[(Q4 B zb),(2,(.ptr 0 0)),(4,(.ptr 1 0)),(5,(.ptr 2 0)),(6,(nI0 (((n+1+(n+1):Nat):Int)))),(8,(nN 0))],[],7,[(Q5 L P0 P1 P2 v0 v1 v2 y yl),Q7,(2,(.cells [(.slu 6 0 1 0),(.slu 3 0 (n+1) 0)] 29)),(M1 B L n),(4,(J4 B P0 n)),(6,(.row [(.slu 4 0 (n+1) 0)] 27 1))]⟩
@[reducible] def b0j:Ev.Lit:=⟨[(Q4 B zb),(2,(.ptr 0 0)),(4,(.ptr 1 0)),(5,(.ptr 2 0)),(6,(nI0 (((2*(n+1):Nat):Int)))),(8,(nN 1))],[],6,[(Q5 L P0 P1 P2 v0 v1 v2 y yl),Q7,(2,(b9 n)),(M1 B L n),(4,(.row [(.slu 5 0 (n+1) 0)] 27 1)),(G7 B P0 n)]⟩
@[reducible] def b3a:Ev.Lit:=⟨[(Q4 B zb),(2,(.ptr 0 0)),(4,(.ptr 1 0)),(5,(.ptr 2 0)),(6,(nI0 (((n+1:Nat):Int)))),(8,(nN 0)),(9,(.v (Value.slice none 0 0))),(10,(nI0 0))],[],4,[(Q5 L P0 P1 P2 v0 v1 v2 y yl),Q7,(2,(a0w n)),(M1 B L n)]⟩
@[reducible] def b3N:Ev.Lit:=⟨[(Q4 B zb),(2,(.ptr 0 0)),(4,(.ptr 1 0)),(5,(.ptr 2 0)),(6,(nI0 (((n+1:Nat):Int)))),(8,(nN 0)),(9,(.v (Value.slice none 0 0))),(10,(nN 0))],[],4,[(Q5 L P0 P1 P2 v0 v1 v2 y yl),Q7,(2,(a0w n)),(M1 B L n)]⟩
@[reducible] def b3v:Ev.Lit:=⟨[(Q4 B zb),(2,(.ptr 0 0)),(4,(.ptr 1 0)),(5,(.ptr 2 0)),(6,(nI0 (((n+1:Nat):Int)))),(8,(nN 0)),(9,(.v (Value.slice none 0 0)))],[],4,[(Q5 L P0 P1 P2 v0 v1 v2 y yl),Q7,(2,(a0w n)),(M1 B L n)]⟩
@[reducible] def b4j:Ev.Lit:=⟨[(Q4 B zb),(2,(.ptr 0 0)),(4,(.ptr 1 0)),(5,(.ptr 2 0)),(6,(nI0 (((i+1):Nat):Int))),(7,(nI0 (((i+1):Nat):Int)))],[],4,[(Q5 L P0 P1 P2 v0 v1 v2 y yl),Q7,(2,(.cells [(.v (.slice none 0 0)),(.slu 3 0 (i+1) 0)] 29)),(3,(.row (cI (tI (V0 (cR L) (cH B) B.length 0) (i+1))) 2 1))]⟩
@[reducible] def a3v:Ev.Lit:=⟨[(Q4 B zb),(2,(.ptr 0 0)),(4,(.ptr 1 0)),(5,(.ptr 2 0)),(6,(nI0 (((n+1:Nat):Int)))),(8,(nN 0))],[],4,[(Q5 L P0 P1 P2 v0 v1 v2 y yl),Q7,(2,(a0w n)),(M1 B L n)]⟩
@[reducible] def b9Z:Ev.Lit:=⟨[(4,(.ptr 1 0)),(5,(.ptr 2 0))],[],8,[Q7,(2,(.cells [(.slu 4 0 3 0),(.slu 3 0 (n+1) 0)] 29)),(M1 B L n),(4,(.row [(.slu 5 0 (n+1) 0),(.slu 6 0 (n+1) 0),(.slu 7 0 (n+1) 0)] 27 1)),(G7 B P0 n),(6,(N3 B P1 n)),(7,(F7 B P2 n))]⟩
@[reducible] def b2I:Ev.Lit:=⟨[(Q4 B zb),(2,(.ptr 0 0)),(4,(.ptr 1 0)),(5,(.ptr 2 0)),(6,(nI0 ((((n)+1:Nat):Int))))],[],4,[(Q5 L P0 P1 P2 v0 v1 v2 y yl),Q7,(2,(.cells [(.v (Value.slice none 0 0)),(.slu 3 0 ((n)+1) 0)] 29)),(3,(.row (cI (tI (V0 (cR L) (cH B) B.length 0) ((n)+1))) 2 1))]⟩
@[reducible] def b2c:Ev.Lit:=⟨[(Q4 B zb),(2,(.ptr 0 0)),(4,(.ptr 1 0)),(5,(.ptr 2 0)),(6,(nN 0)),(7,(nI0 0))],[],3,[(Q5 L P0 P1 P2 v0 v1 v2 y yl),Q7,(2,y9)]⟩
@[reducible] def b26:Ev.Lit:=⟨[(Q4 B zb),(2,(.ptr 0 0)),(4,(.ptr 1 0)),(5,(.ptr 2 0)),(6,(nN 0)),(7,(nN 0))],[],3,[(Q5 L P0 P1 P2 v0 v1 v2 y yl),Q7,(2,y9)]⟩
@[reducible] def b2z:Ev.Lit:=⟨[(Q4 B zb),(2,(.ptr 0 0)),(4,(.ptr 1 0)),(5,(.ptr 2 0)),(6,(nN 0))],[],3,[(Q5 L P0 P1 P2 v0 v1 v2 y yl),Q7,(2,y9)]⟩
@[reducible] def b6q:Ev.Lit:=⟨[(Q4 B zb),(2,(.ptr 0 0)),(4,(.ptr 1 0)),(5,(.ptr 2 0))],[],3,[(Q5 L P0 P1 P2 v0 v1 v2 y yl),Q7,(2,y9)]⟩
@[reducible] def b7u:Ev.Lit:=⟨[(Q4 B zb),(2,(.ptr 0 0)),(4,(.ptr 1 0))],[],2,[(Q5 L P0 P1 P2 v0 v1 v2 y yl),Q7]⟩
@[reducible] def s7:Ev.AB:=(.row [.slu 2 0 (n+1) 0,.slu 3 0 (n+1) 0,.slu 4 0 (n+1) 0] 27 1)
end
noncomputable def c9B:Code:=N6 Try.f43
noncomputable def c75:Code:=L2 c9B
noncomputable def c9z:Code:=L2 c75
noncomputable def c3O:Code:=L2 c9z
noncomputable def b0B:Code:=L2 c3O
noncomputable def c2p:Code:=(l5 c3O)
noncomputable def b9A:Code:=L2 c2p
noncomputable def c1O:Code:=G5 b9A
@[reducible] def b5o(B:List Int)(L P0 P1 P2:List (Int×Int))(eb:Nat→Option Nat)(ec:Nat→Nat)(n:Nat)(v:BaseW)(v0 v1 v2 y yl zb:Value):=Hd.StepC zP0q 73 0 (fun i:{i:Nat // i≤(n+1)∧True}=>Ev.fam0 (b2c B L P0 P1 P2 v0 v1 v2 y yl zb) (fun i=>(b4j B L P0 P1 P2 i v0 v1 v2 y yl zb)) i.1) (fun i:{i:Nat // i≤(n+1)∧True}=>(n+1) - i.1) b0B (bw v 0 eb ec) (D3 zP0q Try.f43 73 ((.agg [.slu 0 0 3 0,.slu 1 0 (n+1) 0])) [(s7 n),(J9 B L n),(J4 B P0 n),(N3 B P1 n),(F7 B P2 n)] (bw v 0 eb ec))
@[reducible] def a2c(B:List Int)(L P0 P1 P2:List (Int×Int))(eb:Nat→Option Nat)(ec:Nat→Nat)(n:Nat)(v:BaseW):=(D3 zP0q Try.f43 73 ((.agg [.slu 0 0 3 0,.slu 1 0 (n+1) 0])) [(s7 n),(J9 B L n),(J4 B P0 n),(N3 B P1 n),(F7 B P2 n)] (bw v 0 eb ec))
section
variable {B:List Int} {L P0 P1 P2:List (Int×Int)} {eb:Nat→Option Nat} {ec:Nat→Nat} {hs:List Nat} {i j n:Nat} {v:BaseW} {v0 v1 v2 y yl zb:Value}
theorem c9w(hT:l9 L P0 P1 P2 n)(hB:R7 B)(hi1:0≤(n+1))(hi2:True):Y6 zP0q 73 c1O ((b2c B L P0 P1 P2 v0 v1 v2 y yl zb)) (BaseW.H (bw v 0 eb ec) hs) (b5o B L P0 P1 P2 eb ec n v v0 v1 v2 y yl zb (⟨0,hi1,hi2⟩:{i:Nat // i≤(n+1)∧True})):=by
 have hcl_P0:=Y8 P0
 have hcl_P1:=Y8 P1
 have hcl_P2:=Y8 P2
 have hcl_L:=Y8 L
 have hcl_B:=Y5 B
 obtain ⟨hn,hn8,hp0,hp1,hp2,hL,hc0,hc1,hc2⟩:=(id hT)
 rcases zB0q (Y1 0 L.length) with hqtr22_1|hqtr22_1
 ·have ghqtr22_1:=W7 hqtr22_1
  exact Z6 W3 (U8 zC0q (T5) 200 (T':=⟨[(Q4 B zb),(2,(.ptr 0 0)),(4,(.ptr 1 0)),(5,(.ptr 2 0)),(6,(nI0 (((0+1):Nat):Int))),(7,(nI0 (((0+1):Nat):Int)))],[],4,[(Q5 L P0 P1 P2 v0 v1 v2 y yl),Q7,(2,(.cells [(.v (.slice none 0 0)),(.slu 3 0 (0+1) 0)] 29)),(3,(.row (cI (tI (V0 (cR L) (cH B) B.length 0) (0+1))) 2 1))]⟩) (e:=.normal) (m:=5) (ps:=[Y1 0 L.length=true,0<L.length,W6 zP0q (cR L) (0*2) 65=some (AV.agg [AV.v (Value.int IntKind.i64 (Z8 (cR L) (0*2+0))),AV.v (Value.int IntKind.i64 (Z8 (cR L) (0*2+1)))]),IsH 1 B.length (cH B),0≤Z8 (cR L) (0*2+0)∧Z8 (cR L) (0*2+0)≤Z8 (cR L) (0*2+1)∧Z8 (cR L) (0*2+1)≤1000,0≤(0:Int)∧(0:Int)≤1000,L3 IntKind.i64 ((0:Int)+1),L3 IntKind.i64 (((0:Nat):Int)+1)]) (gH 5 ([.b true]++gH 5 ([.sym,.sym]++gH 12 []))) [0,1,2,4] [(.xl (zb) (B.length) 1 (cH B)),(.ptr 0 0),(.ptr 1 0),(.ptr 2 0),(nN 1),(nN 1)] [(g6 L P0 P1 P2 v0 v1 v2 y yl),y9,(.cells [(.v (Value.slice none 0 0)),(.slu 4 0 1 0)] 29),(.row [(nI0 (pkV (Z8 (cR L) (0*2+0)) (Z8 (cR L) (0*2+1)) (cH B) B.length ((0:Int)).toNat))] 2 1)] (by kernel_rfl) (by kernel_rfl) ⟨hqtr22_1,(by omega),(I8 (by omega) 65 (Try.underlying65) rfl (inf:=(Try.prog.info? 65).getD default) (by kernel_rfl) (by kernel_rfl)),⟨rfl,B,rfl,rfl,hB⟩,(by have h9:=hL 0 (by omega);unfold X7 at h9;omega),(by constructor<;>omega),(a0Z (by omega) (by omega)),(a0Z (by omega) (by omega)),trivial⟩ rfl rfl (by decide) rfl ⟨V7 (Z7 (J5 B)),X8 rfl,X8 rfl,X8 rfl,S6 (show (1:Int)=(((0+1):Nat):Int) from by omega),S6 (show (1:Int)=(((0+1):Nat):Int) from by omega),trivial⟩ ⟨⟨by show 0<4;decide,Z0 (Z9 (V4 (X6 (Y2 [(v0,P0),(v1,P1),(v2,P2)]))) (Z9 (V7 (Z7 (Y7 L))) (Z3)))⟩,⟨by show 1<4;decide,Z0 (Z9 (W0 _) (Z9 (W0 _) (Z3)))⟩,⟨by show 2<4;decide,Z0 (Z9 (W0 _) (Z9 (Y9 rfl) (Z3)))⟩,⟨by show 3<4;decide,Z1 (K6 (show ((cI (tI (V0 (cR L) (cH B) B.length 0) (0+1))):List AV)=[(nI0 (pkV (Z8 (cR L) (0*2+0)) (Z8 (cR L) (0*2+1)) (cH B) B.length ((0:Int)).toNat))] from by (first|exact (a1U rfl (by unfold V0;rfl)).symm|exact (a1X (by unfold V0;rw [Nat.zero_add];rfl)).symm)) (Z5 _))⟩,trivial⟩) (Hd.en_on (⟨0+1,by omega,trivial⟩) (by show (n+1) - (0+1)<(n+1) - 0;omega) rfl)
 ·have ghqtr22_1:=Z4 hqtr22_1
  exfalso;omega
noncomputable def a1p:Code:=L2 b0B
noncomputable def c1C:Code:=(l5 b0B)
noncomputable def c01:Code:=L2 c1C
noncomputable def b0W:Code:=G5 c01
noncomputable def a5A:Code:=L2 b0W
noncomputable def a0g:Code:=L2 a5A
noncomputable def b5x:Code:=a4L (l5 a5A)
noncomputable def b1T:Code:=L2 b5x
noncomputable def a4v:Code:=L2 b1T
noncomputable def b4R:Code:=(l5 b1T)
noncomputable def a6S:Code:=L2 b4R
noncomputable def a8U:Code:=G5 a6S
@[reducible] def b6x(B:List Int)(L P0 P1 P2:List (Int×Int))(eb:Nat→Option Nat)(ec:Nat→Nat)(n:Nat)(v:BaseW)(v0 v1 v2 y yl zb:Value):=Hd.StepC zP0q 73 4 (fun j:{j:Nat // j≤(n+1)∧True}=>Ev.fam0 (b3a B L P0 P1 P2 n v0 v1 v2 y yl zb) (fun j=>(b2Q B L P0 P1 P2 j n v0 v1 v2 y yl zb)) j.1) (fun j:{j:Nat // j≤(n+1)∧True}=>(n+1) - j.1) a4v (bw v 0 eb ec) (Hd.AfterB zP0q 73 3 a0g (bw v 0 eb ec) (Hd.StepC zP0q 73 2 (fun i:{i:Nat // i≤3∧True}=>(a26 B L P0 P1 P2 n v0 v1 v2 y yl zb) i.1) (fun i:{i:Nat // i≤3∧True}=>3 - i.1) a1p (bw v 0 eb ec) (D3 zP0q Try.f43 73 ((.agg [.slu 0 0 3 0,.slu 1 0 (n+1) 0])) [(s7 n),(J9 B L n),(J4 B P0 n),(N3 B P1 n),(F7 B P2 n)] (bw v 0 eb ec)) (⟨0,by decide,trivial⟩:{i:Nat // i≤3∧True})))
@[reducible] def b3k(B:List Int)(L P0 P1 P2:List (Int×Int))(eb:Nat→Option Nat)(ec:Nat→Nat)(n:Nat)(v:BaseW)(v0 v1 v2 y yl zb:Value):=(Hd.AfterB zP0q 73 3 a0g (bw v 0 eb ec) (Hd.StepC zP0q 73 2 (fun i:{i:Nat // i≤3∧True}=>(a26 B L P0 P1 P2 n v0 v1 v2 y yl zb) i.1) (fun i:{i:Nat // i≤3∧True}=>3 - i.1) a1p (bw v 0 eb ec) (D3 zP0q Try.f43 73 ((.agg [.slu 0 0 3 0,.slu 1 0 (n+1) 0])) [(s7 n),(J9 B L n),(J4 B P0 n),(N3 B P1 n),(F7 B P2 n)] (bw v 0 eb ec)) (⟨0,by decide,trivial⟩:{i:Nat // i≤3∧True})))
@[reducible] def z9(B:List Int)(L P0 P1 P2:List (Int×Int))(eb:Nat→Option Nat)(ec:Nat→Nat)(n:Nat)(v:BaseW)(v0 v1 v2 y yl zb:Value):=Hd.StepC zP0q 73 2 (fun i:{i:Nat // i≤3∧True}=>(a26 B L P0 P1 P2 n v0 v1 v2 y yl zb) i.1) (fun i:{i:Nat // i≤3∧True}=>3 - i.1) a1p (bw v 0 eb ec) (D3 zP0q Try.f43 73 ((.agg [.slu 0 0 3 0,.slu 1 0 (n+1) 0])) [(s7 n),(J9 B L n),(J4 B P0 n),(N3 B P1 n),(F7 B P2 n)] (bw v 0 eb ec))
theorem c8k(hT:l9 L P0 P1 P2 n)(hB:R7 B)(h0b:True)(hqtr24_1:(Y1 (((n)+1:Nat):Int) L.length)=false)(hj1:0≤(n+1))(hj2:True):Y6 zP0q 73 a8U ((b3a B L P0 P1 P2 n v0 v1 v2 y yl zb)) (BaseW.H (bw v 0 eb ec) hs) (b6x B L P0 P1 P2 eb ec n v v0 v1 v2 y yl zb (⟨0,hj1,hj2⟩:{j:Nat // j≤(n+1)∧True})):=by
 have hcl_P0:=Y8 P0
 have hcl_P1:=Y8 P1
 have hcl_P2:=Y8 P2
 have hcl_L:=Y8 L
 have hcl_B:=Y5 B
 obtain ⟨hn,hn8,hp0,hp1,hp2,hL,hc0,hc1,hc2⟩:=(id hT)
 have ghqtr24_1:=Z4 hqtr24_1
 rcases zB0q (Y1 0 P0.length) with hqtr56_1|hqtr56_1
 ·have ghqtr56_1:=W7 hqtr56_1
  exact Z6 W3 (U8 zC0q (T5) 200 (T':=⟨[(Q4 B zb),(2,(.ptr 0 0)),(4,(.ptr 1 0)),(5,(.ptr 2 0)),(6,(nI0 (((n+1)+(0+1):Nat):Int))),(8,(nN 0)),(9,(.slu 4 0 (0+1) 0)),(10,(nI0 (((0+1):Nat):Int)))],[],5,[(Q5 L P0 P1 P2 v0 v1 v2 y yl),Q7,(2,(a0w n)),(M1 B L n),(4,(.row (cI (tI (V0 (cR P0) (cH B) B.length (n+1)) (0+1))) 2 1))]⟩) (e:=.normal) (m:=6) (ps:=[Y1 0 P0.length=true,0<P0.length,W6 zP0q (cR P0) (0*2) 65=some (AV.agg [AV.v (Value.int IntKind.i64 (Z8 (cR P0) (0*2+0))),AV.v (Value.int IntKind.i64 (Z8 (cR P0) (0*2+1)))]),IsH 1 B.length (cH B),0≤Z8 (cR P0) (0*2+0)∧Z8 (cR P0) (0*2+0)≤Z8 (cR P0) (0*2+1)∧Z8 (cR P0) (0*2+1)≤1000,(0:Int)≤((n+1:Nat):Int)∧((n+1:Nat):Int)≤1000,L3 IntKind.i64 (((n+1:Nat):Int)+1),L3 IntKind.i64 (((0:Nat):Int)+1)]) (gH 8 ([.b true]++gH 7 ([.sym,.sym]++gH 11 []))) [0,1,2,3,5] [(.xl (zb) (B.length) 1 (cH B)),(.ptr 0 0),(.ptr 1 0),(.ptr 2 0),(nI0 (((n+1:Nat):Int)+1)),(nN 0),(.slu 5 0 1 0),(nN 1)] [(g6 L P0 P1 P2 v0 v1 v2 y yl),y9,(a0w n),(J9 B L n),(.row [(nI0 (pkV (Z8 (cR P0) (0*2+0)) (Z8 (cR P0) (0*2+1)) (cH B) B.length (((n+1:Nat):Int)).toNat))] 2 1)] (by kernel_rfl) (by kernel_rfl) ⟨hqtr56_1,(by omega),(I8 (by omega) 65 (Try.underlying65) rfl (inf:=(Try.prog.info? 65).getD default) (by kernel_rfl) (by kernel_rfl)),⟨rfl,B,rfl,rfl,hB⟩,(by have h9:=hc0 0 (by omega);unfold X7 at h9;omega),(by omega),(a0Z (by omega) (by omega)),(a0Z (by omega) (by omega)),trivial⟩ rfl rfl (by decide) rfl ⟨V7 (Z7 (J5 B)),X8 rfl,X8 rfl,X8 rfl,S6 (show ((((n+1:Nat):Int)+1):Int)=(((n+1)+(0+1):Nat):Int) from by omega),W0 _,Y9 rfl,S6 (show (1:Int)=(((0+1):Nat):Int) from by omega),trivial⟩ ⟨⟨by show 0<5;decide,Z0 (Z9 (V4 (X6 (Y2 [(v0,P0),(v1,P1),(v2,P2)]))) (Z9 (V7 (Z7 (Y7 L))) (Z3)))⟩,⟨by show 1<5;decide,Z0 (Z9 (W0 _) (Z9 (W0 _) (Z3)))⟩,⟨by show 2<5;decide,Z0 (Z9 (W0 _) (Z9 (Y9 rfl) (Z3)))⟩,⟨by show 3<5;decide,Z1 (Z7 (Z5 _))⟩,⟨by show 4<5;decide,Z1 (K6 (show ((cI (tI (V0 (cR P0) (cH B) B.length (n+1)) (0+1))):List AV)=[(nI0 (pkV (Z8 (cR P0) (0*2+0)) (Z8 (cR P0) (0*2+1)) (cH B) B.length (((n+1:Nat):Int)).toNat))] from by (first|exact (a1U rfl (by unfold V0;rfl)).symm|exact (a1X (by unfold V0;rfl)).symm)) (Z5 _))⟩,trivial⟩) (Hd.en_on (⟨0+1,by omega,trivial⟩) (by show (n+1) - (0+1)<(n+1) - 0;omega) rfl)
 ·have ghqtr56_1:=Z4 hqtr56_1
  exfalso;omega
theorem c6J(hT:l9 L P0 P1 P2 n)(hB:R7 B)(h0b:True)(hqtr24_1:(Y1 (((n)+1:Nat):Int) L.length)=false)(h4b:True)(hqtr58_1:(Y1 (((n)+1:Nat):Int) P0.length)=false):Y6 zP0q 73 a0g ((b7a B L P0 P1 P2 n v0 v1 v2 y yl zb)) (BaseW.H (bw v 0 eb ec) hs) (z9 B L P0 P1 P2 eb ec n v v0 v1 v2 y yl zb (⟨0,by decide,trivial⟩:{i:Nat // i≤3∧True})):=by
 have hcl_P0:=Y8 P0
 have hcl_P1:=Y8 P1
 have hcl_P2:=Y8 P2
 have hcl_L:=Y8 L
 have hcl_B:=Y5 B
 obtain ⟨hn,hn8,hp0,hp1,hp2,hL,hc0,hc1,hc2⟩:=(id hT)
 have ghqtr24_1:=Z4 hqtr24_1
 have ghqtr58_1:=Z4 hqtr58_1
 exact Z6 W3 (U8 zC0q (T5) 200 (T':=(b43 B L P0 P1 P2 n v0 v1 v2 y yl zb)) (e:=.normal) (m:=7) (ps:=[L3 IntKind.i64 ((0:Int)+1)]) [.go,.go,.go] [0,1,2,3,6,4] [(.xl (zb) (B.length) 1 (cH B)),(.ptr 0 0),(.ptr 1 0),(.ptr 2 0),(nI0 (((n+1+(n+1):Nat):Int))),(nN 1)] [(g6 L P0 P1 P2 v0 v1 v2 y yl),y9,(.cells [(.slu 6 0 1 0),(.slu 3 0 (n+1) 0)] 29),(J9 B L n),(.row [(.slu 4 0 (n+1) 0)] 27 1),(J4 B P0 n)] (by kernel_rfl) (by kernel_rfl) ⟨(a0Z (by omega) (by omega)),trivial⟩ rfl rfl (by decide) rfl ⟨V7 (Z7 (J5 B)),X8 rfl,X8 rfl,X8 rfl,S6 (show ((((n+1+(n+1):Nat):Int)):Int)=(((2*(n+1)):Nat):Int) from by omega),S6 (show (1:Int)=((1:Nat):Int) from by omega),trivial⟩ ⟨⟨by show 0<6;decide,Z0 (Z9 (V4 (X6 (Y2 [(v0,P0),(v1,P1),(v2,P2)]))) (Z9 (V7 (Z7 (Y7 L))) (Z3)))⟩,⟨by show 1<6;decide,Z0 (Z9 (W0 _) (Z9 (W0 _) (Z3)))⟩,⟨by show 2<6;decide,Z0 (Z9 (Y9 rfl) (Z9 (Y9 rfl) (Z3)))⟩,⟨by show 3<6;decide,Z1 (Z7 (Z5 _))⟩,⟨by show 4<6;decide,Z1 (Z9 (Y9 rfl) (Z3))⟩,⟨by show 5<6;decide,Z1 (Z7 (Z5 _))⟩,trivial⟩) (Hd.en_on ⟨0+1,by decide,trivial⟩ (by show 3 - (0+1)<3 - 0;decide) rfl)
theorem c6w(hT:l9 L P0 P1 P2 n)(hB:R7 B)(h0b:True)(hqtr24_1:(Y1 (((n)+1:Nat):Int) L.length)=false)(h4b:True)(hqtr58_1:(Y1 (((n)+1:Nat):Int) P0.length)=false):Y6 zP0q 73 a4v ((b6F B L P0 P1 P2 n v0 v1 v2 y yl zb)) (BaseW.H (bw v 0 eb ec) hs) (b3k B L P0 P1 P2 eb ec n v v0 v1 v2 y yl zb):=by
 exact Z6 W3 (Z2 zC0q (T5) 200 (T':=(b7a B L P0 P1 P2 n v0 v1 v2 y yl zb)) (e:=.normal) (ps:=[]) (gH 7 []) (by kernel_rfl) (by kernel_rfl) trivial rfl) (Hd.en_bn (c6J hT hB h0b hqtr24_1 h4b hqtr58_1))
theorem c9u(hT:l9 L P0 P1 P2 n)(hB:R7 B)(h0b:True)(hqtr24_1:(Y1 (((n)+1:Nat):Int) L.length)=false)(hj1:(j+1)≤(n+1))(hj2:True):Y6 zP0q 73 a8U ((b2Q B L P0 P1 P2 j n v0 v1 v2 y yl zb)) (BaseW.H (bw v 0 eb ec) hs) (b6x B L P0 P1 P2 eb ec n v v0 v1 v2 y yl zb (⟨(j+1),hj1,hj2⟩:{j:Nat // j≤(n+1)∧True})):=by
 have hcl_P0:=Y8 P0
 have hcl_P1:=Y8 P1
 have hcl_P2:=Y8 P2
 have hcl_L:=Y8 L
 have hcl_B:=Y5 B
 obtain ⟨hn,hn8,hp0,hp1,hp2,hL,hc0,hc1,hc2⟩:=(id hT)
 have ghqtr24_1:=Z4 hqtr24_1
 rcases zB0q (Y1 ((j+1:Nat):Int) P0.length) with hqtr58_1|hqtr58_1
 ·have ghqtr58_1:=W7 hqtr58_1
  exact Z6 W3 (U8 zC0q (T5) 200 (T':=⟨[(Q4 B zb),(2,(.ptr 0 0)),(4,(.ptr 1 0)),(5,(.ptr 2 0)),(6,(nI0 (((n+1)+((j+1)+1):Nat):Int))),(8,(nN 0)),(9,(.slu 4 0 ((j+1)+1) 0)),(10,(nI0 ((((j+1)+1):Nat):Int)))],[],5,[(Q5 L P0 P1 P2 v0 v1 v2 y yl),Q7,(2,(a0w n)),(M1 B L n),(4,(.row (cI (tI (V0 (cR P0) (cH B) B.length (n+1)) ((j+1)+1))) 2 1))]⟩) (e:=.normal) (m:=7) (ps:=[Y1 ((j+1:Nat):Int) P0.length=true,j+1<P0.length,W6 zP0q (cR P0) ((j+1)*2) 65=some (AV.agg [AV.v (Value.int IntKind.i64 (Z8 (cR P0) ((j+1)*2+0))),AV.v (Value.int IntKind.i64 (Z8 (cR P0) ((j+1)*2+1)))]),IsH 1 B.length (cH B),0≤Z8 (cR P0) ((j+1)*2+0)∧Z8 (cR P0) ((j+1)*2+0)≤Z8 (cR P0) ((j+1)*2+1)∧Z8 (cR P0) ((j+1)*2+1)≤1000,(0:Int)≤((n+1+(j+1):Nat):Int)∧((n+1+(j+1):Nat):Int)≤1000,((cI (tI (V0 (cR P0) (cH B) B.length (n+1)) (j+1))):List AV).length=(j+1)*1,j+1+1≤1000000,L3 IntKind.i64 (((n+1+(j+1):Nat):Int)+1),L3 IntKind.i64 (((j+1:Nat):Int)+1)]) (gH 8 ([.b true]++gH 7 ([.sym,.sym,.go,.go,.go,.sym]++gH 7 []))) [0,1,2,3,6] [(.xl (zb) (B.length) 1 (cH B)),(.ptr 0 0),(.ptr 1 0),(.ptr 2 0),(nI0 (((n+1+(j+1):Nat):Int)+1)),(nN 0),(.slu 6 0 (j+1+1) 0),(nI0 (((j+1:Nat):Int)+1))] [(g6 L P0 P1 P2 v0 v1 v2 y yl),y9,(a0w n),(J9 B L n),(.row ((cI (tI (V0 (cR P0) (cH B) B.length (n+1)) (j+1)))++[(nI0 (pkV (Z8 (cR P0) ((j+1)*2+0)) (Z8 (cR P0) ((j+1)*2+1)) (cH B) B.length (((n+1+(j+1):Nat):Int)).toNat))]) 2 1)] (by kernel_rfl) (by kernel_rfl) ⟨hqtr58_1,(by omega),(I8 (by omega) 65 (Try.underlying65) rfl (inf:=(Try.prog.info? 65).getD default) (by kernel_rfl) (by kernel_rfl)),⟨rfl,B,rfl,rfl,hB⟩,(by have h9:=hc0 (j+1) (by omega);unfold X7 at h9;omega),(by omega),(by show (cI _).length=_;rw [Y5,Y0];omega),(by omega),(a0Z (by omega) (by omega)),(a0Z (by omega) (by omega)),trivial⟩ rfl rfl (by decide) rfl ⟨V7 (Z7 (J5 B)),X8 rfl,X8 rfl,X8 rfl,S6 (show ((((n+1+(j+1):Nat):Int)+1):Int)=(((n+1)+((j+1)+1):Nat):Int) from by omega),W0 _,Y9 rfl,S6 (show ((((j+1:Nat):Int)+1):Int)=((((j+1)+1):Nat):Int) from by omega),trivial⟩ ⟨⟨by show 0<5;decide,Z0 (Z9 (V4 (X6 (Y2 [(v0,P0),(v1,P1),(v2,P2)]))) (Z9 (V7 (Z7 (Y7 L))) (Z3)))⟩,⟨by show 1<5;decide,Z0 (Z9 (W0 _) (Z9 (W0 _) (Z3)))⟩,⟨by show 2<5;decide,Z0 (Z9 (W0 _) (Z9 (Y9 rfl) (Z3)))⟩,⟨by show 3<5;decide,Z1 (Z7 (Z5 _))⟩,⟨by show 4<5;decide,Z1 (K6 (show ((cI (tI (V0 (cR P0) (cH B) B.length (n+1)) ((j+1)+1))):List AV)=((cI (tI (V0 (cR P0) (cH B) B.length (n+1)) (j+1)))++[(nI0 (pkV (Z8 (cR P0) ((j+1)*2+0)) (Z8 (cR P0) ((j+1)*2+1)) (cH B) B.length (((n+1+(j+1):Nat):Int)).toNat))]) from by (first|exact (a1U rfl (by unfold V0;rfl)).symm|exact (a1X (by unfold V0;rfl)).symm)) (Z5 _))⟩,trivial⟩) (Hd.en_on (⟨(j+1)+1,by omega,trivial⟩) (by show (n+1) - ((j+1)+1)<(n+1) - (j+1);omega) rfl)
 ·have ghqtr58_1:=Z4 hqtr58_1
  obtain rfl:n=j:=by omega
  exact Z6 z5 (Z2 zC0q (T5) 200 (T':=(b6F B L P0 P1 P2 n v0 v1 v2 y yl zb)) (e:=.exit 4) (ps:=[Y1 (((n)+1:Nat):Int) P0.length=false]) (gH 8 [.b false]) (by kernel_rfl) (by kernel_rfl) ⟨hqtr58_1,trivial⟩ rfl) (Hd.en_sx (c6w hT hB h0b hqtr24_1 hj2 hqtr58_1))
@[reducible] def b3g(B:List Int)(L P0 P1 P2:List (Int×Int))(eb:Nat→Option Nat)(ec:Nat→Nat)(n:Nat)(v:BaseW)(v0 v1 v2 y yl zb:Value):=(Hd.AfterN zP0q 73 a4v (bw v 0 eb ec) (Hd.AfterB zP0q 73 3 a0g (bw v 0 eb ec) (Hd.StepC zP0q 73 2 (fun i:{i:Nat // i≤3∧True}=>(a26 B L P0 P1 P2 n v0 v1 v2 y yl zb) i.1) (fun i:{i:Nat // i≤3∧True}=>3 - i.1) a1p (bw v 0 eb ec) (D3 zP0q Try.f43 73 ((.agg [.slu 0 0 3 0,.slu 1 0 (n+1) 0])) [(s7 n),(J9 B L n),(J4 B P0 n),(N3 B P1 n),(F7 B P2 n)] (bw v 0 eb ec)) (⟨0,by decide,trivial⟩:{i:Nat // i≤3∧True}))))
theorem c7m(hT:l9 L P0 P1 P2 n)(hB:R7 B)(h0b:True)(hqtr24_1:(Y1 (((n)+1:Nat):Int) L.length)=false):Y6 zP0q 73 a6S ((b3N B L P0 P1 P2 n v0 v1 v2 y yl zb)) (BaseW.H (bw v 0 eb ec) hs) (b3g B L P0 P1 P2 eb ec n v v0 v1 v2 y yl zb):=by
 exact Hd.goes_loopA (id:=4) (by kernel_rfl) (by kernel_rfl) (fun j:{j:Nat // j≤(n+1)∧True}=>Ev.fam0 (b3a B L P0 P1 P2 n v0 v1 v2 y yl zb) (fun j=>(b2Q B L P0 P1 P2 j n v0 v1 v2 y yl zb)) j.1) (fun j:{j:Nat // j≤(n+1)∧True}=>(n+1) - j.1) (fun i hs=>match i with|⟨0,h1,h2⟩=>c8k hT hB h0b hqtr24_1 h1 h2|⟨j+1,h1,h2⟩=>c9u hT hB h0b hqtr24_1 h1 h2) ⟨0,Nat.zero_le _,trivial⟩ hs
theorem c7X(hT:l9 L P0 P1 P2 n)(hB:R7 B)(h0b:True)(hqtr24_1:(Y1 (((n)+1:Nat):Int) L.length)=false):Y6 zP0q 73 a6S ((b3N B L P0 P1 P2 n v0 v1 v2 y yl zb)) (BaseW.H (bw v 0 eb ec) hs) (b3g B L P0 P1 P2 eb ec n v v0 v1 v2 y yl zb):=by
 exact c7m hT hB h0b hqtr24_1
theorem c9a(hT:l9 L P0 P1 P2 n)(hB:R7 B)(h0b:True)(hqtr24_1:(Y1 (((n)+1:Nat):Int) L.length)=false):Y6 zP0q 73 b4R ((b3v B L P0 P1 P2 n v0 v1 v2 y yl zb)) (BaseW.H (bw v 0 eb ec) hs) (b3g B L P0 P1 P2 eb ec n v v0 v1 v2 y yl zb):=by
 refine Hd.goes_seqA (by kernel_rfl) ?_
 exact Z6 W3 (Z2 zC0q (T5) 200 (T':=(b3N B L P0 P1 P2 n v0 v1 v2 y yl zb)) (e:=.normal) (ps:=[]) [.go] (by kernel_rfl) (by kernel_rfl) trivial rfl) (Hd.en_n (c7X hT hB h0b hqtr24_1))
theorem c8i(hT:l9 L P0 P1 P2 n)(hB:R7 B)(h0b:True)(hqtr24_1:(Y1 (((n)+1:Nat):Int) L.length)=false):Y6 zP0q 73 b1T ((b3v B L P0 P1 P2 n v0 v1 v2 y yl zb)) (BaseW.H (bw v 0 eb ec) hs) (b3k B L P0 P1 P2 eb ec n v v0 v1 v2 y yl zb):=by
 exact Hd.goes_seqA (by kernel_rfl) (c9a hT hB h0b hqtr24_1)
theorem c8y(hT:l9 L P0 P1 P2 n)(hB:R7 B)(h0b:True)(hqtr24_1:(Y1 (((n)+1:Nat):Int) L.length)=false):Y6 zP0q 73 b5x ((a3v B L P0 P1 P2 n v0 v1 v2 y yl zb)) (BaseW.H (bw v 0 eb ec) hs) (b3k B L P0 P1 P2 eb ec n v v0 v1 v2 y yl zb):=by
 refine Hd.goes_seqA (by kernel_rfl) ?_
 exact Z6 W3 (Z2 zC0q (T5) 200 (T':=(b3v B L P0 P1 P2 n v0 v1 v2 y yl zb)) (e:=.normal) (ps:=[]) [.go] (by kernel_rfl) (by kernel_rfl) trivial rfl) (Hd.en_n (c8i hT hB h0b hqtr24_1))
theorem c9C(hT:l9 L P0 P1 P2 n)(hB:R7 B)(h0b:True)(hqtr24_1:(Y1 (((n)+1:Nat):Int) L.length)=false):Y6 zP0q 73 (l5 a5A) ((a3v B L P0 P1 P2 n v0 v1 v2 y yl zb)) (BaseW.H (bw v 0 eb ec) hs) (Hd.AfterN zP0q 73 a0g (bw v 0 eb ec) (z9 B L P0 P1 P2 eb ec n v v0 v1 v2 y yl zb (⟨0,by decide,trivial⟩:{i:Nat // i≤3∧True}))):=by
 exact Hd.goes_blkA (id:=3) (by kernel_rfl) (by kernel_rfl) (c8y hT hB h0b hqtr24_1)
theorem c8O(hT:l9 L P0 P1 P2 n)(hB:R7 B)(h0b:True)(hqtr24_1:(Y1 (((n)+1:Nat):Int) L.length)=false):Y6 zP0q 73 a5A ((a3v B L P0 P1 P2 n v0 v1 v2 y yl zb)) (BaseW.H (bw v 0 eb ec) hs) (z9 B L P0 P1 P2 eb ec n v v0 v1 v2 y yl zb (⟨0,by decide,trivial⟩:{i:Nat // i≤3∧True})):=by
 exact Hd.goes_seqA (by kernel_rfl) (c9C hT hB h0b hqtr24_1)
theorem c6s(hT:l9 L P0 P1 P2 n)(hB:R7 B)(h0b:True)(hqtr24_1:(Y1 (((n)+1:Nat):Int) L.length)=false):Y6 zP0q 73 b0W ((b7U B L P0 P1 P2 n v0 v1 v2 y yl zb)) (BaseW.H (bw v 0 eb ec) hs) (z9 B L P0 P1 P2 eb ec n v v0 v1 v2 y yl zb (⟨0,by decide,trivial⟩:{i:Nat // i≤3∧True})):=by
 refine Hd.goes_seqA (by kernel_rfl) ?_
 exact Z6 W3 (Z2 zC0q (T5) 200 (T':=(a3v B L P0 P1 P2 n v0 v1 v2 y yl zb)) (e:=.normal) (ps:=[Y1 0 3=true]) (gH 5 [.b true]) (by kernel_rfl) (by kernel_rfl) ⟨rfl,trivial⟩ rfl) (Hd.en_n (c8O hT hB h0b hqtr24_1))
@[reducible] def b9M(B:List Int)(L P0 P1 P2:List (Int×Int))(eb:Nat→Option Nat)(ec:Nat→Nat)(n:Nat)(v:BaseW)(v0 v1 v2 y yl zb:Value):=Hd.StepC zP0q 73 4 (fun j:{j:Nat // j≤(n+1)∧True}=>Ev.fam0 (b3B B L P0 P1 P2 n v0 v1 v2 y yl zb) (fun j=>(b6p B L P0 P1 P2 j n v0 v1 v2 y yl zb)) j.1) (fun j:{j:Nat // j≤(n+1)∧True}=>(n+1) - j.1) a4v (bw v 0 eb ec) (Hd.AfterB zP0q 73 3 a0g (bw v 0 eb ec) (Hd.StepC zP0q 73 2 (fun i:{i:Nat // i≤3∧True}=>(a26 B L P0 P1 P2 n v0 v1 v2 y yl zb) i.1) (fun i:{i:Nat // i≤3∧True}=>3 - i.1) a1p (bw v 0 eb ec) (D3 zP0q Try.f43 73 ((.agg [.slu 0 0 3 0,.slu 1 0 (n+1) 0])) [(s7 n),(J9 B L n),(J4 B P0 n),(N3 B P1 n),(F7 B P2 n)] (bw v 0 eb ec)) (⟨1,by decide,trivial⟩:{i:Nat // i≤3∧True})))
@[reducible] def b2i(B:List Int)(L P0 P1 P2:List (Int×Int))(eb:Nat→Option Nat)(ec:Nat→Nat)(n:Nat)(v:BaseW)(v0 v1 v2 y yl zb:Value):=(Hd.AfterB zP0q 73 3 a0g (bw v 0 eb ec) (Hd.StepC zP0q 73 2 (fun i:{i:Nat // i≤3∧True}=>(a26 B L P0 P1 P2 n v0 v1 v2 y yl zb) i.1) (fun i:{i:Nat // i≤3∧True}=>3 - i.1) a1p (bw v 0 eb ec) (D3 zP0q Try.f43 73 ((.agg [.slu 0 0 3 0,.slu 1 0 (n+1) 0])) [(s7 n),(J9 B L n),(J4 B P0 n),(N3 B P1 n),(F7 B P2 n)] (bw v 0 eb ec)) (⟨1,by decide,trivial⟩:{i:Nat // i≤3∧True})))
theorem c64(hT:l9 L P0 P1 P2 n)(hB:R7 B)(h0b:True)(hqtr24_1:(Y1 (((n)+1:Nat):Int) L.length)=false)(hj1:0≤(n+1))(hj2:True):Y6 zP0q 73 a8U ((b3B B L P0 P1 P2 n v0 v1 v2 y yl zb)) (BaseW.H (bw v 0 eb ec) hs) (b9M B L P0 P1 P2 eb ec n v v0 v1 v2 y yl zb (⟨0,hj1,hj2⟩:{j:Nat // j≤(n+1)∧True})):=by
 have hcl_P0:=Y8 P0
 have hcl_P1:=Y8 P1
 have hcl_P2:=Y8 P2
 have hcl_L:=Y8 L
 have hcl_B:=Y5 B
 obtain ⟨hn,hn8,hp0,hp1,hp2,hL,hc0,hc1,hc2⟩:=(id hT)
 have ghqtr24_1:=Z4 hqtr24_1
 rcases zB0q (Y1 0 P1.length) with hqtr76_1|hqtr76_1
 ·have ghqtr76_1:=W7 hqtr76_1
  exact Z6 W3 (U8 zC0q (T5) 200 (T':=⟨[(Q4 B zb),(2,(.ptr 0 0)),(4,(.ptr 1 0)),(5,(.ptr 2 0)),(6,(nI0 (((2*(n+1))+(0+1):Nat):Int))),(8,(nN 1)),(9,(.slu 6 0 (0+1) 0)),(10,(nI0 (((0+1):Nat):Int)))],[],7,[(Q5 L P0 P1 P2 v0 v1 v2 y yl),Q7,(2,(b9 n)),(M1 B L n),(4,(.row [(.slu 5 0 (n+1) 0)] 27 1)),(G7 B P0 n),(6,(.row (cI (tI (V0 (cR P1) (cH B) B.length (2*(n+1))) (0+1))) 2 1))]⟩) (e:=.normal) (m:=8) (ps:=[Y1 0 P1.length=true,0<P1.length,W6 zP0q (cR P1) (0*2) 65=some (AV.agg [AV.v (Value.int IntKind.i64 (Z8 (cR P1) (0*2+0))),AV.v (Value.int IntKind.i64 (Z8 (cR P1) (0*2+1)))]),IsH 1 B.length (cH B),0≤Z8 (cR P1) (0*2+0)∧Z8 (cR P1) (0*2+0)≤Z8 (cR P1) (0*2+1)∧Z8 (cR P1) (0*2+1)≤1000,(0:Int)≤((2*(n+1):Nat):Int)∧((2*(n+1):Nat):Int)≤1000,L3 IntKind.i64 (((2*(n+1):Nat):Int)+1),L3 IntKind.i64 (((0:Nat):Int)+1)]) (gH 8 ([.b true]++gH 7 ([.sym,.sym]++gH 11 []))) [0,1,2,3,4,5,7] [(.xl (zb) (B.length) 1 (cH B)),(.ptr 0 0),(.ptr 1 0),(.ptr 2 0),(nI0 (((2*(n+1):Nat):Int)+1)),(nN 1),(.slu 7 0 1 0),(nN 1)] [(g6 L P0 P1 P2 v0 v1 v2 y yl),y9,(b9 n),(J9 B L n),(.row [(.slu 5 0 (n+1) 0)] 27 1),(J4 B P0 n),(.row [(nI0 (pkV (Z8 (cR P1) (0*2+0)) (Z8 (cR P1) (0*2+1)) (cH B) B.length (((2*(n+1):Nat):Int)).toNat))] 2 1)] (by kernel_rfl) (by kernel_rfl) ⟨hqtr76_1,(by omega),(I8 (by omega) 65 (Try.underlying65) rfl (inf:=(Try.prog.info? 65).getD default) (by kernel_rfl) (by kernel_rfl)),⟨rfl,B,rfl,rfl,hB⟩,(by have h9:=hc1 0 (by omega);unfold X7 at h9;omega),(by omega),(a0Z (by omega) (by omega)),(a0Z (by omega) (by omega)),trivial⟩ rfl rfl (by decide) rfl ⟨V7 (Z7 (J5 B)),X8 rfl,X8 rfl,X8 rfl,S6 (show ((((2*(n+1):Nat):Int)+1):Int)=(((2*(n+1))+(0+1):Nat):Int) from by omega),W0 _,Y9 rfl,S6 (show (1:Int)=(((0+1):Nat):Int) from by omega),trivial⟩ ⟨⟨by show 0<7;decide,Z0 (Z9 (V4 (X6 (Y2 [(v0,P0),(v1,P1),(v2,P2)]))) (Z9 (V7 (Z7 (Y7 L))) (Z3)))⟩,⟨by show 1<7;decide,Z0 (Z9 (W0 _) (Z9 (W0 _) (Z3)))⟩,⟨by show 2<7;decide,Z0 (Z9 (Y9 rfl) (Z9 (Y9 rfl) (Z3)))⟩,⟨by show 3<7;decide,Z1 (Z7 (Z5 _))⟩,⟨by show 4<7;decide,Z1 (Z9 (Y9 rfl) (Z3))⟩,⟨by show 5<7;decide,Z1 (Z7 (Z5 _))⟩,⟨by show 6<7;decide,Z1 (K6 (show ((cI (tI (V0 (cR P1) (cH B) B.length (2*(n+1))) (0+1))):List AV)=[(nI0 (pkV (Z8 (cR P1) (0*2+0)) (Z8 (cR P1) (0*2+1)) (cH B) B.length (((2*(n+1):Nat):Int)).toNat))] from by (first|exact (a1U rfl (by unfold V0;rfl)).symm|exact (a1X (by unfold V0;rfl)).symm)) (Z5 _))⟩,trivial⟩) (Hd.en_on (⟨0+1,by omega,trivial⟩) (by show (n+1) - (0+1)<(n+1) - 0;omega) rfl)
 ·have ghqtr76_1:=Z4 hqtr76_1
  exfalso;omega
theorem c7B(hT:l9 L P0 P1 P2 n)(hB:R7 B)(h0b:True)(hqtr24_1:(Y1 (((n)+1:Nat):Int) L.length)=false)(h4b:True)(hqtr78_1:(Y1 (((n)+1:Nat):Int) P1.length)=false):Y6 zP0q 73 a0g ((b7P B L P0 P1 P2 n v0 v1 v2 y yl zb)) (BaseW.H (bw v 0 eb ec) hs) (z9 B L P0 P1 P2 eb ec n v v0 v1 v2 y yl zb (⟨1,by decide,trivial⟩:{i:Nat // i≤3∧True})):=by
 have hcl_P0:=Y8 P0
 have hcl_P1:=Y8 P1
 have hcl_P2:=Y8 P2
 have hcl_L:=Y8 L
 have hcl_B:=Y5 B
 obtain ⟨hn,hn8,hp0,hp1,hp2,hL,hc0,hc1,hc2⟩:=(id hT)
 have ghqtr24_1:=Z4 hqtr24_1
 have ghqtr78_1:=Z4 hqtr78_1
 exact Z6 W3 (U8 zC0q (T5) 200 (T':=(b4m B L P0 P1 P2 n v0 v1 v2 y yl zb)) (e:=.normal) (m:=9) (ps:=[L3 IntKind.i64 ((1:Int)+1)]) [.go,.go,.go] [0,1,2,3,8,5,6] [(.xl (zb) (B.length) 1 (cH B)),(.ptr 0 0),(.ptr 1 0),(.ptr 2 0),(nI0 (((2*(n+1)+(n+1):Nat):Int))),(nN 2)] [(g6 L P0 P1 P2 v0 v1 v2 y yl),y9,(.cells [(.slu 8 0 2 0),(.slu 3 0 (n+1) 0)] 29),(J9 B L n),(n8 n),(J4 B P0 n),(N3 B P1 n)] (by kernel_rfl) (by kernel_rfl) ⟨(a0Z (by omega) (by omega)),trivial⟩ rfl rfl (by decide) rfl ⟨V7 (Z7 (J5 B)),X8 rfl,X8 rfl,X8 rfl,S6 (show ((((2*(n+1)+(n+1):Nat):Int)):Int)=(((3*(n+1)):Nat):Int) from by omega),S6 (show (2:Int)=((2:Nat):Int) from by omega),trivial⟩ ⟨⟨by show 0<7;decide,Z0 (Z9 (V4 (X6 (Y2 [(v0,P0),(v1,P1),(v2,P2)]))) (Z9 (V7 (Z7 (Y7 L))) (Z3)))⟩,⟨by show 1<7;decide,Z0 (Z9 (W0 _) (Z9 (W0 _) (Z3)))⟩,⟨by show 2<7;decide,Z0 (Z9 (Y9 rfl) (Z9 (Y9 rfl) (Z3)))⟩,⟨by show 3<7;decide,Z1 (Z7 (Z5 _))⟩,⟨by show 4<7;decide,Z1 (Z9 (Y9 rfl) (Z9 (Y9 rfl) (Z3)))⟩,⟨by show 5<7;decide,Z1 (Z7 (Z5 _))⟩,⟨by show 6<7;decide,Z1 (Z7 (Z5 _))⟩,trivial⟩) (Hd.en_on ⟨1+1,by decide,trivial⟩ (by show 3 - (1+1)<3 - 1;decide) rfl)
theorem c7z(hT:l9 L P0 P1 P2 n)(hB:R7 B)(h0b:True)(hqtr24_1:(Y1 (((n)+1:Nat):Int) L.length)=false)(h4b:True)(hqtr78_1:(Y1 (((n)+1:Nat):Int) P1.length)=false):Y6 zP0q 73 a4v ((b7B B L P0 P1 P2 n v0 v1 v2 y yl zb)) (BaseW.H (bw v 0 eb ec) hs) (b2i B L P0 P1 P2 eb ec n v v0 v1 v2 y yl zb):=by
 exact Z6 W3 (Z2 zC0q (T5) 200 (T':=(b7P B L P0 P1 P2 n v0 v1 v2 y yl zb)) (e:=.normal) (ps:=[]) (gH 7 []) (by kernel_rfl) (by kernel_rfl) trivial rfl) (Hd.en_bn (c7B hT hB h0b hqtr24_1 h4b hqtr78_1))
theorem c8a(hT:l9 L P0 P1 P2 n)(hB:R7 B)(h0b:True)(hqtr24_1:(Y1 (((n)+1:Nat):Int) L.length)=false)(hj1:(j+1)≤(n+1))(hj2:True):Y6 zP0q 73 a8U ((b6p B L P0 P1 P2 j n v0 v1 v2 y yl zb)) (BaseW.H (bw v 0 eb ec) hs) (b9M B L P0 P1 P2 eb ec n v v0 v1 v2 y yl zb (⟨(j+1),hj1,hj2⟩:{j:Nat // j≤(n+1)∧True})):=by
 have hcl_P0:=Y8 P0
 have hcl_P1:=Y8 P1
 have hcl_P2:=Y8 P2
 have hcl_L:=Y8 L
 have hcl_B:=Y5 B
 obtain ⟨hn,hn8,hp0,hp1,hp2,hL,hc0,hc1,hc2⟩:=(id hT)
 have ghqtr24_1:=Z4 hqtr24_1
 rcases zB0q (Y1 ((j+1:Nat):Int) P1.length) with hqtr78_1|hqtr78_1
 ·have ghqtr78_1:=W7 hqtr78_1
  exact Z6 W3 (U8 zC0q (T5) 200 (T':=⟨[(Q4 B zb),(2,(.ptr 0 0)),(4,(.ptr 1 0)),(5,(.ptr 2 0)),(6,(nI0 (((2*(n+1))+((j+1)+1):Nat):Int))),(8,(nN 1)),(9,(.slu 6 0 ((j+1)+1) 0)),(10,(nI0 ((((j+1)+1):Nat):Int)))],[],7,[(Q5 L P0 P1 P2 v0 v1 v2 y yl),Q7,(2,(b9 n)),(M1 B L n),(4,(.row [(.slu 5 0 (n+1) 0)] 27 1)),(G7 B P0 n),(6,(.row (cI (tI (V0 (cR P1) (cH B) B.length (2*(n+1))) ((j+1)+1))) 2 1))]⟩) (e:=.normal) (m:=9) (ps:=[Y1 ((j+1:Nat):Int) P1.length=true,j+1<P1.length,W6 zP0q (cR P1) ((j+1)*2) 65=some (AV.agg [AV.v (Value.int IntKind.i64 (Z8 (cR P1) ((j+1)*2+0))),AV.v (Value.int IntKind.i64 (Z8 (cR P1) ((j+1)*2+1)))]),IsH 1 B.length (cH B),0≤Z8 (cR P1) ((j+1)*2+0)∧Z8 (cR P1) ((j+1)*2+0)≤Z8 (cR P1) ((j+1)*2+1)∧Z8 (cR P1) ((j+1)*2+1)≤1000,(0:Int)≤((2*(n+1)+(j+1):Nat):Int)∧((2*(n+1)+(j+1):Nat):Int)≤1000,((cI (tI (V0 (cR P1) (cH B) B.length (2*(n+1))) (j+1))):List AV).length=(j+1)*1,j+1+1≤1000000,L3 IntKind.i64 (((2*(n+1)+(j+1):Nat):Int)+1),L3 IntKind.i64 (((j+1:Nat):Int)+1)]) (gH 8 ([.b true]++gH 7 ([.sym,.sym,.go,.go,.go,.sym]++gH 7 []))) [0,1,2,3,4,5,8] [(.xl (zb) (B.length) 1 (cH B)),(.ptr 0 0),(.ptr 1 0),(.ptr 2 0),(nI0 (((2*(n+1)+(j+1):Nat):Int)+1)),(nN 1),(.slu 8 0 (j+1+1) 0),(nI0 (((j+1:Nat):Int)+1))] [(g6 L P0 P1 P2 v0 v1 v2 y yl),y9,(b9 n),(J9 B L n),(.row [(.slu 5 0 (n+1) 0)] 27 1),(J4 B P0 n),(.row ((cI (tI (V0 (cR P1) (cH B) B.length (2*(n+1))) (j+1)))++[(nI0 (pkV (Z8 (cR P1) ((j+1)*2+0)) (Z8 (cR P1) ((j+1)*2+1)) (cH B) B.length (((2*(n+1)+(j+1):Nat):Int)).toNat))]) 2 1)] (by kernel_rfl) (by kernel_rfl) ⟨hqtr78_1,(by omega),(I8 (by omega) 65 (Try.underlying65) rfl (inf:=(Try.prog.info? 65).getD default) (by kernel_rfl) (by kernel_rfl)),⟨rfl,B,rfl,rfl,hB⟩,(by have h9:=hc1 (j+1) (by omega);unfold X7 at h9;omega),(by omega),(by show (cI _).length=_;rw [Y5,Y0];omega),(by omega),(a0Z (by omega) (by omega)),(a0Z (by omega) (by omega)),trivial⟩ rfl rfl (by decide) rfl ⟨V7 (Z7 (J5 B)),X8 rfl,X8 rfl,X8 rfl,S6 (show ((((2*(n+1)+(j+1):Nat):Int)+1):Int)=(((2*(n+1))+((j+1)+1):Nat):Int) from by omega),W0 _,Y9 rfl,S6 (show ((((j+1:Nat):Int)+1):Int)=((((j+1)+1):Nat):Int) from by omega),trivial⟩ ⟨⟨by show 0<7;decide,Z0 (Z9 (V4 (X6 (Y2 [(v0,P0),(v1,P1),(v2,P2)]))) (Z9 (V7 (Z7 (Y7 L))) (Z3)))⟩,⟨by show 1<7;decide,Z0 (Z9 (W0 _) (Z9 (W0 _) (Z3)))⟩,⟨by show 2<7;decide,Z0 (Z9 (Y9 rfl) (Z9 (Y9 rfl) (Z3)))⟩,⟨by show 3<7;decide,Z1 (Z7 (Z5 _))⟩,⟨by show 4<7;decide,Z1 (Z9 (Y9 rfl) (Z3))⟩,⟨by show 5<7;decide,Z1 (Z7 (Z5 _))⟩,⟨by show 6<7;decide,Z1 (K6 (show ((cI (tI (V0 (cR P1) (cH B) B.length (2*(n+1))) ((j+1)+1))):List AV)=((cI (tI (V0 (cR P1) (cH B) B.length (2*(n+1))) (j+1)))++[(nI0 (pkV (Z8 (cR P1) ((j+1)*2+0)) (Z8 (cR P1) ((j+1)*2+1)) (cH B) B.length (((2*(n+1)+(j+1):Nat):Int)).toNat))]) from by (first|exact (a1U rfl (by unfold V0;rfl)).symm|exact (a1X (by unfold V0;rfl)).symm)) (Z5 _))⟩,trivial⟩) (Hd.en_on (⟨(j+1)+1,by omega,trivial⟩) (by show (n+1) - ((j+1)+1)<(n+1) - (j+1);omega) rfl)
 ·have ghqtr78_1:=Z4 hqtr78_1
  obtain rfl:n=j:=by omega
  exact Z6 z5 (Z2 zC0q (T5) 200 (T':=(b7B B L P0 P1 P2 n v0 v1 v2 y yl zb)) (e:=.exit 4) (ps:=[Y1 (((n)+1:Nat):Int) P1.length=false]) (gH 8 [.b false]) (by kernel_rfl) (by kernel_rfl) ⟨hqtr78_1,trivial⟩ rfl) (Hd.en_sx (c7z hT hB h0b hqtr24_1 hj2 hqtr78_1))
@[reducible] def b2H(B:List Int)(L P0 P1 P2:List (Int×Int))(eb:Nat→Option Nat)(ec:Nat→Nat)(n:Nat)(v:BaseW)(v0 v1 v2 y yl zb:Value):=(Hd.AfterN zP0q 73 a4v (bw v 0 eb ec) (Hd.AfterB zP0q 73 3 a0g (bw v 0 eb ec) (Hd.StepC zP0q 73 2 (fun i:{i:Nat // i≤3∧True}=>(a26 B L P0 P1 P2 n v0 v1 v2 y yl zb) i.1) (fun i:{i:Nat // i≤3∧True}=>3 - i.1) a1p (bw v 0 eb ec) (D3 zP0q Try.f43 73 ((.agg [.slu 0 0 3 0,.slu 1 0 (n+1) 0])) [(s7 n),(J9 B L n),(J4 B P0 n),(N3 B P1 n),(F7 B P2 n)] (bw v 0 eb ec)) (⟨1,by decide,trivial⟩:{i:Nat // i≤3∧True}))))
theorem c9x(hT:l9 L P0 P1 P2 n)(hB:R7 B)(h0b:True)(hqtr24_1:(Y1 (((n)+1:Nat):Int) L.length)=false):Y6 zP0q 73 a6S ((b2N B L P0 P1 P2 n v0 v1 v2 y yl zb)) (BaseW.H (bw v 0 eb ec) hs) (b2H B L P0 P1 P2 eb ec n v v0 v1 v2 y yl zb):=by
 exact Hd.goes_loopA (id:=4) (by kernel_rfl) (by kernel_rfl) (fun j:{j:Nat // j≤(n+1)∧True}=>Ev.fam0 (b3B B L P0 P1 P2 n v0 v1 v2 y yl zb) (fun j=>(b6p B L P0 P1 P2 j n v0 v1 v2 y yl zb)) j.1) (fun j:{j:Nat // j≤(n+1)∧True}=>(n+1) - j.1) (fun i hs=>match i with|⟨0,h1,h2⟩=>c64 hT hB h0b hqtr24_1 h1 h2|⟨j+1,h1,h2⟩=>c8a hT hB h0b hqtr24_1 h1 h2) ⟨0,Nat.zero_le _,trivial⟩ hs
theorem c87(hT:l9 L P0 P1 P2 n)(hB:R7 B)(h0b:True)(hqtr24_1:(Y1 (((n)+1:Nat):Int) L.length)=false):Y6 zP0q 73 a6S ((b2N B L P0 P1 P2 n v0 v1 v2 y yl zb)) (BaseW.H (bw v 0 eb ec) hs) (b2H B L P0 P1 P2 eb ec n v v0 v1 v2 y yl zb):=by
 exact c9x hT hB h0b hqtr24_1
theorem c6Q(hT:l9 L P0 P1 P2 n)(hB:R7 B)(h0b:True)(hqtr24_1:(Y1 (((n)+1:Nat):Int) L.length)=false):Y6 zP0q 73 b4R ((b2U B L P0 P1 P2 n v0 v1 v2 y yl zb)) (BaseW.H (bw v 0 eb ec) hs) (b2H B L P0 P1 P2 eb ec n v v0 v1 v2 y yl zb):=by
 refine Hd.goes_seqA (by kernel_rfl) ?_
 exact Z6 W3 (Z2 zC0q (T5) 200 (T':=(b2N B L P0 P1 P2 n v0 v1 v2 y yl zb)) (e:=.normal) (ps:=[]) [.go] (by kernel_rfl) (by kernel_rfl) trivial rfl) (Hd.en_n (c87 hT hB h0b hqtr24_1))
theorem c7d(hT:l9 L P0 P1 P2 n)(hB:R7 B)(h0b:True)(hqtr24_1:(Y1 (((n)+1:Nat):Int) L.length)=false):Y6 zP0q 73 b1T ((b2U B L P0 P1 P2 n v0 v1 v2 y yl zb)) (BaseW.H (bw v 0 eb ec) hs) (b2i B L P0 P1 P2 eb ec n v v0 v1 v2 y yl zb):=by
 exact Hd.goes_seqA (by kernel_rfl) (c6Q hT hB h0b hqtr24_1)
theorem c8A(hT:l9 L P0 P1 P2 n)(hB:R7 B)(h0b:True)(hqtr24_1:(Y1 (((n)+1:Nat):Int) L.length)=false):Y6 zP0q 73 b5x ((b0j B L P0 P1 P2 n v0 v1 v2 y yl zb)) (BaseW.H (bw v 0 eb ec) hs) (b2i B L P0 P1 P2 eb ec n v v0 v1 v2 y yl zb):=by
 refine Hd.goes_seqA (by kernel_rfl) ?_
 exact Z6 W3 (Z2 zC0q (T5) 200 (T':=(b2U B L P0 P1 P2 n v0 v1 v2 y yl zb)) (e:=.normal) (ps:=[]) [.go] (by kernel_rfl) (by kernel_rfl) trivial rfl) (Hd.en_n (c7d hT hB h0b hqtr24_1))
theorem c6R(hT:l9 L P0 P1 P2 n)(hB:R7 B)(h0b:True)(hqtr24_1:(Y1 (((n)+1:Nat):Int) L.length)=false):Y6 zP0q 73 (l5 a5A) ((b0j B L P0 P1 P2 n v0 v1 v2 y yl zb)) (BaseW.H (bw v 0 eb ec) hs) (Hd.AfterN zP0q 73 a0g (bw v 0 eb ec) (z9 B L P0 P1 P2 eb ec n v v0 v1 v2 y yl zb (⟨1,by decide,trivial⟩:{i:Nat // i≤3∧True}))):=by
 exact Hd.goes_blkA (id:=3) (by kernel_rfl) (by kernel_rfl) (c8A hT hB h0b hqtr24_1)
theorem c9k(hT:l9 L P0 P1 P2 n)(hB:R7 B)(h0b:True)(hqtr24_1:(Y1 (((n)+1:Nat):Int) L.length)=false):Y6 zP0q 73 a5A ((b0j B L P0 P1 P2 n v0 v1 v2 y yl zb)) (BaseW.H (bw v 0 eb ec) hs) (z9 B L P0 P1 P2 eb ec n v v0 v1 v2 y yl zb (⟨1,by decide,trivial⟩:{i:Nat // i≤3∧True})):=by
 exact Hd.goes_seqA (by kernel_rfl) (c6R hT hB h0b hqtr24_1)
theorem c7P(hT:l9 L P0 P1 P2 n)(hB:R7 B)(h0b:True)(hqtr24_1:(Y1 (((n)+1:Nat):Int) L.length)=false):Y6 zP0q 73 b0W ((b43 B L P0 P1 P2 n v0 v1 v2 y yl zb)) (BaseW.H (bw v 0 eb ec) hs) (z9 B L P0 P1 P2 eb ec n v v0 v1 v2 y yl zb (⟨1,by decide,trivial⟩:{i:Nat // i≤3∧True})):=by
 refine Hd.goes_seqA (by kernel_rfl) ?_
 exact Z6 W3 (Z2 zC0q (T5) 200 (T':=(b0j B L P0 P1 P2 n v0 v1 v2 y yl zb)) (e:=.normal) (ps:=[Y1 1 3=true]) (gH 5 [.b true]) (by kernel_rfl) (by kernel_rfl) ⟨rfl,trivial⟩ rfl) (Hd.en_n (c9k hT hB h0b hqtr24_1))
@[reducible] def b9P(B:List Int)(L P0 P1 P2:List (Int×Int))(eb:Nat→Option Nat)(ec:Nat→Nat)(n:Nat)(v:BaseW)(v0 v1 v2 y yl zb:Value):=Hd.StepC zP0q 73 4 (fun j:{j:Nat // j≤(n+1)∧True}=>Ev.fam0 (b77 B L P0 P1 P2 n v0 v1 v2 y yl zb) (fun j=>(b86 B L P0 P1 P2 j n v0 v1 v2 y yl zb)) j.1) (fun j:{j:Nat // j≤(n+1)∧True}=>(n+1) - j.1) a4v (bw v 0 eb ec) (Hd.AfterB zP0q 73 3 a0g (bw v 0 eb ec) (Hd.StepC zP0q 73 2 (fun i:{i:Nat // i≤3∧True}=>(a26 B L P0 P1 P2 n v0 v1 v2 y yl zb) i.1) (fun i:{i:Nat // i≤3∧True}=>3 - i.1) a1p (bw v 0 eb ec) (D3 zP0q Try.f43 73 ((.agg [.slu 0 0 3 0,.slu 1 0 (n+1) 0])) [(s7 n),(J9 B L n),(J4 B P0 n),(N3 B P1 n),(F7 B P2 n)] (bw v 0 eb ec)) (⟨2,by decide,trivial⟩:{i:Nat // i≤3∧True})))
@[reducible] def b2l(B:List Int)(L P0 P1 P2:List (Int×Int))(eb:Nat→Option Nat)(ec:Nat→Nat)(n:Nat)(v:BaseW)(v0 v1 v2 y yl zb:Value):=(Hd.AfterB zP0q 73 3 a0g (bw v 0 eb ec) (Hd.StepC zP0q 73 2 (fun i:{i:Nat // i≤3∧True}=>(a26 B L P0 P1 P2 n v0 v1 v2 y yl zb) i.1) (fun i:{i:Nat // i≤3∧True}=>3 - i.1) a1p (bw v 0 eb ec) (D3 zP0q Try.f43 73 ((.agg [.slu 0 0 3 0,.slu 1 0 (n+1) 0])) [(s7 n),(J9 B L n),(J4 B P0 n),(N3 B P1 n),(F7 B P2 n)] (bw v 0 eb ec)) (⟨2,by decide,trivial⟩:{i:Nat // i≤3∧True})))
theorem c78(hT:l9 L P0 P1 P2 n)(hB:R7 B)(h0b:True)(hqtr24_1:(Y1 (((n)+1:Nat):Int) L.length)=false)(hj1:0≤(n+1))(hj2:True):Y6 zP0q 73 a8U ((b77 B L P0 P1 P2 n v0 v1 v2 y yl zb)) (BaseW.H (bw v 0 eb ec) hs) (b9P B L P0 P1 P2 eb ec n v v0 v1 v2 y yl zb (⟨0,hj1,hj2⟩:{j:Nat // j≤(n+1)∧True})):=by
 have hcl_P0:=Y8 P0
 have hcl_P1:=Y8 P1
 have hcl_P2:=Y8 P2
 have hcl_L:=Y8 L
 have hcl_B:=Y5 B
 obtain ⟨hn,hn8,hp0,hp1,hp2,hL,hc0,hc1,hc2⟩:=(id hT)
 have ghqtr24_1:=Z4 hqtr24_1
 rcases zB0q (Y1 0 P2.length) with hqtr96_1|hqtr96_1
 ·have ghqtr96_1:=W7 hqtr96_1
  exact Z6 W3 (U8 zC0q (T5) 200 (T':=⟨[(Q4 B zb),(2,(.ptr 0 0)),(4,(.ptr 1 0)),(5,(.ptr 2 0)),(6,(nI0 (((3*(n+1))+(0+1):Nat):Int))),(8,(nN 2)),(9,(.slu 7 0 (0+1) 0)),(10,(nI0 (((0+1):Nat):Int)))],[],8,[(Q5 L P0 P1 P2 v0 v1 v2 y yl),Q7,(2,(a08 n)),(M1 B L n),(4,(n8 n)),(G7 B P0 n),(6,(N3 B P1 n)),(7,(.row (cI (tI (V0 (cR P2) (cH B) B.length (3*(n+1))) (0+1))) 2 1))]⟩) (e:=.normal) (m:=9) (ps:=[Y1 0 P2.length=true,0<P2.length,W6 zP0q (cR P2) (0*2) 65=some (AV.agg [AV.v (Value.int IntKind.i64 (Z8 (cR P2) (0*2+0))),AV.v (Value.int IntKind.i64 (Z8 (cR P2) (0*2+1)))]),IsH 1 B.length (cH B),0≤Z8 (cR P2) (0*2+0)∧Z8 (cR P2) (0*2+0)≤Z8 (cR P2) (0*2+1)∧Z8 (cR P2) (0*2+1)≤1000,(0:Int)≤((3*(n+1):Nat):Int)∧((3*(n+1):Nat):Int)≤1000,L3 IntKind.i64 (((3*(n+1):Nat):Int)+1),L3 IntKind.i64 (((0:Nat):Int)+1)]) (gH 8 ([.b true]++gH 7 ([.sym,.sym]++gH 11 []))) [0,1,2,3,4,5,6,8] [(.xl (zb) (B.length) 1 (cH B)),(.ptr 0 0),(.ptr 1 0),(.ptr 2 0),(nI0 (((3*(n+1):Nat):Int)+1)),(nN 2),(.slu 8 0 1 0),(nN 1)] [(g6 L P0 P1 P2 v0 v1 v2 y yl),y9,(a08 n),(J9 B L n),(n8 n),(J4 B P0 n),(N3 B P1 n),(.row [(nI0 (pkV (Z8 (cR P2) (0*2+0)) (Z8 (cR P2) (0*2+1)) (cH B) B.length (((3*(n+1):Nat):Int)).toNat))] 2 1)] (by kernel_rfl) (by kernel_rfl) ⟨hqtr96_1,(by omega),(I8 (by omega) 65 (Try.underlying65) rfl (inf:=(Try.prog.info? 65).getD default) (by kernel_rfl) (by kernel_rfl)),⟨rfl,B,rfl,rfl,hB⟩,(by have h9:=hc2 0 (by omega);unfold X7 at h9;omega),(by omega),(a0Z (by omega) (by omega)),(a0Z (by omega) (by omega)),trivial⟩ rfl rfl (by decide) rfl ⟨V7 (Z7 (J5 B)),X8 rfl,X8 rfl,X8 rfl,S6 (show ((((3*(n+1):Nat):Int)+1):Int)=(((3*(n+1))+(0+1):Nat):Int) from by omega),W0 _,Y9 rfl,S6 (show (1:Int)=(((0+1):Nat):Int) from by omega),trivial⟩ ⟨⟨by show 0<8;decide,Z0 (Z9 (V4 (X6 (Y2 [(v0,P0),(v1,P1),(v2,P2)]))) (Z9 (V7 (Z7 (Y7 L))) (Z3)))⟩,⟨by show 1<8;decide,Z0 (Z9 (W0 _) (Z9 (W0 _) (Z3)))⟩,⟨by show 2<8;decide,Z0 (Z9 (Y9 rfl) (Z9 (Y9 rfl) (Z3)))⟩,⟨by show 3<8;decide,Z1 (Z7 (Z5 _))⟩,⟨by show 4<8;decide,Z1 (Z9 (Y9 rfl) (Z9 (Y9 rfl) (Z3)))⟩,⟨by show 5<8;decide,Z1 (Z7 (Z5 _))⟩,⟨by show 6<8;decide,Z1 (Z7 (Z5 _))⟩,⟨by show 7<8;decide,Z1 (K6 (show ((cI (tI (V0 (cR P2) (cH B) B.length (3*(n+1))) (0+1))):List AV)=[(nI0 (pkV (Z8 (cR P2) (0*2+0)) (Z8 (cR P2) (0*2+1)) (cH B) B.length (((3*(n+1):Nat):Int)).toNat))] from by (first|exact (a1U rfl (by unfold V0;rfl)).symm|exact (a1X (by unfold V0;rfl)).symm)) (Z5 _))⟩,trivial⟩) (Hd.en_on (⟨0+1,by omega,trivial⟩) (by show (n+1) - (0+1)<(n+1) - 0;omega) rfl)
 ·have ghqtr96_1:=Z4 hqtr96_1
  exfalso;omega
theorem c5B(hT:l9 L P0 P1 P2 n)(hB:R7 B)(h0b:True)(hqtr24_1:(Y1 (((n)+1:Nat):Int) L.length)=false)(h4b:True)(hqtr98_1:(Y1 (((n)+1:Nat):Int) P2.length)=false):Y6 zP0q 73 a0g ((c2G B L P0 P1 P2 n v0 v1 v2 y yl zb)) (BaseW.H (bw v 0 eb ec) hs) (z9 B L P0 P1 P2 eb ec n v v0 v1 v2 y yl zb (⟨2,by decide,trivial⟩:{i:Nat // i≤3∧True})):=by
 have hcl_P0:=Y8 P0
 have hcl_P1:=Y8 P1
 have hcl_P2:=Y8 P2
 have hcl_L:=Y8 L
 have hcl_B:=Y5 B
 obtain ⟨hn,hn8,hp0,hp1,hp2,hL,hc0,hc1,hc2⟩:=(id hT)
 have ghqtr24_1:=Z4 hqtr24_1
 have ghqtr98_1:=Z4 hqtr98_1
 exact Z6 W3 (U8 zC0q (T5) 200 (T':=(b8T B L P0 P1 P2 n v0 v1 v2 y yl zb)) (e:=.normal) (m:=10) (ps:=[L3 IntKind.i64 ((2:Int)+1)]) [.go,.go,.go] [0,1,2,3,9,5,6,7] [(.xl (zb) (B.length) 1 (cH B)),(.ptr 0 0),(.ptr 1 0),(.ptr 2 0),(nI0 (((3*(n+1)+(n+1):Nat):Int))),(nN 3)] [(g6 L P0 P1 P2 v0 v1 v2 y yl),y9,(.cells [(.slu 9 0 3 0),(.slu 3 0 (n+1) 0)] 29),(J9 B L n),(.row [(.slu 5 0 (n+1) 0),(.slu 6 0 (n+1) 0),(.slu 7 0 (n+1) 0)] 27 1),(J4 B P0 n),(N3 B P1 n),(F7 B P2 n)] (by kernel_rfl) (by kernel_rfl) ⟨(a0Z (by omega) (by omega)),trivial⟩ rfl rfl (by decide) rfl ⟨V7 (Z7 (J5 B)),X8 rfl,X8 rfl,X8 rfl,S6 (show ((((3*(n+1)+(n+1):Nat):Int)):Int)=(((4*(n+1)):Nat):Int) from by omega),S6 (show (3:Int)=((3:Nat):Int) from by omega),trivial⟩ ⟨⟨by show 0<8;decide,Z0 (Z9 (V4 (X6 (Y2 [(v0,P0),(v1,P1),(v2,P2)]))) (Z9 (V7 (Z7 (Y7 L))) (Z3)))⟩,⟨by show 1<8;decide,Z0 (Z9 (W0 _) (Z9 (W0 _) (Z3)))⟩,⟨by show 2<8;decide,Z0 (Z9 (Y9 rfl) (Z9 (Y9 rfl) (Z3)))⟩,⟨by show 3<8;decide,Z1 (Z7 (Z5 _))⟩,⟨by show 4<8;decide,Z1 (Z9 (Y9 rfl) (Z9 (Y9 rfl) (Z9 (Y9 rfl) (Z3))))⟩,⟨by show 5<8;decide,Z1 (Z7 (Z5 _))⟩,⟨by show 6<8;decide,Z1 (Z7 (Z5 _))⟩,⟨by show 7<8;decide,Z1 (Z7 (Z5 _))⟩,trivial⟩) (Hd.en_on ⟨2+1,by decide,trivial⟩ (by show 3 - (2+1)<3 - 2;decide) rfl)
theorem c6m(hT:l9 L P0 P1 P2 n)(hB:R7 B)(h0b:True)(hqtr24_1:(Y1 (((n)+1:Nat):Int) L.length)=false)(h4b:True)(hqtr98_1:(Y1 (((n)+1:Nat):Int) P2.length)=false):Y6 zP0q 73 a4v ((c2B B L P0 P1 P2 n v0 v1 v2 y yl zb)) (BaseW.H (bw v 0 eb ec) hs) (b2l B L P0 P1 P2 eb ec n v v0 v1 v2 y yl zb):=by
 exact Z6 W3 (Z2 zC0q (T5) 200 (T':=(c2G B L P0 P1 P2 n v0 v1 v2 y yl zb)) (e:=.normal) (ps:=[]) (gH 7 []) (by kernel_rfl) (by kernel_rfl) trivial rfl) (Hd.en_bn (c5B hT hB h0b hqtr24_1 h4b hqtr98_1))
theorem c9h(hT:l9 L P0 P1 P2 n)(hB:R7 B)(h0b:True)(hqtr24_1:(Y1 (((n)+1:Nat):Int) L.length)=false)(hj1:(j+1)≤(n+1))(hj2:True):Y6 zP0q 73 a8U ((b86 B L P0 P1 P2 j n v0 v1 v2 y yl zb)) (BaseW.H (bw v 0 eb ec) hs) (b9P B L P0 P1 P2 eb ec n v v0 v1 v2 y yl zb (⟨(j+1),hj1,hj2⟩:{j:Nat // j≤(n+1)∧True})):=by
 have hcl_P0:=Y8 P0
 have hcl_P1:=Y8 P1
 have hcl_P2:=Y8 P2
 have hcl_L:=Y8 L
 have hcl_B:=Y5 B
 obtain ⟨hn,hn8,hp0,hp1,hp2,hL,hc0,hc1,hc2⟩:=(id hT)
 have ghqtr24_1:=Z4 hqtr24_1
 rcases zB0q (Y1 ((j+1:Nat):Int) P2.length) with hqtr98_1|hqtr98_1
 ·have ghqtr98_1:=W7 hqtr98_1
  exact Z6 W3 (U8 zC0q (T5) 200 (T':=⟨[(Q4 B zb),(2,(.ptr 0 0)),(4,(.ptr 1 0)),(5,(.ptr 2 0)),(6,(nI0 (((3*(n+1))+((j+1)+1):Nat):Int))),(8,(nN 2)),(9,(.slu 7 0 ((j+1)+1) 0)),(10,(nI0 ((((j+1)+1):Nat):Int)))],[],8,[(Q5 L P0 P1 P2 v0 v1 v2 y yl),Q7,(2,(a08 n)),(M1 B L n),(4,(n8 n)),(G7 B P0 n),(6,(N3 B P1 n)),(7,(.row (cI (tI (V0 (cR P2) (cH B) B.length (3*(n+1))) ((j+1)+1))) 2 1))]⟩) (e:=.normal) (m:=10) (ps:=[Y1 ((j+1:Nat):Int) P2.length=true,j+1<P2.length,W6 zP0q (cR P2) ((j+1)*2) 65=some (AV.agg [AV.v (Value.int IntKind.i64 (Z8 (cR P2) ((j+1)*2+0))),AV.v (Value.int IntKind.i64 (Z8 (cR P2) ((j+1)*2+1)))]),IsH 1 B.length (cH B),0≤Z8 (cR P2) ((j+1)*2+0)∧Z8 (cR P2) ((j+1)*2+0)≤Z8 (cR P2) ((j+1)*2+1)∧Z8 (cR P2) ((j+1)*2+1)≤1000,(0:Int)≤((3*(n+1)+(j+1):Nat):Int)∧((3*(n+1)+(j+1):Nat):Int)≤1000,((cI (tI (V0 (cR P2) (cH B) B.length (3*(n+1))) (j+1))):List AV).length=(j+1)*1,j+1+1≤1000000,L3 IntKind.i64 (((3*(n+1)+(j+1):Nat):Int)+1),L3 IntKind.i64 (((j+1:Nat):Int)+1)]) (gH 8 ([.b true]++gH 7 ([.sym,.sym,.go,.go,.go,.sym]++gH 7 []))) [0,1,2,3,4,5,6,9] [(.xl (zb) (B.length) 1 (cH B)),(.ptr 0 0),(.ptr 1 0),(.ptr 2 0),(nI0 (((3*(n+1)+(j+1):Nat):Int)+1)),(nN 2),(.slu 9 0 (j+1+1) 0),(nI0 (((j+1:Nat):Int)+1))] [(g6 L P0 P1 P2 v0 v1 v2 y yl),y9,(a08 n),(J9 B L n),(n8 n),(J4 B P0 n),(N3 B P1 n),(.row ((cI (tI (V0 (cR P2) (cH B) B.length (3*(n+1))) (j+1)))++[(nI0 (pkV (Z8 (cR P2) ((j+1)*2+0)) (Z8 (cR P2) ((j+1)*2+1)) (cH B) B.length (((3*(n+1)+(j+1):Nat):Int)).toNat))]) 2 1)] (by kernel_rfl) (by kernel_rfl) ⟨hqtr98_1,(by omega),(I8 (by omega) 65 (Try.underlying65) rfl (inf:=(Try.prog.info? 65).getD default) (by kernel_rfl) (by kernel_rfl)),⟨rfl,B,rfl,rfl,hB⟩,(by have h9:=hc2 (j+1) (by omega);unfold X7 at h9;omega),(by omega),(by show (cI _).length=_;rw [Y5,Y0];omega),(by omega),(a0Z (by omega) (by omega)),(a0Z (by omega) (by omega)),trivial⟩ rfl rfl (by decide) rfl ⟨V7 (Z7 (J5 B)),X8 rfl,X8 rfl,X8 rfl,S6 (show ((((3*(n+1)+(j+1):Nat):Int)+1):Int)=(((3*(n+1))+((j+1)+1):Nat):Int) from by omega),W0 _,Y9 rfl,S6 (show ((((j+1:Nat):Int)+1):Int)=((((j+1)+1):Nat):Int) from by omega),trivial⟩ ⟨⟨by show 0<8;decide,Z0 (Z9 (V4 (X6 (Y2 [(v0,P0),(v1,P1),(v2,P2)]))) (Z9 (V7 (Z7 (Y7 L))) (Z3)))⟩,⟨by show 1<8;decide,Z0 (Z9 (W0 _) (Z9 (W0 _) (Z3)))⟩,⟨by show 2<8;decide,Z0 (Z9 (Y9 rfl) (Z9 (Y9 rfl) (Z3)))⟩,⟨by show 3<8;decide,Z1 (Z7 (Z5 _))⟩,⟨by show 4<8;decide,Z1 (Z9 (Y9 rfl) (Z9 (Y9 rfl) (Z3)))⟩,⟨by show 5<8;decide,Z1 (Z7 (Z5 _))⟩,⟨by show 6<8;decide,Z1 (Z7 (Z5 _))⟩,⟨by show 7<8;decide,Z1 (K6 (show ((cI (tI (V0 (cR P2) (cH B) B.length (3*(n+1))) ((j+1)+1))):List AV)=((cI (tI (V0 (cR P2) (cH B) B.length (3*(n+1))) (j+1)))++[(nI0 (pkV (Z8 (cR P2) ((j+1)*2+0)) (Z8 (cR P2) ((j+1)*2+1)) (cH B) B.length (((3*(n+1)+(j+1):Nat):Int)).toNat))]) from by (first|exact (a1U rfl (by unfold V0;rfl)).symm|exact (a1X (by unfold V0;rfl)).symm)) (Z5 _))⟩,trivial⟩) (Hd.en_on (⟨(j+1)+1,by omega,trivial⟩) (by show (n+1) - ((j+1)+1)<(n+1) - (j+1);omega) rfl)
 ·have ghqtr98_1:=Z4 hqtr98_1
  obtain rfl:n=j:=by omega
  exact Z6 z5 (Z2 zC0q (T5) 200 (T':=(c2B B L P0 P1 P2 n v0 v1 v2 y yl zb)) (e:=.exit 4) (ps:=[Y1 (((n)+1:Nat):Int) P2.length=false]) (gH 8 [.b false]) (by kernel_rfl) (by kernel_rfl) ⟨hqtr98_1,trivial⟩ rfl) (Hd.en_sx (c6m hT hB h0b hqtr24_1 hj2 hqtr98_1))
@[reducible] def b31(B:List Int)(L P0 P1 P2:List (Int×Int))(eb:Nat→Option Nat)(ec:Nat→Nat)(n:Nat)(v:BaseW)(v0 v1 v2 y yl zb:Value):=(Hd.AfterN zP0q 73 a4v (bw v 0 eb ec) (Hd.AfterB zP0q 73 3 a0g (bw v 0 eb ec) (Hd.StepC zP0q 73 2 (fun i:{i:Nat // i≤3∧True}=>(a26 B L P0 P1 P2 n v0 v1 v2 y yl zb) i.1) (fun i:{i:Nat // i≤3∧True}=>3 - i.1) a1p (bw v 0 eb ec) (D3 zP0q Try.f43 73 ((.agg [.slu 0 0 3 0,.slu 1 0 (n+1) 0])) [(s7 n),(J9 B L n),(J4 B P0 n),(N3 B P1 n),(F7 B P2 n)] (bw v 0 eb ec)) (⟨2,by decide,trivial⟩:{i:Nat // i≤3∧True}))))
theorem c8Q(hT:l9 L P0 P1 P2 n)(hB:R7 B)(h0b:True)(hqtr24_1:(Y1 (((n)+1:Nat):Int) L.length)=false):Y6 zP0q 73 a6S ((b7K B L P0 P1 P2 n v0 v1 v2 y yl zb)) (BaseW.H (bw v 0 eb ec) hs) (b31 B L P0 P1 P2 eb ec n v v0 v1 v2 y yl zb):=by
 exact Hd.goes_loopA (id:=4) (by kernel_rfl) (by kernel_rfl) (fun j:{j:Nat // j≤(n+1)∧True}=>Ev.fam0 (b77 B L P0 P1 P2 n v0 v1 v2 y yl zb) (fun j=>(b86 B L P0 P1 P2 j n v0 v1 v2 y yl zb)) j.1) (fun j:{j:Nat // j≤(n+1)∧True}=>(n+1) - j.1) (fun i hs=>match i with|⟨0,h1,h2⟩=>c78 hT hB h0b hqtr24_1 h1 h2|⟨j+1,h1,h2⟩=>c9h hT hB h0b hqtr24_1 h1 h2) ⟨0,Nat.zero_le _,trivial⟩ hs
theorem c7O(hT:l9 L P0 P1 P2 n)(hB:R7 B)(h0b:True)(hqtr24_1:(Y1 (((n)+1:Nat):Int) L.length)=false):Y6 zP0q 73 a6S ((b7K B L P0 P1 P2 n v0 v1 v2 y yl zb)) (BaseW.H (bw v 0 eb ec) hs) (b31 B L P0 P1 P2 eb ec n v v0 v1 v2 y yl zb):=by
 exact c8Q hT hB h0b hqtr24_1
theorem c8o(hT:l9 L P0 P1 P2 n)(hB:R7 B)(h0b:True)(hqtr24_1:(Y1 (((n)+1:Nat):Int) L.length)=false):Y6 zP0q 73 b4R ((b9D B L P0 P1 P2 n v0 v1 v2 y yl zb)) (BaseW.H (bw v 0 eb ec) hs) (b31 B L P0 P1 P2 eb ec n v v0 v1 v2 y yl zb):=by
 refine Hd.goes_seqA (by kernel_rfl) ?_
 exact Z6 W3 (Z2 zC0q (T5) 200 (T':=(b7K B L P0 P1 P2 n v0 v1 v2 y yl zb)) (e:=.normal) (ps:=[]) [.go] (by kernel_rfl) (by kernel_rfl) trivial rfl) (Hd.en_n (c7O hT hB h0b hqtr24_1))
theorem c86(hT:l9 L P0 P1 P2 n)(hB:R7 B)(h0b:True)(hqtr24_1:(Y1 (((n)+1:Nat):Int) L.length)=false):Y6 zP0q 73 b1T ((b9D B L P0 P1 P2 n v0 v1 v2 y yl zb)) (BaseW.H (bw v 0 eb ec) hs) (b2l B L P0 P1 P2 eb ec n v v0 v1 v2 y yl zb):=by
 exact Hd.goes_seqA (by kernel_rfl) (c8o hT hB h0b hqtr24_1)
theorem c95(hT:l9 L P0 P1 P2 n)(hB:R7 B)(h0b:True)(hqtr24_1:(Y1 (((n)+1:Nat):Int) L.length)=false):Y6 zP0q 73 b5x ((b03 B L P0 P1 P2 n v0 v1 v2 y yl zb)) (BaseW.H (bw v 0 eb ec) hs) (b2l B L P0 P1 P2 eb ec n v v0 v1 v2 y yl zb):=by
 refine Hd.goes_seqA (by kernel_rfl) ?_
 exact Z6 W3 (Z2 zC0q (T5) 200 (T':=(b9D B L P0 P1 P2 n v0 v1 v2 y yl zb)) (e:=.normal) (ps:=[]) [.go] (by kernel_rfl) (by kernel_rfl) trivial rfl) (Hd.en_n (c86 hT hB h0b hqtr24_1))
theorem c82(hT:l9 L P0 P1 P2 n)(hB:R7 B)(h0b:True)(hqtr24_1:(Y1 (((n)+1:Nat):Int) L.length)=false):Y6 zP0q 73 (l5 a5A) ((b03 B L P0 P1 P2 n v0 v1 v2 y yl zb)) (BaseW.H (bw v 0 eb ec) hs) (Hd.AfterN zP0q 73 a0g (bw v 0 eb ec) (z9 B L P0 P1 P2 eb ec n v v0 v1 v2 y yl zb (⟨2,by decide,trivial⟩:{i:Nat // i≤3∧True}))):=by
 exact Hd.goes_blkA (id:=3) (by kernel_rfl) (by kernel_rfl) (c95 hT hB h0b hqtr24_1)
theorem c7L(hT:l9 L P0 P1 P2 n)(hB:R7 B)(h0b:True)(hqtr24_1:(Y1 (((n)+1:Nat):Int) L.length)=false):Y6 zP0q 73 a5A ((b03 B L P0 P1 P2 n v0 v1 v2 y yl zb)) (BaseW.H (bw v 0 eb ec) hs) (z9 B L P0 P1 P2 eb ec n v v0 v1 v2 y yl zb (⟨2,by decide,trivial⟩:{i:Nat // i≤3∧True})):=by
 exact Hd.goes_seqA (by kernel_rfl) (c82 hT hB h0b hqtr24_1)
theorem c9D(hT:l9 L P0 P1 P2 n)(hB:R7 B)(h0b:True)(hqtr24_1:(Y1 (((n)+1:Nat):Int) L.length)=false):Y6 zP0q 73 b0W ((b4m B L P0 P1 P2 n v0 v1 v2 y yl zb)) (BaseW.H (bw v 0 eb ec) hs) (z9 B L P0 P1 P2 eb ec n v v0 v1 v2 y yl zb (⟨2,by decide,trivial⟩:{i:Nat // i≤3∧True})):=by
 refine Hd.goes_seqA (by kernel_rfl) ?_
 exact Z6 W3 (Z2 zC0q (T5) 200 (T':=(b03 B L P0 P1 P2 n v0 v1 v2 y yl zb)) (e:=.normal) (ps:=[Y1 2 3=true]) (gH 5 [.b true]) (by kernel_rfl) (by kernel_rfl) ⟨rfl,trivial⟩ rfl) (Hd.en_n (c7L hT hB h0b hqtr24_1))
theorem c3D(hT:l9 L P0 P1 P2 n)(hB:R7 B)(h0b:True)(hqtr24_1:(Y1 (((n)+1:Nat):Int) L.length)=false):Y6 zP0q 73 a1p ((b9Z B L P0 P1 P2 n)) (BaseW.H (bw v 0 eb ec) hs) (a2c B L P0 P1 P2 eb ec n v):=by
 exact Z6 U0 (U8 zC0q (T5) 200 (T':=⟨[(4,(.ptr 5 0))],[],6,[(0,(.row [(.slu 2 0 (n+1) 0),(.slu 3 0 (n+1) 0),(.slu 4 0 (n+1) 0)] 27 1)),(1,(J9 B L n)),(2,(J4 B P0 n)),(3,(N3 B P1 n)),(4,(F7 B P2 n)),(5,(.cells [(.slu 0 0 3 0),(.slu 1 0 (n+1) 0)] 29))]⟩) (e:=.ret) (m:=8) (ps:=[]) [.go,.go] [4,3,5,6,7,1] [(.ptr 1 0)] [(.row [(.slu 5 0 (n+1) 0),(.slu 6 0 (n+1) 0),(.slu 7 0 (n+1) 0)] 27 1),(J9 B L n),(J4 B P0 n),(N3 B P1 n),(F7 B P2 n),(.cells [(.slu 4 0 3 0),(.slu 3 0 (n+1) 0)] 29)] (by kernel_rfl) (by kernel_rfl) trivial rfl rfl (by decide) rfl ⟨X8 rfl,trivial⟩ ⟨⟨by show 0<6;decide,Z1 (Z9 (Y9 rfl) (Z9 (Y9 rfl) (Z9 (Y9 rfl) (Z3))))⟩,⟨by show 1<6;decide,Z1 (Z7 (Z5 _))⟩,⟨by show 2<6;decide,Z1 (Z7 (Z5 _))⟩,⟨by show 3<6;decide,Z1 (Z7 (Z5 _))⟩,⟨by show 4<6;decide,Z1 (Z7 (Z5 _))⟩,⟨by show 5<6;decide,Z0 (Z9 (Y9 rfl) (Z9 (Y9 rfl) (Z3)))⟩,trivial⟩) (o3 (r:=(.agg [(.slu 0 0 3 0),(.slu 1 0 (n+1) 0)])) (ys:=[(.row [(.slu 2 0 (n+1) 0),(.slu 3 0 (n+1) 0),(.slu 4 0 (n+1) 0)] 27 1),(J9 B L n),(J4 B P0 n),(N3 B P1 n),(F7 B P2 n)]) (by rfl) (by rfl) (A4 (by kernel_rfl) (by kernel_rfl) rfl (.inr rfl)))
theorem c48(hT:l9 L P0 P1 P2 n)(hB:R7 B)(h0b:True)(hqtr24_1:(Y1 (((n)+1:Nat):Int) L.length)=false):Y6 zP0q 73 b0W ((b8T B L P0 P1 P2 n v0 v1 v2 y yl zb)) (BaseW.H (bw v 0 eb ec) hs) (z9 B L P0 P1 P2 eb ec n v v0 v1 v2 y yl zb (⟨3,by decide,trivial⟩:{i:Nat // i≤3∧True})):=by
 refine Hd.goes_seqA (by kernel_rfl) ?_
 exact Z6 z5 (Z2 zC0q (T5) 200 (T':=(b9Z B L P0 P1 P2 n)) (e:=.exit 2) (ps:=[Y1 3 3=false]) (gH 5 [.b false]) (by kernel_rfl) (by kernel_rfl) ⟨rfl,trivial⟩ rfl) (Hd.en_o (by intro h;cases h) (Hd.en_sx (c3D hT hB h0b hqtr24_1)))
@[reducible] def a9Q(B:List Int)(L P0 P1 P2:List (Int×Int))(eb:Nat→Option Nat)(ec:Nat→Nat)(n:Nat)(v:BaseW):=(Hd.AfterN zP0q 73 a1p (bw v 0 eb ec) (D3 zP0q Try.f43 73 ((.agg [.slu 0 0 3 0,.slu 1 0 (n+1) 0])) [(s7 n),(J9 B L n),(J4 B P0 n),(N3 B P1 n),(F7 B P2 n)] (bw v 0 eb ec)))
theorem c8X(hT:l9 L P0 P1 P2 n)(hB:R7 B)(h0b:True)(hqtr24_1:(Y1 (((n)+1:Nat):Int) L.length)=false):Y6 zP0q 73 c01 ((a3v B L P0 P1 P2 n v0 v1 v2 y yl zb)) (BaseW.H (bw v 0 eb ec) hs) (a9Q B L P0 P1 P2 eb ec n v):=by
 have hcl_P0:=Y8 P0
 have hcl_P1:=Y8 P1
 have hcl_P2:=Y8 P2
 have hcl_L:=Y8 L
 have hcl_B:=Y5 B
 obtain ⟨hn,hn8,hp0,hp1,hp2,hL,hc0,hc1,hc2⟩:=(id hT)
 have ghqtr24_1:=Z4 hqtr24_1
 exact Hd.goes_loopA (id:=2) (by kernel_rfl) (by kernel_rfl) (fun i:{i:Nat // i≤3∧True}=>(a26 B L P0 P1 P2 n v0 v1 v2 y yl zb) i.1) (fun i:{i:Nat // i≤3∧True}=>3 - i.1) (fun ix_ hs=>match ix_ with|⟨0,_,_⟩=>c6s hT hB h0b hqtr24_1|⟨1,_,_⟩=>c7P hT hB h0b hqtr24_1|⟨2,_,_⟩=>c9D hT hB h0b hqtr24_1|⟨3,_,_⟩=>c48 hT hB h0b hqtr24_1|⟨j_+4,h1_,_⟩=>absurd h1_ (by omega)) ⟨0,Nat.zero_le _,trivial⟩ hs
theorem c7W(hT:l9 L P0 P1 P2 n)(hB:R7 B)(h0b:True)(hqtr24_1:(Y1 (((n)+1:Nat):Int) L.length)=false):Y6 zP0q 73 c01 ((a3v B L P0 P1 P2 n v0 v1 v2 y yl zb)) (BaseW.H (bw v 0 eb ec) hs) (a9Q B L P0 P1 P2 eb ec n v):=by
 exact c8X hT hB h0b hqtr24_1
theorem c9A(hT:l9 L P0 P1 P2 n)(hB:R7 B)(h0b:True)(hqtr24_1:(Y1 (((n)+1:Nat):Int) L.length)=false):Y6 zP0q 73 c1C ((b2I B L P0 P1 P2 n v0 v1 v2 y yl zb)) (BaseW.H (bw v 0 eb ec) hs) (a9Q B L P0 P1 P2 eb ec n v):=by
 refine Hd.goes_seqA (by kernel_rfl) ?_
 exact Z6 W3 (Z2 zC0q (T5) 200 (T':=(a3v B L P0 P1 P2 n v0 v1 v2 y yl zb)) (e:=.normal) (ps:=[]) [.go] (by kernel_rfl) (by kernel_rfl) trivial rfl) (Hd.en_n (c7W hT hB h0b hqtr24_1))
theorem c9p(hT:l9 L P0 P1 P2 n)(hB:R7 B)(h0b:True)(hqtr24_1:(Y1 (((n)+1:Nat):Int) L.length)=false):Y6 zP0q 73 b0B ((b2I B L P0 P1 P2 n v0 v1 v2 y yl zb)) (BaseW.H (bw v 0 eb ec) hs) (a2c B L P0 P1 P2 eb ec n v):=by
 exact Hd.goes_seqA (by kernel_rfl) (c9A hT hB h0b hqtr24_1)
theorem c7T(hT:l9 L P0 P1 P2 n)(hB:R7 B)(hi1:(i+1)≤(n+1))(hi2:True):Y6 zP0q 73 c1O ((b4j B L P0 P1 P2 i v0 v1 v2 y yl zb)) (BaseW.H (bw v 0 eb ec) hs) (b5o B L P0 P1 P2 eb ec n v v0 v1 v2 y yl zb (⟨(i+1),hi1,hi2⟩:{i:Nat // i≤(n+1)∧True})):=by
 have hcl_P0:=Y8 P0
 have hcl_P1:=Y8 P1
 have hcl_P2:=Y8 P2
 have hcl_L:=Y8 L
 have hcl_B:=Y5 B
 obtain ⟨hn,hn8,hp0,hp1,hp2,hL,hc0,hc1,hc2⟩:=(id hT)
 rcases zB0q (Y1 ((i+1:Nat):Int) L.length) with hqtr24_1|hqtr24_1
 ·have ghqtr24_1:=W7 hqtr24_1
  exact Z6 W3 (U8 zC0q (T5) 200 (T':=⟨[(Q4 B zb),(2,(.ptr 0 0)),(4,(.ptr 1 0)),(5,(.ptr 2 0)),(6,(nI0 ((((i+1)+1):Nat):Int))),(7,(nI0 ((((i+1)+1):Nat):Int)))],[],4,[(Q5 L P0 P1 P2 v0 v1 v2 y yl),Q7,(2,(.cells [(.v (.slice none 0 0)),(.slu 3 0 ((i+1)+1) 0)] 29)),(3,(.row (cI (tI (V0 (cR L) (cH B) B.length 0) ((i+1)+1))) 2 1))]⟩) (e:=.normal) (m:=6) (ps:=[Y1 ((i+1:Nat):Int) L.length=true,i+1<L.length,W6 zP0q (cR L) ((i+1)*2) 65=some (AV.agg [AV.v (Value.int IntKind.i64 (Z8 (cR L) ((i+1)*2+0))),AV.v (Value.int IntKind.i64 (Z8 (cR L) ((i+1)*2+1)))]),IsH 1 B.length (cH B),0≤Z8 (cR L) ((i+1)*2+0)∧Z8 (cR L) ((i+1)*2+0)≤Z8 (cR L) ((i+1)*2+1)∧Z8 (cR L) ((i+1)*2+1)≤1000,(0:Int)≤((i+1:Nat):Int)∧((i+1:Nat):Int)≤1000,((cI (tI (V0 (cR L) (cH B) B.length 0) (i+1))):List AV).length=(i+1)*1,i+1+1≤1000000,L3 IntKind.i64 (((i+1:Nat):Int)+1),L3 IntKind.i64 (((i+1:Nat):Int)+1)]) (gH 5 ([.b true]++gH 5 ([.sym,.sym,.go,.go,.go,.sym]++gH 8 []))) [0,1,2,5] [(.xl (zb) (B.length) 1 (cH B)),(.ptr 0 0),(.ptr 1 0),(.ptr 2 0),(nI0 (((i+1:Nat):Int)+1)),(nI0 (((i+1:Nat):Int)+1))] [(g6 L P0 P1 P2 v0 v1 v2 y yl),y9,(.cells [(.v (Value.slice none 0 0)),(.slu 5 0 (i+1+1) 0)] 29),(.row ((cI (tI (V0 (cR L) (cH B) B.length 0) (i+1)))++[(nI0 (pkV (Z8 (cR L) ((i+1)*2+0)) (Z8 (cR L) ((i+1)*2+1)) (cH B) B.length (((i+1:Nat):Int)).toNat))]) 2 1)] (by kernel_rfl) (by kernel_rfl) ⟨hqtr24_1,(by omega),(I8 (by omega) 65 (Try.underlying65) rfl (inf:=(Try.prog.info? 65).getD default) (by kernel_rfl) (by kernel_rfl)),⟨rfl,B,rfl,rfl,hB⟩,(by have h9:=hL (i+1) (by omega);unfold X7 at h9;omega),(by omega),(by show (cI _).length=_;rw [Y5,Y0];omega),(by omega),(a0Z (by omega) (by omega)),(a0Z (by omega) (by omega)),trivial⟩ rfl rfl (by decide) rfl ⟨V7 (Z7 (J5 B)),X8 rfl,X8 rfl,X8 rfl,S6 (show ((((i+1:Nat):Int)+1):Int)=((((i+1)+1):Nat):Int) from by omega),S6 (show ((((i+1:Nat):Int)+1):Int)=((((i+1)+1):Nat):Int) from by omega),trivial⟩ ⟨⟨by show 0<4;decide,Z0 (Z9 (V4 (X6 (Y2 [(v0,P0),(v1,P1),(v2,P2)]))) (Z9 (V7 (Z7 (Y7 L))) (Z3)))⟩,⟨by show 1<4;decide,Z0 (Z9 (W0 _) (Z9 (W0 _) (Z3)))⟩,⟨by show 2<4;decide,Z0 (Z9 (W0 _) (Z9 (Y9 rfl) (Z3)))⟩,⟨by show 3<4;decide,Z1 (K6 (show ((cI (tI (V0 (cR L) (cH B) B.length 0) ((i+1)+1))):List AV)=((cI (tI (V0 (cR L) (cH B) B.length 0) (i+1)))++[(nI0 (pkV (Z8 (cR L) ((i+1)*2+0)) (Z8 (cR L) ((i+1)*2+1)) (cH B) B.length (((i+1:Nat):Int)).toNat))]) from by (first|exact (a1U rfl (by unfold V0;rfl)).symm|exact (a1X (by unfold V0;rw [Nat.zero_add];rfl)).symm)) (Z5 _))⟩,trivial⟩) (Hd.en_on (⟨(i+1)+1,by omega,trivial⟩) (by show (n+1) - ((i+1)+1)<(n+1) - (i+1);omega) rfl)
 ·have ghqtr24_1:=Z4 hqtr24_1
  obtain rfl:n=i:=by omega
  exact Z6 z5 (Z2 zC0q (T5) 200 (T':=(b2I B L P0 P1 P2 n v0 v1 v2 y yl zb)) (e:=.exit 0) (ps:=[Y1 (((n)+1:Nat):Int) L.length=false]) (gH 5 [.b false]) (by kernel_rfl) (by kernel_rfl) ⟨hqtr24_1,trivial⟩ rfl) (Hd.en_sx (c9p hT hB hi2 hqtr24_1))
@[reducible] def b0n(B:List Int)(L P0 P1 P2:List (Int×Int))(eb:Nat→Option Nat)(ec:Nat→Nat)(n:Nat)(v:BaseW):=(Hd.AfterN zP0q 73 b0B (bw v 0 eb ec) (D3 zP0q Try.f43 73 ((.agg [.slu 0 0 3 0,.slu 1 0 (n+1) 0])) [(s7 n),(J9 B L n),(J4 B P0 n),(N3 B P1 n),(F7 B P2 n)] (bw v 0 eb ec)))
theorem c7R(hT:l9 L P0 P1 P2 n)(hB:R7 B):Y6 zP0q 73 b9A ((b26 B L P0 P1 P2 v0 v1 v2 y yl zb)) (BaseW.H (bw v 0 eb ec) hs) (b0n B L P0 P1 P2 eb ec n v):=by
 exact Hd.goes_loopA (id:=0) (by kernel_rfl) (by kernel_rfl) (fun i:{i:Nat // i≤(n+1)∧True}=>Ev.fam0 (b2c B L P0 P1 P2 v0 v1 v2 y yl zb) (fun i=>(b4j B L P0 P1 P2 i v0 v1 v2 y yl zb)) i.1) (fun i:{i:Nat // i≤(n+1)∧True}=>(n+1) - i.1) (fun i hs=>match i with|⟨0,h1,h2⟩=>c9w hT hB h1 h2|⟨j+1,h1,h2⟩=>c7T hT hB h1 h2) ⟨0,Nat.zero_le _,trivial⟩ hs
theorem c6d(hT:l9 L P0 P1 P2 n)(hB:R7 B):Y6 zP0q 73 b9A ((b26 B L P0 P1 P2 v0 v1 v2 y yl zb)) (BaseW.H (bw v 0 eb ec) hs) (b0n B L P0 P1 P2 eb ec n v):=by
 exact c7R hT hB
theorem c7g(hT:l9 L P0 P1 P2 n)(hB:R7 B):Y6 zP0q 73 c2p ((b2z B L P0 P1 P2 v0 v1 v2 y yl zb)) (BaseW.H (bw v 0 eb ec) hs) (b0n B L P0 P1 P2 eb ec n v):=by
 refine Hd.goes_seqA (by kernel_rfl) ?_
 exact Z6 W3 (Z2 zC0q (T5) 200 (T':=(b26 B L P0 P1 P2 v0 v1 v2 y yl zb)) (e:=.normal) (ps:=[]) [.go] (by kernel_rfl) (by kernel_rfl) trivial rfl) (Hd.en_n (c6d hT hB))
theorem c6A(hT:l9 L P0 P1 P2 n)(hB:R7 B):Y6 zP0q 73 c3O ((b2z B L P0 P1 P2 v0 v1 v2 y yl zb)) (BaseW.H (bw v 0 eb ec) hs) (a2c B L P0 P1 P2 eb ec n v):=by
 exact Hd.goes_seqA (by kernel_rfl) (c7g hT hB)
theorem d0R(hT:l9 L P0 P1 P2 n)(hB:R7 B):Y6 zP0q 73 c9z ((b6q B L P0 P1 P2 v0 v1 v2 y yl zb)) (BaseW.H (bw v 0 eb ec) hs) (a2c B L P0 P1 P2 eb ec n v):=by
 refine Hd.goes_seqA (by kernel_rfl) ?_
 exact Z6 W3 (Z2 zC0q (T5) 200 (T':=(b2z B L P0 P1 P2 v0 v1 v2 y yl zb)) (e:=.normal) (ps:=[]) [.go] (by kernel_rfl) (by kernel_rfl) trivial rfl) (Hd.en_n (c6A hT hB))
theorem c9L(hT:l9 L P0 P1 P2 n)(hB:R7 B):Y6 zP0q 73 c75 ((b7u B L P0 P1 P2 v0 v1 v2 y yl zb)) (BaseW.H (bw v 0 eb ec) hs) (a2c B L P0 P1 P2 eb ec n v):=by
 refine Hd.goes_seqA (by kernel_rfl) ?_
 exact Z6 W3 (Z2 zC0q (T5) 200 (T':=(b6q B L P0 P1 P2 v0 v1 v2 y yl zb)) (e:=.normal) (ps:=[]) [.go] (by kernel_rfl) (by kernel_rfl) trivial rfl) (Hd.en_n (d0R hT hB))
end
theorem c9K(y v0:Value)(P0:List (Int×Int))(v1:Value)(P1:List (Int×Int))(v2:Value)(P2:List (Int×Int))(yl:Value)(L:List (Int×Int))(zb:Value)(B:List Int)(n:Nat)(hT:l9 L P0 P1 P2 n)(hB:R7 B)(v:BaseW)(eb:Nat→Option Nat)(ec:Nat→Nat)(hs:List Nat):Y6 zP0q 73 c9B (⟨[(0,(.agg [.xl y 3 1 [.xl v0 P0.length 2 (cR P0),.xl v1 P1.length 2 (cR P1),.xl v2 P2.length 2 (cR P2)],.xl yl L.length 2 (cR L)])),(1,(.xl zb B.length 1 (cH B)))],[],0,[]⟩) (BaseW.H (bw v 0 eb ec) hs) (a2c B L P0 P1 P2 eb ec n v):=by
 refine Hd.goes_seqA (by kernel_rfl) ?_
 exact Z6 W3 (Z2 zC0q (T5) 200 (T':=(b7u B L P0 P1 P2 v0 v1 v2 y yl zb)) (e:=.normal) (ps:=[]) [.go,.go] (by kernel_rfl) (by kernel_rfl) trivial rfl) (Hd.en_n (c9L hT hB))
theorem d0x(y v0:Value)(P0:List (Int×Int))(v1:Value)(P1:List (Int×Int))(v2:Value)(P2:List (Int×Int))(yl:Value)(L:List (Int×Int))(zb:Value)(B:List Int)(n:Nat)(hT:l9 L P0 P1 P2 n)(hB:R7 B):A8 zP0q 43 [(.agg [.xl y 3 1 [.xl v0 P0.length 2 (cR P0),.xl v1 P1.length 2 (cR P1),.xl v2 P2.length 2 (cR P2)],.xl yl L.length 2 (cR L)]),(.xl zb B.length 1 (cH B))] [] ((.agg [.slu 0 0 3 0,.slu 1 0 (n+1) 0])) [(.row [.slu 2 0 (n+1) 0,.slu 3 0 (n+1) 0,.slu 4 0 (n+1) 0] 27 1),(.row (cI (tI (V0 (cR L) (cH B) B.length 0) (n+1))) 2 1),(.row (cI (tI (V0 (cR P0) (cH B) B.length (n+1)) (n+1))) 2 1),(.row (cI (tI (V0 (cR P1) (cH B) B.length (2*(n+1))) (n+1))) 2 1),(.row (cI (tI (V0 (cR P2) (cH B) B.length (3*(n+1))) (n+1))) 2 1)] :=
 N1 73 (by kernel_rfl) Try.func43 (by kernel_rfl) (by kernel_rfl) (by kernel_rfl) (fun v eb ec=>V2 (by kernel_rfl) (by kernel_rfl) (by kernel_rfl) (by kernel_rfl) (c9K y v0 P0 v1 P1 v2 P2 yl L zb B n hT hB v eb ec []))
end
end Go.Proofs.Ytegmogadbnfbgaa
namespace Go.Proofs.Ytegmogadbnfbgaa
open Go Ev
noncomputable section
end
end Go.Proofs.Ytegmogadbnfbgaa
namespace Go.Proofs.Ytegmogadbnfbgaa
open Go Ev
noncomputable section
end
end Go.Proofs.Ytegmogadbnfbgaa
namespace Go.Proofs.Ytegmogadbnfbgaa
open Go Ev
noncomputable section
end
end Go.Proofs.Ytegmogadbnfbgaa
namespace Go.Proofs.Ytegmogadbnfbgaa
open Go Ev
noncomputable section
end
end Go.Proofs.Ytegmogadbnfbgaa
namespace Go.Proofs.Ytegmogadbnfbgaa
open Go Ev
noncomputable section
end
end Go.Proofs.Ytegmogadbnfbgaa
namespace Go.Proofs.Ytegmogadbnfbgaa
open Go Ev
noncomputable section
end
end Go.Proofs.Ytegmogadbnfbgaa
namespace Go.Proofs.Ytegmogadbnfbgaa
open Go Ev
noncomputable section
theorem c43{c0 c1 c2 cL d:List AV}{n:Nat}:[AV.v (.int .i64 (S2 (H8 (List.take (n*(0+1)) (List.drop 0 (cI (tI (X9 c0 d false) n)))) (List.take (n*(0+1)) (List.drop 0 (cI (tI (X9 c1 d false) n)))) (List.take (n*(0+1)) (List.drop 0 (cI (tI (X9 c2 d false) n)))) (List.take (n*(0+1)) (List.drop 0 (cI (tI (X9 cL d false) n)))) d 0) n)),AV.v (.int .i64 (S2 (H8 (List.take (n*(0+1)) (List.drop 0 (cI (tI (X9 c0 d true) n)))) (List.take (n*(0+1)) (List.drop 0 (cI (tI (X9 c1 d true) n)))) (List.take (n*(0+1)) (List.drop 0 (cI (tI (X9 c2 d true) n)))) (List.take (n*(0+1)) (List.drop 0 (cI (tI (X9 cL d true) n)))) d 0) n)),AV.v (.int .i64 (S2 (H8 (List.take (n*(0+1)) (List.drop 0 (cI (tI (X9 c0 d false) n)))) (List.take (n*(0+1)) (List.drop 0 (cI (tI (X9 c1 d false) n)))) (List.take (n*(0+1)) (List.drop 0 (cI (tI (X9 c2 d false) n)))) (List.take (n*(0+1)) (List.drop 0 (cI (tI (X9 cL d false) n)))) d 1) n)),AV.v (.int .i64 (S2 (H8 (List.take (n*(0+1)) (List.drop 0 (cI (tI (X9 c0 d true) n)))) (List.take (n*(0+1)) (List.drop 0 (cI (tI (X9 c1 d true) n)))) (List.take (n*(0+1)) (List.drop 0 (cI (tI (X9 c2 d true) n)))) (List.take (n*(0+1)) (List.drop 0 (cI (tI (X9 cL d true) n)))) d 1) n)),AV.v (.int .i64 (S2 (H8 (List.take (n*(0+1)) (List.drop 0 (cI (tI (X9 c0 d false) n)))) (List.take (n*(0+1)) (List.drop 0 (cI (tI (X9 c1 d false) n)))) (List.take (n*(0+1)) (List.drop 0 (cI (tI (X9 c2 d false) n)))) (List.take (n*(0+1)) (List.drop 0 (cI (tI (X9 cL d false) n)))) d 2) n)),AV.v (.int .i64 (S2 (H8 (List.take (n*(0+1)) (List.drop 0 (cI (tI (X9 c0 d true) n)))) (List.take (n*(0+1)) (List.drop 0 (cI (tI (X9 c1 d true) n)))) (List.take (n*(0+1)) (List.drop 0 (cI (tI (X9 c2 d true) n)))) (List.take (n*(0+1)) (List.drop 0 (cI (tI (X9 cL d true) n)))) d 2) n))]=[AV.v (.int .i64 (S7 c0 c1 c2 cL d n false 0)),AV.v (.int .i64 (S7 c0 c1 c2 cL d n true 0)),AV.v (.int .i64 (S7 c0 c1 c2 cL d n false 1)),AV.v (.int .i64 (S7 c0 c1 c2 cL d n true 1)),AV.v (.int .i64 (S7 c0 c1 c2 cL d n false 2)),AV.v (.int .i64 (S7 c0 c1 c2 cL d n true 2))]:=by
 unfold S7
 simp only [W4]
noncomputable def c8b:Code:=N6 Try.f24
set_option maxHeartbeats 16000000 in
theorem c7i(y v0:Value)(P0:List (Int×Int))(v1:Value)(P1:List (Int×Int))(v2:Value)(P2:List (Int×Int))(yl:Value)(L:List (Int×Int))(z:Value)(M:List Int)(zk:Value)(K:List Int)(hC:E4 [.xl v0 P0.length 2 (cR P0),.xl v1 P1.length 2 (cR P1),.xl v2 P2.length 2 (cR P2)] 3 (cR L) L.length=0)(hH1:G4 L.length (cI M) M.length=0)(hH2:G4 L.length (cI K) K.length=0)(v:BaseW)(eb:Nat→Option Nat)(ec:Nat→Nat)(hs:List Nat):Y6 zP0q 22 c8b (⟨[(0,(.agg [.xl y 3 1 [.xl v0 P0.length 2 (cR P0),.xl v1 P1.length 2 (cR P1),.xl v2 P2.length 2 (cR P2)],.xl yl L.length 2 (cR L)])),(1,(.xl z M.length 1 (cI M))),(2,(.xl zk K.length 1 (cI K)))],[],0,[]⟩) (BaseW.H (bw v 0 eb ec) hs) (D3 zP0q Try.f24 22 ((.tup [.slu 0 0 3 0,nI0 0])) [(.row [nI0 (S7 (cR P0) (cR P1) (cR P2) (cR L) (X5 (cI M) (cI K) L.length) L.length false 0),nI0 (S7 (cR P0) (cR P1) (cR P2) (cR L) (X5 (cI M) (cI K) L.length) L.length true 0),nI0 (S7 (cR P0) (cR P1) (cR P2) (cR L) (X5 (cI M) (cI K) L.length) L.length false 1),nI0 (S7 (cR P0) (cR P1) (cR P2) (cR L) (X5 (cI M) (cI K) L.length) L.length true 1),nI0 (S7 (cR P0) (cR P1) (cR P2) (cR L) (X5 (cI M) (cI K) L.length) L.length false 2),nI0 (S7 (cR P0) (cR P1) (cR P2) (cR L) (X5 (cI M) (cI K) L.length) L.length true 2)] 65 2)] (bw v 0 eb ec)):=by
 have hcl_P0:=Y8 P0
 have hcl_P1:=Y8 P1
 have hcl_P2:=Y8 P2
 have hcl_L:=Y8 L
 have hcl_M:=Y5 M
 have hcl_K:=Y5 K
 obtain ⟨hn,-,hrow,hlam,hcur⟩:=S8 hC
 have hM:=(V5 hH1).1
 have hK:=(V5 hH2).1
 exact Z6 U0 (U8 zC0q (W1 a2g (W1 a4b (W1 a2k a2z))) 200 (T':=⟨[(6,(.slu 0 0 3 0)),(7,(nN 0))],[],1,[(0,(.row [(nI0 (S2 (H8 (List.take (L.length*(0+1)) (List.drop 0 (cI (tI (X9 (cR P0) (X5 (cI M) (cI K) L.length) false) L.length)))) (List.take (L.length*(0+1)) (List.drop 0 (cI (tI (X9 (cR P1) (X5 (cI M) (cI K) L.length) false) L.length)))) (List.take (L.length*(0+1)) (List.drop 0 (cI (tI (X9 (cR P2) (X5 (cI M) (cI K) L.length) false) L.length)))) (List.take (L.length*(0+1)) (List.drop 0 (cI (tI (X9 (cR L) (X5 (cI M) (cI K) L.length) false) L.length)))) (X5 (cI M) (cI K) L.length) 0) L.length)),(nI0 (S2 (H8 (List.take (L.length*(0+1)) (List.drop 0 (cI (tI (X9 (cR P0) (X5 (cI M) (cI K) L.length) true) L.length)))) (List.take (L.length*(0+1)) (List.drop 0 (cI (tI (X9 (cR P1) (X5 (cI M) (cI K) L.length) true) L.length)))) (List.take (L.length*(0+1)) (List.drop 0 (cI (tI (X9 (cR P2) (X5 (cI M) (cI K) L.length) true) L.length)))) (List.take (L.length*(0+1)) (List.drop 0 (cI (tI (X9 (cR L) (X5 (cI M) (cI K) L.length) true) L.length)))) (X5 (cI M) (cI K) L.length) 0) L.length)),(nI0 (S2 (H8 (List.take (L.length*(0+1)) (List.drop 0 (cI (tI (X9 (cR P0) (X5 (cI M) (cI K) L.length) false) L.length)))) (List.take (L.length*(0+1)) (List.drop 0 (cI (tI (X9 (cR P1) (X5 (cI M) (cI K) L.length) false) L.length)))) (List.take (L.length*(0+1)) (List.drop 0 (cI (tI (X9 (cR P2) (X5 (cI M) (cI K) L.length) false) L.length)))) (List.take (L.length*(0+1)) (List.drop 0 (cI (tI (X9 (cR L) (X5 (cI M) (cI K) L.length) false) L.length)))) (X5 (cI M) (cI K) L.length) 1) L.length)),(nI0 (S2 (H8 (List.take (L.length*(0+1)) (List.drop 0 (cI (tI (X9 (cR P0) (X5 (cI M) (cI K) L.length) true) L.length)))) (List.take (L.length*(0+1)) (List.drop 0 (cI (tI (X9 (cR P1) (X5 (cI M) (cI K) L.length) true) L.length)))) (List.take (L.length*(0+1)) (List.drop 0 (cI (tI (X9 (cR P2) (X5 (cI M) (cI K) L.length) true) L.length)))) (List.take (L.length*(0+1)) (List.drop 0 (cI (tI (X9 (cR L) (X5 (cI M) (cI K) L.length) true) L.length)))) (X5 (cI M) (cI K) L.length) 1) L.length)),(nI0 (S2 (H8 (List.take (L.length*(0+1)) (List.drop 0 (cI (tI (X9 (cR P0) (X5 (cI M) (cI K) L.length) false) L.length)))) (List.take (L.length*(0+1)) (List.drop 0 (cI (tI (X9 (cR P1) (X5 (cI M) (cI K) L.length) false) L.length)))) (List.take (L.length*(0+1)) (List.drop 0 (cI (tI (X9 (cR P2) (X5 (cI M) (cI K) L.length) false) L.length)))) (List.take (L.length*(0+1)) (List.drop 0 (cI (tI (X9 (cR L) (X5 (cI M) (cI K) L.length) false) L.length)))) (X5 (cI M) (cI K) L.length) 2) L.length)),(nI0 (S2 (H8 (List.take (L.length*(0+1)) (List.drop 0 (cI (tI (X9 (cR P0) (X5 (cI M) (cI K) L.length) true) L.length)))) (List.take (L.length*(0+1)) (List.drop 0 (cI (tI (X9 (cR P1) (X5 (cI M) (cI K) L.length) true) L.length)))) (List.take (L.length*(0+1)) (List.drop 0 (cI (tI (X9 (cR P2) (X5 (cI M) (cI K) L.length) true) L.length)))) (List.take (L.length*(0+1)) (List.drop 0 (cI (tI (X9 (cR L) (X5 (cI M) (cI K) L.length) true) L.length)))) (X5 (cI M) (cI K) L.length) 2) L.length))] 65 2))]⟩) (e:=.ret) (m:=39) (ps:=[0+2*(0+1)≤([(.xl (z) (M.length) 1 (cI M)),(.xl (zk) (K.length) 1 (cI K))]:List AV).length,((2:Nat)≤2),T8 1 [AV.xl v0 P0.length 2 (cR P0),AV.xl v1 P1.length 2 (cR P1),AV.xl v2 P2.length 2 (cR P2)] 3,W8 2 L.length (cR L),Q3 (0+1) M.length (cI M),Q3 (0+1) K.length (cI K),b92 2,((3:Nat)≤1000),M.length≤1000,K.length≤1000,a0H (E4 [AV.xl v0 P0.length 2 (cR P0),AV.xl v1 P1.length 2 (cR P1),AV.xl v2 P2.length 2 (cR P2)] 3 (cR L) L.length) (G4 L.length (cI M) M.length) (G4 L.length (cI K) K.length)=0,(!L4 0 0)=false,U2 [AV.xl v0 P0.length 2 (cR P0),AV.xl v1 P1.length 2 (cR P1),AV.xl v2 P2.length 2 (cR P2)],U2 (cR L),U2 (cI M),U2 (cI K),T8 1 [AV.xl v0 P0.length 2 (cR P0),AV.xl v1 P1.length 2 (cR P1),AV.xl v2 P2.length 2 (cR P2)] 3,W8 2 L.length (cR L),Q3 1 M.length (cI M),Q3 1 K.length (cI K),U2 [AV.xl v0 P0.length 2 (cR P0),AV.xl v1 P1.length 2 (cR P1),AV.xl v2 P2.length 2 (cR P2)],U2 (cR L),T8 1 [AV.xl v0 P0.length 2 (cR P0),AV.xl v1 P1.length 2 (cR P1),AV.xl v2 P2.length 2 (cR P2)] 3,W8 2 L.length (cR L),Q3 1 M.length (cI M),Q3 1 K.length (cI K),W8 2 L.length (cR L),1≤L.length∧L.length≤8,L.length=L.length,M.length=L.length,K.length=L.length,D7 (cI M) (cI K) L.length,Y1 0 3=true,T8 1 [AV.xl v0 P0.length 2 (cR P0),AV.xl v1 P1.length 2 (cR P1),AV.xl v2 P2.length 2 (cR P2)] 3,W8 2 L.length (cR L),Q3 1 M.length (cI M),Q3 1 K.length (cI K),W8 2 P0.length (cR P0),1≤L.length∧L.length≤8,P0.length=L.length,M.length=L.length,K.length=L.length,D7 (cI M) (cI K) L.length,L3 IntKind.i64 (0+1),Y1 (0+1) 3=true,T8 1 [AV.xl v0 P0.length 2 (cR P0),AV.xl v1 P1.length 2 (cR P1),AV.xl v2 P2.length 2 (cR P2)] 3,W8 2 L.length (cR L),Q3 1 M.length (cI M),Q3 1 K.length (cI K),W8 2 P1.length (cR P1),1≤L.length∧L.length≤8,P1.length=L.length,M.length=L.length,K.length=L.length,D7 (cI M) (cI K) L.length,L3 IntKind.i64 (0+1+1),Y1 (0+1+1) 3=true,T8 1 [AV.xl v0 P0.length 2 (cR P0),AV.xl v1 P1.length 2 (cR P1),AV.xl v2 P2.length 2 (cR P2)] 3,W8 2 L.length (cR L),Q3 1 M.length (cI M),Q3 1 K.length (cI K),W8 2 P2.length (cR P2),1≤L.length∧L.length≤8,P2.length=L.length,M.length=L.length,K.length=L.length,D7 (cI M) (cI K) L.length,L3 IntKind.i64 (0+1+1+1),Y1 (0+1+1+1) 3=false,0+(0+1+1+1)*(0+1)≤([(.slu 9 0 (L.length) 0),(.slu 12 0 (L.length) 0),(.slu 15 0 (L.length) 0)]:List AV).length,0+L.length*(0+1)≤((cI (tI (X9 (cR P0) (X5 (cI M) (cI K) L.length) false) L.length)):List AV).length,0+L.length*(0+1)≤((cI (tI (X9 (cR P1) (X5 (cI M) (cI K) L.length) false) L.length)):List AV).length,0+L.length*(0+1)≤((cI (tI (X9 (cR P2) (X5 (cI M) (cI K) L.length) false) L.length)):List AV).length,0+L.length*(0+1)≤((cI (tI (X9 (cR L) (X5 (cI M) (cI K) L.length) false) L.length)):List AV).length,T8 1 [AV.xl v0 P0.length 2 (cR P0),AV.xl v1 P1.length 2 (cR P1),AV.xl v2 P2.length 2 (cR P2)] 3,W8 2 L.length (cR L),Q3 1 M.length (cI M),Q3 1 K.length (cI K),L.length≤8,IsC (0+1) L.length (List.take (L.length*(0+1)) (List.drop 0 (cI (tI (X9 (cR P0) (X5 (cI M) (cI K) L.length) false) L.length)))),IsC (0+1) L.length (List.take (L.length*(0+1)) (List.drop 0 (cI (tI (X9 (cR P1) (X5 (cI M) (cI K) L.length) false) L.length)))),IsC (0+1) L.length (List.take (L.length*(0+1)) (List.drop 0 (cI (tI (X9 (cR P2) (X5 (cI M) (cI K) L.length) false) L.length)))),IsC (0+1) L.length (List.take (L.length*(0+1)) (List.drop 0 (cI (tI (X9 (cR L) (X5 (cI M) (cI K) L.length) false) L.length)))),L.length=L.length,L.length=L.length,L.length=L.length,L.length=L.length,M.length=L.length,K.length=L.length,Is3 (0+1+1+1),a9Y (List.take (L.length*(0+1)) (List.drop 0 (cI (tI (X9 (cR P0) (X5 (cI M) (cI K) L.length) false) L.length)))) (List.take (L.length*(0+1)) (List.drop 0 (cI (tI (X9 (cR P1) (X5 (cI M) (cI K) L.length) false) L.length)))) (List.take (L.length*(0+1)) (List.drop 0 (cI (tI (X9 (cR P2) (X5 (cI M) (cI K) L.length) false) L.length)))) (List.take (L.length*(0+1)) (List.drop 0 (cI (tI (X9 (cR L) (X5 (cI M) (cI K) L.length) false) L.length)))) L.length,D7 (cI M) (cI K) L.length,T8 1 [AV.xl v0 P0.length 2 (cR P0),AV.xl v1 P1.length 2 (cR P1),AV.xl v2 P2.length 2 (cR P2)] 3,W8 2 L.length (cR L),Q3 1 M.length (cI M),Q3 1 K.length (cI K),W8 2 L.length (cR L),1≤L.length∧L.length≤8,L.length=L.length,M.length=L.length,K.length=L.length,D7 (cI M) (cI K) L.length,Y1 0 3=true,T8 1 [AV.xl v0 P0.length 2 (cR P0),AV.xl v1 P1.length 2 (cR P1),AV.xl v2 P2.length 2 (cR P2)] 3,W8 2 L.length (cR L),Q3 1 M.length (cI M),Q3 1 K.length (cI K),W8 2 P0.length (cR P0),1≤L.length∧L.length≤8,P0.length=L.length,M.length=L.length,K.length=L.length,D7 (cI M) (cI K) L.length,L3 IntKind.i64 (0+1),Y1 (0+1) 3=true,T8 1 [AV.xl v0 P0.length 2 (cR P0),AV.xl v1 P1.length 2 (cR P1),AV.xl v2 P2.length 2 (cR P2)] 3,W8 2 L.length (cR L),Q3 1 M.length (cI M),Q3 1 K.length (cI K),W8 2 P1.length (cR P1),1≤L.length∧L.length≤8,P1.length=L.length,M.length=L.length,K.length=L.length,D7 (cI M) (cI K) L.length,L3 IntKind.i64 (0+1+1),Y1 (0+1+1) 3=true,T8 1 [AV.xl v0 P0.length 2 (cR P0),AV.xl v1 P1.length 2 (cR P1),AV.xl v2 P2.length 2 (cR P2)] 3,W8 2 L.length (cR L),Q3 1 M.length (cI M),Q3 1 K.length (cI K),W8 2 P2.length (cR P2),1≤L.length∧L.length≤8,P2.length=L.length,M.length=L.length,K.length=L.length,D7 (cI M) (cI K) L.length,L3 IntKind.i64 (0+1+1+1),Y1 (0+1+1+1) 3=false,0+(0+1+1+1)*(0+1)≤([(.slu 22 0 (L.length) 0),(.slu 25 0 (L.length) 0),(.slu 28 0 (L.length) 0)]:List AV).length,0+L.length*(0+1)≤((cI (tI (X9 (cR P0) (X5 (cI M) (cI K) L.length) true) L.length)):List AV).length,0+L.length*(0+1)≤((cI (tI (X9 (cR P1) (X5 (cI M) (cI K) L.length) true) L.length)):List AV).length,0+L.length*(0+1)≤((cI (tI (X9 (cR P2) (X5 (cI M) (cI K) L.length) true) L.length)):List AV).length,0+L.length*(0+1)≤((cI (tI (X9 (cR L) (X5 (cI M) (cI K) L.length) true) L.length)):List AV).length,T8 1 [AV.xl v0 P0.length 2 (cR P0),AV.xl v1 P1.length 2 (cR P1),AV.xl v2 P2.length 2 (cR P2)] 3,W8 2 L.length (cR L),Q3 1 M.length (cI M),Q3 1 K.length (cI K),L.length≤8,IsC (0+1) L.length (List.take (L.length*(0+1)) (List.drop 0 (cI (tI (X9 (cR P0) (X5 (cI M) (cI K) L.length) true) L.length)))),IsC (0+1) L.length (List.take (L.length*(0+1)) (List.drop 0 (cI (tI (X9 (cR P1) (X5 (cI M) (cI K) L.length) true) L.length)))),IsC (0+1) L.length (List.take (L.length*(0+1)) (List.drop 0 (cI (tI (X9 (cR P2) (X5 (cI M) (cI K) L.length) true) L.length)))),IsC (0+1) L.length (List.take (L.length*(0+1)) (List.drop 0 (cI (tI (X9 (cR L) (X5 (cI M) (cI K) L.length) true) L.length)))),L.length=L.length,L.length=L.length,L.length=L.length,L.length=L.length,M.length=L.length,K.length=L.length,Is3 (0+1+1+1),a9Y (List.take (L.length*(0+1)) (List.drop 0 (cI (tI (X9 (cR P0) (X5 (cI M) (cI K) L.length) true) L.length)))) (List.take (L.length*(0+1)) (List.drop 0 (cI (tI (X9 (cR P1) (X5 (cI M) (cI K) L.length) true) L.length)))) (List.take (L.length*(0+1)) (List.drop 0 (cI (tI (X9 (cR P2) (X5 (cI M) (cI K) L.length) true) L.length)))) (List.take (L.length*(0+1)) (List.drop 0 (cI (tI (X9 (cR L) (X5 (cI M) (cI K) L.length) true) L.length)))) L.length,D7 (cI M) (cI K) L.length,Y1 0 3=true,L3 IntKind.i64 (0+1),Y1 (0+1) 3=true,L3 IntKind.i64 (0+1+1),Y1 (0+1+1) 3=true,L3 IntKind.i64 (0+1+1+1),Y1 (0+1+1+1) 3=false]) (gH 10 ([.b false]++gH 23 ([.b true]++gH 15 ([.b true]++gH 15 ([.b true]++gH 15 ([.b false]++gH 20 ([.b true]++gH 15 ([.b true]++gH 15 ([.b true]++gH 15 ([.b false]++gH 9 ([.b true]++gH 16 ([.b true]++gH 16 ([.b true]++gH 16 ([.b false]++gH 4 [])))))))))))))) [38] [(.slu 38 0 3 0),(nN 0)] [(.row [(nI0 (S2 (H8 (List.take (L.length*(0+1)) (List.drop 0 (cI (tI (X9 (cR P0) (X5 (cI M) (cI K) L.length) false) L.length)))) (List.take (L.length*(0+1)) (List.drop 0 (cI (tI (X9 (cR P1) (X5 (cI M) (cI K) L.length) false) L.length)))) (List.take (L.length*(0+1)) (List.drop 0 (cI (tI (X9 (cR P2) (X5 (cI M) (cI K) L.length) false) L.length)))) (List.take (L.length*(0+1)) (List.drop 0 (cI (tI (X9 (cR L) (X5 (cI M) (cI K) L.length) false) L.length)))) (X5 (cI M) (cI K) L.length) 0) L.length)),(nI0 (S2 (H8 (List.take (L.length*(0+1)) (List.drop 0 (cI (tI (X9 (cR P0) (X5 (cI M) (cI K) L.length) true) L.length)))) (List.take (L.length*(0+1)) (List.drop 0 (cI (tI (X9 (cR P1) (X5 (cI M) (cI K) L.length) true) L.length)))) (List.take (L.length*(0+1)) (List.drop 0 (cI (tI (X9 (cR P2) (X5 (cI M) (cI K) L.length) true) L.length)))) (List.take (L.length*(0+1)) (List.drop 0 (cI (tI (X9 (cR L) (X5 (cI M) (cI K) L.length) true) L.length)))) (X5 (cI M) (cI K) L.length) 0) L.length)),(nI0 (S2 (H8 (List.take (L.length*(0+1)) (List.drop 0 (cI (tI (X9 (cR P0) (X5 (cI M) (cI K) L.length) false) L.length)))) (List.take (L.length*(0+1)) (List.drop 0 (cI (tI (X9 (cR P1) (X5 (cI M) (cI K) L.length) false) L.length)))) (List.take (L.length*(0+1)) (List.drop 0 (cI (tI (X9 (cR P2) (X5 (cI M) (cI K) L.length) false) L.length)))) (List.take (L.length*(0+1)) (List.drop 0 (cI (tI (X9 (cR L) (X5 (cI M) (cI K) L.length) false) L.length)))) (X5 (cI M) (cI K) L.length) 1) L.length)),(nI0 (S2 (H8 (List.take (L.length*(0+1)) (List.drop 0 (cI (tI (X9 (cR P0) (X5 (cI M) (cI K) L.length) true) L.length)))) (List.take (L.length*(0+1)) (List.drop 0 (cI (tI (X9 (cR P1) (X5 (cI M) (cI K) L.length) true) L.length)))) (List.take (L.length*(0+1)) (List.drop 0 (cI (tI (X9 (cR P2) (X5 (cI M) (cI K) L.length) true) L.length)))) (List.take (L.length*(0+1)) (List.drop 0 (cI (tI (X9 (cR L) (X5 (cI M) (cI K) L.length) true) L.length)))) (X5 (cI M) (cI K) L.length) 1) L.length)),(nI0 (S2 (H8 (List.take (L.length*(0+1)) (List.drop 0 (cI (tI (X9 (cR P0) (X5 (cI M) (cI K) L.length) false) L.length)))) (List.take (L.length*(0+1)) (List.drop 0 (cI (tI (X9 (cR P1) (X5 (cI M) (cI K) L.length) false) L.length)))) (List.take (L.length*(0+1)) (List.drop 0 (cI (tI (X9 (cR P2) (X5 (cI M) (cI K) L.length) false) L.length)))) (List.take (L.length*(0+1)) (List.drop 0 (cI (tI (X9 (cR L) (X5 (cI M) (cI K) L.length) false) L.length)))) (X5 (cI M) (cI K) L.length) 2) L.length)),(nI0 (S2 (H8 (List.take (L.length*(0+1)) (List.drop 0 (cI (tI (X9 (cR P0) (X5 (cI M) (cI K) L.length) true) L.length)))) (List.take (L.length*(0+1)) (List.drop 0 (cI (tI (X9 (cR P1) (X5 (cI M) (cI K) L.length) true) L.length)))) (List.take (L.length*(0+1)) (List.drop 0 (cI (tI (X9 (cR P2) (X5 (cI M) (cI K) L.length) true) L.length)))) (List.take (L.length*(0+1)) (List.drop 0 (cI (tI (X9 (cR L) (X5 (cI M) (cI K) L.length) true) L.length)))) (X5 (cI M) (cI K) L.length) 2) L.length))] 65 2)] (by kernel_rfl) (by kernel_rfl) ⟨(by show 0+2*(0+1)≤2;decide),(by decide),⟨rfl,[(v0,P0),(v1,P1),(v2,P2)],rfl,rfl⟩,⟨rfl,L,rfl,rfl⟩,⟨rfl,M,rfl,rfl⟩,⟨rfl,K,rfl,rfl⟩,rfl,(by decide),(by omega),(by omega),((a3G hC hH1).trans hH2),rfl,(Y2 [(v0,P0),(v1,P1),(v2,P2)]),(Y3 (Y7 _)),(Y3 (Z5 _)),(Y3 (Z5 _)),⟨rfl,[(v0,P0),(v1,P1),(v2,P2)],rfl,rfl⟩,⟨rfl,L,rfl,rfl⟩,⟨rfl,M,rfl,rfl⟩,⟨rfl,K,rfl,rfl⟩,(Y2 [(v0,P0),(v1,P1),(v2,P2)]),(Y3 (Y7 _)),⟨rfl,[(v0,P0),(v1,P1),(v2,P2)],rfl,rfl⟩,⟨rfl,L,rfl,rfl⟩,⟨rfl,M,rfl,rfl⟩,⟨rfl,K,rfl,rfl⟩,⟨rfl,L,rfl,rfl⟩,hn,rfl,hM,hK,(J3 hH1 hH2),rfl,⟨rfl,[(v0,P0),(v1,P1),(v2,P2)],rfl,rfl⟩,⟨rfl,L,rfl,rfl⟩,⟨rfl,M,rfl,rfl⟩,⟨rfl,K,rfl,rfl⟩,⟨rfl,P0,rfl,rfl⟩,hn,(hrow 0 (by decide)),hM,hK,(J3 hH1 hH2),(by show -9223372036854775808≤(_:Int)∧(_:Int)≤9223372036854775807;constructor<;>decide),rfl,⟨rfl,[(v0,P0),(v1,P1),(v2,P2)],rfl,rfl⟩,⟨rfl,L,rfl,rfl⟩,⟨rfl,M,rfl,rfl⟩,⟨rfl,K,rfl,rfl⟩,⟨rfl,P1,rfl,rfl⟩,hn,(hrow 1 (by decide)),hM,hK,(J3 hH1 hH2),(by show -9223372036854775808≤(_:Int)∧(_:Int)≤9223372036854775807;constructor<;>decide),rfl,⟨rfl,[(v0,P0),(v1,P1),(v2,P2)],rfl,rfl⟩,⟨rfl,L,rfl,rfl⟩,⟨rfl,M,rfl,rfl⟩,⟨rfl,K,rfl,rfl⟩,⟨rfl,P2,rfl,rfl⟩,hn,(hrow 2 (by decide)),hM,hK,(J3 hH1 hH2),(by show -9223372036854775808≤(_:Int)∧(_:Int)≤9223372036854775807;constructor<;>decide),rfl,(by show 0+3*(0+1)≤3;decide),(by rw [Y5,Y0];omega),(by rw [Y5,Y0];omega),(by rw [Y5,Y0];omega),(by rw [Y5,Y0];omega),⟨rfl,[(v0,P0),(v1,P1),(v2,P2)],rfl,rfl⟩,⟨rfl,L,rfl,rfl⟩,⟨rfl,M,rfl,rfl⟩,⟨rfl,K,rfl,rfl⟩,hn.2,⟨rfl,_,W4,(Y0 _ _).symm⟩,⟨rfl,_,W4,(Y0 _ _).symm⟩,⟨rfl,_,W4,(Y0 _ _).symm⟩,⟨rfl,_,W4,(Y0 _ _).symm⟩,rfl,rfl,rfl,rfl,hM,hK,rfl,(by rw [W4,W4,W4,W4];exact a3w (hcur 0 (by decide)) (hcur 1 (by decide)) (hcur 2 (by decide)) hlam),(J3 hH1 hH2),⟨rfl,[(v0,P0),(v1,P1),(v2,P2)],rfl,rfl⟩,⟨rfl,L,rfl,rfl⟩,⟨rfl,M,rfl,rfl⟩,⟨rfl,K,rfl,rfl⟩,⟨rfl,L,rfl,rfl⟩,hn,rfl,hM,hK,(J3 hH1 hH2),rfl,⟨rfl,[(v0,P0),(v1,P1),(v2,P2)],rfl,rfl⟩,⟨rfl,L,rfl,rfl⟩,⟨rfl,M,rfl,rfl⟩,⟨rfl,K,rfl,rfl⟩,⟨rfl,P0,rfl,rfl⟩,hn,(hrow 0 (by decide)),hM,hK,(J3 hH1 hH2),(by show -9223372036854775808≤(_:Int)∧(_:Int)≤9223372036854775807;constructor<;>decide),rfl,⟨rfl,[(v0,P0),(v1,P1),(v2,P2)],rfl,rfl⟩,⟨rfl,L,rfl,rfl⟩,⟨rfl,M,rfl,rfl⟩,⟨rfl,K,rfl,rfl⟩,⟨rfl,P1,rfl,rfl⟩,hn,(hrow 1 (by decide)),hM,hK,(J3 hH1 hH2),(by show -9223372036854775808≤(_:Int)∧(_:Int)≤9223372036854775807;constructor<;>decide),rfl,⟨rfl,[(v0,P0),(v1,P1),(v2,P2)],rfl,rfl⟩,⟨rfl,L,rfl,rfl⟩,⟨rfl,M,rfl,rfl⟩,⟨rfl,K,rfl,rfl⟩,⟨rfl,P2,rfl,rfl⟩,hn,(hrow 2 (by decide)),hM,hK,(J3 hH1 hH2),(by show -9223372036854775808≤(_:Int)∧(_:Int)≤9223372036854775807;constructor<;>decide),rfl,(by show 0+3*(0+1)≤3;decide),(by rw [Y5,Y0];omega),(by rw [Y5,Y0];omega),(by rw [Y5,Y0];omega),(by rw [Y5,Y0];omega),⟨rfl,[(v0,P0),(v1,P1),(v2,P2)],rfl,rfl⟩,⟨rfl,L,rfl,rfl⟩,⟨rfl,M,rfl,rfl⟩,⟨rfl,K,rfl,rfl⟩,hn.2,⟨rfl,_,W4,(Y0 _ _).symm⟩,⟨rfl,_,W4,(Y0 _ _).symm⟩,⟨rfl,_,W4,(Y0 _ _).symm⟩,⟨rfl,_,W4,(Y0 _ _).symm⟩,rfl,rfl,rfl,rfl,hM,hK,rfl,(by rw [W4,W4,W4,W4];exact a3w (hcur 0 (by decide)) (hcur 1 (by decide)) (hcur 2 (by decide)) hlam),(J3 hH1 hH2),rfl,(by show -9223372036854775808≤(_:Int)∧(_:Int)≤9223372036854775807;constructor<;>decide),rfl,(by show -9223372036854775808≤(_:Int)∧(_:Int)≤9223372036854775807;constructor<;>decide),rfl,(by show -9223372036854775808≤(_:Int)∧(_:Int)≤9223372036854775807;constructor<;>decide),rfl,trivial⟩ rfl rfl (by decide) rfl ⟨Y9 rfl,W0 _,trivial⟩ ⟨⟨by show 0<1;decide,Z1 (Z9 (W0 _) (Z9 (W0 _) (Z9 (W0 _) (Z9 (W0 _) (Z9 (W0 _) (Z9 (W0 _) (Z3)))))))⟩,trivial⟩) (o3 (r:=(.tup [(.slu 0 0 3 0),(nN 0)])) (ys:=[(.row [(nI0 (S2 (H8 (List.take (L.length*(0+1)) (List.drop 0 (cI (tI (X9 (cR P0) (X5 (cI M) (cI K) L.length) false) L.length)))) (List.take (L.length*(0+1)) (List.drop 0 (cI (tI (X9 (cR P1) (X5 (cI M) (cI K) L.length) false) L.length)))) (List.take (L.length*(0+1)) (List.drop 0 (cI (tI (X9 (cR P2) (X5 (cI M) (cI K) L.length) false) L.length)))) (List.take (L.length*(0+1)) (List.drop 0 (cI (tI (X9 (cR L) (X5 (cI M) (cI K) L.length) false) L.length)))) (X5 (cI M) (cI K) L.length) 0) L.length)),(nI0 (S2 (H8 (List.take (L.length*(0+1)) (List.drop 0 (cI (tI (X9 (cR P0) (X5 (cI M) (cI K) L.length) true) L.length)))) (List.take (L.length*(0+1)) (List.drop 0 (cI (tI (X9 (cR P1) (X5 (cI M) (cI K) L.length) true) L.length)))) (List.take (L.length*(0+1)) (List.drop 0 (cI (tI (X9 (cR P2) (X5 (cI M) (cI K) L.length) true) L.length)))) (List.take (L.length*(0+1)) (List.drop 0 (cI (tI (X9 (cR L) (X5 (cI M) (cI K) L.length) true) L.length)))) (X5 (cI M) (cI K) L.length) 0) L.length)),(nI0 (S2 (H8 (List.take (L.length*(0+1)) (List.drop 0 (cI (tI (X9 (cR P0) (X5 (cI M) (cI K) L.length) false) L.length)))) (List.take (L.length*(0+1)) (List.drop 0 (cI (tI (X9 (cR P1) (X5 (cI M) (cI K) L.length) false) L.length)))) (List.take (L.length*(0+1)) (List.drop 0 (cI (tI (X9 (cR P2) (X5 (cI M) (cI K) L.length) false) L.length)))) (List.take (L.length*(0+1)) (List.drop 0 (cI (tI (X9 (cR L) (X5 (cI M) (cI K) L.length) false) L.length)))) (X5 (cI M) (cI K) L.length) 1) L.length)),(nI0 (S2 (H8 (List.take (L.length*(0+1)) (List.drop 0 (cI (tI (X9 (cR P0) (X5 (cI M) (cI K) L.length) true) L.length)))) (List.take (L.length*(0+1)) (List.drop 0 (cI (tI (X9 (cR P1) (X5 (cI M) (cI K) L.length) true) L.length)))) (List.take (L.length*(0+1)) (List.drop 0 (cI (tI (X9 (cR P2) (X5 (cI M) (cI K) L.length) true) L.length)))) (List.take (L.length*(0+1)) (List.drop 0 (cI (tI (X9 (cR L) (X5 (cI M) (cI K) L.length) true) L.length)))) (X5 (cI M) (cI K) L.length) 1) L.length)),(nI0 (S2 (H8 (List.take (L.length*(0+1)) (List.drop 0 (cI (tI (X9 (cR P0) (X5 (cI M) (cI K) L.length) false) L.length)))) (List.take (L.length*(0+1)) (List.drop 0 (cI (tI (X9 (cR P1) (X5 (cI M) (cI K) L.length) false) L.length)))) (List.take (L.length*(0+1)) (List.drop 0 (cI (tI (X9 (cR P2) (X5 (cI M) (cI K) L.length) false) L.length)))) (List.take (L.length*(0+1)) (List.drop 0 (cI (tI (X9 (cR L) (X5 (cI M) (cI K) L.length) false) L.length)))) (X5 (cI M) (cI K) L.length) 2) L.length)),(nI0 (S2 (H8 (List.take (L.length*(0+1)) (List.drop 0 (cI (tI (X9 (cR P0) (X5 (cI M) (cI K) L.length) true) L.length)))) (List.take (L.length*(0+1)) (List.drop 0 (cI (tI (X9 (cR P1) (X5 (cI M) (cI K) L.length) true) L.length)))) (List.take (L.length*(0+1)) (List.drop 0 (cI (tI (X9 (cR P2) (X5 (cI M) (cI K) L.length) true) L.length)))) (List.take (L.length*(0+1)) (List.drop 0 (cI (tI (X9 (cR L) (X5 (cI M) (cI K) L.length) true) L.length)))) (X5 (cI M) (cI K) L.length) 2) L.length))] 65 2)]) (by rfl) (by (exact congrArg (fun x=>[AB.row x 65 2]) c43)) (A4 (by kernel_rfl) (by kernel_rfl) rfl (.inr rfl)))
theorem c2g(y v0:Value)(P0:List (Int×Int))(v1:Value)(P1:List (Int×Int))(v2:Value)(P2:List (Int×Int))(yl:Value)(L:List (Int×Int))(z:Value)(M:List Int)(zk:Value)(K:List Int)(hC:E4 [.xl v0 P0.length 2 (cR P0),.xl v1 P1.length 2 (cR P1),.xl v2 P2.length 2 (cR P2)] 3 (cR L) L.length=0)(hH1:G4 L.length (cI M) M.length=0)(hH2:G4 L.length (cI K) K.length=0):A8 zP0q 24 [(.agg [.xl y 3 1 [.xl v0 P0.length 2 (cR P0),.xl v1 P1.length 2 (cR P1),.xl v2 P2.length 2 (cR P2)],.xl yl L.length 2 (cR L)]),(.xl z M.length 1 (cI M)),(.xl zk K.length 1 (cI K))] [] ((.tup [.slu 0 0 3 0,nI0 0])) [(.row [nI0 (S7 (cR P0) (cR P1) (cR P2) (cR L) (X5 (cI M) (cI K) L.length) L.length false 0),nI0 (S7 (cR P0) (cR P1) (cR P2) (cR L) (X5 (cI M) (cI K) L.length) L.length true 0),nI0 (S7 (cR P0) (cR P1) (cR P2) (cR L) (X5 (cI M) (cI K) L.length) L.length false 1),nI0 (S7 (cR P0) (cR P1) (cR P2) (cR L) (X5 (cI M) (cI K) L.length) L.length true 1),nI0 (S7 (cR P0) (cR P1) (cR P2) (cR L) (X5 (cI M) (cI K) L.length) L.length false 2),nI0 (S7 (cR P0) (cR P1) (cR P2) (cR L) (X5 (cI M) (cI K) L.length) L.length true 2)] 65 2)] :=
 N1 22 (by kernel_rfl) Try.func24 (by kernel_rfl) (by kernel_rfl) (by kernel_rfl) (fun v eb ec=>V2 (by kernel_rfl) (by kernel_rfl) (by kernel_rfl) (by kernel_rfl) (c7i y v0 P0 v1 P1 v2 P2 yl L z M zk K hC hH1 hH2 v eb ec []))
end
end Go.Proofs.Ytegmogadbnfbgaa
namespace Go.Proofs.Ytegmogadbnfbgaa
open Go Ev
noncomputable section
noncomputable def c7C:Code:=N6 Try.f27
set_option maxHeartbeats 16000000 in
theorem c67(y v0:Value)(P0:List (Int×Int))(v1:Value)(P1:List (Int×Int))(v2:Value)(P2:List (Int×Int))(yl:Value)(L:List (Int×Int))(z:Value)(M:List Int)(zk:Value)(K:List Int)(hC:E4 [.xl v0 P0.length 2 (cR P0),.xl v1 P1.length 2 (cR P1),.xl v2 P2.length 2 (cR P2)] 3 (cR L) L.length=0)(hH1:G4 L.length (cI M) M.length=0)(hH2:G4 L.length (cI K) K.length=0)(w:World)(hs:List Nat):Y6 zP0q 27 c7C (⟨[(0,(.agg [.xl y 3 1 [.xl v0 P0.length 2 (cR P0),.xl v1 P1.length 2 (cR P1),.xl v2 P2.length 2 (cR P2)],.xl yl L.length 2 (cR L)])),(1,(.xl z M.length 1 (cI M))),(2,(.xl zk K.length 1 (cI K)))],[],0,[]⟩) (BaseW.H w hs) (H2 zP0q Try.f27 27 (.int .i64 (suN (cR P0) (cR P1) (cR P2) (cR L) (X5 (cI M) (cI K) L.length) L.length)) w):=by
 have hcl_P0:=Y8 P0
 have hcl_P1:=Y8 P1
 have hcl_P2:=Y8 P2
 have hcl_L:=Y8 L
 have hcl_M:=Y5 M
 have hcl_K:=Y5 K
 obtain ⟨hn,-,hrow,hlam,hcur⟩:=S8 hC
 have hM:=(V5 hH1).1
 have hK:=(V5 hH2).1
 rcases zB0q (L4 (S2 (H8 (List.take (L.length*(0+1)) (List.drop 0 (cI (tI (X9 (cR P0) (X5 (cI M) (cI K) L.length) true) L.length)))) (List.take (L.length*(0+1)) (List.drop 0 (cI (tI (X9 (cR P1) (X5 (cI M) (cI K) L.length) true) L.length)))) (List.take (L.length*(0+1)) (List.drop 0 (cI (tI (X9 (cR P2) (X5 (cI M) (cI K) L.length) true) L.length)))) (List.take (L.length*(0+1)) (List.drop 0 (cI (tI (X9 (cR L) (X5 (cI M) (cI K) L.length) true) L.length)))) (X5 (cI M) (cI K) L.length) 0) L.length) 0&&(L4 (S2 (H8 (List.take (L.length*(0+1)) (List.drop 0 (cI (tI (X9 (cR P0) (X5 (cI M) (cI K) L.length) true) L.length)))) (List.take (L.length*(0+1)) (List.drop 0 (cI (tI (X9 (cR P1) (X5 (cI M) (cI K) L.length) true) L.length)))) (List.take (L.length*(0+1)) (List.drop 0 (cI (tI (X9 (cR P2) (X5 (cI M) (cI K) L.length) true) L.length)))) (List.take (L.length*(0+1)) (List.drop 0 (cI (tI (X9 (cR L) (X5 (cI M) (cI K) L.length) true) L.length)))) (X5 (cI M) (cI K) L.length) 1) L.length) 0&&(L4 (S2 (H8 (List.take (L.length*(0+1)) (List.drop 0 (cI (tI (X9 (cR P0) (X5 (cI M) (cI K) L.length) true) L.length)))) (List.take (L.length*(0+1)) (List.drop 0 (cI (tI (X9 (cR P1) (X5 (cI M) (cI K) L.length) true) L.length)))) (List.take (L.length*(0+1)) (List.drop 0 (cI (tI (X9 (cR P2) (X5 (cI M) (cI K) L.length) true) L.length)))) (List.take (L.length*(0+1)) (List.drop 0 (cI (tI (X9 (cR L) (X5 (cI M) (cI K) L.length) true) L.length)))) (X5 (cI M) (cI K) L.length) 2) L.length) 0&&true))) with hqsuo3_1|hqsuo3_1
 ·rcases zB0q (L4 (S2 (H8 (List.take (L.length*(0+1)) (List.drop 0 (cI (tI (X9 (cR P0) (X5 (cI M) (cI K) L.length) false) L.length)))) (List.take (L.length*(0+1)) (List.drop 0 (cI (tI (X9 (cR P1) (X5 (cI M) (cI K) L.length) false) L.length)))) (List.take (L.length*(0+1)) (List.drop 0 (cI (tI (X9 (cR P2) (X5 (cI M) (cI K) L.length) false) L.length)))) (List.take (L.length*(0+1)) (List.drop 0 (cI (tI (X9 (cR L) (X5 (cI M) (cI K) L.length) false) L.length)))) (X5 (cI M) (cI K) L.length) 0) L.length) 0&&(L4 (S2 (H8 (List.take (L.length*(0+1)) (List.drop 0 (cI (tI (X9 (cR P0) (X5 (cI M) (cI K) L.length) false) L.length)))) (List.take (L.length*(0+1)) (List.drop 0 (cI (tI (X9 (cR P1) (X5 (cI M) (cI K) L.length) false) L.length)))) (List.take (L.length*(0+1)) (List.drop 0 (cI (tI (X9 (cR P2) (X5 (cI M) (cI K) L.length) false) L.length)))) (List.take (L.length*(0+1)) (List.drop 0 (cI (tI (X9 (cR L) (X5 (cI M) (cI K) L.length) false) L.length)))) (X5 (cI M) (cI K) L.length) 1) L.length) 0&&(L4 (S2 (H8 (List.take (L.length*(0+1)) (List.drop 0 (cI (tI (X9 (cR P0) (X5 (cI M) (cI K) L.length) false) L.length)))) (List.take (L.length*(0+1)) (List.drop 0 (cI (tI (X9 (cR P1) (X5 (cI M) (cI K) L.length) false) L.length)))) (List.take (L.length*(0+1)) (List.drop 0 (cI (tI (X9 (cR P2) (X5 (cI M) (cI K) L.length) false) L.length)))) (List.take (L.length*(0+1)) (List.drop 0 (cI (tI (X9 (cR L) (X5 (cI M) (cI K) L.length) false) L.length)))) (X5 (cI M) (cI K) L.length) 2) L.length) 0&&true))) with hqsuo3_2|hqsuo3_2
  ·exact Z6 U0 (Z2 zC0q (W1 a2g (W1 a4b (W1 a2k a2z))) 200 (T':=⟨[(6,(nN 0))],[],35,[]⟩) (e:=.ret) (ps:=[0+2*(0+1)≤([(.xl (z) (M.length) 1 (cI M)),(.xl (zk) (K.length) 1 (cI K))]:List AV).length,((2:Nat)≤2),T8 1 [AV.xl v0 P0.length 2 (cR P0),AV.xl v1 P1.length 2 (cR P1),AV.xl v2 P2.length 2 (cR P2)] 3,W8 2 L.length (cR L),Q3 (0+1) M.length (cI M),Q3 (0+1) K.length (cI K),b92 2,((3:Nat)≤1000),M.length≤1000,K.length≤1000,a0H (E4 [AV.xl v0 P0.length 2 (cR P0),AV.xl v1 P1.length 2 (cR P1),AV.xl v2 P2.length 2 (cR P2)] 3 (cR L) L.length) (G4 L.length (cI M) M.length) (G4 L.length (cI K) K.length)=0,(!L4 0 0)=false,U2 [AV.xl v0 P0.length 2 (cR P0),AV.xl v1 P1.length 2 (cR P1),AV.xl v2 P2.length 2 (cR P2)],U2 (cR L),U2 (cI M),U2 (cI K),T8 1 [AV.xl v0 P0.length 2 (cR P0),AV.xl v1 P1.length 2 (cR P1),AV.xl v2 P2.length 2 (cR P2)] 3,W8 2 L.length (cR L),Q3 1 M.length (cI M),Q3 1 K.length (cI K),U2 [AV.xl v0 P0.length 2 (cR P0),AV.xl v1 P1.length 2 (cR P1),AV.xl v2 P2.length 2 (cR P2)],U2 (cR L),Y1 0 2=true,T8 1 [AV.xl v0 P0.length 2 (cR P0),AV.xl v1 P1.length 2 (cR P1),AV.xl v2 P2.length 2 (cR P2)] 3,W8 2 L.length (cR L),Q3 1 M.length (cI M),Q3 1 K.length (cI K),W8 2 L.length (cR L),1≤L.length∧L.length≤8,L.length=L.length,M.length=L.length,K.length=L.length,D7 (cI M) (cI K) L.length,Y1 0 3=true,T8 1 [AV.xl v0 P0.length 2 (cR P0),AV.xl v1 P1.length 2 (cR P1),AV.xl v2 P2.length 2 (cR P2)] 3,W8 2 L.length (cR L),Q3 1 M.length (cI M),Q3 1 K.length (cI K),W8 2 P0.length (cR P0),1≤L.length∧L.length≤8,P0.length=L.length,M.length=L.length,K.length=L.length,D7 (cI M) (cI K) L.length,L3 IntKind.i64 (0+1),Y1 (0+1) 3=true,T8 1 [AV.xl v0 P0.length 2 (cR P0),AV.xl v1 P1.length 2 (cR P1),AV.xl v2 P2.length 2 (cR P2)] 3,W8 2 L.length (cR L),Q3 1 M.length (cI M),Q3 1 K.length (cI K),W8 2 P1.length (cR P1),1≤L.length∧L.length≤8,P1.length=L.length,M.length=L.length,K.length=L.length,D7 (cI M) (cI K) L.length,L3 IntKind.i64 (0+1+1),Y1 (0+1+1) 3=true,T8 1 [AV.xl v0 P0.length 2 (cR P0),AV.xl v1 P1.length 2 (cR P1),AV.xl v2 P2.length 2 (cR P2)] 3,W8 2 L.length (cR L),Q3 1 M.length (cI M),Q3 1 K.length (cI K),W8 2 P2.length (cR P2),1≤L.length∧L.length≤8,P2.length=L.length,M.length=L.length,K.length=L.length,D7 (cI M) (cI K) L.length,L3 IntKind.i64 (0+1+1+1),Y1 (0+1+1+1) 3=false,0+(0+1+1+1)*(0+1)≤([(.slu 10 0 (L.length) 0),(.slu 13 0 (L.length) 0),(.slu 16 0 (L.length) 0)]:List AV).length,0+L.length*(0+1)≤((cI (tI (X9 (cR P0) (X5 (cI M) (cI K) L.length) true) L.length)):List AV).length,0+L.length*(0+1)≤((cI (tI (X9 (cR P1) (X5 (cI M) (cI K) L.length) true) L.length)):List AV).length,0+L.length*(0+1)≤((cI (tI (X9 (cR P2) (X5 (cI M) (cI K) L.length) true) L.length)):List AV).length,0+L.length*(0+1)≤((cI (tI (X9 (cR L) (X5 (cI M) (cI K) L.length) true) L.length)):List AV).length,T8 1 [AV.xl v0 P0.length 2 (cR P0),AV.xl v1 P1.length 2 (cR P1),AV.xl v2 P2.length 2 (cR P2)] 3,W8 2 L.length (cR L),Q3 1 M.length (cI M),Q3 1 K.length (cI K),L.length≤8,IsC (0+1) L.length (List.take (L.length*(0+1)) (List.drop 0 (cI (tI (X9 (cR P0) (X5 (cI M) (cI K) L.length) true) L.length)))),IsC (0+1) L.length (List.take (L.length*(0+1)) (List.drop 0 (cI (tI (X9 (cR P1) (X5 (cI M) (cI K) L.length) true) L.length)))),IsC (0+1) L.length (List.take (L.length*(0+1)) (List.drop 0 (cI (tI (X9 (cR P2) (X5 (cI M) (cI K) L.length) true) L.length)))),IsC (0+1) L.length (List.take (L.length*(0+1)) (List.drop 0 (cI (tI (X9 (cR L) (X5 (cI M) (cI K) L.length) true) L.length)))),L.length=L.length,L.length=L.length,L.length=L.length,L.length=L.length,M.length=L.length,K.length=L.length,Is3 (0+1+1+1),a9Y (List.take (L.length*(0+1)) (List.drop 0 (cI (tI (X9 (cR P0) (X5 (cI M) (cI K) L.length) true) L.length)))) (List.take (L.length*(0+1)) (List.drop 0 (cI (tI (X9 (cR P1) (X5 (cI M) (cI K) L.length) true) L.length)))) (List.take (L.length*(0+1)) (List.drop 0 (cI (tI (X9 (cR P2) (X5 (cI M) (cI K) L.length) true) L.length)))) (List.take (L.length*(0+1)) (List.drop 0 (cI (tI (X9 (cR L) (X5 (cI M) (cI K) L.length) true) L.length)))) L.length,D7 (cI M) (cI K) L.length,(!(L4 (S2 (H8 (List.take (L.length*(0+1)) (List.drop 0 (cI (tI (X9 (cR P0) (X5 (cI M) (cI K) L.length) true) L.length)))) (List.take (L.length*(0+1)) (List.drop 0 (cI (tI (X9 (cR P1) (X5 (cI M) (cI K) L.length) true) L.length)))) (List.take (L.length*(0+1)) (List.drop 0 (cI (tI (X9 (cR P2) (X5 (cI M) (cI K) L.length) true) L.length)))) (List.take (L.length*(0+1)) (List.drop 0 (cI (tI (X9 (cR L) (X5 (cI M) (cI K) L.length) true) L.length)))) (X5 (cI M) (cI K) L.length) 0) L.length) 0&&(L4 (S2 (H8 (List.take (L.length*(0+1)) (List.drop 0 (cI (tI (X9 (cR P0) (X5 (cI M) (cI K) L.length) true) L.length)))) (List.take (L.length*(0+1)) (List.drop 0 (cI (tI (X9 (cR P1) (X5 (cI M) (cI K) L.length) true) L.length)))) (List.take (L.length*(0+1)) (List.drop 0 (cI (tI (X9 (cR P2) (X5 (cI M) (cI K) L.length) true) L.length)))) (List.take (L.length*(0+1)) (List.drop 0 (cI (tI (X9 (cR L) (X5 (cI M) (cI K) L.length) true) L.length)))) (X5 (cI M) (cI K) L.length) 1) L.length) 0&&(L4 (S2 (H8 (List.take (L.length*(0+1)) (List.drop 0 (cI (tI (X9 (cR P0) (X5 (cI M) (cI K) L.length) true) L.length)))) (List.take (L.length*(0+1)) (List.drop 0 (cI (tI (X9 (cR P1) (X5 (cI M) (cI K) L.length) true) L.length)))) (List.take (L.length*(0+1)) (List.drop 0 (cI (tI (X9 (cR P2) (X5 (cI M) (cI K) L.length) true) L.length)))) (List.take (L.length*(0+1)) (List.drop 0 (cI (tI (X9 (cR L) (X5 (cI M) (cI K) L.length) true) L.length)))) (X5 (cI M) (cI K) L.length) 2) L.length) 0&&true))))=false,L3 IntKind.i64 (0+1),Y1 (0+1) 2=true,T8 1 [AV.xl v0 P0.length 2 (cR P0),AV.xl v1 P1.length 2 (cR P1),AV.xl v2 P2.length 2 (cR P2)] 3,W8 2 L.length (cR L),Q3 1 M.length (cI M),Q3 1 K.length (cI K),W8 2 L.length (cR L),1≤L.length∧L.length≤8,L.length=L.length,M.length=L.length,K.length=L.length,D7 (cI M) (cI K) L.length,Y1 0 3=true,T8 1 [AV.xl v0 P0.length 2 (cR P0),AV.xl v1 P1.length 2 (cR P1),AV.xl v2 P2.length 2 (cR P2)] 3,W8 2 L.length (cR L),Q3 1 M.length (cI M),Q3 1 K.length (cI K),W8 2 P0.length (cR P0),1≤L.length∧L.length≤8,P0.length=L.length,M.length=L.length,K.length=L.length,D7 (cI M) (cI K) L.length,L3 IntKind.i64 (0+1),Y1 (0+1) 3=true,T8 1 [AV.xl v0 P0.length 2 (cR P0),AV.xl v1 P1.length 2 (cR P1),AV.xl v2 P2.length 2 (cR P2)] 3,W8 2 L.length (cR L),Q3 1 M.length (cI M),Q3 1 K.length (cI K),W8 2 P1.length (cR P1),1≤L.length∧L.length≤8,P1.length=L.length,M.length=L.length,K.length=L.length,D7 (cI M) (cI K) L.length,L3 IntKind.i64 (0+1+1),Y1 (0+1+1) 3=true,T8 1 [AV.xl v0 P0.length 2 (cR P0),AV.xl v1 P1.length 2 (cR P1),AV.xl v2 P2.length 2 (cR P2)] 3,W8 2 L.length (cR L),Q3 1 M.length (cI M),Q3 1 K.length (cI K),W8 2 P2.length (cR P2),1≤L.length∧L.length≤8,P2.length=L.length,M.length=L.length,K.length=L.length,D7 (cI M) (cI K) L.length,L3 IntKind.i64 (0+1+1+1),Y1 (0+1+1+1) 3=false,0+(0+1+1+1)*(0+1)≤([(.slu 24 0 (L.length) 0),(.slu 27 0 (L.length) 0),(.slu 30 0 (L.length) 0)]:List AV).length,0+L.length*(0+1)≤((cI (tI (X9 (cR P0) (X5 (cI M) (cI K) L.length) false) L.length)):List AV).length,0+L.length*(0+1)≤((cI (tI (X9 (cR P1) (X5 (cI M) (cI K) L.length) false) L.length)):List AV).length,0+L.length*(0+1)≤((cI (tI (X9 (cR P2) (X5 (cI M) (cI K) L.length) false) L.length)):List AV).length,0+L.length*(0+1)≤((cI (tI (X9 (cR L) (X5 (cI M) (cI K) L.length) false) L.length)):List AV).length,T8 1 [AV.xl v0 P0.length 2 (cR P0),AV.xl v1 P1.length 2 (cR P1),AV.xl v2 P2.length 2 (cR P2)] 3,W8 2 L.length (cR L),Q3 1 M.length (cI M),Q3 1 K.length (cI K),L.length≤8,IsC (0+1) L.length (List.take (L.length*(0+1)) (List.drop 0 (cI (tI (X9 (cR P0) (X5 (cI M) (cI K) L.length) false) L.length)))),IsC (0+1) L.length (List.take (L.length*(0+1)) (List.drop 0 (cI (tI (X9 (cR P1) (X5 (cI M) (cI K) L.length) false) L.length)))),IsC (0+1) L.length (List.take (L.length*(0+1)) (List.drop 0 (cI (tI (X9 (cR P2) (X5 (cI M) (cI K) L.length) false) L.length)))),IsC (0+1) L.length (List.take (L.length*(0+1)) (List.drop 0 (cI (tI (X9 (cR L) (X5 (cI M) (cI K) L.length) false) L.length)))),L.length=L.length,L.length=L.length,L.length=L.length,L.length=L.length,M.length=L.length,K.length=L.length,Is3 (0+1+1+1),a9Y (List.take (L.length*(0+1)) (List.drop 0 (cI (tI (X9 (cR P0) (X5 (cI M) (cI K) L.length) false) L.length)))) (List.take (L.length*(0+1)) (List.drop 0 (cI (tI (X9 (cR P1) (X5 (cI M) (cI K) L.length) false) L.length)))) (List.take (L.length*(0+1)) (List.drop 0 (cI (tI (X9 (cR P2) (X5 (cI M) (cI K) L.length) false) L.length)))) (List.take (L.length*(0+1)) (List.drop 0 (cI (tI (X9 (cR L) (X5 (cI M) (cI K) L.length) false) L.length)))) L.length,D7 (cI M) (cI K) L.length,(!(L4 (S2 (H8 (List.take (L.length*(0+1)) (List.drop 0 (cI (tI (X9 (cR P0) (X5 (cI M) (cI K) L.length) false) L.length)))) (List.take (L.length*(0+1)) (List.drop 0 (cI (tI (X9 (cR P1) (X5 (cI M) (cI K) L.length) false) L.length)))) (List.take (L.length*(0+1)) (List.drop 0 (cI (tI (X9 (cR P2) (X5 (cI M) (cI K) L.length) false) L.length)))) (List.take (L.length*(0+1)) (List.drop 0 (cI (tI (X9 (cR L) (X5 (cI M) (cI K) L.length) false) L.length)))) (X5 (cI M) (cI K) L.length) 0) L.length) 0&&(L4 (S2 (H8 (List.take (L.length*(0+1)) (List.drop 0 (cI (tI (X9 (cR P0) (X5 (cI M) (cI K) L.length) false) L.length)))) (List.take (L.length*(0+1)) (List.drop 0 (cI (tI (X9 (cR P1) (X5 (cI M) (cI K) L.length) false) L.length)))) (List.take (L.length*(0+1)) (List.drop 0 (cI (tI (X9 (cR P2) (X5 (cI M) (cI K) L.length) false) L.length)))) (List.take (L.length*(0+1)) (List.drop 0 (cI (tI (X9 (cR L) (X5 (cI M) (cI K) L.length) false) L.length)))) (X5 (cI M) (cI K) L.length) 1) L.length) 0&&(L4 (S2 (H8 (List.take (L.length*(0+1)) (List.drop 0 (cI (tI (X9 (cR P0) (X5 (cI M) (cI K) L.length) false) L.length)))) (List.take (L.length*(0+1)) (List.drop 0 (cI (tI (X9 (cR P1) (X5 (cI M) (cI K) L.length) false) L.length)))) (List.take (L.length*(0+1)) (List.drop 0 (cI (tI (X9 (cR P2) (X5 (cI M) (cI K) L.length) false) L.length)))) (List.take (L.length*(0+1)) (List.drop 0 (cI (tI (X9 (cR L) (X5 (cI M) (cI K) L.length) false) L.length)))) (X5 (cI M) (cI K) L.length) 2) L.length) 0&&true))))=false,L3 IntKind.i64 (0+1+1),Y1 (0+1+1) 2=false,false=false]) (gH 9 ([.b false]++gH 9 ([.b true]++gH 20 ([.b true]++gH 15 ([.b true]++gH 15 ([.b true]++gH 15 ([.b false]++gH 8 ([.b false,.go,.go,.go,.b true]++gH 20 ([.b true]++gH 15 ([.b true]++gH 15 ([.b true]++gH 15 ([.b false]++gH 8 ([.b false,.go,.go,.go,.b false]++gH 10 [.b false,.go]))))))))))))) (by kernel_rfl) (by kernel_rfl) ⟨(by show 0+2*(0+1)≤2;decide),(by decide),⟨rfl,[(v0,P0),(v1,P1),(v2,P2)],rfl,rfl⟩,⟨rfl,L,rfl,rfl⟩,⟨rfl,M,rfl,rfl⟩,⟨rfl,K,rfl,rfl⟩,rfl,(by decide),(by omega),(by omega),((a3G hC hH1).trans hH2),rfl,(Y2 [(v0,P0),(v1,P1),(v2,P2)]),(Y3 (Y7 _)),(Y3 (Z5 _)),(Y3 (Z5 _)),⟨rfl,[(v0,P0),(v1,P1),(v2,P2)],rfl,rfl⟩,⟨rfl,L,rfl,rfl⟩,⟨rfl,M,rfl,rfl⟩,⟨rfl,K,rfl,rfl⟩,(Y2 [(v0,P0),(v1,P1),(v2,P2)]),(Y3 (Y7 _)),rfl,⟨rfl,[(v0,P0),(v1,P1),(v2,P2)],rfl,rfl⟩,⟨rfl,L,rfl,rfl⟩,⟨rfl,M,rfl,rfl⟩,⟨rfl,K,rfl,rfl⟩,⟨rfl,L,rfl,rfl⟩,hn,rfl,hM,hK,(J3 hH1 hH2),rfl,⟨rfl,[(v0,P0),(v1,P1),(v2,P2)],rfl,rfl⟩,⟨rfl,L,rfl,rfl⟩,⟨rfl,M,rfl,rfl⟩,⟨rfl,K,rfl,rfl⟩,⟨rfl,P0,rfl,rfl⟩,hn,(hrow 0 (by decide)),hM,hK,(J3 hH1 hH2),(by show -9223372036854775808≤(_:Int)∧(_:Int)≤9223372036854775807;constructor<;>decide),rfl,⟨rfl,[(v0,P0),(v1,P1),(v2,P2)],rfl,rfl⟩,⟨rfl,L,rfl,rfl⟩,⟨rfl,M,rfl,rfl⟩,⟨rfl,K,rfl,rfl⟩,⟨rfl,P1,rfl,rfl⟩,hn,(hrow 1 (by decide)),hM,hK,(J3 hH1 hH2),(by show -9223372036854775808≤(_:Int)∧(_:Int)≤9223372036854775807;constructor<;>decide),rfl,⟨rfl,[(v0,P0),(v1,P1),(v2,P2)],rfl,rfl⟩,⟨rfl,L,rfl,rfl⟩,⟨rfl,M,rfl,rfl⟩,⟨rfl,K,rfl,rfl⟩,⟨rfl,P2,rfl,rfl⟩,hn,(hrow 2 (by decide)),hM,hK,(J3 hH1 hH2),(by show -9223372036854775808≤(_:Int)∧(_:Int)≤9223372036854775807;constructor<;>decide),rfl,(by show 0+3*(0+1)≤3;decide),(by rw [Y5,Y0];omega),(by rw [Y5,Y0];omega),(by rw [Y5,Y0];omega),(by rw [Y5,Y0];omega),⟨rfl,[(v0,P0),(v1,P1),(v2,P2)],rfl,rfl⟩,⟨rfl,L,rfl,rfl⟩,⟨rfl,M,rfl,rfl⟩,⟨rfl,K,rfl,rfl⟩,hn.2,⟨rfl,_,W4,(Y0 _ _).symm⟩,⟨rfl,_,W4,(Y0 _ _).symm⟩,⟨rfl,_,W4,(Y0 _ _).symm⟩,⟨rfl,_,W4,(Y0 _ _).symm⟩,rfl,rfl,rfl,rfl,hM,hK,rfl,(by rw [W4,W4,W4,W4];exact a3w (hcur 0 (by decide)) (hcur 1 (by decide)) (hcur 2 (by decide)) hlam),(J3 hH1 hH2),(by rw [hqsuo3_1];rfl),(by show -9223372036854775808≤(_:Int)∧(_:Int)≤9223372036854775807;constructor<;>decide),rfl,⟨rfl,[(v0,P0),(v1,P1),(v2,P2)],rfl,rfl⟩,⟨rfl,L,rfl,rfl⟩,⟨rfl,M,rfl,rfl⟩,⟨rfl,K,rfl,rfl⟩,⟨rfl,L,rfl,rfl⟩,hn,rfl,hM,hK,(J3 hH1 hH2),rfl,⟨rfl,[(v0,P0),(v1,P1),(v2,P2)],rfl,rfl⟩,⟨rfl,L,rfl,rfl⟩,⟨rfl,M,rfl,rfl⟩,⟨rfl,K,rfl,rfl⟩,⟨rfl,P0,rfl,rfl⟩,hn,(hrow 0 (by decide)),hM,hK,(J3 hH1 hH2),(by show -9223372036854775808≤(_:Int)∧(_:Int)≤9223372036854775807;constructor<;>decide),rfl,⟨rfl,[(v0,P0),(v1,P1),(v2,P2)],rfl,rfl⟩,⟨rfl,L,rfl,rfl⟩,⟨rfl,M,rfl,rfl⟩,⟨rfl,K,rfl,rfl⟩,⟨rfl,P1,rfl,rfl⟩,hn,(hrow 1 (by decide)),hM,hK,(J3 hH1 hH2),(by show -9223372036854775808≤(_:Int)∧(_:Int)≤9223372036854775807;constructor<;>decide),rfl,⟨rfl,[(v0,P0),(v1,P1),(v2,P2)],rfl,rfl⟩,⟨rfl,L,rfl,rfl⟩,⟨rfl,M,rfl,rfl⟩,⟨rfl,K,rfl,rfl⟩,⟨rfl,P2,rfl,rfl⟩,hn,(hrow 2 (by decide)),hM,hK,(J3 hH1 hH2),(by show -9223372036854775808≤(_:Int)∧(_:Int)≤9223372036854775807;constructor<;>decide),rfl,(by show 0+3*(0+1)≤3;decide),(by rw [Y5,Y0];omega),(by rw [Y5,Y0];omega),(by rw [Y5,Y0];omega),(by rw [Y5,Y0];omega),⟨rfl,[(v0,P0),(v1,P1),(v2,P2)],rfl,rfl⟩,⟨rfl,L,rfl,rfl⟩,⟨rfl,M,rfl,rfl⟩,⟨rfl,K,rfl,rfl⟩,hn.2,⟨rfl,_,W4,(Y0 _ _).symm⟩,⟨rfl,_,W4,(Y0 _ _).symm⟩,⟨rfl,_,W4,(Y0 _ _).symm⟩,⟨rfl,_,W4,(Y0 _ _).symm⟩,rfl,rfl,rfl,rfl,hM,hK,rfl,(by rw [W4,W4,W4,W4];exact a3w (hcur 0 (by decide)) (hcur 1 (by decide)) (hcur 2 (by decide)) hlam),(J3 hH1 hH2),(by rw [hqsuo3_2];rfl),(by show -9223372036854775808≤(_:Int)∧(_:Int)≤9223372036854775807;constructor<;>decide),rfl,rfl,trivial⟩ rfl) (Hd.en_eq (r:=(.int .i64 0)) (by (rw [b6J (zr_iff.1 hqsuo3_1) (zr_iff.1 hqsuo3_2)])) (Hd.en_ret (v:=(nN 0)) (by kernel_rfl) rfl))
  ·exact Z6 U0 (Z2 zC0q (W1 a2g (W1 a4b (W1 a2k a2z))) 200 (T':=⟨[(6,(nN 19))],[],35,[]⟩) (e:=.ret) (ps:=[0+2*(0+1)≤([(.xl (z) (M.length) 1 (cI M)),(.xl (zk) (K.length) 1 (cI K))]:List AV).length,((2:Nat)≤2),T8 1 [AV.xl v0 P0.length 2 (cR P0),AV.xl v1 P1.length 2 (cR P1),AV.xl v2 P2.length 2 (cR P2)] 3,W8 2 L.length (cR L),Q3 (0+1) M.length (cI M),Q3 (0+1) K.length (cI K),b92 2,((3:Nat)≤1000),M.length≤1000,K.length≤1000,a0H (E4 [AV.xl v0 P0.length 2 (cR P0),AV.xl v1 P1.length 2 (cR P1),AV.xl v2 P2.length 2 (cR P2)] 3 (cR L) L.length) (G4 L.length (cI M) M.length) (G4 L.length (cI K) K.length)=0,(!L4 0 0)=false,U2 [AV.xl v0 P0.length 2 (cR P0),AV.xl v1 P1.length 2 (cR P1),AV.xl v2 P2.length 2 (cR P2)],U2 (cR L),U2 (cI M),U2 (cI K),T8 1 [AV.xl v0 P0.length 2 (cR P0),AV.xl v1 P1.length 2 (cR P1),AV.xl v2 P2.length 2 (cR P2)] 3,W8 2 L.length (cR L),Q3 1 M.length (cI M),Q3 1 K.length (cI K),U2 [AV.xl v0 P0.length 2 (cR P0),AV.xl v1 P1.length 2 (cR P1),AV.xl v2 P2.length 2 (cR P2)],U2 (cR L),Y1 0 2=true,T8 1 [AV.xl v0 P0.length 2 (cR P0),AV.xl v1 P1.length 2 (cR P1),AV.xl v2 P2.length 2 (cR P2)] 3,W8 2 L.length (cR L),Q3 1 M.length (cI M),Q3 1 K.length (cI K),W8 2 L.length (cR L),1≤L.length∧L.length≤8,L.length=L.length,M.length=L.length,K.length=L.length,D7 (cI M) (cI K) L.length,Y1 0 3=true,T8 1 [AV.xl v0 P0.length 2 (cR P0),AV.xl v1 P1.length 2 (cR P1),AV.xl v2 P2.length 2 (cR P2)] 3,W8 2 L.length (cR L),Q3 1 M.length (cI M),Q3 1 K.length (cI K),W8 2 P0.length (cR P0),1≤L.length∧L.length≤8,P0.length=L.length,M.length=L.length,K.length=L.length,D7 (cI M) (cI K) L.length,L3 IntKind.i64 (0+1),Y1 (0+1) 3=true,T8 1 [AV.xl v0 P0.length 2 (cR P0),AV.xl v1 P1.length 2 (cR P1),AV.xl v2 P2.length 2 (cR P2)] 3,W8 2 L.length (cR L),Q3 1 M.length (cI M),Q3 1 K.length (cI K),W8 2 P1.length (cR P1),1≤L.length∧L.length≤8,P1.length=L.length,M.length=L.length,K.length=L.length,D7 (cI M) (cI K) L.length,L3 IntKind.i64 (0+1+1),Y1 (0+1+1) 3=true,T8 1 [AV.xl v0 P0.length 2 (cR P0),AV.xl v1 P1.length 2 (cR P1),AV.xl v2 P2.length 2 (cR P2)] 3,W8 2 L.length (cR L),Q3 1 M.length (cI M),Q3 1 K.length (cI K),W8 2 P2.length (cR P2),1≤L.length∧L.length≤8,P2.length=L.length,M.length=L.length,K.length=L.length,D7 (cI M) (cI K) L.length,L3 IntKind.i64 (0+1+1+1),Y1 (0+1+1+1) 3=false,0+(0+1+1+1)*(0+1)≤([(.slu 10 0 (L.length) 0),(.slu 13 0 (L.length) 0),(.slu 16 0 (L.length) 0)]:List AV).length,0+L.length*(0+1)≤((cI (tI (X9 (cR P0) (X5 (cI M) (cI K) L.length) true) L.length)):List AV).length,0+L.length*(0+1)≤((cI (tI (X9 (cR P1) (X5 (cI M) (cI K) L.length) true) L.length)):List AV).length,0+L.length*(0+1)≤((cI (tI (X9 (cR P2) (X5 (cI M) (cI K) L.length) true) L.length)):List AV).length,0+L.length*(0+1)≤((cI (tI (X9 (cR L) (X5 (cI M) (cI K) L.length) true) L.length)):List AV).length,T8 1 [AV.xl v0 P0.length 2 (cR P0),AV.xl v1 P1.length 2 (cR P1),AV.xl v2 P2.length 2 (cR P2)] 3,W8 2 L.length (cR L),Q3 1 M.length (cI M),Q3 1 K.length (cI K),L.length≤8,IsC (0+1) L.length (List.take (L.length*(0+1)) (List.drop 0 (cI (tI (X9 (cR P0) (X5 (cI M) (cI K) L.length) true) L.length)))),IsC (0+1) L.length (List.take (L.length*(0+1)) (List.drop 0 (cI (tI (X9 (cR P1) (X5 (cI M) (cI K) L.length) true) L.length)))),IsC (0+1) L.length (List.take (L.length*(0+1)) (List.drop 0 (cI (tI (X9 (cR P2) (X5 (cI M) (cI K) L.length) true) L.length)))),IsC (0+1) L.length (List.take (L.length*(0+1)) (List.drop 0 (cI (tI (X9 (cR L) (X5 (cI M) (cI K) L.length) true) L.length)))),L.length=L.length,L.length=L.length,L.length=L.length,L.length=L.length,M.length=L.length,K.length=L.length,Is3 (0+1+1+1),a9Y (List.take (L.length*(0+1)) (List.drop 0 (cI (tI (X9 (cR P0) (X5 (cI M) (cI K) L.length) true) L.length)))) (List.take (L.length*(0+1)) (List.drop 0 (cI (tI (X9 (cR P1) (X5 (cI M) (cI K) L.length) true) L.length)))) (List.take (L.length*(0+1)) (List.drop 0 (cI (tI (X9 (cR P2) (X5 (cI M) (cI K) L.length) true) L.length)))) (List.take (L.length*(0+1)) (List.drop 0 (cI (tI (X9 (cR L) (X5 (cI M) (cI K) L.length) true) L.length)))) L.length,D7 (cI M) (cI K) L.length,(!(L4 (S2 (H8 (List.take (L.length*(0+1)) (List.drop 0 (cI (tI (X9 (cR P0) (X5 (cI M) (cI K) L.length) true) L.length)))) (List.take (L.length*(0+1)) (List.drop 0 (cI (tI (X9 (cR P1) (X5 (cI M) (cI K) L.length) true) L.length)))) (List.take (L.length*(0+1)) (List.drop 0 (cI (tI (X9 (cR P2) (X5 (cI M) (cI K) L.length) true) L.length)))) (List.take (L.length*(0+1)) (List.drop 0 (cI (tI (X9 (cR L) (X5 (cI M) (cI K) L.length) true) L.length)))) (X5 (cI M) (cI K) L.length) 0) L.length) 0&&(L4 (S2 (H8 (List.take (L.length*(0+1)) (List.drop 0 (cI (tI (X9 (cR P0) (X5 (cI M) (cI K) L.length) true) L.length)))) (List.take (L.length*(0+1)) (List.drop 0 (cI (tI (X9 (cR P1) (X5 (cI M) (cI K) L.length) true) L.length)))) (List.take (L.length*(0+1)) (List.drop 0 (cI (tI (X9 (cR P2) (X5 (cI M) (cI K) L.length) true) L.length)))) (List.take (L.length*(0+1)) (List.drop 0 (cI (tI (X9 (cR L) (X5 (cI M) (cI K) L.length) true) L.length)))) (X5 (cI M) (cI K) L.length) 1) L.length) 0&&(L4 (S2 (H8 (List.take (L.length*(0+1)) (List.drop 0 (cI (tI (X9 (cR P0) (X5 (cI M) (cI K) L.length) true) L.length)))) (List.take (L.length*(0+1)) (List.drop 0 (cI (tI (X9 (cR P1) (X5 (cI M) (cI K) L.length) true) L.length)))) (List.take (L.length*(0+1)) (List.drop 0 (cI (tI (X9 (cR P2) (X5 (cI M) (cI K) L.length) true) L.length)))) (List.take (L.length*(0+1)) (List.drop 0 (cI (tI (X9 (cR L) (X5 (cI M) (cI K) L.length) true) L.length)))) (X5 (cI M) (cI K) L.length) 2) L.length) 0&&true))))=false,L3 IntKind.i64 (0+1),Y1 (0+1) 2=true,T8 1 [AV.xl v0 P0.length 2 (cR P0),AV.xl v1 P1.length 2 (cR P1),AV.xl v2 P2.length 2 (cR P2)] 3,W8 2 L.length (cR L),Q3 1 M.length (cI M),Q3 1 K.length (cI K),W8 2 L.length (cR L),1≤L.length∧L.length≤8,L.length=L.length,M.length=L.length,K.length=L.length,D7 (cI M) (cI K) L.length,Y1 0 3=true,T8 1 [AV.xl v0 P0.length 2 (cR P0),AV.xl v1 P1.length 2 (cR P1),AV.xl v2 P2.length 2 (cR P2)] 3,W8 2 L.length (cR L),Q3 1 M.length (cI M),Q3 1 K.length (cI K),W8 2 P0.length (cR P0),1≤L.length∧L.length≤8,P0.length=L.length,M.length=L.length,K.length=L.length,D7 (cI M) (cI K) L.length,L3 IntKind.i64 (0+1),Y1 (0+1) 3=true,T8 1 [AV.xl v0 P0.length 2 (cR P0),AV.xl v1 P1.length 2 (cR P1),AV.xl v2 P2.length 2 (cR P2)] 3,W8 2 L.length (cR L),Q3 1 M.length (cI M),Q3 1 K.length (cI K),W8 2 P1.length (cR P1),1≤L.length∧L.length≤8,P1.length=L.length,M.length=L.length,K.length=L.length,D7 (cI M) (cI K) L.length,L3 IntKind.i64 (0+1+1),Y1 (0+1+1) 3=true,T8 1 [AV.xl v0 P0.length 2 (cR P0),AV.xl v1 P1.length 2 (cR P1),AV.xl v2 P2.length 2 (cR P2)] 3,W8 2 L.length (cR L),Q3 1 M.length (cI M),Q3 1 K.length (cI K),W8 2 P2.length (cR P2),1≤L.length∧L.length≤8,P2.length=L.length,M.length=L.length,K.length=L.length,D7 (cI M) (cI K) L.length,L3 IntKind.i64 (0+1+1+1),Y1 (0+1+1+1) 3=false,0+(0+1+1+1)*(0+1)≤([(.slu 24 0 (L.length) 0),(.slu 27 0 (L.length) 0),(.slu 30 0 (L.length) 0)]:List AV).length,0+L.length*(0+1)≤((cI (tI (X9 (cR P0) (X5 (cI M) (cI K) L.length) false) L.length)):List AV).length,0+L.length*(0+1)≤((cI (tI (X9 (cR P1) (X5 (cI M) (cI K) L.length) false) L.length)):List AV).length,0+L.length*(0+1)≤((cI (tI (X9 (cR P2) (X5 (cI M) (cI K) L.length) false) L.length)):List AV).length,0+L.length*(0+1)≤((cI (tI (X9 (cR L) (X5 (cI M) (cI K) L.length) false) L.length)):List AV).length,T8 1 [AV.xl v0 P0.length 2 (cR P0),AV.xl v1 P1.length 2 (cR P1),AV.xl v2 P2.length 2 (cR P2)] 3,W8 2 L.length (cR L),Q3 1 M.length (cI M),Q3 1 K.length (cI K),L.length≤8,IsC (0+1) L.length (List.take (L.length*(0+1)) (List.drop 0 (cI (tI (X9 (cR P0) (X5 (cI M) (cI K) L.length) false) L.length)))),IsC (0+1) L.length (List.take (L.length*(0+1)) (List.drop 0 (cI (tI (X9 (cR P1) (X5 (cI M) (cI K) L.length) false) L.length)))),IsC (0+1) L.length (List.take (L.length*(0+1)) (List.drop 0 (cI (tI (X9 (cR P2) (X5 (cI M) (cI K) L.length) false) L.length)))),IsC (0+1) L.length (List.take (L.length*(0+1)) (List.drop 0 (cI (tI (X9 (cR L) (X5 (cI M) (cI K) L.length) false) L.length)))),L.length=L.length,L.length=L.length,L.length=L.length,L.length=L.length,M.length=L.length,K.length=L.length,Is3 (0+1+1+1),a9Y (List.take (L.length*(0+1)) (List.drop 0 (cI (tI (X9 (cR P0) (X5 (cI M) (cI K) L.length) false) L.length)))) (List.take (L.length*(0+1)) (List.drop 0 (cI (tI (X9 (cR P1) (X5 (cI M) (cI K) L.length) false) L.length)))) (List.take (L.length*(0+1)) (List.drop 0 (cI (tI (X9 (cR P2) (X5 (cI M) (cI K) L.length) false) L.length)))) (List.take (L.length*(0+1)) (List.drop 0 (cI (tI (X9 (cR L) (X5 (cI M) (cI K) L.length) false) L.length)))) L.length,D7 (cI M) (cI K) L.length,(!(L4 (S2 (H8 (List.take (L.length*(0+1)) (List.drop 0 (cI (tI (X9 (cR P0) (X5 (cI M) (cI K) L.length) false) L.length)))) (List.take (L.length*(0+1)) (List.drop 0 (cI (tI (X9 (cR P1) (X5 (cI M) (cI K) L.length) false) L.length)))) (List.take (L.length*(0+1)) (List.drop 0 (cI (tI (X9 (cR P2) (X5 (cI M) (cI K) L.length) false) L.length)))) (List.take (L.length*(0+1)) (List.drop 0 (cI (tI (X9 (cR L) (X5 (cI M) (cI K) L.length) false) L.length)))) (X5 (cI M) (cI K) L.length) 0) L.length) 0&&(L4 (S2 (H8 (List.take (L.length*(0+1)) (List.drop 0 (cI (tI (X9 (cR P0) (X5 (cI M) (cI K) L.length) false) L.length)))) (List.take (L.length*(0+1)) (List.drop 0 (cI (tI (X9 (cR P1) (X5 (cI M) (cI K) L.length) false) L.length)))) (List.take (L.length*(0+1)) (List.drop 0 (cI (tI (X9 (cR P2) (X5 (cI M) (cI K) L.length) false) L.length)))) (List.take (L.length*(0+1)) (List.drop 0 (cI (tI (X9 (cR L) (X5 (cI M) (cI K) L.length) false) L.length)))) (X5 (cI M) (cI K) L.length) 1) L.length) 0&&(L4 (S2 (H8 (List.take (L.length*(0+1)) (List.drop 0 (cI (tI (X9 (cR P0) (X5 (cI M) (cI K) L.length) false) L.length)))) (List.take (L.length*(0+1)) (List.drop 0 (cI (tI (X9 (cR P1) (X5 (cI M) (cI K) L.length) false) L.length)))) (List.take (L.length*(0+1)) (List.drop 0 (cI (tI (X9 (cR P2) (X5 (cI M) (cI K) L.length) false) L.length)))) (List.take (L.length*(0+1)) (List.drop 0 (cI (tI (X9 (cR L) (X5 (cI M) (cI K) L.length) false) L.length)))) (X5 (cI M) (cI K) L.length) 2) L.length) 0&&true))))=true,true=true]) (gH 9 ([.b false]++gH 9 ([.b true]++gH 20 ([.b true]++gH 15 ([.b true]++gH 15 ([.b true]++gH 15 ([.b false]++gH 8 ([.b false,.go,.go,.go,.b true]++gH 20 ([.b true]++gH 15 ([.b true]++gH 15 ([.b true]++gH 15 ([.b false]++gH 8 ([.b true]++gH 10 [.b true,.go]))))))))))))) (by kernel_rfl) (by kernel_rfl) ⟨(by show 0+2*(0+1)≤2;decide),(by decide),⟨rfl,[(v0,P0),(v1,P1),(v2,P2)],rfl,rfl⟩,⟨rfl,L,rfl,rfl⟩,⟨rfl,M,rfl,rfl⟩,⟨rfl,K,rfl,rfl⟩,rfl,(by decide),(by omega),(by omega),((a3G hC hH1).trans hH2),rfl,(Y2 [(v0,P0),(v1,P1),(v2,P2)]),(Y3 (Y7 _)),(Y3 (Z5 _)),(Y3 (Z5 _)),⟨rfl,[(v0,P0),(v1,P1),(v2,P2)],rfl,rfl⟩,⟨rfl,L,rfl,rfl⟩,⟨rfl,M,rfl,rfl⟩,⟨rfl,K,rfl,rfl⟩,(Y2 [(v0,P0),(v1,P1),(v2,P2)]),(Y3 (Y7 _)),rfl,⟨rfl,[(v0,P0),(v1,P1),(v2,P2)],rfl,rfl⟩,⟨rfl,L,rfl,rfl⟩,⟨rfl,M,rfl,rfl⟩,⟨rfl,K,rfl,rfl⟩,⟨rfl,L,rfl,rfl⟩,hn,rfl,hM,hK,(J3 hH1 hH2),rfl,⟨rfl,[(v0,P0),(v1,P1),(v2,P2)],rfl,rfl⟩,⟨rfl,L,rfl,rfl⟩,⟨rfl,M,rfl,rfl⟩,⟨rfl,K,rfl,rfl⟩,⟨rfl,P0,rfl,rfl⟩,hn,(hrow 0 (by decide)),hM,hK,(J3 hH1 hH2),(by show -9223372036854775808≤(_:Int)∧(_:Int)≤9223372036854775807;constructor<;>decide),rfl,⟨rfl,[(v0,P0),(v1,P1),(v2,P2)],rfl,rfl⟩,⟨rfl,L,rfl,rfl⟩,⟨rfl,M,rfl,rfl⟩,⟨rfl,K,rfl,rfl⟩,⟨rfl,P1,rfl,rfl⟩,hn,(hrow 1 (by decide)),hM,hK,(J3 hH1 hH2),(by show -9223372036854775808≤(_:Int)∧(_:Int)≤9223372036854775807;constructor<;>decide),rfl,⟨rfl,[(v0,P0),(v1,P1),(v2,P2)],rfl,rfl⟩,⟨rfl,L,rfl,rfl⟩,⟨rfl,M,rfl,rfl⟩,⟨rfl,K,rfl,rfl⟩,⟨rfl,P2,rfl,rfl⟩,hn,(hrow 2 (by decide)),hM,hK,(J3 hH1 hH2),(by show -9223372036854775808≤(_:Int)∧(_:Int)≤9223372036854775807;constructor<;>decide),rfl,(by show 0+3*(0+1)≤3;decide),(by rw [Y5,Y0];omega),(by rw [Y5,Y0];omega),(by rw [Y5,Y0];omega),(by rw [Y5,Y0];omega),⟨rfl,[(v0,P0),(v1,P1),(v2,P2)],rfl,rfl⟩,⟨rfl,L,rfl,rfl⟩,⟨rfl,M,rfl,rfl⟩,⟨rfl,K,rfl,rfl⟩,hn.2,⟨rfl,_,W4,(Y0 _ _).symm⟩,⟨rfl,_,W4,(Y0 _ _).symm⟩,⟨rfl,_,W4,(Y0 _ _).symm⟩,⟨rfl,_,W4,(Y0 _ _).symm⟩,rfl,rfl,rfl,rfl,hM,hK,rfl,(by rw [W4,W4,W4,W4];exact a3w (hcur 0 (by decide)) (hcur 1 (by decide)) (hcur 2 (by decide)) hlam),(J3 hH1 hH2),(by rw [hqsuo3_1];rfl),(by show -9223372036854775808≤(_:Int)∧(_:Int)≤9223372036854775807;constructor<;>decide),rfl,⟨rfl,[(v0,P0),(v1,P1),(v2,P2)],rfl,rfl⟩,⟨rfl,L,rfl,rfl⟩,⟨rfl,M,rfl,rfl⟩,⟨rfl,K,rfl,rfl⟩,⟨rfl,L,rfl,rfl⟩,hn,rfl,hM,hK,(J3 hH1 hH2),rfl,⟨rfl,[(v0,P0),(v1,P1),(v2,P2)],rfl,rfl⟩,⟨rfl,L,rfl,rfl⟩,⟨rfl,M,rfl,rfl⟩,⟨rfl,K,rfl,rfl⟩,⟨rfl,P0,rfl,rfl⟩,hn,(hrow 0 (by decide)),hM,hK,(J3 hH1 hH2),(by show -9223372036854775808≤(_:Int)∧(_:Int)≤9223372036854775807;constructor<;>decide),rfl,⟨rfl,[(v0,P0),(v1,P1),(v2,P2)],rfl,rfl⟩,⟨rfl,L,rfl,rfl⟩,⟨rfl,M,rfl,rfl⟩,⟨rfl,K,rfl,rfl⟩,⟨rfl,P1,rfl,rfl⟩,hn,(hrow 1 (by decide)),hM,hK,(J3 hH1 hH2),(by show -9223372036854775808≤(_:Int)∧(_:Int)≤9223372036854775807;constructor<;>decide),rfl,⟨rfl,[(v0,P0),(v1,P1),(v2,P2)],rfl,rfl⟩,⟨rfl,L,rfl,rfl⟩,⟨rfl,M,rfl,rfl⟩,⟨rfl,K,rfl,rfl⟩,⟨rfl,P2,rfl,rfl⟩,hn,(hrow 2 (by decide)),hM,hK,(J3 hH1 hH2),(by show -9223372036854775808≤(_:Int)∧(_:Int)≤9223372036854775807;constructor<;>decide),rfl,(by show 0+3*(0+1)≤3;decide),(by rw [Y5,Y0];omega),(by rw [Y5,Y0];omega),(by rw [Y5,Y0];omega),(by rw [Y5,Y0];omega),⟨rfl,[(v0,P0),(v1,P1),(v2,P2)],rfl,rfl⟩,⟨rfl,L,rfl,rfl⟩,⟨rfl,M,rfl,rfl⟩,⟨rfl,K,rfl,rfl⟩,hn.2,⟨rfl,_,W4,(Y0 _ _).symm⟩,⟨rfl,_,W4,(Y0 _ _).symm⟩,⟨rfl,_,W4,(Y0 _ _).symm⟩,⟨rfl,_,W4,(Y0 _ _).symm⟩,rfl,rfl,rfl,rfl,hM,hK,rfl,(by rw [W4,W4,W4,W4];exact a3w (hcur 0 (by decide)) (hcur 1 (by decide)) (hcur 2 (by decide)) hlam),(J3 hH1 hH2),(by rw [hqsuo3_2];rfl),rfl,trivial⟩ rfl) (Hd.en_eq (r:=(.int .i64 19)) (by (rw [c7k (c1S hqsuo3_2)])) (Hd.en_ret (v:=(nN 19)) (by kernel_rfl) rfl))
 ·exact Z6 U0 (Z2 zC0q (W1 a2g (W1 a4b (W1 a2k a2z))) 200 (T':=⟨[(6,(nN 19))],[],21,[]⟩) (e:=.ret) (ps:=[0+2*(0+1)≤([(.xl (z) (M.length) 1 (cI M)),(.xl (zk) (K.length) 1 (cI K))]:List AV).length,((2:Nat)≤2),T8 1 [AV.xl v0 P0.length 2 (cR P0),AV.xl v1 P1.length 2 (cR P1),AV.xl v2 P2.length 2 (cR P2)] 3,W8 2 L.length (cR L),Q3 (0+1) M.length (cI M),Q3 (0+1) K.length (cI K),b92 2,((3:Nat)≤1000),M.length≤1000,K.length≤1000,a0H (E4 [AV.xl v0 P0.length 2 (cR P0),AV.xl v1 P1.length 2 (cR P1),AV.xl v2 P2.length 2 (cR P2)] 3 (cR L) L.length) (G4 L.length (cI M) M.length) (G4 L.length (cI K) K.length)=0,(!L4 0 0)=false,U2 [AV.xl v0 P0.length 2 (cR P0),AV.xl v1 P1.length 2 (cR P1),AV.xl v2 P2.length 2 (cR P2)],U2 (cR L),U2 (cI M),U2 (cI K),T8 1 [AV.xl v0 P0.length 2 (cR P0),AV.xl v1 P1.length 2 (cR P1),AV.xl v2 P2.length 2 (cR P2)] 3,W8 2 L.length (cR L),Q3 1 M.length (cI M),Q3 1 K.length (cI K),U2 [AV.xl v0 P0.length 2 (cR P0),AV.xl v1 P1.length 2 (cR P1),AV.xl v2 P2.length 2 (cR P2)],U2 (cR L),Y1 0 2=true,T8 1 [AV.xl v0 P0.length 2 (cR P0),AV.xl v1 P1.length 2 (cR P1),AV.xl v2 P2.length 2 (cR P2)] 3,W8 2 L.length (cR L),Q3 1 M.length (cI M),Q3 1 K.length (cI K),W8 2 L.length (cR L),1≤L.length∧L.length≤8,L.length=L.length,M.length=L.length,K.length=L.length,D7 (cI M) (cI K) L.length,Y1 0 3=true,T8 1 [AV.xl v0 P0.length 2 (cR P0),AV.xl v1 P1.length 2 (cR P1),AV.xl v2 P2.length 2 (cR P2)] 3,W8 2 L.length (cR L),Q3 1 M.length (cI M),Q3 1 K.length (cI K),W8 2 P0.length (cR P0),1≤L.length∧L.length≤8,P0.length=L.length,M.length=L.length,K.length=L.length,D7 (cI M) (cI K) L.length,L3 IntKind.i64 (0+1),Y1 (0+1) 3=true,T8 1 [AV.xl v0 P0.length 2 (cR P0),AV.xl v1 P1.length 2 (cR P1),AV.xl v2 P2.length 2 (cR P2)] 3,W8 2 L.length (cR L),Q3 1 M.length (cI M),Q3 1 K.length (cI K),W8 2 P1.length (cR P1),1≤L.length∧L.length≤8,P1.length=L.length,M.length=L.length,K.length=L.length,D7 (cI M) (cI K) L.length,L3 IntKind.i64 (0+1+1),Y1 (0+1+1) 3=true,T8 1 [AV.xl v0 P0.length 2 (cR P0),AV.xl v1 P1.length 2 (cR P1),AV.xl v2 P2.length 2 (cR P2)] 3,W8 2 L.length (cR L),Q3 1 M.length (cI M),Q3 1 K.length (cI K),W8 2 P2.length (cR P2),1≤L.length∧L.length≤8,P2.length=L.length,M.length=L.length,K.length=L.length,D7 (cI M) (cI K) L.length,L3 IntKind.i64 (0+1+1+1),Y1 (0+1+1+1) 3=false,0+(0+1+1+1)*(0+1)≤([(.slu 10 0 (L.length) 0),(.slu 13 0 (L.length) 0),(.slu 16 0 (L.length) 0)]:List AV).length,0+L.length*(0+1)≤((cI (tI (X9 (cR P0) (X5 (cI M) (cI K) L.length) true) L.length)):List AV).length,0+L.length*(0+1)≤((cI (tI (X9 (cR P1) (X5 (cI M) (cI K) L.length) true) L.length)):List AV).length,0+L.length*(0+1)≤((cI (tI (X9 (cR P2) (X5 (cI M) (cI K) L.length) true) L.length)):List AV).length,0+L.length*(0+1)≤((cI (tI (X9 (cR L) (X5 (cI M) (cI K) L.length) true) L.length)):List AV).length,T8 1 [AV.xl v0 P0.length 2 (cR P0),AV.xl v1 P1.length 2 (cR P1),AV.xl v2 P2.length 2 (cR P2)] 3,W8 2 L.length (cR L),Q3 1 M.length (cI M),Q3 1 K.length (cI K),L.length≤8,IsC (0+1) L.length (List.take (L.length*(0+1)) (List.drop 0 (cI (tI (X9 (cR P0) (X5 (cI M) (cI K) L.length) true) L.length)))),IsC (0+1) L.length (List.take (L.length*(0+1)) (List.drop 0 (cI (tI (X9 (cR P1) (X5 (cI M) (cI K) L.length) true) L.length)))),IsC (0+1) L.length (List.take (L.length*(0+1)) (List.drop 0 (cI (tI (X9 (cR P2) (X5 (cI M) (cI K) L.length) true) L.length)))),IsC (0+1) L.length (List.take (L.length*(0+1)) (List.drop 0 (cI (tI (X9 (cR L) (X5 (cI M) (cI K) L.length) true) L.length)))),L.length=L.length,L.length=L.length,L.length=L.length,L.length=L.length,M.length=L.length,K.length=L.length,Is3 (0+1+1+1),a9Y (List.take (L.length*(0+1)) (List.drop 0 (cI (tI (X9 (cR P0) (X5 (cI M) (cI K) L.length) true) L.length)))) (List.take (L.length*(0+1)) (List.drop 0 (cI (tI (X9 (cR P1) (X5 (cI M) (cI K) L.length) true) L.length)))) (List.take (L.length*(0+1)) (List.drop 0 (cI (tI (X9 (cR P2) (X5 (cI M) (cI K) L.length) true) L.length)))) (List.take (L.length*(0+1)) (List.drop 0 (cI (tI (X9 (cR L) (X5 (cI M) (cI K) L.length) true) L.length)))) L.length,D7 (cI M) (cI K) L.length,(!(L4 (S2 (H8 (List.take (L.length*(0+1)) (List.drop 0 (cI (tI (X9 (cR P0) (X5 (cI M) (cI K) L.length) true) L.length)))) (List.take (L.length*(0+1)) (List.drop 0 (cI (tI (X9 (cR P1) (X5 (cI M) (cI K) L.length) true) L.length)))) (List.take (L.length*(0+1)) (List.drop 0 (cI (tI (X9 (cR P2) (X5 (cI M) (cI K) L.length) true) L.length)))) (List.take (L.length*(0+1)) (List.drop 0 (cI (tI (X9 (cR L) (X5 (cI M) (cI K) L.length) true) L.length)))) (X5 (cI M) (cI K) L.length) 0) L.length) 0&&(L4 (S2 (H8 (List.take (L.length*(0+1)) (List.drop 0 (cI (tI (X9 (cR P0) (X5 (cI M) (cI K) L.length) true) L.length)))) (List.take (L.length*(0+1)) (List.drop 0 (cI (tI (X9 (cR P1) (X5 (cI M) (cI K) L.length) true) L.length)))) (List.take (L.length*(0+1)) (List.drop 0 (cI (tI (X9 (cR P2) (X5 (cI M) (cI K) L.length) true) L.length)))) (List.take (L.length*(0+1)) (List.drop 0 (cI (tI (X9 (cR L) (X5 (cI M) (cI K) L.length) true) L.length)))) (X5 (cI M) (cI K) L.length) 1) L.length) 0&&(L4 (S2 (H8 (List.take (L.length*(0+1)) (List.drop 0 (cI (tI (X9 (cR P0) (X5 (cI M) (cI K) L.length) true) L.length)))) (List.take (L.length*(0+1)) (List.drop 0 (cI (tI (X9 (cR P1) (X5 (cI M) (cI K) L.length) true) L.length)))) (List.take (L.length*(0+1)) (List.drop 0 (cI (tI (X9 (cR P2) (X5 (cI M) (cI K) L.length) true) L.length)))) (List.take (L.length*(0+1)) (List.drop 0 (cI (tI (X9 (cR L) (X5 (cI M) (cI K) L.length) true) L.length)))) (X5 (cI M) (cI K) L.length) 2) L.length) 0&&true))))=true,true=true]) (gH 9 ([.b false]++gH 9 ([.b true]++gH 20 ([.b true]++gH 15 ([.b true]++gH 15 ([.b true]++gH 15 ([.b false]++gH 8 ([.b true]++gH 10 [.b true,.go])))))))) (by kernel_rfl) (by kernel_rfl) ⟨(by show 0+2*(0+1)≤2;decide),(by decide),⟨rfl,[(v0,P0),(v1,P1),(v2,P2)],rfl,rfl⟩,⟨rfl,L,rfl,rfl⟩,⟨rfl,M,rfl,rfl⟩,⟨rfl,K,rfl,rfl⟩,rfl,(by decide),(by omega),(by omega),((a3G hC hH1).trans hH2),rfl,(Y2 [(v0,P0),(v1,P1),(v2,P2)]),(Y3 (Y7 _)),(Y3 (Z5 _)),(Y3 (Z5 _)),⟨rfl,[(v0,P0),(v1,P1),(v2,P2)],rfl,rfl⟩,⟨rfl,L,rfl,rfl⟩,⟨rfl,M,rfl,rfl⟩,⟨rfl,K,rfl,rfl⟩,(Y2 [(v0,P0),(v1,P1),(v2,P2)]),(Y3 (Y7 _)),rfl,⟨rfl,[(v0,P0),(v1,P1),(v2,P2)],rfl,rfl⟩,⟨rfl,L,rfl,rfl⟩,⟨rfl,M,rfl,rfl⟩,⟨rfl,K,rfl,rfl⟩,⟨rfl,L,rfl,rfl⟩,hn,rfl,hM,hK,(J3 hH1 hH2),rfl,⟨rfl,[(v0,P0),(v1,P1),(v2,P2)],rfl,rfl⟩,⟨rfl,L,rfl,rfl⟩,⟨rfl,M,rfl,rfl⟩,⟨rfl,K,rfl,rfl⟩,⟨rfl,P0,rfl,rfl⟩,hn,(hrow 0 (by decide)),hM,hK,(J3 hH1 hH2),(by show -9223372036854775808≤(_:Int)∧(_:Int)≤9223372036854775807;constructor<;>decide),rfl,⟨rfl,[(v0,P0),(v1,P1),(v2,P2)],rfl,rfl⟩,⟨rfl,L,rfl,rfl⟩,⟨rfl,M,rfl,rfl⟩,⟨rfl,K,rfl,rfl⟩,⟨rfl,P1,rfl,rfl⟩,hn,(hrow 1 (by decide)),hM,hK,(J3 hH1 hH2),(by show -9223372036854775808≤(_:Int)∧(_:Int)≤9223372036854775807;constructor<;>decide),rfl,⟨rfl,[(v0,P0),(v1,P1),(v2,P2)],rfl,rfl⟩,⟨rfl,L,rfl,rfl⟩,⟨rfl,M,rfl,rfl⟩,⟨rfl,K,rfl,rfl⟩,⟨rfl,P2,rfl,rfl⟩,hn,(hrow 2 (by decide)),hM,hK,(J3 hH1 hH2),(by show -9223372036854775808≤(_:Int)∧(_:Int)≤9223372036854775807;constructor<;>decide),rfl,(by show 0+3*(0+1)≤3;decide),(by rw [Y5,Y0];omega),(by rw [Y5,Y0];omega),(by rw [Y5,Y0];omega),(by rw [Y5,Y0];omega),⟨rfl,[(v0,P0),(v1,P1),(v2,P2)],rfl,rfl⟩,⟨rfl,L,rfl,rfl⟩,⟨rfl,M,rfl,rfl⟩,⟨rfl,K,rfl,rfl⟩,hn.2,⟨rfl,_,W4,(Y0 _ _).symm⟩,⟨rfl,_,W4,(Y0 _ _).symm⟩,⟨rfl,_,W4,(Y0 _ _).symm⟩,⟨rfl,_,W4,(Y0 _ _).symm⟩,rfl,rfl,rfl,rfl,hM,hK,rfl,(by rw [W4,W4,W4,W4];exact a3w (hcur 0 (by decide)) (hcur 1 (by decide)) (hcur 2 (by decide)) hlam),(J3 hH1 hH2),(by rw [hqsuo3_1];rfl),rfl,trivial⟩ rfl) (Hd.en_eq (r:=(.int .i64 19)) (by (rw [c7c (c1S hqsuo3_1)])) (Hd.en_ret (v:=(nN 19)) (by kernel_rfl) rfl))
theorem c1i(y v0:Value)(P0:List (Int×Int))(v1:Value)(P1:List (Int×Int))(v2:Value)(P2:List (Int×Int))(yl:Value)(L:List (Int×Int))(z:Value)(M:List Int)(zk:Value)(K:List Int)(hC:E4 [.xl v0 P0.length 2 (cR P0),.xl v1 P1.length 2 (cR P1),.xl v2 P2.length 2 (cR P2)] 3 (cR L) L.length=0)(hH1:G4 L.length (cI M) M.length=0)(hH2:G4 L.length (cI K) K.length=0):GivesA zP0q 27 [(.agg [.xl y 3 1 [.xl v0 P0.length 2 (cR P0),.xl v1 P1.length 2 (cR P1),.xl v2 P2.length 2 (cR P2)],.xl yl L.length 2 (cR L)]),(.xl z M.length 1 (cI M)),(.xl zk K.length 1 (cI K))] (.int .i64 (suN (cR P0) (cR P1) (cR P2) (cR L) (X5 (cI M) (cI K) L.length) L.length)) :=
 S9 27 Try.func27 (by kernel_rfl) (by kernel_rfl) (by kernel_rfl) (fun w=>V2 (by kernel_rfl) (by kernel_rfl) (by kernel_rfl) (by kernel_rfl) (c67 y v0 P0 v1 P1 v2 P2 yl L z M zk K hC hH1 hH2 w []))
end
end Go.Proofs.Ytegmogadbnfbgaa
namespace Go.Proofs.Ytegmogadbnfbgaa
open Go Ev
noncomputable section
end
end Go.Proofs.Ytegmogadbnfbgaa
namespace Go.Proofs.Ytegmogadbnfbgaa
open Go Ev
noncomputable section
def c9s:List AV→List AB→Option ((AV×List AB)×List Prop):=fun args xs =>
 match args,xs with
 |[.agg [.xl y m k1 [.xl v0 n0 j0 c0,.xl v1 n1 j1 c1,.xl v2 n2 j2 c2],.xl yl n k2 cL],.xl z r k5 cM,.xl zk s k6 cK],[]=>some ((.tup [.slu 0 0 3 0,.v (.int .i64 0)],[.row [.v (.int .i64 (S7 c0 c1 c2 cL (X5 cM cK n) n false 0)),.v (.int .i64 (S7 c0 c1 c2 cL (X5 cM cK n) n true 0)),.v (.int .i64 (S7 c0 c1 c2 cL (X5 cM cK n) n false 1)),.v (.int .i64 (S7 c0 c1 c2 cL (X5 cM cK n) n true 1)),.v (.int .i64 (S7 c0 c1 c2 cL (X5 cM cK n) n false 2)),.v (.int .i64 (S7 c0 c1 c2 cL (X5 cM cK n) n true 2))] 65 2]),[Is1 k1,Is3 m,W8 j0 n0 c0,W8 j1 n1 c1,W8 j2 n2 c2,W8 k2 n cL,Q3 k5 r cM,Q3 k6 s cK,E4 [.xl v0 n0 j0 c0,.xl v1 n1 j1 c1,.xl v2 n2 j2 c2] m cL n=0,G4 n cM r=0,G4 n cK s=0])
 |_,_=>none
def c89:N4:=a7V 24 c9s
theorem b5H:Known zP0q (clsO c89):=a1c (fun args xs r ys ps h hp=>by
 unfold c9s at h
 split at h
 ·cases h
  obtain ⟨rfl,rfl,⟨rfl,P0,rfl,rfl⟩,⟨rfl,P1,rfl,rfl⟩,⟨rfl,P2,rfl,rfl⟩,⟨rfl,L,rfl,rfl⟩,⟨rfl,M,rfl,rfl⟩,⟨rfl,K,rfl,rfl⟩,h1,h2,h3,-⟩:=hp
  exact ⟨fun x hx=>absurd hx List.not_mem_nil,fun x hx=>by rw [List.mem_singleton.1 hx];exact K4 (Y3 (show N7 [.v (.int .i64 (S7 (cR P0) (cR P1) (cR P2) (cR L) (X5 (cI M) (cI K) L.length) L.length false 0)),.v (.int .i64 (S7 (cR P0) (cR P1) (cR P2) (cR L) (X5 (cI M) (cI K) L.length) L.length true 0)),.v (.int .i64 (S7 (cR P0) (cR P1) (cR P2) (cR L) (X5 (cI M) (cI K) L.length) L.length false 1)),.v (.int .i64 (S7 (cR P0) (cR P1) (cR P2) (cR L) (X5 (cI M) (cI K) L.length) L.length true 1)),.v (.int .i64 (S7 (cR P0) (cR P1) (cR P2) (cR L) (X5 (cI M) (cI K) L.length) L.length false 2)),.v (.int .i64 (S7 (cR P0) (cR P1) (cR P2) (cR L) (X5 (cI M) (cI K) L.length) L.length true 2))]=some _ from rfl)),c2g _ _ P0 _ P1 _ P2 _ L _ M _ K h1 h2 h3⟩
 ·cases h)
def c8f:List AV→Option (g8×List Prop):=fun vs =>
 match vs with
 |[.agg [.xl y m k1 [.xl v0 n0 j0 c0,.xl v1 n1 j1 c1,.xl v2 n2 j2 c2],.xl yl n k2 cL],.xl z r k5 cM,.xl zk s k6 cK]=>some (.val (.v (.int .i64 (suN c0 c1 c2 cL (X5 cM cK n) n))),[Is1 k1,Is3 m,W8 j0 n0 c0,W8 j1 n1 c1,W8 j2 n2 c2,W8 k2 n cL,Q3 k5 r cM,Q3 k6 s cK,E4 [.xl v0 n0 j0 c0,.xl v1 n1 j1 c1,.xl v2 n2 j2 c2] m cL n=0,G4 n cM r=0,G4 n cK s=0])
 |_=>none
def c96:N4:=v8 27 c8f
theorem b64:Known zP0q (clsO c96):=G6 (fun vs r ps h hp=>by
 unfold c8f at h
 split at h
 ·cases h
  obtain ⟨rfl,rfl,⟨rfl,P0,rfl,rfl⟩,⟨rfl,P1,rfl,rfl⟩,⟨rfl,P2,rfl,rfl⟩,⟨rfl,L,rfl,rfl⟩,⟨rfl,M,rfl,rfl⟩,⟨rfl,K,rfl,rfl⟩,h1,h2,h3,-⟩:=hp
  exact ⟨W5 (n6 (W5 (R3 (H5 [(_,P0),(_,P1),(_,P2)])) (W5 (R3 (U7 (Y7 L))) Q9))) (W5 (R3 (U7 (Z5 M))) (W5 (R3 (U7 (Z5 K))) Q9)),_,rfl,c1i _ _ P0 _ P1 _ P2 _ L _ M _ K h1 h2 h3⟩
 ·cases h)
end
end Go.Proofs.Ytegmogadbnfbgaa
namespace Go.Proofs.Ytegmogadbnfbgaa
open Go Ev
noncomputable section
def trS:List AV→List AB→Option ((AV×List AB)×List Prop):=fun args xs =>
 match args,xs with
 |[.agg [.xl y m k1 [.xl v0 n0 j0 c0,.xl v1 n1 j1 c1,.xl v2 n2 j2 c2],.xl yl n k2 cL],.xl zb j k3 cB],[]=>some ((.agg [.slu 0 0 3 0,.slu 1 0 n 0],[.row [.slu 2 0 n 0,.slu 3 0 n 0,.slu 4 0 n 0] 27 1,.row (cI (tI (V0 cL cB j 0) n)) 2 1,.row (cI (tI (V0 c0 cB j n) n)) 2 1,.row (cI (tI (V0 c1 cB j (2*n)) n)) 2 1,.row (cI (tI (V0 c2 cB j (3*n)) n)) 2 1]),[Is1 k1,Is3 m,W8 j0 n0 c0,W8 j1 n1 c1,W8 j2 n2 c2,W8 k2 n cL,IsH k3 j cB,E4 [.xl v0 n0 j0 c0,.xl v1 n1 j1 c1,.xl v2 n2 j2 c2] m cL n=0])
 |_,_=>none
def trO:N4:=b84 43 [] [0] trS
theorem b7c:Known zP0q (clsO trO):=b58 (fun args xs r ys ps h hp=>by
 unfold trS at h
 split at h
 ·cases h
  obtain ⟨rfl,rfl,⟨rfl,P0,rfl,rfl⟩,⟨rfl,P1,rfl,rfl⟩,⟨rfl,P2,rfl,rfl⟩,⟨rfl,L,rfl,rfl⟩,⟨rfl,B,rfl,rfl,hB⟩,hC,-⟩:=hp
  rename_i y v0 v1 v2 yl zb
  obtain ⟨hn,-,hrow,hlam,hcur⟩:=S8 hC
  obtain ⟨n,hL⟩:∃ n,L.length=n+1:=⟨L.length - 1,by omega⟩
  refine ⟨fun i x hi hx=>by simp at hx,fun i x hi hx=>?_,?_⟩
  ·match i,hi with
   |1,_=>cases hx;exact K4 (Y3 (Z5 _))
   |2,_=>cases hx;exact K4 (Y3 (Z5 _))
   |3,_=>cases hx;exact K4 (Y3 (Z5 _))
   |4,_=>cases hx;exact K4 (Y3 (Z5 _))
   |i+5,_=>simp at hx
  ·have hg:=d0x y v0 P0 v1 P1 v2 P2 yl L zb B n ⟨hL,by omega,(hrow 0 (by decide)).trans hL,(hrow 1 (by decide)).trans hL,(hrow 2 (by decide)).trans hL,fun b hb=>hlam b (by omega),fun b hb=>hcur 0 (by decide) b (by omega),fun b hb=>hcur 1 (by decide) b (by omega),fun b hb=>hcur 2 (by decide) b (by omega)⟩ hB
   rw [← hL] at hg
   exact hg
 ·cases h)
end
end Go.Proofs.Ytegmogadbnfbgaa
namespace Go.Proofs.Ytegmogadbnfbgaa
open Go Ev
noncomputable section
theorem b7x{c0 c1 c2 cL cM cK:List AV}{n:Nat}(hc0:∀ b,b<n→X7 100 c0 b)(hc1:∀ b,b<n→X7 100 c1 b)(hc2:∀ b,b<n→X7 100 c2 b)(hL:∀ b,b<n→X7 100 cL b) :
  suN c0 c1 c2 cL (X5 cM cK n) n=0↔∀ x0 x1 x2 xL,b3E c0 c1 c2 cL x0 x1 x2 xL n→∀ k,k<3→S2 (H8 x0 x1 x2 xL cM k) n=S2 (H8 x0 x1 x2 xL cK k) n:=by
 constructor
 ·intro h x0 x1 x2 xL hx k hk
  have hz:zrB c0 c1 c2 cL (X5 cM cK n) n true∧zrB c0 c1 c2 cL (X5 cM cK n) n false:=by
   by_cases hh:zrB c0 c1 c2 cL (X5 cM cK n) n true∧zrB c0 c1 c2 cL (X5 cM cK n) n false
   ·exact hh
   ·unfold suN at h
    rw [if_neg hh] at h
    cases h
  have hs:=c0t hc0 hc1 hc2 hL hx hz.1 hz.2
  match k,hk with
  |0,_=>exact hs.1
  |1,_=>exact hs.2.1
  |2,_=>exact hs.2.2
 ·intro h
  have hz:∀ g,zrB c0 c1 c2 cL (X5 cM cK n) n g:=fun g=>by
   have hx:b3E c0 c1 c2 cL (cI (tI (X9 c0 (X5 cM cK n) g) n)) (cI (tI (X9 c1 (X5 cM cK n) g) n)) (cI (tI (X9 c2 (X5 cM cK n) g) n)) (cI (tI (X9 cL (X5 cM cK n) g) n)) n:=⟨fun b hb=>a5I hb (hL b hb),fun b hb=>a5I hb (hc0 b hb),fun b hb=>a5I hb (hc1 b hb),fun b hb=>a5I hb (hc2 b hb)⟩
   have e:=h _ _ _ _ hx
   unfold zrB S7
   rw [← b04,← b04,← b04]
   have e0:=e 0 (by decide)
   have e1:=e 1 (by decide)
   have e2:=e 2 (by decide)
   exact ⟨by omega,by omega,by omega⟩
  exact b6J (hz true) (hz false)
section
variable {c0 c1 c2 cL a b x y : List AV} {n : Nat}
end
end
end Go.Proofs.Ytegmogadbnfbgaa
namespace Go.Proofs.Ytegmogadbnfbgaa
open Go Ev
noncomputable section
end
end Go.Proofs.Ytegmogadbnfbgaa
namespace Go.Proofs.Ytegmogadbnfbgaa.Ev
open Go
noncomputable section
variable {P : Program} {sz : Nat} {w0 : BaseW}
end
end Go.Proofs.Ytegmogadbnfbgaa.Ev
namespace Go.Proofs.Ytegmogadbnfbgaa
open Go Ev
noncomputable section
end
end Go.Proofs.Ytegmogadbnfbgaa
namespace Go.Proofs.Ytegmogadbnfbgaa
open Go Ev
noncomputable section
end
end Go.Proofs.Ytegmogadbnfbgaa
namespace Go.Proofs.Ytegmogadbnfbgaa
open Go Ev
noncomputable section
def c8x:List AV→List AB→Option ((AV×List AB)×List Prop):=fun args xs =>
 match args,xs with
 |[.agg [.xl y m k1 [.xl v0 n0 j0 c0,.xl v1 n1 j1 c1,.xl v2 n2 j2 c2],.xl yl n k2 cL],.xl z r k5 cM],[]=>some ((.tup [.slu 0 0 3 0,.v (.int .i64 0)],[.row [.v (.int .i64 (S7 c0 c1 c2 cL cM n false 0)),.v (.int .i64 (S7 c0 c1 c2 cL cM n true 0)),.v (.int .i64 (S7 c0 c1 c2 cL cM n false 1)),.v (.int .i64 (S7 c0 c1 c2 cL cM n true 1)),.v (.int .i64 (S7 c0 c1 c2 cL cM n false 2)),.v (.int .i64 (S7 c0 c1 c2 cL cM n true 2))] 65 2]),[Is1 k1,Is3 m,W8 j0 n0 c0,W8 j1 n1 c1,W8 j2 n2 c2,W8 k2 n cL,Q3 k5 r cM,r≤1000,E4 [.xl v0 n0 j0 c0,.xl v1 n1 j1 c1,.xl v2 n2 j2 c2] m cL n=0,G4 n cM r=0])
 |_,_=>none
def c7v:N4:=a7V 18 c8x
theorem b6d:Known zP0q (clsO c7v):=a1c (fun args xs r ys ps h hp=>by
 unfold c8x at h
 split at h
 ·cases h
  obtain ⟨rfl,rfl,⟨rfl,P0,rfl,rfl⟩,⟨rfl,P1,rfl,rfl⟩,⟨rfl,P2,rfl,rfl⟩,⟨rfl,L,rfl,rfl⟩,⟨rfl,M,rfl,rfl⟩,h1,h2,h3,-⟩:=hp
  exact ⟨fun x hx=>absurd hx List.not_mem_nil,fun x hx=>by rw [List.mem_singleton.1 hx];exact K4 (Y3 (show N7 [.v (.int .i64 (S7 (cR P0) (cR P1) (cR P2) (cR L) (cI M) L.length false 0)),.v (.int .i64 (S7 (cR P0) (cR P1) (cR P2) (cR L) (cI M) L.length true 0)),.v (.int .i64 (S7 (cR P0) (cR P1) (cR P2) (cR L) (cI M) L.length false 1)),.v (.int .i64 (S7 (cR P0) (cR P1) (cR P2) (cR L) (cI M) L.length true 1)),.v (.int .i64 (S7 (cR P0) (cR P1) (cR P2) (cR L) (cI M) L.length false 2)),.v (.int .i64 (S7 (cR P0) (cR P1) (cR P2) (cR L) (cI M) L.length true 2))]=some _ from rfl)),b7L _ _ P0 _ P1 _ P2 _ L _ M h1 h2 h3⟩
 ·cases h)
end
end Go.Proofs.Ytegmogadbnfbgaa
namespace Go.Proofs.Ytegmogadbnfbgaa
open Go Ev
noncomputable section
end
end Go.Proofs.Ytegmogadbnfbgaa
namespace Go.Proofs.Ytegmogadbnfbgaa
open Go Ev
noncomputable section
end
end Go.Proofs.Ytegmogadbnfbgaa
namespace Go.Proofs.Ytegmogadbnfbgaa
open Go Ev
noncomputable section
def E6(cE:List AV)(m:Nat)(cL:List AV)(n:Nat)(cM:List AV)(r:Nat)(cK:List AV)(s:Nat):Bool:=decide (gwB cE m n=false∧r≤20∧s≤20∧a0H (E4 cE m cL n) (G4 n cM r) (G4 n cK s)=0)
theorem fiB_true{cE cL cM cK:List AV}{m n r s:Nat}:E6 cE m cL n cM r cK s=true↔(gwB cE m n=false∧r≤20∧s≤20∧a0H (E4 cE m cL n) (G4 n cM r) (G4 n cK s)=0):=decide_eq_true_iff
theorem c6k(y:Value)(E:List (Value×List (Int×Int)))(yl:Value)(L:List (Int×Int))(z:Value)(M:List Int)(zk:Value)(K:List Int)(_h:True):GivesA zP0q 42 [(.agg [.xl y E.length 1 (X4 E),.xl yl L.length 2 (cR L)]),(.xl z M.length 1 (cI M)),(.xl zk K.length 1 (cI K))] (.bool (E6 (X4 E) E.length (cR L) L.length (cI M) M.length (cI K) K.length)):=by
 by_cases h:gwB (X4 E) E.length L.length=false∧M.length≤20∧K.length≤20∧a0H (E4 (X4 E) E.length (cR L) L.length) (G4 L.length (cI M) M.length) (G4 L.length (cI K) K.length)=0
 ·rw [fiB_true.2 h];exact c8u y E yl L z M zk K h
 ·rw [show E6 (X4 E) E.length (cR L) L.length (cI M) M.length (cI K) K.length=false from Bool.eq_false_iff.2 (fun k=>h (fiB_true.1 k))];exact c6r y E yl L z M zk K h
def c6t:List AV→Option (g8×List Prop):=fun vs =>
 match vs with
 |[.agg [.xl y m k1 cE,.xl yl n k2 cL],.xl z r k5 cM,.xl zk s k6 cK]=>some (.val (.v (.bool (E6 cE m cL n cM r cK s))),[T8 k1 cE m,W8 k2 n cL,Q3 k5 r cM,Q3 k6 s cK,True])
 |_=>none
def c2N:N4:=v8 42 c6t
theorem a8d:Known zP0q (clsO c2N):=G6 (fun vs r ps h hp=>by
 unfold c6t at h
 split at h
 ·cases h
  obtain ⟨⟨rfl,E,rfl,rfl⟩,⟨rfl,L,rfl,rfl⟩,⟨rfl,M,rfl,rfl⟩,⟨rfl,K,rfl,rfl⟩,h1,-⟩:=hp
  exact ⟨W5 (n6 (W5 (R3 (H5 E)) (W5 (R3 (U7 (Y7 L))) Q9))) (W5 (R3 (U7 (Z5 M))) (W5 (R3 (U7 (Z5 K))) Q9)),_,rfl,c6k _ E _ L _ M _ K h1⟩
 ·cases h)
end
end Go.Proofs.Ytegmogadbnfbgaa
namespace Go.Proofs.Ytegmogadbnfbgaa
open Go Ev
noncomputable section
end
end Go.Proofs.Ytegmogadbnfbgaa
namespace Go.Proofs.Ytegmogadbnfbgaa
open Go Ev
noncomputable section
end
end Go.Proofs.Ytegmogadbnfbgaa
namespace Go.Proofs.Ytegmogadbnfbgaa
open Go Ev
noncomputable section
end
end Go.Proofs.Ytegmogadbnfbgaa
namespace Go.Proofs.Ytegmogadbnfbgaa
open Go Ev
noncomputable section
def a70(f g:Nat→Int):Nat→List (Int×Int)
 |0=>[]
 |n+1=>a70 f g n++[(f n,g n)]
theorem a1E(f g:Nat→Int):∀ n,(a70 f g n).length=n
 |0=>rfl
 |n+1=>by rw [a70,List.length_append,a1E f g n];rfl
theorem b4p(f g:Nat→Int):∀ n j,j<n→(a70 f g n)[j]? = some (f j,g j)
 |0,j,h=>absurd h (Nat.not_lt_zero j)
 |n+1,j,h=>by
  rw [a70]
  by_cases e:j<n
  ·rw [List.getElem?_append_left (by rw [a1E];exact e),b4p f g n j e]
  ·have:j=n:=by omega
   subst this
   rw [List.getElem?_append_right (by rw [a1E];exact Nat.le_refl _),a1E,Nat.sub_self]
   rfl
def tP:(Nat→Int)→(Nat→Int)→Nat→List (Int×Int):=Classical.choose (⟨a70,fun _ _ _=>rfl⟩:∃ q:(Nat→Int)→(Nat→Int)→Nat→List (Int×Int),∀ f g n,q f g n=a70 f g n)
theorem b1f(f g:Nat→Int)(n:Nat):tP f g n=a70 f g n:=Classical.choose_spec (⟨a70,fun _ _ _=>rfl⟩:∃ q:(Nat→Int)→(Nat→Int)→Nat→List (Int×Int),∀ f g n,q f g n=a70 f g n) f g n
theorem c2k:∀ L M:List (Int×Int),cR (L++M)=cR L++cR M
 |[],M=>rfl
 |q::l,M=>by
  have h:=c2k l M
  simp only [List.cons_append,cR,h]
def nwP(x y:Nat→Int)(n:Nat):List (Int×Int):=tP (fun b=>min (x b) (y b)) (fun b=>max (x b) (y b)) n
theorem c5P{x y:Nat→Int}{n:Nat}:(nwP x y n).length=n:=by unfold nwP;rw [b1f,a1E]
theorem b9m{x y:Nat→Int}{b:Nat}{lo hi:Int}(h1:lo=min (x b) (y b))(h2:hi=max (x b) (y b)):cR (nwP x y b)++[.v (.int .i64 lo),.v (.int .i64 hi)]=cR (nwP x y (b+1)):=by
 unfold nwP
 rw [b1f,b1f,a70,c2k,h1,h2]
 rfl
theorem c44{x y:Nat→Int}{lo hi:Int}(h1:lo=min (x 0) (y 0))(h2:hi=max (x 0) (y 0)):[AV.v (.int .i64 lo),.v (.int .i64 hi)]=cR (nwP x y (0+1)):=by
 rw [← b9m (b:=0) h1 h2]
 unfold nwP
 rw [b1f]
 rfl
theorem b59{x y:Nat→Int}{n b:Nat}(hb:b<n):Z8 (cR (nwP x y n)) (b*2+0)=min (x b) (y b)∧Z8 (cR (nwP x y n)) (b*2+1)=max (x b) (y b):=by
 have h:(nwP x y n)[b]? = some (min (x b) (y b),max (x b) (y b)):=by unfold nwP;rw [b1f];exact b4p _ _ n b hb
 exact b2e h
theorem a9Z{x:Nat→Int}{n b:Nat}(hb:b<n):Z8 (cI (tI x n)) (b*1)=x b:=by rw [Nat.mul_one,w9 hb]
def SbR(c d:List AV)(n:Nat):Prop:=∀ b,b<n→Z8 c (b*2+0)≤Z8 d (b*2+0)∧Z8 d (b*2+1)≤Z8 c (b*2+1)
theorem c3X{c:List AV}{x y:Nat→Int}{n:Nat}(hx:∀ b,b<n→a1g c (cI (tI x n)) b)(hy:∀ b,b<n→a1g c (cI (tI y n)) b):SbR c (cR (nwP x y n)) n:=fun b hb=>by
 have h1:=hx b hb
 have h2:=hy b hb
 unfold a1g at h1 h2
 rw [a9Z hb] at h1 h2
 rw [(b59 hb).1,(b59 hb).2]
 omega
theorem c3z{c:List AV}{x y:Nat→Int}{n:Nat}(hc:∀ b,b<n→X7 100 c b)(hx:∀ b,b<n→a1g c (cI (tI x n)) b)(hy:∀ b,b<n→a1g c (cI (tI y n)) b):∀ b,b<n→X7 100 (cR (nwP x y n)) b:=fun b hb=>by
 have h0:=hc b hb
 have h1:=hx b hb
 have h2:=hy b hb
 unfold a1g at h1 h2
 rw [a9Z hb] at h1 h2
 unfold X7 at h0 ⊢
 rw [(b59 hb).1,(b59 hb).2]
 omega
theorem b5k{c d x:List AV}{n b:Nat}(hs:SbR c d n)(hb:b<n)(h:a1g d x b):a1g c x b:=by
 have:=hs b hb
 unfold a1g at h ⊢
 omega
section
variable {c0 c1 c2 cL d0 d1 d2 dL cM cK : List AV} {n : Nat}
theorem a9U(s0:SbR c0 d0 n)(s1:SbR c1 d1 n)(s2:SbR c2 d2 n)(sL:SbR cL dL n){x0 x1 x2 xL:List AV}(h:b3E d0 d1 d2 dL x0 x1 x2 xL n):b3E c0 c1 c2 cL x0 x1 x2 xL n :=
 ⟨fun b hb=>b5k sL hb (h.1 b hb),fun b hb=>b5k s0 hb (h.2.1 b hb),fun b hb=>b5k s1 hb (h.2.2.1 b hb),fun b hb=>b5k s2 hb (h.2.2.2 b hb)⟩
theorem b70{g:Bool}(hd0:∀ b,b<n→X7 100 d0 b)(hd1:∀ b,b<n→X7 100 d1 b)(hd2:∀ b,b<n→X7 100 d2 b)(hdL:∀ b,b<n→X7 100 dL b):b3E d0 d1 d2 dL (cI (tI (X9 d0 cM g) n)) (cI (tI (X9 d1 cM g) n)) (cI (tI (X9 d2 cM g) n)) (cI (tI (X9 dL cM g) n)) n :=
 ⟨fun b hb=>a5I hb (hdL b hb),fun b hb=>a5I hb (hd0 b hb),fun b hb=>a5I hb (hd1 b hb),fun b hb=>a5I hb (hd2 b hb)⟩
theorem b5I(hc0:∀ b,b<n→X7 100 c0 b)(hc1:∀ b,b<n→X7 100 c1 b)(hc2:∀ b,b<n→X7 100 c2 b)(hcL:∀ b,b<n→X7 100 cL b)(hd0:∀ b,b<n→X7 100 d0 b)(hd1:∀ b,b<n→X7 100 d1 b)(hd2:∀ b,b<n→X7 100 d2 b)(hdL:∀ b,b<n→X7 100 dL b)(s0:SbR c0 d0 n)(s1:SbR c1 d1 n)(s2:SbR c2 d2 n)(sL:SbR cL dL n):∀ k,k<3→S7 c0 c1 c2 cL cM n false k≤S7 d0 d1 d2 dL cM n false k∧S7 d0 d1 d2 dL cM n true k≤S7 c0 c1 c2 cL cM n true k∧S7 d0 d1 d2 dL cM n false k≤S7 d0 d1 d2 dL cM n true k:=fun k hk=>by
 have hf:=a9l (cM:=cM) hc0 hc1 hc2 hcL (a9U s0 s1 s2 sL (b70 (cM:=cM) (g:=false) hd0 hd1 hd2 hdL)) k hk
 have ht:=a9l (cM:=cM) hc0 hc1 hc2 hcL (a9U s0 s1 s2 sL (b70 (cM:=cM) (g:=true) hd0 hd1 hd2 hdL)) k hk
 have hb:=a9l (cM:=cM) hd0 hd1 hd2 hdL (b70 (cM:=cM) (g:=false) hd0 hd1 hd2 hdL) k hk
 exact ⟨hf.1,ht.2,hb.2⟩
theorem b67(hc0:∀ b,b<n→X7 100 c0 b)(hc1:∀ b,b<n→X7 100 c1 b)(hc2:∀ b,b<n→X7 100 c2 b)(hcL:∀ b,b<n→X7 100 cL b)(hd0:∀ b,b<n→X7 100 d0 b)(hd1:∀ b,b<n→X7 100 d1 b)(hd2:∀ b,b<n→X7 100 d2 b)(hdL:∀ b,b<n→X7 100 dL b)(s0:SbR c0 d0 n)(s1:SbR c1 d1 n)(s2:SbR c2 d2 n)(sL:SbR cL dL n)(h:suN c0 c1 c2 cL (X5 cM cK n) n=0):suN d0 d1 d2 dL (X5 cM cK n) n=0 :=
 (b7x hd0 hd1 hd2 hdL).2 (fun x0 x1 x2 xL hx k hk=>(b7x hc0 hc1 hc2 hcL).1 h x0 x1 x2 xL (a9U s0 s1 s2 sL hx) k hk)
end
theorem G0{L:List (Int×Int)}{n:Nat}(h:L.length=n):List.take (n*(1+1)) (List.drop 0 (cR L))=cR L:=by
 rw [List.drop_zero,List.take_of_length_le (by rw [Y8];omega)]
def b07(c0:List AV)(n0:Nat)(c1:List AV)(n1:Nat)(c2:List AV)(n2:Nat)(cL:List AV)(n:Nat):Prop:=(1≤n∧n≤8)∧n0=n∧n1=n∧n2=n∧(∀ b,b<n→X7 100 cL b)∧(∀ b,b<n→X7 100 c0 b)∧(∀ b,b<n→X7 100 c1 b)∧∀ b,b<n→X7 100 c2 b
theorem b9l{c0 c1 c2 cL:List AV}{n0 n1 n2 n:Nat}{v0 v1 v2:Value}(h:b07 c0 n0 c1 n1 c2 n2 cL n):E4 [.xl v0 n0 2 c0,.xl v1 n1 2 c1,.xl v2 n2 2 c2] 3 cL n=0 :=
 b4g h.1 (eyB_true.2 ⟨rfl,fun i hi=>by match i,hi with|0,_=>exact h.2.1|1,_=>exact h.2.2.1|2,_=>exact h.2.2.2.1⟩) (allB_true.2 h.2.2.2.2.1) (fun i hi=>by match i,hi with|0,_=>exact allB_true.2 h.2.2.2.2.2.1|1,_=>exact allB_true.2 h.2.2.2.2.2.2.1|2,_=>exact allB_true.2 h.2.2.2.2.2.2.2)
end
end Go.Proofs.Ytegmogadbnfbgaa
namespace Go.Proofs.Ytegmogadbnfbgaa
open Go Ev
noncomputable section
noncomputable def d06:Code:=N6 Try.f44
set_option maxHeartbeats 16000000 in
theorem d0I(a0 a1 a2 a3:Int)(h:a2≤a0∧a1≤a3∧a0≤a1)(w:World)(hs:List Nat):Y6 zP0q 24 d06 (⟨[(0,(.agg [nI0 a0,nI0 a1])),(1,(.agg [nI0 a2,nI0 a3]))],[],0,[]⟩) (BaseW.H w hs) (H2 zP0q Try.f44 24 (.bool true) w):=by
 rcases zB0q (Y1 a0 a2) with hqin3_1|hqin3_1
 ·have ghqin3_1:=W7 hqin3_1
  exfalso
  have h9:=W7 hqin3_1
  omega
 ·have ghqin3_1:=Z4 hqin3_1
  rcases zB0q (Y1 a3 a1) with hqin3_2|hqin3_2
  ·have ghqin3_2:=W7 hqin3_2
   exfalso
   have h9:=W7 hqin3_2
   omega
  ·have ghqin3_2:=Z4 hqin3_2
   exact Z6 U0 (Z2 zC0q (Y4) 200 (T':=⟨[(4,(.v (.bool (!Y1 a1 a0))))],[],2,[]⟩) (e:=.ret) (ps:=[(!Y1 a0 a2)=true,true=true,true=true,true=true,true=true,(!Y1 a3 a1)=true,true=true,true=true,true=true,true=true]) (gH 9 [.b true,.go,.b true,.go,.b true,.go,.b true,.go,.b true,.go,.go,.go,.b true,.go,.b true,.go,.b true,.go,.b true,.go,.b true,.go,.go,.go]) (by kernel_rfl) (by kernel_rfl) ⟨(by rw [hqin3_1];rfl),rfl,rfl,rfl,rfl,(by rw [hqin3_2];rfl),rfl,rfl,rfl,rfl,trivial⟩ rfl) (Hd.en_eq (r:=(.bool (!Y1 a1 a0))) (by (rw [a9A];simp;omega)) (Hd.en_ret (v:=(.v (.bool (!Y1 a1 a0)))) (by kernel_rfl) rfl))
theorem c6L(a0 a1 a2 a3:Int)(h:a2≤a0∧a1≤a3∧a0≤a1):GivesA zP0q 44 [(.agg [nI0 a0,nI0 a1]),(.agg [nI0 a2,nI0 a3])] (.bool true) :=
 S9 24 Try.func44 (by kernel_rfl) (by kernel_rfl) (by kernel_rfl) (fun w=>V2 (by kernel_rfl) (by kernel_rfl) (by kernel_rfl) (by kernel_rfl) (d0I a0 a1 a2 a3 h w []))
end
end Go.Proofs.Ytegmogadbnfbgaa
namespace Go.Proofs.Ytegmogadbnfbgaa
open Go Ev
noncomputable section
def c9j:List AV→Option (g8×List Prop):=fun vs =>
 match vs with
 |[.agg [.v u0,.v u1],.agg [.v u2,.v u3]]=>match a1N u0,a1N u1,a1N u2,a1N u3 with
  |some a0,some a1,some a2,some a3=>some (.val (.v (.bool true)),[a2≤a0∧a1≤a3∧a0≤a1])
  |_,_,_,_=>none
 |_=>none
def c7N:N4:=v8 44 c9j
theorem b62:Known zP0q (clsO c7N):=G6 (fun vs r ps h hp=>by
 unfold c9j at h
 split at h
 ·split at h
  ·rename_i a0 a1 a2 a3 e0 e1 e2 e3
   cases h
   rw [D9 e0,D9 e1,D9 e2,D9 e3]
   exact ⟨W5 (n6 (W5 (a0n _) (W5 (a0n _) Q9))) (W5 (n6 (W5 (a0n _) (W5 (a0n _) Q9))) Q9),_,rfl,c6L a0 a1 a2 a3 hp.1⟩
  ·cases h
 ·cases h)
def c8K:List Yw→Option (g8×List Prop):=fun vs =>
 match vs with
 |[.str [.lls mx k3 rows,.lst nx k4 cL],.one (.ext a2)]=>match rows,a2 with
  |[(n0,c0),(n1,c1),(n2,c2)],.xl z r k5 cM=>some (.blk (fun b=>.tup [.slu b 0 3 0,.v (.int .i64 0)]) (.row [.v (.int .i64 (S7 c0 c1 c2 cL cM nx false 0)),.v (.int .i64 (S7 c0 c1 c2 cL cM nx true 0)),.v (.int .i64 (S7 c0 c1 c2 cL cM nx false 1)),.v (.int .i64 (S7 c0 c1 c2 cL cM nx true 1)),.v (.int .i64 (S7 c0 c1 c2 cL cM nx false 2)),.v (.int .i64 (S7 c0 c1 c2 cL cM nx true 2))] 65 2),[W8 k3 n0 c0,W8 k3 n1 c1,W8 k3 n2 c2,W8 k4 nx cL,Q3 k5 r cM,Is3 mx,b07 c0 n0 c1 n1 c2 n2 cL nx,G4 nx cM r=0,r≤1000])
  |_,_=>none
 |_=>none
def c7p:N4:=a0E 18 [.str [.lls 1,.lst 1],.one .ext] c8K
theorem b5G:Known zP0q (clsO c7p):=p9 (fun vs r ps h hp=>by
 unfold c8K at h
 split at h
 ·split at h
  ·cases h
   obtain ⟨⟨rfl,P0,rfl,rfl⟩,⟨-,P1,rfl,rfl⟩,⟨-,P2,rfl,rfl⟩,⟨rfl,L,rfl,rfl⟩,⟨rfl,M,rfl,rfl⟩,rfl,hS,hH1,hH2,-⟩:=hp
   refine ⟨⟨⟨⟨⟨_,Y7 P0⟩,⟨_,Y7 P1⟩,⟨_,Y7 P2⟩,trivial⟩,⟨_,Y7 L⟩,trivial⟩,R3 (U7 (Z5 M)),trivial⟩,⟨[[[undef,undef,undef,undef],[undef]],[[]]],⟨⟨rfl,trivial,trivial⟩,trivial,trivial⟩⟩,fun ys hy=>?_⟩
   match ys,hy with
   |[[[u,w0,w1,w2],us],zs2],_ =>
    have hC:=b9l (v0:=w0) (v1:=w1) (v2:=w2) hS
    exact a0K (b7L u w0 P0 w1 P1 w2 P2 (us.headD undef) L _ M hH2 hC hH1) (b0z _ _ (show N7 [.v (.int .i64 (S7 (cR P0) (cR P1) (cR P2) (cR L) (cI M) L.length false 0)),.v (.int .i64 (S7 (cR P0) (cR P1) (cR P2) (cR L) (cI M) L.length true 0)),.v (.int .i64 (S7 (cR P0) (cR P1) (cR P2) (cR L) (cI M) L.length false 1)),.v (.int .i64 (S7 (cR P0) (cR P1) (cR P2) (cR L) (cI M) L.length true 1)),.v (.int .i64 (S7 (cR P0) (cR P1) (cR P2) (cR L) (cI M) L.length false 2)),.v (.int .i64 (S7 (cR P0) (cR P1) (cR P2) (cR L) (cI M) L.length true 2))]=some _ from rfl))
  ·cases h
 ·cases h)
def c6b:List Yw→Option (g8×List Prop):=fun vs =>
 match vs with
 |[.str [.lls mx k3 rows,.lst nx k4 cL],.one (.ext a2),.one (.ext a3)]=>match rows,a2,a3 with
  |[(n0,c0),(n1,c1),(n2,c2)],.xl z r k5 cM,.xl zk s k6 cK=>some (.blk (fun b=>.tup [.slu b 0 3 0,.v (.int .i64 0)]) (.row [.v (.int .i64 (S7 c0 c1 c2 cL (X5 cM cK nx) nx false 0)),.v (.int .i64 (S7 c0 c1 c2 cL (X5 cM cK nx) nx true 0)),.v (.int .i64 (S7 c0 c1 c2 cL (X5 cM cK nx) nx false 1)),.v (.int .i64 (S7 c0 c1 c2 cL (X5 cM cK nx) nx true 1)),.v (.int .i64 (S7 c0 c1 c2 cL (X5 cM cK nx) nx false 2)),.v (.int .i64 (S7 c0 c1 c2 cL (X5 cM cK nx) nx true 2))] 65 2),[W8 k3 n0 c0,W8 k3 n1 c1,W8 k3 n2 c2,W8 k4 nx cL,Q3 k5 r cM,Q3 k6 s cK,Is3 mx,b07 c0 n0 c1 n1 c2 n2 cL nx,G4 nx cM r=0,G4 nx cK s=0])
  |_,_,_=>none
 |_=>none
def c94:N4:=a0E 24 [.str [.lls 1,.lst 1],.one .ext,.one .ext] c6b
theorem b5R:Known zP0q (clsO c94):=p9 (fun vs r ps h hp=>by
 unfold c6b at h
 split at h
 ·split at h
  ·cases h
   obtain ⟨⟨rfl,P0,rfl,rfl⟩,⟨-,P1,rfl,rfl⟩,⟨-,P2,rfl,rfl⟩,⟨rfl,L,rfl,rfl⟩,⟨rfl,M,rfl,rfl⟩,⟨rfl,K,rfl,rfl⟩,rfl,hS,hH1,hH2,-⟩:=hp
   refine ⟨⟨⟨⟨⟨_,Y7 P0⟩,⟨_,Y7 P1⟩,⟨_,Y7 P2⟩,trivial⟩,⟨_,Y7 L⟩,trivial⟩,R3 (U7 (Z5 M)),R3 (U7 (Z5 K)),trivial⟩,⟨[[[undef,undef,undef,undef],[undef]],[[]],[[]]],⟨⟨rfl,trivial,trivial⟩,trivial,trivial,trivial⟩⟩,fun ys hy=>?_⟩
   match ys,hy with
   |[[[u,w0,w1,w2],us],zs2,zs3],_ =>
    have hC:=b9l (v0:=w0) (v1:=w1) (v2:=w2) hS
    exact a0K (c2g u w0 P0 w1 P1 w2 P2 (us.headD undef) L _ M _ K hC hH1 hH2) (b0z _ _ (show N7 [.v (.int .i64 (S7 (cR P0) (cR P1) (cR P2) (cR L) (X5 (cI M) (cI K) L.length) L.length false 0)),.v (.int .i64 (S7 (cR P0) (cR P1) (cR P2) (cR L) (X5 (cI M) (cI K) L.length) L.length true 0)),.v (.int .i64 (S7 (cR P0) (cR P1) (cR P2) (cR L) (X5 (cI M) (cI K) L.length) L.length false 1)),.v (.int .i64 (S7 (cR P0) (cR P1) (cR P2) (cR L) (X5 (cI M) (cI K) L.length) L.length true 1)),.v (.int .i64 (S7 (cR P0) (cR P1) (cR P2) (cR L) (X5 (cI M) (cI K) L.length) L.length false 2)),.v (.int .i64 (S7 (cR P0) (cR P1) (cR P2) (cR L) (X5 (cI M) (cI K) L.length) L.length true 2))]=some _ from rfl))
  ·cases h
 ·cases h)
def c76:List Yw→Option (g8×List Prop):=fun vs =>
 match vs with
 |[.str [.lls mx k3 rows,.lst nx k4 cL],.one (.ext a2),.one (.ext a3)]=>match rows,a2,a3 with
  |[(n0,c0),(n1,c1),(n2,c2)],.xl z r k5 cM,.xl zk s k6 cK=>some (.val (.v (.int .i64 (suN c0 c1 c2 cL (X5 cM cK nx) nx))),[W8 k3 n0 c0,W8 k3 n1 c1,W8 k3 n2 c2,W8 k4 nx cL,Q3 k5 r cM,Q3 k6 s cK,Is3 mx,b07 c0 n0 c1 n1 c2 n2 cL nx,G4 nx cM r=0,G4 nx cK s=0])
  |_,_,_=>none
 |_=>none
def c8Y:N4:=a0E 27 [.str [.lls 1,.lst 1],.one .ext,.one .ext] c76
theorem b5M:Known zP0q (clsO c8Y):=p9 (fun vs r ps h hp=>by
 unfold c76 at h
 split at h
 ·split at h
  ·cases h
   obtain ⟨⟨rfl,P0,rfl,rfl⟩,⟨-,P1,rfl,rfl⟩,⟨-,P2,rfl,rfl⟩,⟨rfl,L,rfl,rfl⟩,⟨rfl,M,rfl,rfl⟩,⟨rfl,K,rfl,rfl⟩,rfl,hS,hH1,hH2,-⟩:=hp
   refine ⟨⟨⟨⟨⟨_,Y7 P0⟩,⟨_,Y7 P1⟩,⟨_,Y7 P2⟩,trivial⟩,⟨_,Y7 L⟩,trivial⟩,R3 (U7 (Z5 M)),R3 (U7 (Z5 K)),trivial⟩,⟨[[[undef,undef,undef,undef],[undef]],[[]],[[]]],⟨⟨rfl,trivial,trivial⟩,trivial,trivial,trivial⟩⟩,fun ys hy=>?_⟩
   match ys,hy with
   |[[[u,w0,w1,w2],us],zs2,zs3],_ =>
    have hC:=b9l (v0:=w0) (v1:=w1) (v2:=w2) hS
    exact ⟨_,rfl,c1i u w0 P0 w1 P1 w2 P2 (us.headD undef) L _ M _ K hC hH1 hH2⟩
  ·cases h
 ·cases h)
end
end Go.Proofs.Ytegmogadbnfbgaa
namespace Go.Proofs.Ytegmogadbnfbgaa
open Go Ev
noncomputable section
def M9(P:List (Int×Int))(B D:List Int)(o n:Nat):List (Int×Int):=nwP (V0 (cR P) (cH B) B.length o) (V0 (cR P) (cH D) D.length o) n
theorem nwR_len{P:List (Int×Int)}{B D:List Int}{o n:Nat}:(M9 P B D o n).length=n:=c5P
theorem c13{P:List (Int×Int)}{B D:List Int}{o b:Nat}{lo hi:Int}(h1:lo=min (V0 (cR P) (cH B) B.length o b) (V0 (cR P) (cH D) D.length o b))(h2:hi=max (V0 (cR P) (cH B) B.length o b) (V0 (cR P) (cH D) D.length o b)):cR (M9 P B D o b)++[.v (.int .i64 lo),.v (.int .i64 hi)]=cR (M9 P B D o (b+1)):=b9m h1 h2
theorem c0d{P:List (Int×Int)}{B D:List Int}{o:Nat}{lo hi:Int}(h1:lo=min (V0 (cR P) (cH B) B.length o 0) (V0 (cR P) (cH D) D.length o 0))(h2:hi=max (V0 (cR P) (cH B) B.length o 0) (V0 (cR P) (cH D) D.length o 0)):[AV.v (.int .i64 lo),.v (.int .i64 hi)]=cR (M9 P B D o (0+1)):=c44 h1 h2
section
variable {v0 v1 v2 : Value} {P0 P1 P2 L : List (Int × Int)} {B D : List Int} {M K : List AV}
theorem a1r{P:List (Int×Int)}{B D:List Int}{o n:Nat}:W8 (1+1) n (List.take (n*(1+1)) (List.drop 0 (cR (M9 P B D o n)))):=⟨rfl,M9 P B D o n,G0 nwR_len,nwR_len.symm⟩
theorem a0u{P:List (Int×Int)}{n o:Nat}(hc:∀ b,b<n→X7 100 (cR P) b)(hB:R7 B)(hD:R7 D):SbR (cR P) (cR (M9 P B D o n)) n:=c3X (fun b hb=>b55 hB hb (hc b hb)) (fun b hb=>b55 hD hb (hc b hb))
theorem x4{P:List (Int×Int)}{n o:Nat}(hc:∀ b,b<n→X7 100 (cR P) b)(hB:R7 B)(hD:R7 D):∀ b,b<n→X7 100 (cR (M9 P B D o n)) b:=c3z hc (fun b hb=>b55 hB hb (hc b hb)) (fun b hb=>b55 hD hb (hc b hb))
theorem c8E(hC:E4 [.xl v0 P0.length 2 (cR P0),.xl v1 P1.length 2 (cR P1),.xl v2 P2.length 2 (cR P2)] 3 (cR L) L.length=0)(hB:R7 B)(hD:R7 D){n:Nat}(hn:L.length=n):b07 (cR (M9 P0 B D L.length n)) n (cR (M9 P1 B D (2*L.length) n)) n (cR (M9 P2 B D (3*L.length) n)) n (cR (M9 L B D 0 n)) n:=by
 subst hn
 obtain ⟨hn,-,hrow,hlam,hcur⟩:=S8 hC
 exact ⟨hn,rfl,rfl,rfl,x4 hlam hB hD,x4 (hcur 0 (by decide)) hB hD,x4 (hcur 1 (by decide)) hB hD,x4 (hcur 2 (by decide)) hB hD⟩
theorem c26(hC:E4 [.xl v0 P0.length 2 (cR P0),.xl v1 P1.length 2 (cR P1),.xl v2 P2.length 2 (cR P2)] 3 (cR L) L.length=0)(hB:R7 B)(hD:R7 D){n:Nat}(hn:L.length=n):∀ k,k<3→S7 (cR P0) (cR P1) (cR P2) (cR L) M n false k≤S7 (cR (M9 P0 B D L.length n)) (cR (M9 P1 B D (2*L.length) n)) (cR (M9 P2 B D (3*L.length) n)) (cR (M9 L B D 0 n)) M n false k∧S7 (cR (M9 P0 B D L.length n)) (cR (M9 P1 B D (2*L.length) n)) (cR (M9 P2 B D (3*L.length) n)) (cR (M9 L B D 0 n)) M n true k≤S7 (cR P0) (cR P1) (cR P2) (cR L) M n true k∧S7 (cR (M9 P0 B D L.length n)) (cR (M9 P1 B D (2*L.length) n)) (cR (M9 P2 B D (3*L.length) n)) (cR (M9 L B D 0 n)) M n false k≤S7 (cR (M9 P0 B D L.length n)) (cR (M9 P1 B D (2*L.length) n)) (cR (M9 P2 B D (3*L.length) n)) (cR (M9 L B D 0 n)) M n true k:=by
 subst hn
 obtain ⟨hn,-,hrow,hlam,hcur⟩:=S8 hC
 exact b5I (hcur 0 (by decide)) (hcur 1 (by decide)) (hcur 2 (by decide)) hlam (x4 (hcur 0 (by decide)) hB hD) (x4 (hcur 1 (by decide)) hB hD) (x4 (hcur 2 (by decide)) hB hD) (x4 hlam hB hD) (a0u (hcur 0 (by decide)) hB hD) (a0u (hcur 1 (by decide)) hB hD) (a0u (hcur 2 (by decide)) hB hD) (a0u hlam hB hD)
theorem c6B(hC:E4 [.xl v0 P0.length 2 (cR P0),.xl v1 P1.length 2 (cR P1),.xl v2 P2.length 2 (cR P2)] 3 (cR L) L.length=0)(hB:R7 B)(hD:R7 D){n:Nat}(hn:L.length=n)(h:suN (cR P0) (cR P1) (cR P2) (cR L) (X5 M K n) n=0):suN (cR (M9 P0 B D L.length n)) (cR (M9 P1 B D (2*L.length) n)) (cR (M9 P2 B D (3*L.length) n)) (cR (M9 L B D 0 n)) (X5 M K n) n=0:=by
 subst hn
 obtain ⟨hn,-,hrow,hlam,hcur⟩:=S8 hC
 exact b67 (hcur 0 (by decide)) (hcur 1 (by decide)) (hcur 2 (by decide)) hlam (x4 (hcur 0 (by decide)) hB hD) (x4 (hcur 1 (by decide)) hB hD) (x4 (hcur 2 (by decide)) hB hD) (x4 hlam hB hD) (a0u (hcur 0 (by decide)) hB hD) (a0u (hcur 1 (by decide)) hB hD) (a0u (hcur 2 (by decide)) hB hD) (a0u hlam hB hD) h
end
def lNw:N4:=orO c2N D4
theorem a2u(hw:Known zP0q (clsO D4)):Known zP0q (clsO lNw):=W1 a8d hw
def lNm:N4:=orO c2N (orO D4 (orO trO (orO c7v (orO c89 (orO c7p (orO c94 (orO c7N (orO c96 c8Y))))))))
theorem V9(hw:Known zP0q (clsO D4)):Known zP0q (clsO lNm):=W1 a8d (W1 hw (W1 b7c (W1 b6d (W1 b5H (W1 b5G (W1 b5R (W1 b62 (W1 b64 b5M))))))))
end
end Go.Proofs.Ytegmogadbnfbgaa
