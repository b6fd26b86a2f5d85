import Derived.Test.YtnphldmnakbknaaRg
import Derived.Test.YtnphldmnakbknaaS1
set_option linter.all false
/- Lists of triples, and streets, as they come in. -/
namespace Go.Proofs.Ytnphldmnakbknaa
open Go.ChangeShapes Go.WideShapes Go.ChangeAt Go.RowKit
theorem ints_of:∀ (n:Nat) (vs:List Value),vs.length=n * 1→(∀ i,i < n→IsK [some .i64] ((vs.drop (i * 1)).take 1))→∃ L:List Int,L.length=n∧vs=cIv L
 | 0,vs,hl,_=>⟨[],rfl,List.eq_nil_of_length_eq_zero (by omega)⟩
 | n + 1,vs,hl,h=>by
  obtain ⟨a,l1,e1,⟨x,rfl,wx⟩,h1⟩:=isK_cons (h 0 (by omega))
  obtain rfl:=isK_nil h1
  obtain ⟨r,rfl⟩:∃ r,vs = .int .i64 x :: r:=by
   match vs,hl,e1 with
   | p :: r,_,e=>simp at e; exact ⟨r,by rw [e]⟩
   | [],hl,_=>simp at hl
  obtain ⟨B,hB,rfl⟩:=ints_of n r (by simp at hl; omega) (fun i hi=>by
   have:=h (i + 1) (by omega)
   rw [show (i + 1) * 1=i * 1 + 1 from by omega] at this
   simpa using this)
  exact ⟨x :: B,by simp [hB],rfl⟩
theorem triples_of:∀ (n:Nat) (vs:List Value),vs.length=n * 3→(∀ i,i < n→IsK [some .i64,some .i64,some .i64] ((vs.drop (i * 3)).take 3))→∃ L:List (Int×Int×Int),L.length=n∧vs=cTv L
 | 0,vs,hl,_=>⟨[],rfl,List.eq_nil_of_length_eq_zero (by omega)⟩
 | n + 1,vs,hl,h=>by
  obtain ⟨a,l1,e1,⟨x,rfl,_⟩,h1⟩:=isK_cons (h 0 (by omega))
  obtain ⟨b,l2,rfl,⟨y,rfl,_⟩,h2⟩:=isK_cons h1
  obtain ⟨c,l3,rfl,⟨z,rfl,_⟩,h3⟩:=isK_cons h2
  obtain rfl:=isK_nil h3
  obtain ⟨r,rfl⟩:∃ r,vs = .int .i64 x :: .int .i64 y :: .int .i64 z :: r:=by
   match vs,hl,e1 with
   | p :: q :: s :: r,_,e=>simp at e; exact ⟨r,by rw [e.1,e.2.1,e.2.2]⟩
   | [p,q],hl,_=>simp at hl; omega
   | [p],hl,_=>simp at hl; omega
   | [],hl,_=>simp at hl
  obtain ⟨L,hL,rfl⟩:=triples_of n r (by simp at hl; omega) (fun i hi=>by
   have:=h (i + 1) (by omega)
   rw [show (i + 1) * 3=i * 3 + 1 + 1 + 1 from by omega] at this
   simpa using this)
  exact ⟨(x,y,z) :: L,by simp [hL],rfl⟩
section
variable {P : Program} {H : Type} {enc : TypeId × Value → H} {w : World} {base : Nat} {sp : Nat → Bool} {held : Bool}
theorem open_triples {t e:TypeId} {fuel:Nat} {cs:List Value} {x:DataW H×List MemPlace} (ht:P.underlying t=some (.slice e)) (he:kindsF P 5 e=some [some .i64,some .i64,some .i64]) (ce:P.cellsOf e=3) (h:DataW.trod enc P w base sp held fuel t cs=some x) :
  ∃ v L,cs=[v]∧Ev.den (Ev.bare w) (.xl v L.length 3 (cT L))=some v:=by
 obtain ⟨v,n,vs,rfl,hx,-,hq⟩:=open_listC (m:=3) (Q:=IsK [some .i64,some .i64,some .i64]) ht ce (by decide) (fun fuel cs y _ hy=>flatF 5 he hy) h
 obtain ⟨L,rfl,rfl⟩:=triples_of n vs (by obtain ⟨_,_,_,_,e,_⟩:=hx; exact e) hq
 exact ⟨v,L,rfl,den_lst hx (Ev.plainL_den (cT_plain L))⟩
theorem open_road {t e3:TypeId} {v:Value} {x:DataW H} {ps:List MemPlace} {r:Reach} {b0:Nat} {f0 f1 f2 f3:Field} (ht:P.underlying t=some (.struct #[f0,f1,f2,f3])) (h0:f0.offset=0) (h1:f1.offset=1) (h2:f2.offset=2) (h3:f3.offset=3) (ct:P.cellsOf t=4)
  (a0:P.underlying f0.type=some (.int .i64)) (c0:P.cellsOf f0.type=1)
  (a1:P.underlying f1.type=some (.int .i64)) (c1:P.cellsOf f1.type=1)
  (a2:P.underlying f2.type=some (.int .i64)) (c2:P.cellsOf f2.type=1)
  (a3:P.underlying f3.type=some (.slice e3)) (c3:P.cellsOf f3.type=1) (k3:kindsF P 5 e3=some [some .i64,some .i64,some .i64]) (d3:P.cellsOf e3=3)
  (hv:Value.okWide P w r b0 t v) (h:DataW.Trod enc P w base sp held t v x ps) :
  ∃ (n d q:Int) (y:Value) (L:List (Int×Int×Int)),v = .agg #[.int .i64 n,.int .i64 d,.int .i64 q,y]∧Ev.den (Ev.bare w) (.agg [.v (.int .i64 n),.v (.int .i64 d),.v (.int .i64 q),.xl y L.length 3 (cT L)])=some v:=by
 obtain ⟨cs,rfl,-⟩:=okWide_struct ht hv
 obtain ⟨fuel,hq⟩:=h
 obtain ⟨xs,m,_,-,hl,hlen,hf⟩:=DataW.trod_struct ht hq
 match xs,hlen with
 | [y0,y1,y2,y3],_ =>
  have q0:DataW.trod enc P w base sp held m f0.type (((Value.agg cs).cells.toList.drop f0.offset).take (P.cellsOf f0.type))=some y0:=by simpa using hf 0 f0 rfl
  have q1:DataW.trod enc P w base sp held m f1.type (((Value.agg cs).cells.toList.drop f1.offset).take (P.cellsOf f1.type))=some y1:=by simpa using hf 1 f1 rfl
  have q2:DataW.trod enc P w base sp held m f2.type (((Value.agg cs).cells.toList.drop f2.offset).take (P.cellsOf f2.type))=some y2:=by simpa using hf 2 f2 rfl
  have q3:DataW.trod enc P w base sp held m f3.type (((Value.agg cs).cells.toList.drop f3.offset).take (P.cellsOf f3.type))=some y3:=by simpa using hf 3 f3 rfl
  rw [h0,c0] at q0
  rw [h1,c1] at q1
  rw [h2,c2] at q2
  rw [h3,c3] at q3
  rw [ct] at hl
  simp only [Value.cells] at hl q0 q1 q2 q3
  obtain ⟨n,p0,-,-⟩:=DataW.trod_int a0 q0
  obtain ⟨d,p1,-,-⟩:=DataW.trod_int a1 q1
  obtain ⟨q,p2,-,-⟩:=DataW.trod_int a2 q2
  obtain ⟨y,L,p3,g3⟩:=open_triples a3 k3 d3 q3
  have e2:cs = #[.int .i64 n,.int .i64 d,.int .i64 q,y]:=by
   apply Array.toList_inj.1
   match hcs:cs.toList,hl with
   | [p,q,s,u],_=>rw [hcs] at p0 p1 p2 p3; simp at p0 p1 p2 p3; rw [p0,p1,p2,p3]
  subst e2
  refine ⟨n,d,q,y,L,rfl,?_⟩
  have hh:Ev.denL (Ev.bare w) [.v (.int .i64 n),.v (.int .i64 d),.v (.int .i64 q),.xl y L.length 3 (cT L)]=some [.int .i64 n,.int .i64 d,.int .i64 q,y]:=denL_cons rfl (denL_cons rfl (denL_cons rfl (denL_cons g3 rfl)))
  simp only [Ev.den,hh,Option.map_some]
end
end Go.Proofs.Ytnphldmnakbknaa
