import Derived.Test.YtldekgkjofgacaaRw
import Derived.Test.YtldekgkjofgacaaZ0
set_option linter.all false
/- Lists of pairs and of flags, and lamps, as they come in. -/
namespace Go.Proofs.Ytldekgkjofgacaa
open Go.ChangeShapes Go.WideShapes Go.ChangeAt Go.RowKit
theorem pairs_ofZ:∀ (n:Nat) (vs:List Value),vs.length=n * 2→(∀ i,i < n→IsK [some .i64,some .i64] ((vs.drop (i * 2)).take 2))→∃ L:List (Int×Int),L.length=n∧vs=cRv L
 | 0,vs,hl,_=>⟨[],rfl,List.eq_nil_of_length_eq_zero (by omega)⟩
 | n + 1,vs,hl,h=>by
  obtain ⟨a,l1,e1,⟨x,rfl,_⟩,h1⟩:=isK_cons (h 0 (by omega))
  obtain ⟨b,l2,rfl,⟨y,rfl,_⟩,h2⟩:=isK_cons h1
  obtain rfl:=isK_nil h2
  obtain ⟨r,rfl⟩:∃ r,vs = .int .i64 x :: .int .i64 y :: r:=by
   match vs,hl,e1 with
   | p :: q :: r,_,e=>simp at e; exact ⟨r,by rw [e.1,e.2]⟩
   | [p],hl,_=>simp at hl; omega
   | [],hl,_=>simp at hl
  obtain ⟨L,hL,rfl⟩:=pairs_ofZ n r (by simp at hl; omega) (fun i hi=>by
   have:=h (i + 1) (by omega)
   rw [show (i + 1) * 2=i * 2 + 1 + 1 from by omega] at this
   simpa using this)
  exact ⟨(x,y) :: L,by simp [hL],rfl⟩
theorem bools_of:∀ (n:Nat) (vs:List Value),vs.length=n * 1→(∀ i,i < n→IsK [none] ((vs.drop (i * 1)).take 1))→∃ L:List Bool,L.length=n∧vs=cBv L
 | 0,vs,hl,_=>⟨[],rfl,List.eq_nil_of_length_eq_zero (by omega)⟩
 | n + 1,vs,hl,h=>by
  obtain ⟨a,l1,e1,⟨x,rfl⟩,h1⟩:=isK_cons (h 0 (by omega))
  obtain rfl:=isK_nil h1
  obtain ⟨r,rfl⟩:∃ r,vs = .bool x :: r:=by
   match vs,hl,e1 with
   | p :: r,_,e=>simp at e; exact ⟨r,by rw [e]⟩
   | [],hl,_=>simp at hl
  obtain ⟨B,hB,rfl⟩:=bools_of n r (by simp at hl; omega) (fun i hi=>by
   have:=h (i + 1) (by omega)
   rw [show (i + 1) * 1=i * 1 + 1 from by omega] at this
   simpa using this)
  exact ⟨x :: B,by simp [hB],rfl⟩
section
variable {P : Program} {H : Type} {enc : TypeId × Value → H} {w : World} {base : Nat} {sp : Nat → Bool} {held : Bool}
theorem open_pairs {t e:TypeId} {fuel:Nat} {cs:List Value} {x:DataW H×List MemPlace} (ht:P.underlying t=some (.slice e)) (he:kindsF P 5 e=some [some .i64,some .i64]) (ce:P.cellsOf e=2) (h:DataW.trod enc P w base sp held fuel t cs=some x) :
  ∃ v L,cs=[v]∧Ev.den (Ev.bare w) (.xl v L.length 2 (cR L))=some v:=by
 obtain ⟨v,n,vs,rfl,hx,-,hq⟩:=open_listC (m:=2) (Q:=IsK [some .i64,some .i64]) ht ce (by decide) (fun fuel cs y _ hy=>flatF 5 he hy) h
 obtain ⟨L,rfl,rfl⟩:=pairs_ofZ n vs (by obtain ⟨_,_,_,_,e,_⟩:=hx; exact e) hq
 exact ⟨v,L,rfl,den_lst hx (Ev.plainL_den (cR_plain L))⟩
theorem open_bools {t e:TypeId} {fuel:Nat} {cs:List Value} {x:DataW H×List MemPlace} (ht:P.underlying t=some (.slice e)) (he:kindsF P 5 e=some [none]) (ce:P.cellsOf e=1) (h:DataW.trod enc P w base sp held fuel t cs=some x) :
  ∃ v L,cs=[v]∧Ev.den (Ev.bare w) (.xl v L.length 1 (cB L))=some v:=by
 obtain ⟨v,n,vs,rfl,hx,-,hq⟩:=open_listC (m:=1) (Q:=IsK [none]) ht ce (by decide) (fun fuel cs y _ hy=>flatF 5 he hy) h
 obtain ⟨L,rfl,rfl⟩:=bools_of n vs (by obtain ⟨_,_,_,_,e,_⟩:=hx; exact e) hq
 exact ⟨v,L,rfl,den_lst hx (Ev.plainL_den (cB_plain L))⟩
theorem open_intsV {t e:TypeId} {v:Value} {x:DataW H} {ps:List MemPlace} (ht:P.underlying t=some (.slice e)) (he:kindsF P 5 e=some [some .i64]) (ce:P.cellsOf e=1) {r:Reach} {b0:Nat} (hv:Value.okWide P w r b0 t v) (h:DataW.Trod enc P w base sp held t v x ps) :
  ∃ L,Ev.den (Ev.bare w) (.xl v L.length 1 (cI L))=some v:=by
 obtain ⟨n,vs,hx,-,hq⟩:=open_list (m:=1) (Q:=IsK [some .i64]) ht ce (by decide) (fun fuel cs y _ hy=>flatF 5 he hy) hv h
 obtain ⟨L,rfl,rfl⟩:=ints_of n vs (by obtain ⟨_,_,_,_,e,_⟩:=hx; exact e) hq
 exact ⟨L,den_lst hx (Ev.plainL_den (cI_plain L))⟩
theorem open_lamp {t e0 e1 e2 e3:TypeId} {v:Value} {x:DataW H} {ps:List MemPlace} {r:Reach} {b0:Nat} {f0 f1 f2 f3:Field} (ht:P.underlying t=some (.struct #[f0,f1,f2,f3])) (h0:f0.offset=0) (h1:f1.offset=1) (h2:f2.offset=2) (h3:f3.offset=3) (ct:P.cellsOf t=4)
  (a0:P.underlying f0.type=some (.slice e0)) (c0:P.cellsOf f0.type=1) (k0:kindsF P 5 e0=some [some .i64]) (d0:P.cellsOf e0=1)
  (a1:P.underlying f1.type=some (.slice e1)) (c1:P.cellsOf f1.type=1) (k1:kindsF P 5 e1=some [some .i64,some .i64]) (d1:P.cellsOf e1=2)
  (a2:P.underlying f2.type=some (.slice e2)) (c2:P.cellsOf f2.type=1) (k2:kindsF P 5 e2=some [none]) (d2:P.cellsOf e2=1)
  (a3:P.underlying f3.type=some (.slice e3)) (c3:P.cellsOf f3.type=1) (k3:kindsF P 5 e3=some [some .i64]) (d3:P.cellsOf e3=1)
  (hv:Value.okWide P w r b0 t v) (h:DataW.Trod enc P w base sp held t v x ps) :
  ∃ (ya yl yf yw:Value) (A:List Int) (L:List (Int×Int)) (B:List Bool) (W:List Int),v = .agg #[ya,yl,yf,yw]∧Ev.den (Ev.bare w) (.agg [.xl ya A.length 1 (cI A),.xl yl L.length 2 (cR L),.xl yf B.length 1 (cB B),.xl yw W.length 1 (cI W)])=some v:=by
 obtain ⟨cs,rfl,-⟩:=okWide_struct ht hv
 obtain ⟨fuel,hq⟩:=h
 obtain ⟨xs,m,_,-,hl,hlen,hf⟩:=DataW.trod_struct ht hq
 match xs,hlen with
 | [y0,y1,y2,y3],_ =>
  have q0:DataW.trod enc P w base sp held m f0.type (((Value.agg cs).cells.toList.drop f0.offset).take (P.cellsOf f0.type))=some y0:=by simpa using hf 0 f0 rfl
  have q1:DataW.trod enc P w base sp held m f1.type (((Value.agg cs).cells.toList.drop f1.offset).take (P.cellsOf f1.type))=some y1:=by simpa using hf 1 f1 rfl
  have q2:DataW.trod enc P w base sp held m f2.type (((Value.agg cs).cells.toList.drop f2.offset).take (P.cellsOf f2.type))=some y2:=by simpa using hf 2 f2 rfl
  have q3:DataW.trod enc P w base sp held m f3.type (((Value.agg cs).cells.toList.drop f3.offset).take (P.cellsOf f3.type))=some y3:=by simpa using hf 3 f3 rfl
  rw [h0,c0] at q0
  rw [h1,c1] at q1
  rw [h2,c2] at q2
  rw [h3,c3] at q3
  rw [ct] at hl
  simp only [Value.cells] at hl q0 q1 q2 q3
  obtain ⟨ya,A,p0,g0⟩:=open_ints a0 k0 d0 q0
  obtain ⟨yl,L,p1,g1⟩:=open_pairs a1 k1 d1 q1
  obtain ⟨yf,B,p2,g2⟩:=open_bools a2 k2 d2 q2
  obtain ⟨yw,W,p3,g3⟩:=open_ints a3 k3 d3 q3
  have e2:cs = #[ya,yl,yf,yw]:=by
   apply Array.toList_inj.1
   match hcs:cs.toList,hl with
   | [p,q,s,u],_=>rw [hcs] at p0 p1 p2 p3; simp at p0 p1 p2 p3; rw [p0,p1,p2,p3]
  subst e2
  refine ⟨ya,yl,yf,yw,A,L,B,W,rfl,?_⟩
  have hh:Ev.denL (Ev.bare w) [.xl ya A.length 1 (cI A),.xl yl L.length 2 (cR L),.xl yf B.length 1 (cB B),.xl yw W.length 1 (cI W)]=some [ya,yl,yf,yw]:=denL_cons g0 (denL_cons g1 (denL_cons g2 (denL_cons g3 rfl)))
  simp only [Ev.den,hh,Option.map_some]
end
end Go.Proofs.Ytldekgkjofgacaa
