import Derived.Test.YtegmogadbnfbgaaRw
import Derived.Test.YtegmogadbnfbgaaN0
set_option linter.all false
/- Lists of lists of pairs of numbers, and structs of two li -/
namespace Go.Proofs.Ytegmogadbnfbgaa
open Go.ChangeShapes Go.WideShapes Go.ChangeAt Go.RowKit
theorem pairs_of:∀ (n:Nat) (vs:List Value),vs.length=n * 2→(∀ i,i < n→IsK [some .i64,some .i64] ((vs.drop (i * 2)).take 2))→∃ L:List (Int×Int),L.length=n∧vs=cRv L
 | 0,vs,hl,_=>⟨[],rfl,List.eq_nil_of_length_eq_zero (by omega)⟩
 | n + 1,vs,hl,h=>by
  obtain ⟨a,l1,e1,⟨x,rfl,_⟩,h1⟩:=isK_cons (h 0 (by omega))
  obtain ⟨b,l2,rfl,⟨y,rfl,_⟩,h2⟩:=isK_cons h1
  obtain rfl:=isK_nil h2
  obtain ⟨r,rfl⟩:∃ r,vs = .int .i64 x :: .int .i64 y :: r:=by
   match vs,hl,e1 with
   | p :: q :: r,_,e=>simp at e; exact ⟨r,by rw [e.1,e.2]⟩
   | [p],hl,_=>simp at hl; omega
   | [],hl,_=>simp at hl
  obtain ⟨L,hL,rfl⟩:=pairs_of n r (by simp at hl; omega) (fun i hi=>by
   have:=h (i + 1) (by omega)
   rw [show (i + 1) * 2=i * 2 + 1 + 1 from by omega] at this
   simpa using this)
  exact ⟨(x,y) :: L,by simp [hL],rfl⟩
def IsQw (w:World) (cs:List Value):Prop:=∃ v L,cs=[v]∧Ev.den (Ev.bare w) (.xl v L.length 2 (cR L))=some v
theorem qrows_of (w:World):∀ (n:Nat) (vs:List Value),vs.length=n * 1→(∀ i,i < n→IsQw w ((vs.drop (i * 1)).take 1))→∃ R:List (Value×List (Int×Int)),R.length=n∧Ev.denL (Ev.bare w) (cQw R)=some vs
 | 0,vs,hl,_=>⟨[],rfl,by obtain rfl:=List.eq_nil_of_length_eq_zero (show vs.length=0 by omega); rfl⟩
 | n + 1,vs,hl,h=>by
  obtain ⟨v,L,e1,h1⟩:=h 0 (by omega)
  obtain ⟨r,rfl⟩:∃ r,vs=v :: r:=by
   match vs,hl,e1 with
   | p :: r,_,e=>simp at e; exact ⟨r,by rw [e]⟩
   | [],hl,_=>simp at hl
  obtain ⟨R,hR,hd⟩:=qrows_of w n r (by simp at hl; omega) (fun i hi=>by
   have:=h (i + 1) (by omega)
   rw [show (i + 1) * 1=i * 1 + 1 from by omega] at this
   simpa using this)
  exact ⟨(v,L) :: R,by simp [hR],denL_cons h1 hd⟩
section
variable {P : Program} {H : Type} {enc : TypeId × Value → H} {w : World} {base : Nat} {sp : Nat → Bool} {held : Bool}
theorem open_pairs {t e:TypeId} {fuel:Nat} {cs:List Value} {x:DataW H×List MemPlace} (ht:P.underlying t=some (.slice e)) (he:kindsF P 5 e=some [some .i64,some .i64]) (ce:P.cellsOf e=2) (h:DataW.trod enc P w base sp held fuel t cs=some x):IsQw w cs:=by
 obtain ⟨v,n,vs,rfl,hx,-,hq⟩:=open_listC (m:=2) (Q:=IsK [some .i64,some .i64]) ht ce (by decide) (fun fuel cs y _ hy=>flatF 5 he hy) h
 obtain ⟨L,rfl,rfl⟩:=pairs_of n vs (by obtain ⟨_,_,_,_,e,_⟩:=hx; exact e) hq
 exact ⟨v,L,rfl,den_lst hx (Ev.plainL_den (cR_plain L))⟩
theorem open_qrows {t e f:TypeId} {fuel:Nat} {cs:List Value} {x:DataW H×List MemPlace} (ht:P.underlying t=some (.slice e)) (he:P.underlying e=some (.slice f)) (ce:P.cellsOf e=1) (hf:kindsF P 5 f=some [some .i64,some .i64]) (cf:P.cellsOf f=2) (h:DataW.trod enc P w base sp held fuel t cs=some x) :
  ∃ v R,cs=[v]∧Ev.den (Ev.bare w) (.xl v R.length 1 (cQw R))=some v:=by
 obtain ⟨v,n,vs,rfl,hx,-,hq⟩:=open_listC (m:=1) (Q:=IsQw w) ht ce (by decide) (fun fuel cs y _ hy=>open_pairs he hf cf hy) h
 obtain ⟨R,rfl,hd⟩:=qrows_of w n vs (by obtain ⟨_,_,_,_,e,_⟩:=hx; exact e) hq
 exact ⟨v,R,rfl,den_lst hx hd⟩
theorem open_case {t ea ef eb:TypeId} {v:Value} {x:DataW H} {ps:List MemPlace} {r:Reach} {b0:Nat} {f0 f1:Field} (ht:P.underlying t=some (.struct #[f0,f1])) (h0:f0.offset=0) (h1:f1.offset=1) (ha:P.underlying f0.type=some (.slice ea)) (ca:P.cellsOf f0.type=1) (hb:P.underlying f1.type=some (.slice eb)) (cb:P.cellsOf f1.type=1) (ct:P.cellsOf t=2)
  (he:P.underlying ea=some (.slice ef)) (ce:P.cellsOf ea=1) (hf:kindsF P 5 ef=some [some .i64,some .i64]) (cf:P.cellsOf ef=2) (hg:kindsF P 5 eb=some [some .i64,some .i64]) (cg:P.cellsOf eb=2) (hv:Value.okWide P w r b0 t v) (h:DataW.Trod enc P w base sp held t v x ps) :
  ∃ (y:Value) (R:List (Value×List (Int×Int))) (z:Value) (L:List (Int×Int)),v = .agg #[y,z]∧Ev.den (Ev.bare w) (.agg [.xl y R.length 1 (cQw R),.xl z L.length 2 (cR L)])=some v:=by
 obtain ⟨cs,rfl,-⟩:=okWide_struct ht hv
 obtain ⟨fuel,hq⟩:=h
 obtain ⟨y0,y1,m,-,hl,q0,q1⟩:=trod_struct2 ht hq
 rw [h0,ca] at q0
 rw [h1,cb] at q1
 rw [ct] at hl
 simp only [Value.cells] at hl q0 q1
 obtain ⟨y,R,e0,hd⟩:=open_qrows ha he ce hf cf q0
 obtain ⟨z,L,e1,hz⟩:=open_pairs hb hg cg q1
 have e2:cs = #[y,z]:=by
  apply Array.toList_inj.1
  match hcs:cs.toList,hl with
  | [p,q],_=>rw [hcs] at e0 e1; simp at e0 e1; rw [e0,e1]
 subst e2
 refine ⟨y,R,z,L,rfl,?_⟩
 have h2:Ev.denL (Ev.bare w) [.xl y R.length 1 (cQw R),.xl z L.length 2 (cR L)]=some [y,z]:=denL_cons hd (denL_cons hz rfl)
 simp only [Ev.den,h2,Option.map_some]
theorem open_true {t ea ef eb:TypeId} {v:Value} {x:DataW H} {ps:List MemPlace} {r:Reach} {b0:Nat} {f0 f1:Field} (ht:P.underlying t=some (.struct #[f0,f1])) (h0:f0.offset=0) (h1:f1.offset=1) (ha:P.underlying f0.type=some (.slice ea)) (ca:P.cellsOf f0.type=1) (hb:P.underlying f1.type=some (.slice eb)) (cb:P.cellsOf f1.type=1) (ct:P.cellsOf t=2)
  (he:P.underlying ea=some (.slice ef)) (ce:P.cellsOf ea=1) (hf:kindsF P 5 ef=some [some .i64]) (cf:P.cellsOf ef=1) (hg:kindsF P 5 eb=some [some .i64]) (cg:P.cellsOf eb=1) (hv:Value.okWide P w r b0 t v) (h:DataW.Trod enc P w base sp held t v x ps) :
  ∃ (y:Value) (R:List (Value×List Int)) (z:Value) (L:List Int),v = .agg #[y,z]∧Ev.den (Ev.bare w) (.agg [.xl y R.length 1 (cRw R),.xl z L.length 1 (cI L)])=some v:=by
 obtain ⟨cs,rfl,-⟩:=okWide_struct ht hv
 obtain ⟨fuel,hq⟩:=h
 obtain ⟨y0,y1,m,-,hl,q0,q1⟩:=trod_struct2 ht hq
 rw [h0,ca] at q0
 rw [h1,cb] at q1
 rw [ct] at hl
 simp only [Value.cells] at hl q0 q1
 obtain ⟨y,R,e0,hd⟩:=open_rows ha he ce hf cf q0
 obtain ⟨z,L,e1,hz⟩:=open_ints hb hg cg q1
 have e2:cs = #[y,z]:=by
  apply Array.toList_inj.1
  match hcs:cs.toList,hl with
  | [p,q],_=>rw [hcs] at e0 e1; simp at e0 e1; rw [e0,e1]
 subst e2
 refine ⟨y,R,z,L,rfl,?_⟩
 have h2:Ev.denL (Ev.bare w) [.xl y R.length 1 (cRw R),.xl z L.length 1 (cI L)]=some [y,z]:=denL_cons hd (denL_cons hz rfl)
 simp only [Ev.den,h2,Option.map_some]
end
end Go.Proofs.Ytegmogadbnfbgaa
