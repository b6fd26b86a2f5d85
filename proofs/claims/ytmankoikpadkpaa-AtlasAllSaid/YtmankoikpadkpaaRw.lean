import Derived.Test.YtmankoikpadkpaaRg
import Derived.Test.YtmankoikpadkpaaL0
set_option linter.all false
/- Lists of numbers, and lists of such lists, as they come in. -/
namespace Go.Proofs.Ytmankoikpadkpaa
open Go.ChangeShapes Go.WideShapes Go.ChangeAt Go.RowKit
theorem ints_of:∀ (n:Nat) (vs:List Value),vs.length=n * 1→(∀ i,i < n→IsK [some .i64] ((vs.drop (i * 1)).take 1))→∃ L:List Int,L.length=n∧vs=cIv L
 | 0,vs,hl,_=>⟨[],rfl,List.eq_nil_of_length_eq_zero (by omega)⟩
 | n + 1,vs,hl,h=>by
  obtain ⟨a,l1,e1,⟨x,rfl,wx⟩,h1⟩:=isK_cons (h 0 (by omega))
  obtain rfl:=isK_nil h1
  obtain ⟨r,rfl⟩:∃ r,vs = .int .i64 x :: r:=by
   match vs,hl,e1 with
   | p :: r,_,e=>simp at e; exact ⟨r,by rw [e]⟩
   | [],hl,_=>simp at hl
  obtain ⟨B,hB,rfl⟩:=ints_of n r (by simp at hl; omega) (fun i hi=>by
   have:=h (i + 1) (by omega)
   rw [show (i + 1) * 1=i * 1 + 1 from by omega] at this
   simpa using this)
  exact ⟨x :: B,by simp [hB],rfl⟩
def IsRw (w:World) (cs:List Value):Prop:=∃ v L,cs=[v]∧Ev.den (Ev.bare w) (.xl v L.length 1 (cI L))=some v
theorem rows_of (w:World):∀ (n:Nat) (vs:List Value),vs.length=n * 1→(∀ i,i < n→IsRw w ((vs.drop (i * 1)).take 1))→∃ R:List (Value×List Int),R.length=n∧Ev.denL (Ev.bare w) (cRw R)=some vs
 | 0,vs,hl,_=>⟨[],rfl,by obtain rfl:=List.eq_nil_of_length_eq_zero (show vs.length=0 by omega); rfl⟩
 | n + 1,vs,hl,h=>by
  obtain ⟨v,L,e1,h1⟩:=h 0 (by omega)
  obtain ⟨r,rfl⟩:∃ r,vs=v :: r:=by
   match vs,hl,e1 with
   | p :: r,_,e=>simp at e; exact ⟨r,by rw [e]⟩
   | [],hl,_=>simp at hl
  obtain ⟨R,hR,hd⟩:=rows_of w n r (by simp at hl; omega) (fun i hi=>by
   have:=h (i + 1) (by omega)
   rw [show (i + 1) * 1=i * 1 + 1 from by omega] at this
   simpa using this)
  exact ⟨(v,L) :: R,by simp [hR],denL_cons h1 hd⟩
section
variable {P : Program} {H : Type} {enc : TypeId × Value → H} {w : World} {base : Nat} {sp : Nat → Bool} {held : Bool}
theorem open_ints {t e:TypeId} {fuel:Nat} {cs:List Value} {x:DataW H×List MemPlace} (ht:P.underlying t=some (.slice e)) (he:kindsF P 5 e=some [some .i64]) (ce:P.cellsOf e=1) (h:DataW.trod enc P w base sp held fuel t cs=some x):IsRw w cs:=by
 obtain ⟨v,n,vs,rfl,hx,-,hq⟩:=open_listC (m:=1) (Q:=IsK [some .i64]) ht ce (by decide) (fun fuel cs y _ hy=>flatF 5 he hy) h
 obtain ⟨L,rfl,rfl⟩:=ints_of n vs (by obtain ⟨_,_,_,_,e,_⟩:=hx; exact e) hq
 exact ⟨v,L,rfl,den_lst hx (Ev.plainL_den (cI_plain L))⟩
theorem open_rows {t e f:TypeId} {fuel:Nat} {cs:List Value} {x:DataW H×List MemPlace} (ht:P.underlying t=some (.slice e)) (he:P.underlying e=some (.slice f)) (ce:P.cellsOf e=1) (hf:kindsF P 5 f=some [some .i64]) (cf:P.cellsOf f=1) (h:DataW.trod enc P w base sp held fuel t cs=some x) :
  ∃ v R,cs=[v]∧Ev.den (Ev.bare w) (.xl v R.length 1 (cRw R))=some v:=by
 obtain ⟨v,n,vs,rfl,hx,-,hq⟩:=open_listC (m:=1) (Q:=IsRw w) ht ce (by decide) (fun fuel cs y _ hy=>open_ints he hf cf hy) h
 obtain ⟨R,rfl,hd⟩:=rows_of w n vs (by obtain ⟨_,_,_,_,e,_⟩:=hx; exact e) hq
 exact ⟨v,R,rfl,den_lst hx hd⟩
theorem open_plan {t e f:TypeId} {v:Value} {x:DataW H} {ps:List MemPlace} {r:Reach} {b0:Nat} {f0 f1:Field} (ht:P.underlying t=some (.struct #[f0,f1])) (h0:f0.offset=0) (h1:f1.offset=1) (ha:P.underlying f0.type=some (.int .i64)) (ca:P.cellsOf f0.type=1) (hb:P.underlying f1.type=some (.slice e)) (cb:P.cellsOf f1.type=1) (ct:P.cellsOf t=2)
  (he:P.underlying e=some (.slice f)) (ce:P.cellsOf e=1) (hf:kindsF P 5 f=some [some .i64]) (cf:P.cellsOf f=1) (hv:Value.okWide P w r b0 t v) (h:DataW.Trod enc P w base sp held t v x ps) :
  ∃ (n:Int) (y:Value) (R:List (Value×List Int)),v = .agg #[.int .i64 n,y]∧Ev.den (Ev.bare w) (.agg [.v (.int .i64 n),.xl y R.length 1 (cRw R)])=some v:=by
 obtain ⟨cs,rfl,-⟩:=okWide_struct ht hv
 obtain ⟨fuel,hq⟩:=h
 obtain ⟨y0,y1,m,-,hl,q0,q1⟩:=trod_struct2 ht hq
 rw [h0,ca] at q0
 rw [h1,cb] at q1
 rw [ct] at hl
 simp only [Value.cells] at hl q0 q1
 obtain ⟨n,e0,-,-⟩:=DataW.trod_int ha q0
 obtain ⟨y,R,e1,hd⟩:=open_rows hb he ce hf cf q1
 have e2:cs = #[.int .i64 n,y]:=by
  apply Array.toList_inj.1
  match hcs:cs.toList,hl with
  | [p,q],_=>rw [hcs] at e0 e1; simp at e0 e1; rw [e0,e1]
 subst e2
 refine ⟨n,y,R,rfl,?_⟩
 have h2:Ev.denL (Ev.bare w) [.v (.int .i64 n),.xl y R.length 1 (cRw R)]=some [.int .i64 n,y]:=denL_cons rfl (denL_cons hd rfl)
 simp only [Ev.den,h2,Option.map_some]
end
end Go.Proofs.Ytmankoikpadkpaa
