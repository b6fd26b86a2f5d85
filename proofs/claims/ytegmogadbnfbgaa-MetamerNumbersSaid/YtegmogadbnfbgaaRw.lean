import Derived.Test.YtegmogadbnfbgaaRg
import Derived.Test.YtegmogadbnfbgaaL0
set_option linter.all false
/- Lists of numbers, and lists of such lists, as they come in. -/
namespace Go.Proofs.Ytegmogadbnfbgaa
open Go.ChangeShapes Go.WideShapes Go.ChangeAt Go.RowKit
theorem ints_of:∀ (n:Nat) (vs:List Value),vs.length=n * 1→(∀ i,i < n→IsK [some .i64] ((vs.drop (i * 1)).take 1))→∃ L:List Int,L.length=n∧vs=cIv L
 | 0,vs,hl,_=>⟨[],rfl,List.eq_nil_of_length_eq_zero (by omega)⟩
 | n + 1,vs,hl,h=>by
  obtain ⟨a,l1,e1,⟨x,rfl,wx⟩,h1⟩:=isK_cons (h 0 (by omega))
  obtain rfl:=isK_nil h1
  obtain ⟨r,rfl⟩:∃ r,vs = .int .i64 x :: r:=by
   match vs,hl,e1 with
   | p :: r,_,e=>simp at e; exact ⟨r,by rw [e]⟩
   | [],hl,_=>simp at hl
  obtain ⟨B,hB,rfl⟩:=ints_of n r (by simp at hl; omega) (fun i hi=>by
   have:=h (i + 1) (by omega)
   rw [show (i + 1) * 1=i * 1 + 1 from by omega] at this
   simpa using this)
  exact ⟨x :: B,by simp [hB],rfl⟩
def IsRw (w:World) (cs:List Value):Prop:=∃ v L,cs=[v]∧Ev.den (Ev.bare w) (.xl v L.length 1 (cI L))=some v
theorem rows_of (w:World):∀ (n:Nat) (vs:List Value),vs.length=n * 1→(∀ i,i < n→IsRw w ((vs.drop (i * 1)).take 1))→∃ R:List (Value×List Int),R.length=n∧Ev.denL (Ev.bare w) (cRw R)=some vs
 | 0,vs,hl,_=>⟨[],rfl,by obtain rfl:=List.eq_nil_of_length_eq_zero (show vs.length=0 by omega); rfl⟩
 | n + 1,vs,hl,h=>by
  obtain ⟨v,L,e1,h1⟩:=h 0 (by omega)
  obtain ⟨r,rfl⟩:∃ r,vs=v :: r:=by
   match vs,hl,e1 with
   | p :: r,_,e=>simp at e; exact ⟨r,by rw [e]⟩
   | [],hl,_=>simp at hl
  obtain ⟨R,hR,hd⟩:=rows_of w n r (by simp at hl; omega) (fun i hi=>by
   have:=h (i + 1) (by omega)
   rw [show (i + 1) * 1=i * 1 + 1 from by omega] at this
   simpa using this)
  exact ⟨(v,L) :: R,by simp [hR],denL_cons h1 hd⟩
section
variable {P : Program} {H : Type} {enc : TypeId × Value → H} {w : World} {base : Nat} {sp : Nat → Bool} {held : Bool}
theorem open_ints {t e:TypeId} {fuel:Nat} {cs:List Value} {x:DataW H×List MemPlace} (ht:P.underlying t=some (.slice e)) (he:kindsF P 5 e=some [some .i64]) (ce:P.cellsOf e=1) (h:DataW.trod enc P w base sp held fuel t cs=some x):IsRw w cs:=by
 obtain ⟨v,n,vs,rfl,hx,-,hq⟩:=open_listC (m:=1) (Q:=IsK [some .i64]) ht ce (by decide) (fun fuel cs y _ hy=>flatF 5 he hy) h
 obtain ⟨L,rfl,rfl⟩:=ints_of n vs (by obtain ⟨_,_,_,_,e,_⟩:=hx; exact e) hq
 exact ⟨v,L,rfl,den_lst hx (Ev.plainL_den (cI_plain L))⟩
theorem open_rows {t e f:TypeId} {fuel:Nat} {cs:List Value} {x:DataW H×List MemPlace} (ht:P.underlying t=some (.slice e)) (he:P.underlying e=some (.slice f)) (ce:P.cellsOf e=1) (hf:kindsF P 5 f=some [some .i64]) (cf:P.cellsOf f=1) (h:DataW.trod enc P w base sp held fuel t cs=some x) :
  ∃ v R,cs=[v]∧Ev.den (Ev.bare w) (.xl v R.length 1 (cRw R))=some v:=by
 obtain ⟨v,n,vs,rfl,hx,-,hq⟩:=open_listC (m:=1) (Q:=IsRw w) ht ce (by decide) (fun fuel cs y _ hy=>open_ints he hf cf hy) h
 obtain ⟨R,rfl,hd⟩:=rows_of w n vs (by obtain ⟨_,_,_,_,e,_⟩:=hx; exact e) hq
 exact ⟨v,R,rfl,den_lst hx hd⟩
end
end Go.Proofs.Ytegmogadbnfbgaa
