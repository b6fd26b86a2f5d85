import Derived.Test.YtldekgkjofgacaaRg
import Derived.Test.YtldekgkjofgacaaL0
set_option linter.all false
/- Lists of numbers, and lists of such lists, as they come in. -/
namespace Go.Proofs.Ytldekgkjofgacaa
open Go.ChangeShapes Go.WideShapes Go.ChangeAt Go.RowKit
theorem ints_of:∀ (n:Nat) (vs:List Value),vs.length=n * 1→(∀ i,i < n→IsK [some .i64] ((vs.drop (i * 1)).take 1))→∃ L:List Int,L.length=n∧vs=cIv L
 | 0,vs,hl,_=>⟨[],rfl,List.eq_nil_of_length_eq_zero (by omega)⟩
 | n + 1,vs,hl,h=>by
  obtain ⟨a,l1,e1,⟨x,rfl,wx⟩,h1⟩:=isK_cons (h 0 (by omega))
  obtain rfl:=isK_nil h1
  obtain ⟨r,rfl⟩:∃ r,vs = .int .i64 x :: r:=by
   match vs,hl,e1 with
   | p :: r,_,e=>simp at e; exact ⟨r,by rw [e]⟩
   | [],hl,_=>simp at hl
  obtain ⟨B,hB,rfl⟩:=ints_of n r (by simp at hl; omega) (fun i hi=>by
   have:=h (i + 1) (by omega)
   rw [show (i + 1) * 1=i * 1 + 1 from by omega] at this
   simpa using this)
  exact ⟨x :: B,by simp [hB],rfl⟩
def IsRw (w:World) (cs:List Value):Prop:=∃ v L,cs=[v]∧Ev.den (Ev.bare w) (.xl v L.length 1 (cI L))=some v
section
variable {P : Program} {H : Type} {enc : TypeId × Value → H} {w : World} {base : Nat} {sp : Nat → Bool} {held : Bool}
theorem open_ints {t e:TypeId} {fuel:Nat} {cs:List Value} {x:DataW H×List MemPlace} (ht:P.underlying t=some (.slice e)) (he:kindsF P 5 e=some [some .i64]) (ce:P.cellsOf e=1) (h:DataW.trod enc P w base sp held fuel t cs=some x):IsRw w cs:=by
 obtain ⟨v,n,vs,rfl,hx,-,hq⟩:=open_listC (m:=1) (Q:=IsK [some .i64]) ht ce (by decide) (fun fuel cs y _ hy=>flatF 5 he hy) h
 obtain ⟨L,rfl,rfl⟩:=ints_of n vs (by obtain ⟨_,_,_,_,e,_⟩:=hx; exact e) hq
 exact ⟨v,L,rfl,den_lst hx (Ev.plainL_den (cI_plain L))⟩
end
end Go.Proofs.Ytldekgkjofgacaa
