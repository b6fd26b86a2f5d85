import Derived.Test.YtegmogadbnfbgaaRw
set_option linter.all false
/- Palettes, as they come in. -/
namespace Go.Proofs.Ytegmogadbnfbgaa
open Go.ChangeShapes Go.WideShapes Go.ChangeAt Go.RowKit
section
variable {P : Program} {H : Type} {enc : TypeId × Value → H} {w : World} {base : Nat} {sp : Nat → Bool} {held : Bool}
theorem open_palette {t e f:TypeId} {v:Value} {x:DataW H} {ps:List MemPlace} {r:Reach} {b0:Nat} {f0 f1:Field} (ht:P.underlying t=some (.struct #[f0,f1])) (h0:f0.offset=0) (h1:f1.offset=1) (ha:P.underlying f0.type=some (.slice e)) (ca:P.cellsOf f0.type=1) (hb:P.underlying f1.type=some (.int .i64)) (cb:P.cellsOf f1.type=1) (ct:P.cellsOf t=2)
  (he:P.underlying e=some (.slice f)) (ce:P.cellsOf e=1) (hf:kindsF P 5 f=some [some .i64]) (cf:P.cellsOf f=1) (hv:Value.okWide P w r b0 t v) (h:DataW.Trod enc P w base sp held t v x ps) :
  ∃ (y:Value) (R:List (Value×List Int)) (n:Int),v = .agg #[y,.int .i64 n]∧Ev.den (Ev.bare w) (.agg [.xl y R.length 1 (cRw R),.v (.int .i64 n)])=some v:=by
 obtain ⟨cs,rfl,-⟩:=okWide_struct ht hv
 obtain ⟨fuel,hq⟩:=h
 obtain ⟨y0,y1,m,-,hl,q0,q1⟩:=trod_struct2 ht hq
 rw [h0,ca] at q0
 rw [h1,cb] at q1
 rw [ct] at hl
 simp only [Value.cells] at hl q0 q1
 obtain ⟨y,R,e0,hd⟩:=open_rows ha he ce hf cf q0
 obtain ⟨n,e1,-,-⟩:=DataW.trod_int hb q1
 have e2:cs = #[y,.int .i64 n]:=by
  apply Array.toList_inj.1
  match hcs:cs.toList,hl with
  | [p,q],_=>rw [hcs] at e0 e1; simp at e0 e1; rw [e0,e1]
 subst e2
 refine ⟨y,R,n,rfl,?_⟩
 have h2:Ev.denL (Ev.bare w) [.xl y R.length 1 (cRw R),.v (.int .i64 n)]=some [y,.int .i64 n]:=denL_cons hd (denL_cons rfl rfl)
 simp only [Ev.den,h2,Option.map_some]
end
end Go.Proofs.Ytegmogadbnfbgaa
