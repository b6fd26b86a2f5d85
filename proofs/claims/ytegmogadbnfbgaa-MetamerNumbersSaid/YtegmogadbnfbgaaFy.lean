import Derived.Test.YtegmogadbnfbgaaFw
set_option linter.all false
/- Regions in the text's order, operation by operation; a ca -/
namespace Go.Proofs.Ytegmogadbnfbgaa.Ev
open Go
noncomputable section
variable {P : Program} {w0 : BaseW} {sz : Nat} {rec : Rec}
def BackQ {ι:Type} (szk:Nat) (T:ι→Lit) (R:ι→Prop) (w0:BaseW):Exit→Act→World→Prop:=fun e a w=>(e = .normal∨e = .ret)∧∃ i,R i∧∃ σ,Now szk (T i).fs w0 σ a w
end
end Go.Proofs.Ytegmogadbnfbgaa.Ev
namespace Go.Proofs.Ytegmogadbnfbgaa.Ev
open Go
noncomputable section
variable {P : Program} {w0 : BaseW} {sz : Nat}
def isR (e:Exit):Bool :=
 match e with
 | .ret=>true
 | _=>false
theorem isR_ok {e:Exit} (h:isR e=true):e = .ret:=by cases e <;> first | rfl | cases h
def blkC (c:Code):Code :=
 match c with
 | .block _ x=>x
 | c=>c
def blkI (c:Code):Nat :=
 match c with
 | .block i _=>i
 | _=>0
def rfG (c:Code):Operand :=
 match c with
 | .rangeFunc g _ _ _=>g
 | _=>.tmp 0
def rfP (c:Code):Array Tmp :=
 match c with
 | .rangeFunc _ p _ _=>p
 | _=>#[]
def rfA (c:Code):Code :=
 match c with
 | .rangeFunc _ _ a _=>a
 | c=>c
def rfB (c:Code):Code :=
 match c with
 | .rangeFunc _ _ _ b=>b
 | c=>c
def isRf (c:Code):Bool :=
 match c with
 | .rangeFunc _ _ _ _=>true
 | _=>false
theorem rf_eq {c:Code} (h:isRf c=true):c = .rangeFunc (rfG c) (rfP c) (rfA c) (rfB c):=by cases c <;> first | rfl | cases h
end
end Go.Proofs.Ytegmogadbnfbgaa.Ev
