import Derived.Test.YtegmogadbnfbgaaFw
set_option linter.all false
/- Regions in the text's order, operation by operation; a ca -/
namespace Go.Proofs.Ytegmogadbnfbgaa.Ev
open Go
noncomputable section
variable {P : Program} {w0 : BaseW} {sz : Nat} {rec : Rec}
end
end Go.Proofs.Ytegmogadbnfbgaa.Ev
namespace Go.Proofs.Ytegmogadbnfbgaa.Ev
open Go
noncomputable section
variable {P : Program} {w0 : BaseW} {sz : Nat}
def isR (e:Exit):Bool :=
 match e with
 | .ret=>true
 | _=>false
theorem isR_ok {e:Exit} (h:isR e=true):e = .ret:=by cases e <;> first | rfl | cases h
def blkC (c:Code):Code :=
 match c with
 | .block _ x=>x
 | c=>c
def blkI (c:Code):Nat :=
 match c with
 | .block i _=>i
 | _=>0
end
end Go.Proofs.Ytegmogadbnfbgaa.Ev
