import Derived.Test.YtldekgkjofgacaaZ27
import Derived.Test.YtldekgkjofgacaaZ17
set_option linter.all false
/- Lights behind a coating. -/
namespace Go.Proofs.Ytldekgkjofgacaa
open Go Ev
end Go.Proofs.Ytldekgkjofgacaa
namespace Go.Proofs.Ytldekgkjofgacaa
open Go Ev
noncomputable section
def isP (i:Nat):AV→Bool
 | .ptr b o=>match Nat.beq b i with
  | true=>Nat.beq o 0
  | false=>false
 | _=>false
theorem isP_ok {i:Nat} {v:AV} (h:isP i v=true):v = .ptr i 0:=by
 unfold isP at h
 split at h
 ·split at h
  ·rename_i h1
   rw [Nat.eq_of_beq_eq_true h1,Nat.eq_of_beq_eq_true h]
  ·cases h
 ·cases h
theorem nw_le {A W:List Int} {L:PR} {B:List Bool} (hz:ZK A L B W):W.length≤91:=by
 obtain ⟨hn,ha,he,hl,hw⟩:=clE_zero hz
 exact (deg_bd hn ha he 0 (by omega)).2.2.1
theorem loF_bd {l:List AV} (hl:l.length=4) {lo hi:Nat→Int} {k:Nat} (h:k < 91):loF (bdC l lo hi) k=lo k:=bd_intLo hl rfl h
theorem hiF_bd {l:List AV} (hl:l.length=4) {lo hi:Nat→Int} {k:Nat} (h:k < 91):hiF (bdC l lo hi) k=hi k:=bd_intHi hl rfl h
section
variable (A : List AV) (n : Nat) (L : List AV) (nl : Nat) (B : List AV) (nf : Nat) (W : List AV) (nw : Nat)
variable {A n L nl B nf W nw}
end
section
variable {A W : List Int} {L : PR} {B : List Bool}
theorem rdB_rng (hz:ZK A L B W):RngX (rdB (cI A) A.length (cR L) (cB B) W.length W.length):=by
 obtain ⟨hn,ha,he,hl,hw⟩:=clE_zero hz
 -- it is what settles
 have:∃ i,zG (cI A) (cR L) (cB B) A.length i=true:=by
  refine Classical.byContradiction fun hno=>?_
  have:=zG_bound (B:=cB B) hn ha he hl 40000 (fun j _=>by
   cases h:zG (cI A) (cR L) (cB B) A.length j with
   | true=>exact absurd ⟨j,h⟩ hno
   | false=>rfl)
  omega
 obtain ⟨i,hi⟩:=this
 have e:=zG_end hn ha he hl i hi
 obtain ⟨-,-,ho,hr,-⟩:=rnG_known (B:=cB B) hn ha he hl i
 obtain ⟨i1,i2⟩:=init_known hn ha he hl
 intro k
 have nw:=(deg_lt' hn ha he (i:=0) (by omega)).2.1
 by_cases hk:k < 91
 ·have a:=hr k; have b:=e k hk; omega
 ·have o2:=rdB_out (A:=cI A) (L:=cR L) (B:=cB B) (n:=A.length) (m:=W.length) W.length i1 k (by omega)
  omega
end
end
end Go.Proofs.Ytldekgkjofgacaa
