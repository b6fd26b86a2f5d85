import Derived.Test.YtegmogadbnfbgaaF1
set_option linter.all false
/- What is known of functions of spectra. -/
namespace Go.Proofs.Ytegmogadbnfbgaa
open Go Ev
noncomputable section
theorem cRw_isI {R:List (Value×List Int)} {i:Nat} (h:i < R.length):IsI 1 (xlN (cRw R) (i * 1)) (xlC (cRw R) (i * 1)):=by
 rw [Nat.mul_one]
 exact ⟨rfl,rwL R i,cRw_c h,cRw_n h⟩
def afS:List AV→Option (Res1×List Prop):=fun vs =>
 match vs with
 | [.v a,.v b,.xl y n k c]=>match numV a,numV b with
  | some lo,some hi=>some (.val (.v (.bool (afB lo hi c n))),[IsI k n c,n≤1000])
  | _,_=>none
 | _=>none
def afO:OrcH:=extOrc 72 afS
theorem known_af:Known Try.prog (clsO afO):=known_ext (fun vs r ps h hp=>by
 unfold afS at h
 split at h
 ·split at h
  ·rename_i lo hi e1 e2
   cases h
   obtain ⟨⟨rfl,L,rfl,rfl⟩,h1,-⟩:=hp
   rw [numV_eq e1,numV_eq e2]
   exact ⟨extL_cons (ext_v _) (extL_cons (ext_v _) (extL_cons (ext_xl (extL_plain (cI_plain L))) extL_nil)),_,rfl,af_g _ L lo hi h1⟩
  ·cases h
 ·cases h)
end
end Go.Proofs.Ytegmogadbnfbgaa
