import Derived.Test.YtmankoikpadkpaaC4a
import Derived.Test.YtmankoikpadkpaaL4
import Derived.Test.YtmankoikpadkpaaC4d4
set_option linter.all false
/- Lemmas for Cases of the reference. -/
namespace Go.Proofs.Ytmankoikpadkpaa
open Go Ev
noncomputable section
theorem cas_i {N i:Nat} (hi:i < N):intAt (cR (casL N)) (0 + i * 2 + 0)=(caseN i).1∧intAt (cR (casL N)) (0 + i * 2 + 1)=(caseN i).2:=by
 rw [show 0 + i * 2 + 0=i * 2 by omega,show 0 + i * 2 + 1=i * 2 + 1 by omega]
 exact ⟨cas_1 hi,cas_3 hi⟩
theorem got_all {M:Int×Int→Bool} (h:∀ q,M q=true):∀ n,gotL M n=casL n
 | 0=>rfl
 | n + 1=>by rw [got_t (h _),got_all h n]; rfl
theorem got_zs (c:List AV) (n:Nat):gotL (seeM c 0 (padF [])) n=casL n:=got_all (fun q=>(see_rec (m:=0) (L:=[]) (by omega) rfl q).trans (decide_eq_true (fun j hj=>absurd hj (Nat.not_lt_zero j)))) n
theorem oc_a (y z:Value) (R:List (Value×List Int)) (p:Nat) (L:List Int) (h:csE ((p:Nat):Int) (cRw R) R.length (cI L) L.length=0) (h0:(gotL (seeM (cRw R) R.length (padF L)) (1 + 2 * p)).length=0):GivesM Try.prog 21 [.agg [.v (.int .i64 ((p:Nat):Int)),.xl y R.length 1 (cRw R)],.xl z L.length 1 (cI L)] [] (.tup [.v (.slice none 0 0),.v (.int .i64 0)]) []:=by
 obtain ⟨hE,hl,hS⟩:=csE_zero h
 have hm:=(plE_zero hE).1
 clear h
 generalize hR:R.length=m at *
 subst hl
 match L,hR,hE,hS,hm,h0 with
 | [],hR,hE,hS,hm,h0 =>
  exfalso
  have h7:(gotL (seeM (cRw R) 0 (padF [])) (1 + 2 * p)).length=0:=h0
  rw [got_zs,cas_len] at h7
  omega
 | [a0],hR,hE,hS,hm,h0=>exact Cases_a1 y R z p a0 hR.symm hE hS h0
 | [a0,a1],hR,hE,hS,hm,h0=>exact Cases_a2 y R z p a0 a1 hR.symm hE hS h0
 | [a0,a1,a2],hR,hE,hS,hm,h0=>exact Cases_a3 y R z p a0 a1 a2 hR.symm hE hS h0
 | [a0,a1,a2,a3],hR,hE,hS,hm,h0=>exact Cases_a4 y R z p a0 a1 a2 a3 hR.symm hE hS h0
 | a0 :: a1 :: a2 :: a3 :: a4 :: l,hR,hE,hS,hm,h0=>exact absurd hm (by simp only [List.length_cons]; omega)
theorem oc_b (y z:Value) (R:List (Value×List Int)) (p:Nat) (L:List Int) (h:csE ((p:Nat):Int) (cRw R) R.length (cI L) L.length=0) (h0:0 < (gotL (seeM (cRw R) R.length (padF L)) (1 + 2 * p)).length):GivesM Try.prog 21 [.agg [.v (.int .i64 ((p:Nat):Int)),.xl y R.length 1 (cRw R)],.xl z L.length 1 (cI L)] [] (.tup [.slu 0 0 (gotL (seeM (cRw R) R.length (padF L)) (1 + 2 * p)).length 0,.v (.int .i64 0)]) [.row (cR (gotL (seeM (cRw R) R.length (padF L)) (1 + 2 * p))) 26 2]:=by
 obtain ⟨hE,hl,hS⟩:=csE_zero h
 have hm:=(plE_zero hE).1
 clear h
 generalize hR:R.length=m at *
 subst hl
 match L,hR,hE,hS,hm,h0 with
 | [],hR,hE,hS,hm,h0=>exact Cases_b0 y R z p  hR.symm hE hS h0
 | [a0],hR,hE,hS,hm,h0=>exact Cases_b1 y R z p a0 hR.symm hE hS h0
 | [a0,a1],hR,hE,hS,hm,h0=>exact Cases_b2 y R z p a0 a1 hR.symm hE hS h0
 | [a0,a1,a2],hR,hE,hS,hm,h0=>exact Cases_b3 y R z p a0 a1 a2 hR.symm hE hS h0
 | [a0,a1,a2,a3],hR,hE,hS,hm,h0=>exact Cases_b4 y R z p a0 a1 a2 a3 hR.symm hE hS h0
 | a0 :: a1 :: a2 :: a3 :: a4 :: l,hR,hE,hS,hm,h0=>exact absurd hm (by simp only [List.length_cons]; omega)
def oxS:List AV→List AB→Option ((AV×List AB)×List Prop):=fun args xs =>
 match args with
 | [a,.xl z j k d]=>match planV a,xs with
  | some (n,y,m,c),[]=>some ((.tup [.v (.slice none 0 0),.v (.int .i64 (csE n c m d j))],[]),[IsR m c,k=1∧d=cI (unI d)∧j=(unI d).length,¬ csE n c m d j=0])
  | _,_=>none
 | _=>none
def wkcS:List Value→Option AV:=fun xs=>match xs with | []=>some (.v (.bool true)) | _=>none
def wkC:OrcH:=plainOrc 15 wkcS
def grcS:List AV→Option (Res1×List Prop):=fun args =>
 match args with
 | [a]=>match planV a with
  | some (n,y,m,c)=>some (.val (.v (.bool (grB c m))),[IsR m c])
  | none=>none
 | _=>none
def grC:OrcH:=extOrc 14 grcS
theorem known_grc:Known Try.prog (clsO grC):=known_ext (fun args r ps h hp=>by
 unfold grcS at h
 split at h
 ·split at h
  ·rename_i n y m c e
   cases h
   obtain ⟨⟨R,rfl,rfl⟩,-⟩:=hp
   rw [planV_eq e]
   exact ⟨extL_cons (ext_plan n y R) extL_nil,_,rfl,gr_g n y R⟩
  ·cases h
 ·cases h)
end
end Go.Proofs.Ytmankoikpadkpaa
