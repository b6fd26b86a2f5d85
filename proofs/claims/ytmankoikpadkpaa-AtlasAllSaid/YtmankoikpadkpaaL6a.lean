import Derived.Test.YtmankoikpadkpaaL5
import Derived.Test.YtmankoikpadkpaaL4
set_option linter.all false
/- Oracles of newPage and of the cases of a plan. -/
namespace Go.Proofs.Ytmankoikpadkpaa
open Go Ev
noncomputable section
theorem plE_len0 {n:Int} {c:List AV} {m:Nat} (h:plE n c m=0):∀ i,i < m→xlN c (i * 1)=n.toNat:=fun i hi=>by
 obtain ⟨-,h2,h3,-⟩:=plE_zero h
 have:=h3 i hi
 unfold lenAt at this
 omega
theorem pg_seen {n:Int} {c:List AV} {m:Nat} (h:plE n c m=0) {j:Nat} (hj:j < n.toNat * 4) : -1≤pgF c m 0 j∧pgF c m 0 j≤1:=by
 obtain ⟨-,h2,h3,h4,-⟩:=plE_zero h
 unfold pgF
 by_cases e:j % 4 < m∨(j % 4=m∧j / 4 < 0)
 ·rw [if_pos e]
  have hi:j % 4 < m:=by omega
  have hx:=okS_all.1 (h4 _ hi) (j / 4) (by rw [plE_len0 h _ hi]; omega)
  exact hx
 ·rw [if_neg e]
  omega
def numC (a:AV):Option (Int×Int) :=
 match a with
 | .agg l=>match l with
  | [x,z]=>match x with
   | .v v=>match z with
    | .v u=>match numV v with
     | some i=>match numV u with
      | some j=>some (i,j)
      | none=>none
     | none=>none
    | _=>none
   | _=>none
  | _=>none
 | _=>none
theorem numC_eq {a:AV} {i j:Int} (h:numC a=some (i,j)):a = .agg [.v (.int .i64 i),.v (.int .i64 j)]:=by
 unfold numC at h
 split at h
 ·split at h
  ·split at h
   ·split at h
    ·split at h
     ·rename_i e1
      split at h
      ·rename_i e2
       cases h
       rw [numV_eq e1,numV_eq e2]
      ·cases h
     ·cases h
    ·cases h
   ·cases h
  ·cases h
 ·cases h
theorem ext_num (i j:Int):Ext (.agg [.v (.int .i64 i),.v (.int .i64 j)]):=ext_agg (extL_cons (ext_v _) (extL_cons (ext_v _) extL_nil))
def caS:List AV→Option (Res1×List Prop):=fun args =>
 match args with
 | [p,x]=>match planV p with
  | some (n,y,m,c)=>match numC x with
   | some (a,b)=>some (.val (.v (.bool (caB n a b))),[IsR m c,1≤n,n≤39])
   | none=>none
  | none=>none
 | _=>none
def caO:OrcH:=extOrc 51 caS
theorem known_ca:Known Try.prog (clsO caO):=known_ext (fun args r ps h hp=>by
 unfold caS at h
 split at h
 ·split at h
  ·rename_i n y m c e
   split at h
   ·rename_i a b e2
    cases h
    obtain ⟨⟨R,rfl,rfl⟩,h1,h2,-⟩:=hp
    rw [planV_eq e,numC_eq e2]
    exact ⟨extL_cons (ext_plan n y R) (extL_cons (ext_num a b) extL_nil),_,rfl,ca_g n y R a b ⟨h1,h2⟩⟩
   ·cases h
  ·cases h
 ·cases h)
def npS:List AV→Option (Res1×List Prop):=fun args =>
 match args with
 | [p]=>match planV p with
  | some (n,y,m,c)=>some (.blk (fun b=>.agg [.v (.int .i64 n),.xl y m 1 c,.sl b 0 n.toNat n.toNat]) (.cells (cI (tabL (pgF c m 0) (n.toNat * 4))) 61),[IsR m c,plE n c m=0])
  | none=>none
 | _=>none
def npO:OrcH:=extOrc 40 npS
theorem known_np:Known Try.prog (clsO npO):=known_ext2 (fun args r ps h hp=>by
 unfold npS at h
 split at h
 ·split at h
  ·rename_i n y m c e
   cases h
   obtain ⟨⟨R,rfl,rfl⟩,h1,-⟩:=hp
   rw [planV_eq e]
   obtain ⟨hm,hn,hl,-⟩:=plE_zero h1
   have hx:=plE_len0 h1
   obtain ⟨p,rfl⟩:∃ p:Nat,n=(p:Int):=⟨n.toNat,by omega⟩
   exact ⟨extL_cons (ext_plan _ y R) extL_nil,np_g p y R (by omega) hm hx⟩
  ·cases h
 ·cases h)
def seT:OrcH:=orO plO (orO caO npO)
theorem known_seT:Known Try.prog (clsO seT):=known_or known_pl (known_or known_ca known_np)
theorem mul_seen {x b:Int} (h : -1≤x∧x≤1) (hb:b=0∨b=1∨b = -1) : -9223372036854775808≤x * b∧x * b≤9223372036854775807:=by
 rcases hb with rfl | rfl | rfl <;> omega
theorem caB_iff {n a b:Int}:caB n a b=true↔((b=0∧a=0)∨((b=1∨b = -1)∧0≤a∧a < n)):=by unfold caB; rw [decide_eq_true_eq]
end
end Go.Proofs.Ytmankoikpadkpaa
