import Derived.Test.YtldekgkjofgacaaZ14
set_option linter.all false
/- The error of two indexes; the oracle of isDoubt. -/
namespace Go.Proofs.Ytldekgkjofgacaa
open Go Ev
noncomputable section
open Classical in
def cdE (A:List AV) (n:Nat) (L:List AV) (nl:Nat) (B:List AV) (nf:Nat) (W:List AV) (nw:Nat) (i k:Int):Int :=
 if clE A n L nl nf W nw=0 then (if 0≤i∧k < n∧i < k then (if dbP B L i.toNat k.toNat then 0 else 14) else 3) else clE A n L nl nf W nw
section
variable {A L B W : List AV} {n nl nf nw : Nat} {i k : Int}
end
def pairV (a:AV):Option (Value×Value):=match a with
 | .agg l=>match l with
  | [x,z]=>match x with
   | .v u=>match z with
    | .v v=>some (u,v)
    | _=>none
   | _=>none
  | _=>none
 | .v x=>match x with
  | .agg arr=>match arr.toList with
   | [u,v]=>some (u,v)
   | _=>none
  | _=>none
 | _=>none
theorem pairV_den {a:AV} {u v:Value} (h:pairV a=some (u,v)):Ext a∧∀ σ x,den σ a=some x→den σ (.agg [.v u,.v v])=some x:=by
 unfold pairV at h
 split at h
 ·split at h
  ·split at h
   ·split at h
    ·cases h
     exact ⟨ext_agg (extL_cons (ext_v _) (extL_cons (ext_v _) extL_nil)),fun σ x e=>e⟩
    ·cases h
   ·cases h
  ·cases h
 ·split at h
  ·rename_i arr
   split at h
   ·rename_i e1
    cases h
    refine ⟨ext_v _,fun σ x e=>?_⟩
    simp only [den,denL,Option.map_some] at e ⊢
    rw [← e,← e1]
   ·cases h
  ·cases h
 ·cases h
theorem givesA_congr {f:FuncId} {args args':List AV} {r:Value} (k:∀ w xs,denL (bare w) args=some xs→denL (bare w) args'=some xs) (h:GivesA pg f args' r):GivesA pg f args r:=⟨h.1,fun F n w xs hW hx=>h.2 F n w xs hW (k w xs hx)⟩
theorem denL_two {σ:Env} {a b b':AV} {xs:List Value} (k:∀ x,den σ b=some x→den σ b'=some x) (h:denL σ [a,b]=some xs):denL σ [a,b']=some xs:=by
 simp only [denL] at h ⊢
 cases e1:den σ a with
 | none=>rw [e1] at h; cases h
 | some x=>cases e2:den σ b with
  | none=>rw [e1,e2] at h; cases h
  | some z =>
   rw [e1,e2] at h
   rw [k z e2]
   exact h
def isdS:List AV→Option (Res1×List Prop):=fun vs =>
 match vs with
 | [.agg [.xl ya na k1 ca,.xl yl nl k2 cl,.xl yf nf k3 cf,.xl yw nw k4 cw],q]=>match pairV q with
  | some (vi,vk)=>match numV vi,numV vk with
   | some i,some k=>some (.val (.v (.bool (clB (dbP cf cl i.toNat k.toNat)))),[IsLampK k1 k2 k3 k4 ca na cl nl cf nf cw nw,clE ca na cl nl nf cw nw=0,0≤i,i < k,k < na])
   | _,_=>none
  | none=>none
 | _=>none
def isdO:OrcH:=extOrc 59 isdS
theorem known_isd:Known pg (clsO isdO):=known_ext (fun vs r ps h hp=>by
 unfold isdS at h
 split at h
 ·split at h
  ·rename_i vi vk hv
   obtain ⟨hq1,hq2⟩:=pairV_den hv
   split at h
   ·rename_i i k hi hk
    cases h
    obtain ⟨⟨rfl,rfl,rfl,rfl,A,L,B,W,rfl,rfl,rfl,rfl,rfl,rfl,rfl,rfl⟩,hz,h1,h2,h3,-⟩:=hp
    rw [numV_eq hi,numV_eq hk] at hq2
    obtain ⟨a,rfl⟩:∃ a:Nat,i=(a:Int):=⟨i.toNat,by omega⟩
    obtain ⟨b,rfl⟩:∃ b:Nat,k=(b:Int):=⟨k.toNat,by omega⟩
    exact ⟨extL_cons ext_lamp (extL_cons hq1 extL_nil),_,rfl,givesA_congr (fun w xs hx=>denL_two (hq2 _) hx) (isd_g _ _ _ _ A L B W a b hz (by omega) (by omega))⟩
   ·cases h
  ·cases h
 ·cases h)
end
end Go.Proofs.Ytldekgkjofgacaa
