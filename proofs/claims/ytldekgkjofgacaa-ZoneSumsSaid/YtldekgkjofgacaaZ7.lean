import Derived.Test.YtldekgkjofgacaaZ6
set_option linter.all false
/- Oracles of CheckLamp (both sides), onlyFalls, Gap, Sum; gaps and degrees. -/
namespace Go.Proofs.Ytldekgkjofgacaa
open Go Ev
noncomputable section
def IsLampK (k1 k2 k3 k4:Nat) (ca:List AV) (na:Nat) (cl:List AV) (nl:Nat) (cf:List AV) (nf:Nat) (cw:List AV) (nw:Nat):Prop:=k1=1∧k2=2∧k3=1∧k4=1∧IsLamp ca na cl nl cf nf cw nw
def clS:List AV→Option (Res1×List Prop):=fun vs =>
 match vs with
 | [.agg [.xl ya na k1 ca,.xl yl nl k2 cl,.xl yf nf k3 cf,.xl yw nw k4 cw]]=>some (.val (.v (.int .i64 (clE ca na cl nl nf cw nw))),[IsLampK k1 k2 k3 k4 ca na cl nl cf nf cw nw])
 | _=>none
def clO:OrcH:=extOrc 19 clS
theorem known_cl:Known pg (clsO clO):=known_ext (fun vs r ps h hp=>by
 unfold clS at h
 split at h
 ·cases h
  obtain ⟨⟨rfl,rfl,rfl,rfl,A,L,B,W,rfl,rfl,rfl,rfl,rfl,rfl,rfl,rfl⟩,-⟩:=hp
  exact ⟨extL_cons ext_lamp extL_nil,_,rfl,cl_g _ _ _ _ A L B W⟩
 ·cases h)
def rclO:OrcH:=extOrc 20 clS
theorem known_rcl:Known pg (clsO rclO):=known_ext (fun vs r ps h hp=>by
 unfold clS at h
 split at h
 ·cases h
  obtain ⟨⟨rfl,rfl,rfl,rfl,A,L,B,W,rfl,rfl,rfl,rfl,rfl,rfl,rfl,rfl⟩,-⟩:=hp
  exact ⟨extL_cons ext_lamp extL_nil,_,rfl,rc_g _ _ _ _ A L B W⟩
 ·cases h)
def gpS:List AV→Option (Res1×List Prop):=fun vs =>
 match vs with
 | [.agg [.xl ya na k1 ca,.xl yl nl k2 cl,.xl yf nf k3 cf,.xl yw nw k4 cw],.v v]=>match numV v with
  | some x=>some (.val (.v (.int .i64 (gapF ca x na 0))),[IsLampK k1 k2 k3 k4 ca na cl nl cf nf cw nw,clE ca na cl nl nf cw nw=0,intAt ca (0 * 1) < x,x≤intAt ca ((na - 1) * 1)])
  | none=>none
 | _=>none
def gpO:OrcH:=extOrc 58 gpS
theorem known_gp:Known pg (clsO gpO):=known_ext (fun vs r ps h hp=>by
 unfold gpS at h
 split at h
 ·split at h
  ·rename_i x hv
   cases h
   obtain ⟨⟨rfl,rfl,rfl,rfl,A,L,B,W,rfl,rfl,rfl,rfl,rfl,rfl,rfl,rfl⟩,hz,h1,h2,-⟩:=hp
   rw [numV_eq hv]
   exact ⟨extL_cons ext_lamp (extL_cons (ext_v _) extL_nil),_,rfl,gp_g _ _ _ _ A L B W x hz ⟨h1,h2⟩⟩
  ·cases h
 ·cases h)
theorem gapF_run {A:List AV} {x:Int} {n:Nat} (hx:x≤intAt A ((n - 1) * 1)):∀ (f i:Nat),i + f=n→i < n→intAt A (i * 1) < x→gapF A x f i + 1 < n∧intAt A (gapF A x f i * 1) < x∧x≤intAt A ((gapF A x f i + 1) * 1)
 | 0,i,h,hi,_=>by omega
 | f + 1,i,h,hi,h2=>by
  have hne:i≠n - 1:=fun q=>by rw [← q] at hx; omega
  unfold gapF
  split
  ·exact gapF_run hx f (i + 1) (by omega) (by omega) ‹_›
  ·exact ⟨by omega,h2,by omega⟩
section
variable {A B X : List AV} {n nl nf nw j g : Nat}
theorem gap_of (hn:2≤n∧n≤10) (ha:∀ i,i < n→angAt A i) (he:eqP A n nl nf nw) (hj:j + 1 < nw):gapF A (intAt A (0 * 1) + ((j + 1:Nat):Int)) n 0 + 1 < n∧degA A (gapF A (intAt A (0 * 1) + ((j + 1:Nat):Int)) n 0)≤j∧(j:Int) < degA A (gapF A (intAt A (0 * 1) + ((j + 1:Nat):Int)) n 0 + 1):=by
 have hq:=he.2.2
 unfold degI at hq
 obtain ⟨h1,h2,h3⟩:=gapF_run (A:=A) (x:=intAt A (0 * 1) + ((j + 1:Nat):Int)) (n:=n) (by omega) n 0 (by omega) (by omega) (by omega)
 refine ⟨h1,?_,?_⟩
 ·unfold degA; omega
 ·unfold degA; omega
end
end
end Go.Proofs.Ytldekgkjofgacaa
