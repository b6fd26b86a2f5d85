import Derived.Test.YtldekgkjofgacaaZ6
set_option linter.all false
/- Oracles of CheckLamp (both sides), onlyFalls, Gap, Sum; gaps and degrees. -/
namespace Go.Proofs.Ytldekgkjofgacaa
open Go Ev
noncomputable section
def IsLampK (k1 k2 k3 k4:Nat) (ca:List AV) (na:Nat) (cl:List AV) (nl:Nat) (cf:List AV) (nf:Nat) (cw:List AV) (nw:Nat):Prop:=k1=1∧k2=2∧k3=1∧k4=1∧IsLamp ca na cl nl cf nf cw nw
def clS:List AV→Option (Res1×List Prop):=fun vs =>
 match vs with
 | [.agg [.xl ya na k1 ca,.xl yl nl k2 cl,.xl yf nf k3 cf,.xl yw nw k4 cw]]=>some (.val (.v (.int .i64 (clE ca na cl nl nf cw nw))),[IsLampK k1 k2 k3 k4 ca na cl nl cf nf cw nw])
 | _=>none
def clO:OrcH:=extOrc 19 clS
theorem known_cl:Known pg (clsO clO):=known_ext (fun vs r ps h hp=>by
 unfold clS at h
 split at h
 ·cases h
  obtain ⟨⟨rfl,rfl,rfl,rfl,A,L,B,W,rfl,rfl,rfl,rfl,rfl,rfl,rfl,rfl⟩,-⟩:=hp
  exact ⟨extL_cons ext_lamp extL_nil,_,rfl,cl_g _ _ _ _ A L B W⟩
 ·cases h)
def rclO:OrcH:=extOrc 20 clS
theorem known_rcl:Known pg (clsO rclO):=known_ext (fun vs r ps h hp=>by
 unfold clS at h
 split at h
 ·cases h
  obtain ⟨⟨rfl,rfl,rfl,rfl,A,L,B,W,rfl,rfl,rfl,rfl,rfl,rfl,rfl,rfl⟩,-⟩:=hp
  exact ⟨extL_cons ext_lamp extL_nil,_,rfl,rc_g _ _ _ _ A L B W⟩
 ·cases h)
def gpS:List AV→Option (Res1×List Prop):=fun vs =>
 match vs with
 | [.agg [.xl ya na k1 ca,.xl yl nl k2 cl,.xl yf nf k3 cf,.xl yw nw k4 cw],.v v]=>match numV v with
  | some x=>some (.val (.v (.int .i64 (gapF ca x na 0))),[IsLampK k1 k2 k3 k4 ca na cl nl cf nf cw nw,clE ca na cl nl nf cw nw=0,intAt ca (0 * 1) < x,x≤intAt ca ((na - 1) * 1)])
  | none=>none
 | _=>none
def gpO:OrcH:=extOrc 58 gpS
theorem known_gp:Known pg (clsO gpO):=known_ext (fun vs r ps h hp=>by
 unfold gpS at h
 split at h
 ·split at h
  ·rename_i x hv
   cases h
   obtain ⟨⟨rfl,rfl,rfl,rfl,A,L,B,W,rfl,rfl,rfl,rfl,rfl,rfl,rfl,rfl⟩,hz,h1,h2,-⟩:=hp
   rw [numV_eq hv]
   exact ⟨extL_cons ext_lamp (extL_cons (ext_v _) extL_nil),_,rfl,gp_g _ _ _ _ A L B W x hz ⟨h1,h2⟩⟩
  ·cases h
 ·cases h)
def isUp (n:Int):Bool:=match n with
  | .ofNat _=>true
  | .negSucc _=>false
def ofS:List AV→Option (Res1×List Prop):=fun vs =>
 match vs with
 | [.agg [.v vb,.v ve,.v vs],.xl y n k c]=>match numV vb,numV ve,numV vs with
  | some b,some e,some s=>match isUp s with
   | true=>some (.val (.v (.bool (clB (fallP c b e)))),[s=1,IsI k n c,0≤b,b≤e,e < n,n≤1000])
   | false=>some (.val (.v (.bool (clB (riseP c e b)))),[s = -1,IsI k n c,0≤e,e≤b,b < n,n≤1000])
  | _,_,_=>none
 | _=>none
def ofO:OrcH:=extOrc 57 ofS
theorem known_of:Known pg (clsO ofO):=known_ext (fun vs r ps h hp=>by
 unfold ofS at h
 split at h
 ·split at h
  ·rename_i b e s hb he hs
   rw [numV_eq hb,numV_eq he,numV_eq hs]
   split at h
   ·cases h
    obtain ⟨rfl,⟨rfl,X,rfl,rfl⟩,h1,h2,h3,h4,-⟩:=hp
    exact ⟨extL_cons (ext_agg (extL_cons (ext_v _) (extL_cons (ext_v _) (extL_cons (ext_v _) extL_nil)))) (extL_cons (ext_xl (extL_plain (cI_plain X))) extL_nil),_,rfl,ofu_g _ b e X h1 h2 h3 h4⟩
   ·cases h
    obtain ⟨rfl,⟨rfl,X,rfl,rfl⟩,h1,h2,h3,h4,-⟩:=hp
    exact ⟨extL_cons (ext_agg (extL_cons (ext_v _) (extL_cons (ext_v _) (extL_cons (ext_v _) extL_nil)))) (extL_cons (ext_xl (extL_plain (cI_plain X))) extL_nil),_,rfl,ofd_g _ b e X h1 h2 h3 h4⟩
  ·cases h
 ·cases h)
def rtO:OrcH:=orO rclO gpO
theorem known_rt:Known pg (clsO rtO):=known_or known_rcl known_gp
def otO:OrcH:=orO clO ofO
theorem known_ot:Known pg (clsO otO):=known_or known_cl known_of
theorem gapF_run {A:List AV} {x:Int} {n:Nat} (hx:x≤intAt A ((n - 1) * 1)):∀ (f i:Nat),i + f=n→i < n→intAt A (i * 1) < x→gapF A x f i + 1 < n∧intAt A (gapF A x f i * 1) < x∧x≤intAt A ((gapF A x f i + 1) * 1)
 | 0,i,h,hi,_=>by omega
 | f + 1,i,h,hi,h2=>by
  have hne:i≠n - 1:=fun q=>by rw [← q] at hx; omega
  unfold gapF
  split
  ·exact gapF_run hx f (i + 1) (by omega) (by omega) ‹_›
  ·exact ⟨by omega,h2,by omega⟩
def refP (A:List AV) (n:Nat) (B X:List AV) (j:Nat):Prop:=match boolAt B (gapF A (intAt A (0 * 1) + ((j + 1:Nat):Int)) n 0 * 1) with
 | true=>intAt X ((j + 1) * 1)≤intAt X (j * 1)
 | false=>intAt X (j * 1)≤intAt X ((j + 1) * 1)
section
variable {A B X : List AV} {n nl nf nw j g : Nat}
theorem gap_of (hn:2≤n∧n≤10) (ha:∀ i,i < n→angAt A i) (he:eqP A n nl nf nw) (hj:j + 1 < nw):gapF A (intAt A (0 * 1) + ((j + 1:Nat):Int)) n 0 + 1 < n∧degA A (gapF A (intAt A (0 * 1) + ((j + 1:Nat):Int)) n 0)≤j∧(j:Int) < degA A (gapF A (intAt A (0 * 1) + ((j + 1:Nat):Int)) n 0 + 1):=by
 have hq:=he.2.2
 unfold degI at hq
 obtain ⟨h1,h2,h3⟩:=gapF_run (A:=A) (x:=intAt A (0 * 1) + ((j + 1:Nat):Int)) (n:=n) (by omega) n 0 (by omega) (by omega) (by omega)
 refine ⟨h1,?_,?_⟩
 ·unfold degA; omega
 ·unfold degA; omega
theorem ref_of_gap (hn:2≤n∧n≤10) (ha:∀ i,i < n→angAt A i) (he:eqP A n nl nf nw) (hj:j + 1 < nw) (h:gapP A B X (gapF A (intAt A (0 * 1) + ((j + 1:Nat):Int)) n 0)):refP A n B X j:=by
 obtain ⟨h1,h2,h3⟩:=gap_of hn ha he hj
 unfold gapP at h
 unfold refP
 split at h
 ·rename_i hb; rw [hb]; exact h j h2 h3
 ·rename_i hb; rw [hb]; exact h j h2 h3
theorem gap_of_ref (hn:2≤n∧n≤10) (ha:∀ i,i < n→angAt A i) (he:eqP A n nl nf nw) (h:∀ j,j + 1 < nw→refP A n B X j) (hg:g + 1 < n):gapP A B X g:=by
 have key:∀ k:Nat,degA A g≤k→(k:Int) < degA A (g + 1)→k + 1 < nw∧gapF A (intAt A (0 * 1) + ((k + 1:Nat):Int)) n 0=g:=fun k k1 k2=>by
  have hd:=deg_bd hn ha he (g + 1) hg
  have hk:k + 1 < nw:=by unfold degA at k2; omega
  refine ⟨hk,?_⟩
  obtain ⟨h1,h2,h3⟩:=gap_of hn ha he hk
  generalize gapF A (intAt A (0 * 1) + ((k + 1:Nat):Int)) n 0=q at h1 h2 h3
  unfold degA at k1 k2 h2 h3
  rcases Nat.lt_trichotomy q g with c | c | c
  ·have:=ang_up ha (q + 1) (g - (q + 1)) (by omega)
   rw [show q + 1 + (g - (q + 1))=g by omega] at this
   omega
  ·exact c
  ·have:=ang_up ha (g + 1) (q - (g + 1)) (by omega)
   rw [show g + 1 + (q - (g + 1))=q by omega] at this
   omega
 unfold gapP
 split
 ·rename_i hb
  intro k k1 k2
  obtain ⟨q1,q2⟩:=key k k1 k2
  have:=h k q1
  unfold refP at this
  rw [q2,hb] at this
  exact this
 ·rename_i hb
  intro k k1 k2
  obtain ⟨q1,q2⟩:=key k k1 k2
  have:=h k q1
  unfold refP at this
  rw [q2,hb] at this
  exact this
end
end
end Go.Proofs.Ytldekgkjofgacaa
