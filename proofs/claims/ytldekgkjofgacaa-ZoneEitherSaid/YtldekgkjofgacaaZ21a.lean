import Derived.Test.YtldekgkjofgacaaZ20a
import Derived.Test.YtldekgkjofgacaaZ17
import Derived.Test.YtldekgkjofgacaaZ15
set_option linter.all false
/- Doubted of the reference. -/
namespace Go.Proofs.Ytldekgkjofgacaa
open Go Ev
noncomputable section
def cdS:List AV→Option (Res1×List Prop):=fun vs =>
 match vs with
 | [.agg [.xl ya na k1 ca,.xl yl nl k2 cl,.xl yf nf k3 cf,.xl yw nw k4 cw],.v u,.v v]=>match numV u,numV v with
  | some a,some b=>some (.val (.v (.int .i64 (cdE ca na cl nl cf nf cw nw a b))),[IsLampK k1 k2 k3 k4 ca na cl nl cf nf cw nw])
  | _,_=>none
 | _=>none
def ocdO:OrcH:=extOrc 23 cdS
theorem known_ocd:Known pg (clsO ocdO):=known_ext (fun vs r ps h hp=>by
 unfold cdS at h
 split at h
 ·split at h
  ·rename_i e1 e2
   cases h
   obtain ⟨⟨rfl,rfl,rfl,rfl,A,L,B,W,rfl,rfl,rfl,rfl,rfl,rfl,rfl,rfl⟩,-⟩:=hp
   rw [numV_eq e1,numV_eq e2]
   exact ⟨extL_cons ext_lamp (extL_cons (ext_v _) (extL_cons (ext_v _) extL_nil)),_,rfl,ocd_g _ _ _ _ A L B W _ _⟩
  ·cases h
 ·cases h)
def rcdO:OrcH:=extOrc 24 cdS
theorem known_rcd:Known pg (clsO rcdO):=known_ext (fun vs r ps h hp=>by
 unfold cdS at h
 split at h
 ·split at h
  ·rename_i e1 e2
   cases h
   obtain ⟨⟨rfl,rfl,rfl,rfl,A,L,B,W,rfl,rfl,rfl,rfl,rfl,rfl,rfl,rfl⟩,-⟩:=hp
   rw [numV_eq e1,numV_eq e2]
   exact ⟨extL_cons ext_lamp (extL_cons (ext_v _) (extL_cons (ext_v _) extL_nil)),_,rfl,rcd_g _ _ _ _ A L B W _ _⟩
  ·cases h
 ·cases h)
def dbS:List AV→Option (Res1×List Prop):=fun vs =>
 match vs with
 | [.agg [.xl ya na k1 ca,.xl yl nl k2 cl,.xl yf nf k3 cf,.xl yw nw k4 cw]]=>some (.val (.tup [.v (.int .i64 (doI ca na cl nl cf nf cw nw)),.v (.int .i64 (doK ca na cl nl cf nf cw nw)),.v (.int .i64 (doE ca na cl nl cf nf cw nw))]),[IsLampK k1 k2 k3 k4 ca na cl nl cf nf cw nw])
 | _=>none
def dbO:OrcH:=extOrc 25 dbS
theorem known_db:Known pg (clsO dbO):=known_ext (fun vs r ps h hp=>by
 unfold dbS at h
 split at h
 ·cases h
  obtain ⟨⟨rfl,rfl,rfl,rfl,A,L,B,W,rfl,rfl,rfl,rfl,rfl,rfl,rfl,rfl⟩,-⟩:=hp
  exact ⟨extL_cons ext_lamp extL_nil,_,rfl,db_g _ _ _ _ A L B W⟩
 ·cases h)
def zwO:OrcH:=plainOrc 16 (fun xs=>match xs with | []=>some (.v (.bool .true)) | _=>none)
section
variable {A L B W : List AV} {n nl nf nw : Nat}
theorem do_none (hz:clE A n L nl nf W nw=0) (h:¬ dtd A n L B nw):doI A n L nl B nf W nw=0∧doK A n L nl B nf W nw=0∧doE A n L nl B nf W nw=5:=by
 have q:=clE_zero hz
 have h2:fdAll B L n=none:=by
  cases e:fdAll B L n with
  | none=>rfl
  | some p =>
   have d:=fdAll_of e
   exact absurd ((dtd_iff (B:=B) ⟨q.1,q.2.1,q.2.2.1,q.2.2.2.1⟩).2 ⟨p.2,d.2.1,p.1,d.1,d.2.2⟩) h
 unfold doI doK doE
 rw [if_pos hz,if_pos hz,if_pos hz]
 have z:=dK_zero.2 h2
 exact ⟨z.1,z.2,dE_none h2⟩
theorem do_some (hz:clE A n L nl nf W nw=0) (h:dtd A n L B nw):doE A n L nl B nf W nw=0∧cdE A n L nl B nf W nw (doI A n L nl B nf W nw) (doK A n L nl B nf W nw)=0:=by
 have q:=clE_zero hz
 obtain ⟨k,hk,j,hj,hd⟩:=(dtd_iff (B:=B) ⟨q.1,q.2.1,q.2.2.1,q.2.2.2.1⟩).1 h
 have h2:¬ fdAll B L n=none:=fun e=>fdAll_not e k hk j hj hd
 unfold doI doK doE
 rw [if_pos hz,if_pos hz,if_pos hz]
 refine ⟨dE_some h2,?_⟩
 cases e:fdAll B L n with
 | none=>exact absurd e h2
 | some p =>
  have d:=fdAll_of e
  have e1:dI B L n=p.1:=by unfold dI; rw [e]
  have e2:dK B L n=p.2:=by unfold dK; rw [e]
  rw [e1,e2]
  exact cdE_ok hz (by omega) d.2.2
end
end
end Go.Proofs.Ytldekgkjofgacaa
