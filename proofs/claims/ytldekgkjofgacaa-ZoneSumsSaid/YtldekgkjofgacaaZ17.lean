import Derived.Test.YtldekgkjofgacaaZ16
set_option linter.all false
/- The contradiction that is returned; oracles. -/
namespace Go.Proofs.Ytldekgkjofgacaa
open Go Ev
noncomputable section
def fdS:List AV→Option (Res1×List Prop):=fun vs =>
 match vs with
 | [.agg [.xl ya na k1 ca,.xl yl nl k2 cl,.xl yf nf k3 cf,.xl yw nw k4 cw]]=>some (.val (.agg [.v (.int .i64 (dI cf cl na)),.v (.int .i64 (dK cf cl na))]),[IsLampK k1 k2 k3 k4 ca na cl nl cf nf cw nw,clE ca na cl nl nf cw nw=0])
 | _=>none
def fdO:OrcH:=extOrc 60 fdS
theorem known_fd:Known pg (clsO fdO):=known_ext (fun vs r ps h hp=>by
 unfold fdS at h
 split at h
 ·cases h
  obtain ⟨⟨rfl,rfl,rfl,rfl,A,L,B,W,rfl,rfl,rfl,rfl,rfl,rfl,rfl,rfl⟩,hz,-⟩:=hp
  exact ⟨extL_cons ext_lamp extL_nil,_,rfl,fd_g _ _ _ _ A L B W hz⟩
 ·cases h)
def odbO:OrcH:=orO clO fdO
theorem known_odb:Known pg (clsO odbO):=known_or known_cl known_fd
def doI (A:List AV) (n:Nat) (L:List AV) (nl:Nat) (B:List AV) (nf:Nat) (W:List AV) (nw:Nat):Int:=if clE A n L nl nf W nw=0 then dI B L n else 0
def doK (A:List AV) (n:Nat) (L:List AV) (nl:Nat) (B:List AV) (nf:Nat) (W:List AV) (nw:Nat):Int:=if clE A n L nl nf W nw=0 then dK B L n else 0
def doE (A:List AV) (n:Nat) (L:List AV) (nl:Nat) (B:List AV) (nf:Nat) (W:List AV) (nw:Nat):Int:=if clE A n L nl nf W nw=0 then dE B L n else clE A n L nl nf W nw
end
end Go.Proofs.Ytldekgkjofgacaa
