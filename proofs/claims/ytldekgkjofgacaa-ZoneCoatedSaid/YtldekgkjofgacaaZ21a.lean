import Derived.Test.YtldekgkjofgacaaZ20
import Derived.Test.YtldekgkjofgacaaZ17
import Derived.Test.YtldekgkjofgacaaZ15
set_option linter.all false
/- Oracles of the law ZoneDoubts; what it asks. -/
namespace Go.Proofs.Ytldekgkjofgacaa
open Go Ev
noncomputable section
def cdS:List AV→Option (Res1×List Prop):=fun vs =>
 match vs with
 | [.agg [.xl ya na k1 ca,.xl yl nl k2 cl,.xl yf nf k3 cf,.xl yw nw k4 cw],.v u,.v v]=>match numV u,numV v with
  | some a,some b=>some (.val (.v (.int .i64 (cdE ca na cl nl cf nf cw nw a b))),[IsLampK k1 k2 k3 k4 ca na cl nl cf nf cw nw])
  | _,_=>none
 | _=>none
def dbS:List AV→Option (Res1×List Prop):=fun vs =>
 match vs with
 | [.agg [.xl ya na k1 ca,.xl yl nl k2 cl,.xl yf nf k3 cf,.xl yw nw k4 cw]]=>some (.val (.tup [.v (.int .i64 (doI ca na cl nl cf nf cw nw)),.v (.int .i64 (doK ca na cl nl cf nf cw nw)),.v (.int .i64 (doE ca na cl nl cf nf cw nw))]),[IsLampK k1 k2 k3 k4 ca na cl nl cf nf cw nw])
 | _=>none
def dtS:List AV→Option (Res1×List Prop):=fun vs =>
 match vs with
 | [.agg [.xl ya na k1 ca,.xl yl nl k2 cl,.xl yf nf k3 cf,.xl yw nw k4 cw]]=>some (.val (.v (.bool (clB (dtd ca na cl cf nw)))),[IsLampK k1 k2 k3 k4 ca na cl nl cf nf cw nw,clE ca na cl nl nf cw nw=0])
 | _=>none
def dtO:OrcH:=extOrc 26 dtS
theorem known_dt:Known Try.prog (clsO dtO):=known_ext (fun vs r ps h hp=>by
 unfold dtS at h
 split at h
 ·cases h
  obtain ⟨⟨rfl,rfl,rfl,rfl,A,L,B,W,rfl,rfl,rfl,rfl,rfl,rfl,rfl,rfl⟩,hz,-⟩:=hp
  refine ⟨extL_cons ext_lamp extL_nil,_,rfl,?_⟩
  obtain ⟨m,hm⟩:∃ m,W.length=m + 1:=⟨W.length - 1,by
   obtain ⟨hn,ha,he,hl,hw⟩:=clE_zero hz
   have:=deg_bd hn ha he 0 (by omega)
   omega⟩
  have q:=fun ya yl yf yw=>dt_g ya yl yf yw A L B W m hz hm
  simp only [← hm] at q
  exact q _ _ _ _
 ·cases h)
def zwO:OrcH:=plainOrc 16 (fun xs=>match xs with | []=>some (.v (.bool .true)) | _=>none)
section
variable {A L B W : List AV} {n nl nf nw : Nat}
end
end
end Go.Proofs.Ytldekgkjofgacaa
