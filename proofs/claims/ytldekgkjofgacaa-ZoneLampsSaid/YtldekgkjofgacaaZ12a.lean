/- Oracles of the law ZoneLamps. -/
import Derived.Test.YtldekgkjofgacaaZ11
namespace Go.Proofs.Ytldekgkjofgacaa
set_option linter.unusedVariables false
set_option linter.unusedSimpArgs false
open Go Ev
noncomputable section
def fxS : List AV → Option (Res1 × List Prop) := fun vs =>
  match vs with
  | [.agg [.xl ya na k1 ca, .xl yl nl k2 cl, .xl yf nf k3 cf, .xl yw nw k4 cw], .xl yx nx k5 cx] => some (.val (.tup [.v (.int .i64 (fxE ca na cl nl cf nf cw nw cx nx)), .v (.int .i64 (tE ca na cl nl cf nf cw nw cx nx))]), [IsLamX k1 k2 k3 k4 k5 ca na cl nl cf nf cw nw cx nx])
  | _ => none
def oxO : OrcH := extOrc 17 fxS
theorem known_ox : Known Try.prog (clsO oxO) := known_ext (fun vs r ps h hp => by
  unfold fxS at h
  split at h
  · cases h
    obtain ⟨⟨⟨rfl, rfl, rfl, rfl, A, L, B, W, rfl, rfl, rfl, rfl, rfl, rfl, rfl, rfl⟩, rfl, X, rfl, rfl⟩, -⟩ := hp
    exact ⟨extL_cons ext_lamp (extL_cons (ext_xl (extL_plain (cI_plain X))) extL_nil), _, rfl, ox_g _ _ _ _ A L B W _ X⟩
  · cases h)
def rxO : OrcH := extOrc 18 fxS
theorem known_rx : Known Try.prog (clsO rxO) := known_ext (fun vs r ps h hp => by
  unfold fxS at h
  split at h
  · cases h
    obtain ⟨⟨⟨rfl, rfl, rfl, rfl, A, L, B, W, rfl, rfl, rfl, rfl, rfl, rfl, rfl, rfl⟩, rfl, X, rfl, rfl⟩, -⟩ := hp
    exact ⟨extL_cons ext_lamp (extL_cons (ext_xl (extL_plain (cI_plain X))) extL_nil), _, rfl, rx_g _ _ _ _ A L B W _ X⟩
  · cases h)
/-- Works, once it is known. -/
def zwO : OrcH := plainOrc 16 (fun xs => match xs with | [] => some (.v (.bool .true)) | _ => none)
def zlO : OrcH := orO zwO (orO oxO (orO rxO (orO clO (orO rclO (orO otcO rtcO)))))
theorem known_zl (hw : Known Try.prog (clsO zwO)) : Known Try.prog (clsO zlO) := known_or hw (known_or known_ox (known_or known_rx (known_or known_cl (known_or known_rcl (known_or known_otc known_rtc)))))
end
end Go.Proofs.Ytldekgkjofgacaa
