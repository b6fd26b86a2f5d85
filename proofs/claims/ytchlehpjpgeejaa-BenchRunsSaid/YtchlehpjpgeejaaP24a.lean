import Derived.Test.YtchlehpjpgeejaaP23
/- What is known of CheckProgramme. -/
namespace Go.Proofs.Ytchlehpjpgeejaa
set_option linter.unusedVariables false
open Go Ev
noncomputable section
def prS : List Vw → Option (Res1 × List Prop) := fun vs =>
  match vs with
  | [.val a, .lst m k c] => match argI a with
    | some (false, [n]) => some (.val (.v (.int .i64 (prE n c m))), [k = 2 ∧ ∃ P, c = cR P ∧ m = P.length])
    | _ => none
  | _ => none
def cpO : OrcH := avOrc 20 [0, 2] prS
def rcpO : OrcH := avOrc 21 [0, 2] prS
theorem known_cp : Known Try.prog (clsO cpO) := known_av (fun vs r ps h hp => by
  unfold prS at h
  split at h
  · rename_i a m k c
    split at h
    · rename_i n h1
      cases h
      obtain ⟨⟨rfl, P, rfl, rfl⟩, -⟩ := hp
      rw [argI_eq h1]
      refine ⟨⟨⟨_, cR_plain P⟩, trivial⟩, fun ys hy => ?_⟩
      obtain ⟨y1, y2, rfl⟩ := len2 hy
      exact ⟨_, rfl, cp_g y2 P n⟩
    · cases h
  · cases h)
theorem known_rcp : Known Try.prog (clsO rcpO) := known_av (fun vs r ps h hp => by
  unfold prS at h
  split at h
  · rename_i a m k c
    split at h
    · rename_i n h1
      cases h
      obtain ⟨⟨rfl, P, rfl, rfl⟩, -⟩ := hp
      rw [argI_eq h1]
      refine ⟨⟨⟨_, cR_plain P⟩, trivial⟩, fun ys hy => ?_⟩
      obtain ⟨y1, y2, rfl⟩ := len2 hy
      exact ⟨_, rfl, rcp_g y2 P n⟩
    · cases h
  · cases h)
end
end Go.Proofs.Ytchlehpjpgeejaa
