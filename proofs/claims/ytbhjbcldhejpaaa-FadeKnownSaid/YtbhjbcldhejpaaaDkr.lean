/- The law of the chapter's examples answers true. There are no conditions. -/
import Derived.Test.YtbhjbcldhejpaaaR
import Derived.Test.YtbhjbcldhejpaaaDk1
namespace Go.Proofs.Ytbhjbcldhejpaaa
set_option linter.unusedVariables false
set_option linter.unusedSimpArgs false
open Go.ChangeShapes Go.WideShapes Go.ChangeAt Go.RowKit

set_option maxRecDepth 100000 in
theorem fadeKnown_lifted (os : Os) (started : os.Started) (H : Type) (enc : TypeId × Value → H) :
    ReturnsInHanded {} Try.checked os 12 .any (Rows.fadeKnownSpec.pre6 enc Try.prog Try.f12 Rows.fadeKnownRow.domain false) (Rows.fadeKnownSpec.post enc Try.prog Try.f12 false true false false) := by
  refine returnsInHanded_of_change (C := Try.checked) ownT started (by kernel_rfl) Try.func12
    (ChangeSpec.witness6 (enc := enc) (C := Try.checked) false ⟨#[], #[], []⟩ 8 (by kernel_rfl) (by kernel_rfl) (by kernel_rfl) (by kernel_rfl)) ?_
  intro W base args ds gs before hval0 hW hcnd _
  have hW' := hW
  obtain ⟨p, q, hA0, hV, rfl, hfz, hnd⟩ := hW
  have hA : DataW.TrodAll enc Try.prog W 0 (fun _ => true) true Try.f12.params.toList args.toList ds p := hA0
  rw [Try.params12] at hA
  obtain ⟨rfl, rfl, rfl⟩ := trodAll_none hA
  obtain ⟨rfl, rfl⟩ := trodVars_none hV
  clear hA0 hval0
  simp only [List.append_nil] at hW'
  refine (FadeKnown_any W).mono fun e W' ⟨he, h1, h2, h3, h4, h5⟩ => ?_
  subst he
  exact ⟨_, rfl, rowTrue hW' ⟨h3, h4, h5, h2, h1⟩ Try.underlying4 (by kernel_rfl) rfl (fun _ _ => trodAll_mk0) (fun _ _ => rfl)⟩

theorem fadeKnown_proved : Rows.FadeKnownSaid :=
  OpenClaim.holds_of_wide 12 Try.f12 rfl rfl rfl rfl rfl rfl rfl ⟨rfl, rfl, rfl, rfl, rfl⟩ rfl rfl rfl rfl rfl (by kernel_rfl) Try.func12 (by kernel_rfl)
    (of_decide_eq_true (by kernel_rfl)) (by unfold Func.isWrapper; first | (rw [if_pos (by decide +kernel)]; kernel_rfl) | (rw [if_neg (by decide +kernel)]; exact ⟨rfl, rfl⟩))
    (fun os started H enc _ => fadeKnown_lifted os started H enc)

end Go.Proofs.Ytbhjbcldhejpaaa
