/- The law of the numbers of chips and comparisons answers true for all numbers. There are no conditions. -/
import Derived.Test.YtmankoikpadkpaaRg
import Derived.Test.YtmankoikpadkpaaMs
namespace Go.Proofs.Ytmankoikpadkpaa
set_option linter.unusedVariables false
set_option linter.unusedSimpArgs false
open Go.ChangeShapes Go.WideShapes Go.ChangeAt Go.RowKit

open Ev in
theorem mosts_g (r c : Int) : GivesA Try.prog 6 [.v (.int .i64 r), .v (.int .i64 c)] (.bool true) :=
  givesA_told (v := .v (.bool true)) (ps := [eqI (mostN r) (mostN r) = true, true = true, true = true, eqI (mostE r) (mostE r) = true, true = true, true = true, eqI (fewN c) (fewN c) = true, true = true, true = true, eqI (fewE c) (fewE c) = true]) Try.checked.mixed known_ms 200 [.go, .go, .go, .go, .go, .go, .go, .go, .go, .go, .go, .go, .go, .go, .go, .go, .go, .go, .go, .go, .go, .go, .go, .go, .go, .go, .go, .go, .go, .b true, .go, .b true, .go, .b true, .go, .go, .go, .b true, .go, .b true, .go, .b true, .go, .go, .go, .b true, .go, .b true, .go, .b true, .go, .go, .go, .b true, .go, .go] (by kernel_rfl) (by refine ⟨?_, rfl, rfl, ?_, rfl, rfl, ?_, rfl, rfl, ?_, trivial⟩ <;> simp [eqI_iff]) rfl

set_option maxRecDepth 100000 in
theorem atlasMosts_lifted (os : Os) (started : os.Started) (H : Type) (enc : TypeId × Value → H) :
    ReturnsInHanded {} Try.checked os 6 .any (Rows.atlasMostsSpec.pre6 enc Try.prog Try.f6 Rows.atlasMostsRow.domain false) (Rows.atlasMostsSpec.post enc Try.prog Try.f6 false true false false) := by
  refine returnsInHanded_of_change (C := Try.checked) ownT started (by kernel_rfl) Try.func6
    (ChangeSpec.witness6 (enc := enc) (C := Try.checked) false ⟨#[], #[.int .i64 0, .int .i64 0], []⟩ 8 (by kernel_rfl) (by kernel_rfl) (by kernel_rfl) (by kernel_rfl)) ?_
  intro W base args ds gs before hval0 hW hcnd _
  have hval : ∀ (j : Nat) t v, Try.f6.params[j]? = some t → args[j]? = some v → Value.okWide Try.prog W .any base t v := hval0
  have hW' := hW
  obtain ⟨p, q, hA0, hV, rfl, hfz, hnd⟩ := hW
  obtain ⟨rfl, rfl⟩ := trodVars_none hV
  have hA : DataW.TrodAll enc Try.prog W 0 (fun _ => true) true Try.f6.params.toList args.toList ds p := hA0
  have hAA := hA
  rw [Try.params6] at hA hval
  obtain ⟨v0, vs0, d0, ds0, p0, q0, hargs, rfl, hp0, h0, r0⟩ := trodAll_cons hA
  obtain ⟨v1, vs1, d1, ds1, p1, q1, rfl, rfl, hp1, h1, r1⟩ := trodAll_cons r0
  obtain ⟨rfl, rfl, rfl⟩ := trodAll_nil r1
  obtain rfl : args = #[v0, v1] := by cases args; simp_all
  clear hval0
  simp only [List.append_nil] at hW'
  obtain ⟨r, rfl, w_r⟩ := open_num Try.underlying3 (hval 0 _ v0 rfl rfl) h0
  obtain ⟨c, rfl, w_c⟩ := open_num Try.underlying3 (hval 1 _ v1 rfl rfl) h1
  refine (callsG (mosts_g r c) W (xs := [.int .i64 r, .int .i64 c]) (denL_cons rfl (denL_cons rfl (rfl)))).mono fun e W' ⟨he, hb⟩ => ?_
  subst he
  exact ⟨_, rfl, rowG laidG hW' hAA hb Try.underlying4 (by kernel_rfl) (by decide +kernel) rfl rfl (fun _ _ => rfl)⟩

theorem atlasMosts_proved : Rows.AtlasMostsSaid :=
  OpenClaim.holds_of_wide 6 Try.f6 rfl rfl rfl rfl rfl rfl rfl ⟨rfl, rfl, rfl, rfl, rfl⟩ rfl rfl rfl rfl rfl (by kernel_rfl) Try.func6 (by kernel_rfl)
    (of_decide_eq_true (by kernel_rfl)) (by unfold Func.isWrapper; first | (rw [if_pos (by decide +kernel)]; kernel_rfl) | (rw [if_neg (by decide +kernel)]; exact ⟨rfl, rfl⟩))
    (fun os started H enc _ => atlasMosts_lifted os started H enc)

end Go.Proofs.Ytmankoikpadkpaa
