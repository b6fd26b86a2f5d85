/- The law of squares answers true for every bar and all numbers by which truths are chosen. There are no conditions. -/
import Derived.Test.YtchlehpjpgeejaaRg
import Derived.Test.YtchlehpjpgeejaaP33
import Derived.Test.YtchlehpjpgeejaaBw3
namespace Go.Proofs.Ytchlehpjpgeejaa
set_option linter.unusedVariables false
set_option linter.unusedSimpArgs false
open Go.ChangeShapes Go.WideShapes Go.ChangeAt Go.RowKit

set_option maxRecDepth 100000 in
theorem benchSquared_lifted (os : Os) (started : os.Started) (H : Type) (enc : TypeId × Value → H) :
    ReturnsInHanded {} Try.checked os 12 .any (Rows.benchSquaredSpec.pre6 enc Try.prog Try.f12 Rows.benchSquaredRow.domain false) (Rows.benchSquaredSpec.post enc Try.prog Try.f12 false true false false) := by
  refine returnsInHanded_of_change (C := Try.checked) ownT started (by kernel_rfl) Try.func12
    (ChangeSpec.witness6 (enc := enc) (C := Try.checked) false ⟨#[], #[.agg #[.int .i64 0, .int .i64 0, .int .i64 0, .int .i64 0, .int .i64 0, .int .i64 0, .int .i64 0, .int .i64 0], .agg #[.int .u32 0, .int .u32 0, .int .u32 0], .agg #[.int .u32 0, .int .u32 0, .int .u32 0]], []⟩ 8 (by kernel_rfl) (by kernel_rfl) (by kernel_rfl) (by kernel_rfl)) ?_
  intro W base args ds gs before hval0 hW hcnd _
  have hval : ∀ (j : Nat) t v, Try.f12.params[j]? = some t → args[j]? = some v → Value.okWide Try.prog W .any base t v := hval0
  have hW' := hW
  obtain ⟨p, q, hA0, hV, rfl, hfz, hnd⟩ := hW
  obtain ⟨rfl, rfl⟩ := trodVars_none hV
  have hA : DataW.TrodAll enc Try.prog W 0 (fun _ => true) true Try.f12.params.toList args.toList ds p := hA0
  have hAA := hA
  rw [Try.params12] at hA hval
  obtain ⟨v0, vs0, d0, ds0, p0, q0, hargs, rfl, hp0, h0, r0⟩ := trodAll_cons hA
  obtain ⟨v1, vs1, d1, ds1, p1, q1, rfl, rfl, hp1, h1, r1⟩ := trodAll_cons r0
  obtain ⟨v2, vs2, d2, ds2, p2, q2, rfl, rfl, hp2, h2, r2⟩ := trodAll_cons r1
  obtain ⟨rfl, rfl, rfl⟩ := trodAll_nil r2
  obtain rfl : args = #[v0, v1, v2] := by cases args; simp_all
  clear hval0
  simp only [List.append_nil] at hW'
  obtain ⟨l0, rfl, k0_⟩ := open_struct 5 (ks := [some .i64, some .i64, some .i64, some .i64, some .i64, some .i64, some .i64, some .i64]) Try.underlying46 (by kernel_rfl) (hval 0 _ v0 rfl rfl) h0
  obtain ⟨_, l0_0, rfl, ⟨a0, rfl, w_a0⟩, k0_0⟩ := isK_cons k0_
  obtain ⟨_, l0_1, rfl, ⟨a1, rfl, w_a1⟩, k0_1⟩ := isK_cons k0_0
  obtain ⟨_, l0_2, rfl, ⟨a2, rfl, w_a2⟩, k0_2⟩ := isK_cons k0_1
  obtain ⟨_, l0_3, rfl, ⟨a3, rfl, w_a3⟩, k0_3⟩ := isK_cons k0_2
  obtain ⟨_, l0_4, rfl, ⟨a4, rfl, w_a4⟩, k0_4⟩ := isK_cons k0_3
  obtain ⟨_, l0_5, rfl, ⟨a5, rfl, w_a5⟩, k0_5⟩ := isK_cons k0_4
  obtain ⟨_, l0_6, rfl, ⟨a6, rfl, w_a6⟩, k0_6⟩ := isK_cons k0_5
  obtain ⟨_, l0_7, rfl, ⟨a7, rfl, w_a7⟩, k0_7⟩ := isK_cons k0_6
  obtain rfl := isK_nil k0_7
  obtain ⟨l1, rfl, k1_⟩ := open_array 5 (ks := [some .u32, some .u32, some .u32]) Try.underlying82 (by kernel_rfl) (hval 1 _ v1 rfl rfl) h1
  obtain ⟨_, l1_0, rfl, ⟨b0, rfl, w_b0⟩, k1_0⟩ := isK_cons k1_
  obtain ⟨_, l1_1, rfl, ⟨b1, rfl, w_b1⟩, k1_1⟩ := isK_cons k1_0
  obtain ⟨_, l1_2, rfl, ⟨b2, rfl, w_b2⟩, k1_2⟩ := isK_cons k1_1
  obtain rfl := isK_nil k1_2
  obtain ⟨l2, rfl, k2_⟩ := open_array 5 (ks := [some .u32, some .u32, some .u32]) Try.underlying82 (by kernel_rfl) (hval 2 _ v2 rfl rfl) h2
  obtain ⟨_, l2_0, rfl, ⟨c0, rfl, w_c0⟩, k2_0⟩ := isK_cons k2_
  obtain ⟨_, l2_1, rfl, ⟨c1, rfl, w_c1⟩, k2_1⟩ := isK_cons k2_0
  obtain ⟨_, l2_2, rfl, ⟨c2, rfl, w_c2⟩, k2_2⟩ := isK_cons k2_1
  obtain rfl := isK_nil k2_2
  have hw : Ev.Known Try.prog (Ev.clsO wkO) := Ev.gives_closed BenchWorks_known
  refine (callsG (squared_g hw a0 a1 a2 a3 a4 a5 a6 a7 b0 b1 b2 c0 c1 c2 ⟨wf_bd w_b0, wf_bd w_b1, wf_bd w_b2⟩ ⟨wf_bd w_c0, wf_bd w_c1, wf_bd w_c2⟩) W (xs := [.agg #[.int .i64 a0, .int .i64 a1, .int .i64 a2, .int .i64 a3, .int .i64 a4, .int .i64 a5, .int .i64 a6, .int .i64 a7], .agg #[.int .u32 b0, .int .u32 b1, .int .u32 b2], .agg #[.int .u32 c0, .int .u32 c1, .int .u32 c2]]) (denL_cons rfl (denL_cons rfl (denL_cons rfl (rfl))))).mono fun e W' ⟨he, hb⟩ => ?_
  subst he
  exact ⟨_, rfl, rowG laidG hW' hAA hb Try.underlying4 (by kernel_rfl) (by decide +kernel) rfl rfl (fun _ _ => rfl)⟩

theorem benchSquared_proved : Rows.BenchSquaredSaid :=
  OpenClaim.holds_of_wide 12 Try.f12 rfl rfl rfl rfl rfl rfl rfl ⟨rfl, rfl, rfl, rfl, rfl⟩ rfl rfl rfl rfl rfl (by kernel_rfl) Try.func12 (by kernel_rfl)
    (of_decide_eq_true (by kernel_rfl)) (by unfold Func.isWrapper; first | (rw [if_pos (by decide +kernel)]; kernel_rfl) | (rw [if_neg (by decide +kernel)]; exact ⟨rfl, rfl⟩))
    (fun os started H enc _ => benchSquared_lifted os started H enc)

end Go.Proofs.Ytchlehpjpgeejaa
