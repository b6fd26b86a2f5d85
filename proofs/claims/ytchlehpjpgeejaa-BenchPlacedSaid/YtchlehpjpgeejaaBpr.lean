/- The law of places answers true for every list of ranges, all numbers by which powers are chosen and every lamp. There are no conditions. -/
import Derived.Test.YtchlehpjpgeejaaRg
import Derived.Test.YtchlehpjpgeejaaRp
import Derived.Test.YtchlehpjpgeejaaP21
import Derived.Test.YtchlehpjpgeejaaBw3
namespace Go.Proofs.Ytchlehpjpgeejaa
set_option linter.unusedVariables false
set_option linter.unusedSimpArgs false
open Go.ChangeShapes Go.WideShapes Go.ChangeAt Go.RowKit

/-- A list of numbers of 32 bits. -/
theorem u32s_of : ∀ (n : Nat) (vs : List Value), vs.length = n * 1 → (∀ i, i < n → IsK [some .u32] ((vs.drop (i * 1)).take 1)) → ∃ B : List Int, B.length = n ∧ vs = cUv B ∧ AllU B
  | 0, vs, hl, _ => ⟨[], rfl, List.eq_nil_of_length_eq_zero (by omega), by intro x hx; cases hx⟩
  | n + 1, vs, hl, h => by
    obtain ⟨a, l1, e1, ⟨x, rfl, wx⟩, h1⟩ := isK_cons (h 0 (by omega))
    obtain rfl := isK_nil h1
    obtain ⟨r, rfl⟩ : ∃ r, vs = .int .u32 x :: r := by
      match vs, hl, e1 with
      | p :: r, _, e => simp at e; exact ⟨r, by rw [e]⟩
      | [], hl, _ => simp at hl
    obtain ⟨B, hB, rfl, hA⟩ := u32s_of n r (by simp at hl; omega) (fun i hi => by
      have := h (i + 1) (by omega)
      rw [show (i + 1) * 1 = i * 1 + 1 from by omega] at this
      simpa using this)
    refine ⟨x :: B, by simp [hB], rfl, fun y hy => ?_⟩
    rcases List.mem_cons.1 hy with rfl | hy
    · exact wf_bd wx
    · exact hA y hy

set_option maxRecDepth 100000 in
theorem benchPlaced_lifted (os : Os) (started : os.Started) (H : Type) (enc : TypeId × Value → H) :
    ReturnsInHanded {} Try.checked os 13 .any (Rows.benchPlacedSpec.pre6 enc Try.prog Try.f13 Rows.benchPlacedRow.domain false) (Rows.benchPlacedSpec.post enc Try.prog Try.f13 false true false false) := by
  refine returnsInHanded_of_change (C := Try.checked) ownT started (by kernel_rfl) Try.func13
    (ChangeSpec.witness6 (enc := enc) (C := Try.checked) false ⟨#[], #[.slice none 0 0, .slice none 0 0, .int .u8 0], []⟩ 8 (by kernel_rfl) (by kernel_rfl) (by kernel_rfl) (by kernel_rfl)) ?_
  intro W base args ds gs before hval0 hW hcnd _
  have hval : ∀ (j : Nat) t v, Try.f13.params[j]? = some t → args[j]? = some v → Value.okWide Try.prog W .any base t v := hval0
  have hW' := hW
  obtain ⟨p, q, hA0, hV, rfl, hfz, hnd⟩ := hW
  obtain ⟨rfl, rfl⟩ := trodVars_none hV
  have hA : DataW.TrodAll enc Try.prog W 0 (fun _ => true) true Try.f13.params.toList args.toList ds p := hA0
  have hAA := hA
  rw [Try.params13] at hA hval
  obtain ⟨v0, vs0, d0, ds0, p0, q0, hargs, rfl, hp0, h0, r0⟩ := trodAll_cons hA
  obtain ⟨v1, vs1, d1, ds1, p1, q1, rfl, rfl, hp1, h1, r1⟩ := trodAll_cons r0
  obtain ⟨v2, vs2, d2, ds2, p2, q2, rfl, rfl, hp2, h2, r2⟩ := trodAll_cons r1
  obtain ⟨rfl, rfl, rfl⟩ := trodAll_nil r2
  obtain rfl : args = #[v0, v1, v2] := by cases args; simp_all
  clear hval0
  simp only [List.append_nil] at hW'
  obtain ⟨n0, vs0, hx0, hn0, hel0⟩ := open_list (m := 2) (Q := IsK [some .i64, some .i64]) Try.underlying49 (by kernel_rfl) (by decide) (fun fuel cs y _ hy => flatF 5 (by kernel_rfl) hy) (hval 0 _ v0 rfl rfl) h0
  obtain ⟨n1, vs1, hx1, hn1, hel1⟩ := open_list (m := 1) (Q := IsK [some .u32]) Try.underlying63 (by kernel_rfl) (by decide) (fun fuel cs y _ hy => flatF 5 (by kernel_rfl) hy) (hval 1 _ v1 rfl rfl) h1
  obtain ⟨q, rfl, w_q⟩ := open_num Try.underlying5 (hval 2 _ v2 rfl rfl) h2
  obtain ⟨L, rfl, rfl⟩ := pairs_of n0 vs0 (by obtain ⟨_, _, _, _, e, _⟩ := hx0; exact e) hel0
  obtain ⟨B, rfl, rfl, hB⟩ := u32s_of n1 vs1 (by obtain ⟨_, _, _, _, e, _⟩ := hx1; exact e) hel1
  have hw : Ev.Known Try.prog (Ev.clsO wkO) := Ev.gives_closed BenchWorks_known
  have hq : 0 ≤ q ∧ q ≤ 255 := wf_bd w_q
  refine (callsG (placed_g hw v0 v1 L B q hB hq.1 hq.2) W (xs := [v0, v1, .int .u8 q]) (denL_cons (den_lst hx0 (Ev.plainL_den (cR_plain L))) (denL_cons (den_lst hx1 (Ev.plainL_den (cU_plain B))) (denL_cons rfl (rfl))))).mono fun e W' ⟨he, hb⟩ => ?_
  subst he
  exact ⟨_, rfl, rowG laidG hW' hAA hb Try.underlying4 (by kernel_rfl) (by decide +kernel) rfl rfl (fun _ _ => rfl)⟩

theorem benchPlaced_proved : Rows.BenchPlacedSaid :=
  OpenClaim.holds_of_wide 13 Try.f13 rfl rfl rfl rfl rfl rfl rfl ⟨rfl, rfl, rfl, rfl, rfl⟩ rfl rfl rfl rfl rfl (by kernel_rfl) Try.func13 (by kernel_rfl)
    (of_decide_eq_true (by kernel_rfl)) (by unfold Func.isWrapper; first | (rw [if_pos (by decide +kernel)]; kernel_rfl) | (rw [if_neg (by decide +kernel)]; exact ⟨rfl, rfl⟩))
    (fun os started H enc _ => benchPlaced_lifted os started H enc)

end Go.Proofs.Ytchlehpjpgeejaa
