/- The law of bars answers true for every bar, every truth and every list of ranges. There are no conditions. -/
import Derived.Test.YtchlehpjpgeejaaRg
import Derived.Test.YtchlehpjpgeejaaP18
import Derived.Test.YtchlehpjpgeejaaBw3
namespace Go.Proofs.Ytchlehpjpgeejaa
set_option linter.unusedVariables false
set_option linter.unusedSimpArgs false
open Go.ChangeShapes Go.WideShapes Go.ChangeAt Go.RowKit

/-- A list of pairs of numbers. -/
theorem pairs_of : ∀ (n : Nat) (vs : List Value), vs.length = n * 2 → (∀ i, i < n → IsK [some .i64, some .i64] ((vs.drop (i * 2)).take 2)) → ∃ L : List (Int × Int), L.length = n ∧ vs = cRv L
  | 0, vs, hl, _ => ⟨[], rfl, List.eq_nil_of_length_eq_zero (by omega)⟩
  | n + 1, vs, hl, h => by
    obtain ⟨a, l1, e1, ⟨x, rfl, _⟩, h1⟩ := isK_cons (h 0 (by omega))
    obtain ⟨b, l2, rfl, ⟨y, rfl, _⟩, h2⟩ := isK_cons h1
    obtain rfl := isK_nil h2
    obtain ⟨r, rfl⟩ : ∃ r, vs = .int .i64 x :: .int .i64 y :: r := by
      match vs, hl, e1 with
      | p :: q :: r, _, e => simp at e; exact ⟨r, by rw [e.1, e.2]⟩
      | [p], hl, _ => simp at hl; omega
      | [], hl, _ => simp at hl
    obtain ⟨L, hL, rfl⟩ := pairs_of n r (by simp at hl; omega) (fun i hi => by
      have := h (i + 1) (by omega)
      rw [show (i + 1) * 2 = i * 2 + 1 + 1 from by omega] at this
      simpa using this)
    exact ⟨(x, y) :: L, by simp [hL], rfl⟩

set_option maxRecDepth 100000 in
theorem benchBars_lifted (os : Os) (started : os.Started) (H : Type) (enc : TypeId × Value → H) :
    ReturnsInHanded {} Try.checked os 6 .any (Rows.benchBarsSpec.pre6 enc Try.prog Try.f6 Rows.benchBarsRow.domain false) (Rows.benchBarsSpec.post enc Try.prog Try.f6 false true false false) := by
  refine returnsInHanded_of_change (C := Try.checked) ownT started (by kernel_rfl) Try.func6
    (ChangeSpec.witness6 (enc := enc) (C := Try.checked) false ⟨#[], #[.agg #[.int .i64 0, .int .i64 0, .int .i64 0, .int .i64 0, .int .i64 0, .int .i64 0, .int .i64 0, .int .i64 0], .agg #[.int .i64 0, .int .i64 0, .int .i64 0], .slice none 0 0], []⟩ 8 (by kernel_rfl) (by kernel_rfl) (by kernel_rfl) (by kernel_rfl)) ?_
  intro W base args ds gs before hval0 hW hcnd _
  have hval : ∀ (j : Nat) t v, Try.f6.params[j]? = some t → args[j]? = some v → Value.okWide Try.prog W .any base t v := hval0
  have hW' := hW
  obtain ⟨p, q, hA0, hV, rfl, hfz, hnd⟩ := hW
  obtain ⟨rfl, rfl⟩ := trodVars_none hV
  have hA : DataW.TrodAll enc Try.prog W 0 (fun _ => true) true Try.f6.params.toList args.toList ds p := hA0
  have hAA := hA
  rw [Try.params6] at hA hval
  obtain ⟨v0, vs0, d0, ds0, p0, q0, hargs, rfl, hp0, h0, r0⟩ := trodAll_cons hA
  obtain ⟨v1, vs1, d1, ds1, p1, q1, rfl, rfl, hp1, h1, r1⟩ := trodAll_cons r0
  obtain ⟨v2, vs2, d2, ds2, p2, q2, rfl, rfl, hp2, h2, r2⟩ := trodAll_cons r1
  obtain ⟨rfl, rfl, rfl⟩ := trodAll_nil r2
  obtain rfl : args = #[v0, v1, v2] := by cases args; simp_all
  clear hval0
  simp only [List.append_nil] at hW'
  obtain ⟨l, rfl, k0⟩ := open_struct 5 (ks := [some .i64, some .i64, some .i64, some .i64, some .i64, some .i64, some .i64, some .i64]) Try.underlying46 (by kernel_rfl) (hval 0 _ v0 rfl rfl) h0
  obtain ⟨_, la0, rfl, ⟨a0, rfl, wa0⟩, k0_0⟩ := isK_cons k0
  obtain ⟨_, la1, rfl, ⟨a1, rfl, wa1⟩, k0_1⟩ := isK_cons k0_0
  obtain ⟨_, la2, rfl, ⟨a2, rfl, wa2⟩, k0_2⟩ := isK_cons k0_1
  obtain ⟨_, la3, rfl, ⟨a3, rfl, wa3⟩, k0_3⟩ := isK_cons k0_2
  obtain ⟨_, la4, rfl, ⟨a4, rfl, wa4⟩, k0_4⟩ := isK_cons k0_3
  obtain ⟨_, la5, rfl, ⟨a5, rfl, wa5⟩, k0_5⟩ := isK_cons k0_4
  obtain ⟨_, la6, rfl, ⟨a6, rfl, wa6⟩, k0_6⟩ := isK_cons k0_5
  obtain ⟨_, la7, rfl, ⟨a7, rfl, wa7⟩, k0_7⟩ := isK_cons k0_6
  obtain rfl := isK_nil k0_7
  obtain ⟨l, rfl, k1⟩ := open_struct 5 (ks := [some .i64, some .i64, some .i64]) Try.underlying48 (by kernel_rfl) (hval 1 _ v1 rfl rfl) h1
  obtain ⟨_, lb0, rfl, ⟨b0, rfl, wb0⟩, k1_0⟩ := isK_cons k1
  obtain ⟨_, lb1, rfl, ⟨b1, rfl, wb1⟩, k1_1⟩ := isK_cons k1_0
  obtain ⟨_, lb2, rfl, ⟨b2, rfl, wb2⟩, k1_2⟩ := isK_cons k1_1
  obtain rfl := isK_nil k1_2
  obtain ⟨n, vs, hx, hn, hel⟩ := open_list (m := 2) (Q := IsK [some .i64, some .i64]) Try.underlying49 (by kernel_rfl) (by decide) (fun fuel cs y _ hy => flatF 5 (by kernel_rfl) hy) (hval 2 _ v2 rfl rfl) h2
  obtain ⟨L, rfl, rfl⟩ := pairs_of n vs (by obtain ⟨_, _, _, _, e, _⟩ := hx; exact e) hel
  have hw : Ev.Known Try.prog (Ev.clsO wkO) := Ev.gives_closed BenchWorks_known
  refine (callsG (bars_g hw a0 a1 a2 a3 a4 a5 a6 a7 b0 b1 b2 v2 L) W (xs := [.agg #[.int .i64 a0, .int .i64 a1, .int .i64 a2, .int .i64 a3, .int .i64 a4, .int .i64 a5, .int .i64 a6, .int .i64 a7], .agg #[.int .i64 b0, .int .i64 b1, .int .i64 b2], v2]) (denL_cons rfl (denL_cons rfl (denL_cons (den_lst hx (Ev.plainL_den (cR_plain L))) rfl)))).mono fun e W' ⟨he, hb⟩ => ?_
  subst he
  exact ⟨_, rfl, rowG laidG hW' hAA hb Try.underlying4 (by kernel_rfl) (by decide +kernel) rfl rfl (fun _ _ => rfl)⟩

theorem benchBars_proved : Rows.BenchBarsSaid :=
  OpenClaim.holds_of_wide 6 Try.f6 rfl rfl rfl rfl rfl rfl rfl ⟨rfl, rfl, rfl, rfl, rfl⟩ rfl rfl rfl rfl rfl (by kernel_rfl) Try.func6 (by kernel_rfl)
    (of_decide_eq_true (by kernel_rfl)) (by unfold Func.isWrapper; first | (rw [if_pos (by decide +kernel)]; kernel_rfl) | (rw [if_neg (by decide +kernel)]; exact ⟨rfl, rfl⟩))
    (fun os started H enc _ => benchBars_lifted os started H enc)

end Go.Proofs.Ytchlehpjpgeejaa
