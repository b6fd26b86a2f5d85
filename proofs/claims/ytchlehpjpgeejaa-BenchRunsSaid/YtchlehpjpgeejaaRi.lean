import Derived.Test.YtchlehpjpgeejaaRp
import Derived.Test.YtchlehpjpgeejaaP22
/- Lists of numbers of 64 bits, as they come in. -/
namespace Go.Proofs.Ytchlehpjpgeejaa
set_option linter.unusedVariables false
set_option linter.unusedSimpArgs false
open Go.ChangeShapes Go.WideShapes Go.ChangeAt Go.RowKit
theorem i64s_of : ∀ (n : Nat) (vs : List Value), vs.length = n * 1 → (∀ i, i < n → IsK [some .i64] ((vs.drop (i * 1)).take 1)) → ∃ B : List Int, B.length = n ∧ vs = cIv B
  | 0, vs, hl, _ => ⟨[], rfl, List.eq_nil_of_length_eq_zero (by omega)⟩
  | n + 1, vs, hl, h => by
    obtain ⟨a, l1, e1, ⟨x, rfl, wx⟩, h1⟩ := isK_cons (h 0 (by omega))
    obtain rfl := isK_nil h1
    obtain ⟨r, rfl⟩ : ∃ r, vs = .int .i64 x :: r := by
      match vs, hl, e1 with
      | p :: r, _, e => simp at e; exact ⟨r, by rw [e]⟩
      | [], hl, _ => simp at hl
    obtain ⟨B, hB, rfl⟩ := i64s_of n r (by simp at hl; omega) (fun i hi => by
      have := h (i + 1) (by omega)
      rw [show (i + 1) * 1 = i * 1 + 1 from by omega] at this
      simpa using this)
    exact ⟨x :: B, by simp [hB], rfl⟩
end Go.Proofs.Ytchlehpjpgeejaa
