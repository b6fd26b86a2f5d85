import Derived.Test.YtchlehpjpgeejaaRg
import Derived.Test.YtchlehpjpgeejaaP3
/- Lists of pairs of numbers, as they come in. -/
namespace Go.Proofs.Ytchlehpjpgeejaa
set_option linter.unusedVariables false
set_option linter.unusedSimpArgs false
open Go.ChangeShapes Go.WideShapes Go.ChangeAt Go.RowKit
theorem pairs_of : ∀ (n : Nat) (vs : List Value), vs.length = n * 2 → (∀ i, i < n → IsK [some .i64, some .i64] ((vs.drop (i * 2)).take 2)) → ∃ L : List (Int × Int), L.length = n ∧ vs = cRv L
  | 0, vs, hl, _ => ⟨[], rfl, List.eq_nil_of_length_eq_zero (by omega)⟩
  | n + 1, vs, hl, h => by
    obtain ⟨a, l1, e1, ⟨x, rfl, _⟩, h1⟩ := isK_cons (h 0 (by omega))
    obtain ⟨b, l2, rfl, ⟨y, rfl, _⟩, h2⟩ := isK_cons h1
    obtain rfl := isK_nil h2
    obtain ⟨r, rfl⟩ : ∃ r, vs = .int .i64 x :: .int .i64 y :: r := by
      match vs, hl, e1 with
      | p :: q :: r, _, e => simp at e; exact ⟨r, by rw [e.1, e.2]⟩
      | [p], hl, _ => simp at hl; omega
      | [], hl, _ => simp at hl
    obtain ⟨L, hL, rfl⟩ := pairs_of n r (by simp at hl; omega) (fun i hi => by
      have := h (i + 1) (by omega)
      rw [show (i + 1) * 2 = i * 2 + 1 + 1 from by omega] at this
      simpa using this)
    exact ⟨(x, y) :: L, by simp [hL], rfl⟩
end Go.Proofs.Ytchlehpjpgeejaa
