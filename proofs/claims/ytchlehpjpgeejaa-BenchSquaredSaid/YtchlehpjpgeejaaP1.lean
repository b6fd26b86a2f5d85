/- Scalars of bench. -/
import Derived.Test.YtchlehpjpgeejaaM6
namespace Go.Proofs.Ytchlehpjpgeejaa
set_option linter.unusedVariables false
set_option linter.unusedSimpArgs false
open Go Ev
theorem isFrom64_g (n a b : Int)  : Gives Try.prog 62 [(.int .i64 n), (.int .i64 a), (.int .i64 b)] (.bool (decide (a ≤ n ∧ n ≤ b))) := by
  cases hq1 : (!ltI n a) with
  | true =>
    have hg := gives_told (P := Try.prog) (f := 62) (args := [.v (.int .i64 n), .v (.int .i64 a), .v (.int .i64 b)]) (v := (.v (.bool (!ltI b n)))) (ps := [(!ltI n a) = true, true = true, true = true]) Try.checked.mixed known_none 200 [.go, .go, .go, .go, .go, .b true, .go, .b true, .go, .b true, .go, .go, .go] (by kernel_rfl) (by refine ⟨?_, ?_, ?_, trivial⟩ <;> first | rfl | assumption | omega) rfl rfl
    exact hg.eq (congrArg Value.bool (by rw [Bool.eq_iff_iff]; simp [ltI_iff, eqI_iff] at *; omega))
  | false =>
    have hg := gives_told (P := Try.prog) (f := 62) (args := [.v (.int .i64 n), .v (.int .i64 a), .v (.int .i64 b)]) (v := (.v (.bool .false))) (ps := [(!ltI n a) = false, false = false, false = false]) Try.checked.mixed known_none 200 [.go, .go, .go, .go, .go, .b false, .b false, .b false, .go, .go] (by kernel_rfl) (by refine ⟨?_, ?_, ?_, trivial⟩ <;> first | rfl | assumption | omega) rfl rfl
    exact hg.eq (congrArg Value.bool (by rw [Bool.eq_iff_iff]; simp [ltI_iff, eqI_iff] at *; omega))

theorem isFrom_g (n a b : Int)  : Gives Try.prog 66 [(.int .i64 n), (.int .i64 a), (.int .i64 b)] (.bool (decide (a ≤ n ∧ n ≤ b))) := by
  cases hq1 : (!ltI n a) with
  | true =>
    have hg := gives_told (P := Try.prog) (f := 66) (args := [.v (.int .i64 n), .v (.int .i64 a), .v (.int .i64 b)]) (v := (.v (.bool (!ltI b n)))) (ps := [(!ltI n a) = true, true = true, true = true]) Try.checked.mixed known_none 200 [.go, .go, .go, .go, .go, .b true, .go, .b true, .go, .b true, .go, .go, .go] (by kernel_rfl) (by refine ⟨?_, ?_, ?_, trivial⟩ <;> first | rfl | assumption | omega) rfl rfl
    exact hg.eq (congrArg Value.bool (by rw [Bool.eq_iff_iff]; simp [ltI_iff, eqI_iff] at *; omega))
  | false =>
    have hg := gives_told (P := Try.prog) (f := 66) (args := [.v (.int .i64 n), .v (.int .i64 a), .v (.int .i64 b)]) (v := (.v (.bool .false))) (ps := [(!ltI n a) = false, false = false, false = false]) Try.checked.mixed known_none 200 [.go, .go, .go, .go, .go, .b false, .b false, .b false, .go, .go] (by kernel_rfl) (by refine ⟨?_, ?_, ?_, trivial⟩ <;> first | rfl | assumption | omega) rfl rfl
    exact hg.eq (congrArg Value.bool (by rw [Bool.eq_iff_iff]; simp [ltI_iff, eqI_iff] at *; omega))

theorem valid_g (l h a b : Int)  : Gives Try.prog 84 [.agg #[.int .i64 l, .int .i64 h], .int .i64 a, .int .i64 b] (.bool (decide (a ≤ l ∧ l ≤ h ∧ h ≤ b))) := by
  cases hq1 : (!ltI l a) with
  | true =>
    cases hq2 : (!ltI h l) with
    | true =>
      have hg := gives_told (P := Try.prog) (f := 84) (args := [.agg [.v (.int .i64 l), .v (.int .i64 h)], .v (.int .i64 a), .v (.int .i64 b)]) (v := (.v (.bool (!ltI b h)))) (ps := [(!ltI l a) = true, true = true, true = true, true = true, true = true, (!ltI h l) = true, true = true, true = true, true = true]) Try.checked.mixed known_none 200 [.go, .go, .go, .go, .go, .go, .go, .b true, .go, .b true, .go, .b true, .go, .b true, .go, .b true, .go, .go, .go, .b true, .go, .b true, .go, .b true, .go, .b true, .go, .go, .go] (by kernel_rfl) (by refine ⟨?_, ?_, ?_, ?_, ?_, ?_, ?_, ?_, ?_, trivial⟩ <;> first | rfl | assumption | omega) rfl rfl
      exact hg.eq (congrArg Value.bool (by rw [Bool.eq_iff_iff]; simp [ltI_iff, eqI_iff] at *; omega))
    | false =>
      have hg := gives_told (P := Try.prog) (f := 84) (args := [.agg [.v (.int .i64 l), .v (.int .i64 h)], .v (.int .i64 a), .v (.int .i64 b)]) (v := (.v (.bool .false))) (ps := [(!ltI l a) = true, true = true, true = true, true = true, true = true, (!ltI h l) = false, false = false, false = false, false = false]) Try.checked.mixed known_none 200 [.go, .go, .go, .go, .go, .go, .go, .b true, .go, .b true, .go, .b true, .go, .b true, .go, .b true, .go, .go, .go, .b false, .b false, .b false, .b false, .go, .go] (by kernel_rfl) (by refine ⟨?_, ?_, ?_, ?_, ?_, ?_, ?_, ?_, ?_, trivial⟩ <;> first | rfl | assumption | omega) rfl rfl
      exact hg.eq (congrArg Value.bool (by rw [Bool.eq_iff_iff]; simp [ltI_iff, eqI_iff] at *; omega))
  | false =>
    have hg := gives_told (P := Try.prog) (f := 84) (args := [.agg [.v (.int .i64 l), .v (.int .i64 h)], .v (.int .i64 a), .v (.int .i64 b)]) (v := (.v (.bool .false))) (ps := [(!ltI l a) = false, false = false, false = false, false = false, false = false, false = false, false = false, false = false, false = false]) Try.checked.mixed known_none 200 [.go, .go, .go, .go, .go, .go, .go, .b false, .b false, .b false, .b false, .b false, .go, .go, .b false, .b false, .b false, .b false, .go, .go] (by kernel_rfl) (by refine ⟨?_, ?_, ?_, ?_, ?_, ?_, ?_, ?_, ?_, trivial⟩ <;> first | rfl | assumption | omega) rfl rfl
    exact hg.eq (congrArg Value.bool (by rw [Bool.eq_iff_iff]; simp [ltI_iff, eqI_iff] at *; omega))
end Go.Proofs.Ytchlehpjpgeejaa
