import Derived.Test.YtchlehpjpgeejaaP1
/- Least terms, by Euclid's rounds. -/
namespace Go.Proofs.Ytchlehpjpgeejaa
set_option linter.unusedVariables false
set_option linter.unusedSimpArgs false
open Go Ev
noncomputable section
theorem eqI_true {a b : Int} (h : eqI a b = true) : a = b := by rw [eqI_iff] at h; exact of_decide_eq_true h
theorem eqI_false {a b : Int} (h : eqI a b = false) : a ≠ b := by rw [eqI_iff] at h; exact of_decide_eq_false h
end
end Go.Proofs.Ytchlehpjpgeejaa
