/- What is known of least terms; numbers of bars are small. -/
import Derived.Test.YtchlehpjpgeejaaP4
namespace Go.Proofs.Ytchlehpjpgeejaa
set_option linter.unusedVariables false
set_option linter.unusedSimpArgs false
open Go Ev
noncomputable section

/-- Both numbers of a fraction in least terms. -/
def rn (n d : Int) : Int := n / (Int.gcd n d : Int)
def rd (n d : Int) : Int := d / (Int.gcd n d : Int)
def ltS : List Value → Option (AV × List Prop) := fun xs =>
  match xs with
  | [.int .i64 n, .int .i64 d] => some (.tup [.v (.int .i64 (rn n d)), .v (.int .i64 (rd n d))], [0 ≤ n ∧ n ≤ 9223372036854775807, 1 ≤ d ∧ d ≤ 9223372036854775807])
  | _ => none
def ltO : OrcH := condOrc 95 ltS
theorem known_lt : Known Try.prog (clsO ltO) := known_cond (fun xs v ps h hp => by
  unfold ltS at h
  split at h
  · cases h
    exact ⟨_, rfl, leastTerms_g _ _ hp.1.1 hp.1.2 hp.2.1.1 hp.2.1.2⟩
  · cases h)
def frS : List Value → Option (AV × List Prop) := fun xs =>
  match xs with
  | [.int .i64 n, .int .i64 d] => some (.agg [.v (.int .i64 (rn n d)), .v (.int .i64 (rd n d))], [0 ≤ n ∧ n ≤ 9223372036854775807, 1 ≤ d ∧ d ≤ 9223372036854775807])
  | _ => none
def frO : OrcH := condOrc 87 frS
theorem known_fr : Known Try.prog (clsO frO) := known_cond (fun xs v ps h hp => by
  unfold frS at h
  split at h
  · cases h
    exact ⟨_, rfl, Fraction_g _ _ hp.1.1 hp.1.2 hp.2.1.1 hp.2.1.2⟩
  · cases h)
/-- Products of small numbers are small. -/
theorem mul_bd {a b A B : Int} (h1 : 0 ≤ a) (h2 : a ≤ A) (h3 : 0 ≤ b) (h4 : b ≤ B) : 0 ≤ a * b ∧ a * b ≤ A * B :=
  ⟨Int.mul_nonneg h1 h3, Int.mul_le_mul h2 h4 h3 (Int.le_trans h1 h2)⟩
theorem mul_pos1 {a b : Int} (h1 : 1 ≤ a) (h3 : 1 ≤ b) : 1 ≤ a * b := Int.mul_pos (show 0 < a by omega) (show 0 < b by omega)
/-- A lamp's power can be told. -/
def PwP (L a b c : Int) : Prop := 1 ≤ b ∧ b ≤ L - 1 ∧ L ≤ 5000 ∧ 0 ≤ a ∧ a ≤ 100000 ∧ 0 ≤ c ∧ c ≤ 1000
theorem pw_bd {L a b c : Int} (h : PwP L a b c) : (0 ≤ c * b ∧ c * b ≤ 5000000) ∧ (0 ≤ c * b * b ∧ c * b * b ≤ 25000000000) ∧ (1 ≤ b * b ∧ b * b ≤ 25000000) ∧ (1 ≤ (L - b) * (L - b) ∧ (L - b) * (L - b) ≤ 25000000) := by
  obtain ⟨h1, h2, h3, h4, h5, h6, h7⟩ := h
  have a1 := mul_bd h6 h7 (show 0 ≤ b by omega) (show b ≤ 5000 by omega)
  have a2 := mul_bd a1.1 a1.2 (show 0 ≤ b by omega) (show b ≤ 5000 by omega)
  have a3 := mul_bd (show 0 ≤ b by omega) (show b ≤ 5000 by omega) (show 0 ≤ b by omega) (show b ≤ 5000 by omega)
  have a4 := mul_bd (show 0 ≤ L - b by omega) (show L - b ≤ 5000 by omega) (show 0 ≤ L - b by omega) (show L - b ≤ 5000 by omega)
  have a5 := mul_pos1 h1 h1
  have a6 := mul_pos1 (show 1 ≤ L - b by omega) (show 1 ≤ L - b by omega)
  exact ⟨⟨a1.1, by omega⟩, ⟨a2.1, by omega⟩, ⟨a5, by omega⟩, ⟨a6, by omega⟩⟩
end
end Go.Proofs.Ytchlehpjpgeejaa
