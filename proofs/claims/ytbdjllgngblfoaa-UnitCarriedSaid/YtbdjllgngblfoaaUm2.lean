/- Paths of fractions: plain arithmetic. -/
import Derived.Test.YtbdjllgngblfoaaUm
namespace Go.Proofs.Ytbdjllgngblfoaa
set_option linter.unusedVariables false
set_option linter.unusedSimpArgs false

/-- The path of a fraction, with fuel. -/
def pathL : Nat → Int → Int → List Int
  | 0, _, _ => []
  | k + 1, n, d => if d = 0 then [] else (n / d) :: pathL k d (n % d)

theorem pathL_zero (k : Nat) (n : Int) : pathL k n 0 = [] := by cases k <;> simp [pathL]
theorem pathL_step (k : Nat) (n d : Int) (h : d ≠ 0) : pathL (k + 1) n d = (n / d) :: pathL k d (n % d) := by simp [pathL, h]

/-- A state of Euclid's way after k steps. -/
structure Eu (k : Nat) (x y : Int) : Prop where
  x1 : 1 ≤ x
  y0 : 0 ≤ y
  xm : x ≤ 1000000000
  ym : y ≤ 1000000000
  k0 : k = 0 → 1 ≤ y
  kb : k ≤ 60
  lt : 1 ≤ k → y < x
  small : 1 ≤ k → (x * y) * 2 ^ k ≤ 2000000000000000000

theorem Eu.start {a b : Int} (h : Wn a b) : Eu 0 a b := ⟨h.1, by have := h.2.2.1; omega, h.2.1, h.2.2.2, fun _ => h.2.2.1, by omega, fun h => by omega, fun h => by omega⟩

theorem Eu.bound {k : Nat} {x y : Int} (h : Eu k x y) (hy : y ≠ 0) : k < 60 := by
  by_cases hk : k < 60
  · exact hk
  · exfalso
    have h1 := h.lt (by omega)
    have h2 := h.small (by omega)
    have h3 := h.y0
    have e1 : (2 : Int) * 1 ≤ x * y := by
      have := @mul_le 2 1 x y (by omega) (by omega) (by omega) (by omega)
      exact this
    have e2 : (2 : Int) ^ 60 ≤ 2 ^ k := by
      have : (2 : Nat) ^ 60 ≤ 2 ^ k := Nat.pow_le_pow_right (by omega) (by omega)
      exact_mod_cast this
    have e3 : (2 * 1) * (2 : Int) ^ 60 ≤ (x * y) * 2 ^ k := mul_le (by omega) (by decide) e1 e2
    have e4 : (2 * 1) * (2 : Int) ^ 60 = 2305843009213693952 := by decide
    omega

theorem Eu.step {k : Nat} {x y : Int} (h : Eu k x y) (hy : y ≠ 0) : Eu (k + 1) y (x % y) := by
  have hy1 : 1 ≤ y := by have := h.y0; omega
  have m0 := Int.emod_nonneg x (show y ≠ 0 from hy)
  have m1 := Int.emod_lt_of_pos x (show 0 < y by omega)
  refine ⟨hy1, m0, h.ym, by have := h.ym; omega, fun e => by omega, by have := h.bound hy; omega, fun _ => m1, fun _ => ?_⟩
  by_cases hk : 1 ≤ k
  · have h1 := h.lt hk
    have h2 := h.small hk
    -- y * (x % y) * 2 <= x * y
    have e0 : y * (x / y) + x % y = x := Int.mul_ediv_add_emod x y
    have q1 : 1 ≤ x / y := by
      rcases Int.lt_or_le (x / y) 1 with hq | hq
      · have : y * (x / y) ≤ y * 0 := Int.mul_le_mul_of_nonneg_left (by omega) (by omega)
        omega
      · exact hq
    have e1 : y * 1 ≤ y * (x / y) := Int.mul_le_mul_of_nonneg_left q1 (by omega)
    have e2 : 2 * (x % y) ≤ x := by omega
    have e3 : (2 * (x % y)) * y ≤ x * y := Int.mul_le_mul_of_nonneg_right e2 (by omega)
    have e4 : (y * (x % y)) * 2 ^ (k + 1) = ((2 * (x % y)) * y) * 2 ^ k := by rw [Int.pow_succ]; grind
    rw [e4]
    have p : (0 : Int) ≤ 2 ^ k := by
      have : (0 : Nat) ≤ 2 ^ k := Nat.zero_le _
      exact_mod_cast this
    have := Int.mul_le_mul_of_nonneg_right e3 p
    omega
  · obtain rfl : k = 0 := by omega
    have e1 := @mul_le y (x % y) 1000000000 1000000000 (by omega) m0 h.ym (by have := h.ym; omega)
    have e2 : (2 : Int) ^ (0 + 1) = 2 := by decide
    rw [e2]
    omega

theorem Eu.len {k : Nat} {x y : Int} (h : Eu k x y) (n : Nat) : (pathL n x y).length ≤ 60 - k ∨ y = 0 := by
  induction n generalizing k x y with
  | zero => left; simp [pathL]
  | succ n ih =>
    by_cases hy : y = 0
    · right; exact hy
    · left
      have hb := h.bound hy
      rw [pathL_step n x y hy]
      rcases ih (h.step hy) with h1 | h1
      · simp; omega
      · rw [h1, pathL_zero]; simp; omega

end Go.Proofs.Ytbdjllgngblfoaa
