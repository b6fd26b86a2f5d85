/- Plain arithmetic for package unit: fractions, neighbours. It imports nothing of the program. -/
import Derived.Below
namespace Go.Proofs.Ytbdjllgngblfoaa
set_option linter.unusedVariables false
set_option linter.unusedSimpArgs false

/-- A fraction of the chapter. -/
def Fr (n d : Int) : Prop := 1 ≤ n ∧ n ≤ 1000000000 ∧ 1 ≤ d ∧ d ≤ 1000000000 ∧ Int.gcd n d = 1
instance (n d : Int) : Decidable (Fr n d) := by unfold Fr; infer_instance
/-- Both numbers within the limit. -/
def Wn (n d : Int) : Prop := 1 ≤ n ∧ n ≤ 1000000000 ∧ 1 ≤ d ∧ d ≤ 1000000000
instance (n d : Int) : Decidable (Wn n d) := by unfold Wn; infer_instance
/-- A valid span. -/
def Sp (a b c d : Int) : Prop := Fr a b ∧ Fr c d ∧ a * d ≤ c * b
instance (a b c d : Int) : Decidable (Sp a b c d) := by unfold Sp; infer_instance

def cmp3 (x y : Int) : Int := if x < y then -1 else if x = y then 0 else 1
theorem cmp3_lt {x y : Int} (h : x < y) : cmp3 x y = -1 := by simp [cmp3, h]
theorem cmp3_eq {x y : Int} (h : x = y) : cmp3 x y = 0 := by simp [cmp3, h]
theorem cmp3_gt {x y : Int} (h : y < x) : cmp3 x y = 1 := by unfold cmp3; rw [if_neg (by omega), if_neg (by omega)]

theorem mul_nn {a b : Int} (ha : 0 ≤ a) (hb : 0 ≤ b) : 0 ≤ a * b := Int.mul_nonneg ha hb
theorem mul_le {a b A B : Int} (ha : 0 ≤ a) (hb : 0 ≤ b) (h1 : a ≤ A) (h2 : b ≤ B) : a * b ≤ A * B :=
  Int.le_trans (Int.mul_le_mul_of_nonneg_right h1 hb) (Int.mul_le_mul_of_nonneg_left h2 (Int.le_trans ha h1))

theorem gcd_pos {a b : Int} (ha : 1 ≤ a) : 1 ≤ ((Int.gcd a b : Nat) : Int) := by
  have : 0 < Int.gcd a b := Int.gcd_pos_of_ne_zero_left b (by omega)
  omega
theorem gcd_step {a b : Int} : Int.gcd b (a % b) = Int.gcd a b := by
  rw [Int.gcd_comm a b, Int.emod_def]
  exact Int.gcd_sub_mul_left_right _ _ _
theorem gcd_le_left {a b : Int} (ha : 1 ≤ a) : ((Int.gcd a b : Nat) : Int) ≤ a := by
  have := Int.gcd_dvd_left a b
  exact Int.le_of_dvd (by omega) this

/-- Two neighbours: what lies between has at least the numbers of both together. -/
theorem between {a b c d p q : Int} (h : b * c - a * d = 1) (ha : 0 ≤ a) (hb : 1 ≤ b) (hc : 1 ≤ c) (hd : 0 ≤ d)
    (hl : a * q < p * b) (hr : p * d < c * q) : a + c ≤ p ∧ b + d ≤ q := by
  have e1 : p = (p * b - a * q) * c + (c * q - p * d) * a := by grind
  have e2 : q = (p * b - a * q) * d + (c * q - p * d) * b := by grind
  have u : 1 ≤ p * b - a * q := by omega
  have v : 1 ≤ c * q - p * d := by omega
  generalize p * b - a * q = U at *
  generalize c * q - p * d = V at *
  have h1 : 1 * c ≤ U * c := Int.mul_le_mul_of_nonneg_right u (by omega)
  have h2 : 1 * a ≤ V * a := Int.mul_le_mul_of_nonneg_right v (by omega)
  have h3 : 1 * d ≤ U * d := Int.mul_le_mul_of_nonneg_right u (by omega)
  have h4 : 1 * b ≤ V * b := Int.mul_le_mul_of_nonneg_right v (by omega)
  omega

theorem red_self {a b : Int} (h : Fr a b) : a / ((Int.gcd a b : Nat) : Int) = a ∧ b / ((Int.gcd a b : Nat) : Int) = b := by
  rw [h.2.2.2.2]; simp
/-- What reducing leaves. -/
structure Red (a b x y : Int) : Prop where
  num : a / ((Int.gcd a b : Nat) : Int) = x
  den : b / ((Int.gcd a b : Nat) : Int) = y

theorem Red.self {a b : Int} (h : Fr a b) : Red a b a b := ⟨(red_self h).1, (red_self h).2⟩
theorem Red.mk' (a b : Int) : Red a b (a / ((Int.gcd a b : Nat) : Int)) (b / ((Int.gcd a b : Nat) : Int)) := ⟨rfl, rfl⟩

theorem Red.mul {a b x y : Int} (h : Red a b x y) (ha : 1 ≤ a) (_hb : 1 ≤ b) : a = ((Int.gcd a b : Nat) : Int) * x ∧ b = ((Int.gcd a b : Nat) : Int) * y := by
  obtain ⟨h1, h2⟩ := h
  constructor
  · rw [← h1]; exact (Int.mul_ediv_cancel' (Int.gcd_dvd_left a b)).symm
  · rw [← h2]; exact (Int.mul_ediv_cancel' (Int.gcd_dvd_right a b)).symm

theorem Red.bd {a b x y : Int} (h : Red a b x y) (ha : 1 ≤ a) (hb : 1 ≤ b) : 1 ≤ x ∧ x ≤ a ∧ 1 ≤ y ∧ y ≤ b := by
  obtain ⟨h1, h2⟩ := h.mul ha hb
  have hg := @gcd_pos a b ha
  generalize ((Int.gcd a b : Nat) : Int) = g at *
  have hx : 1 ≤ x := by
    apply Int.pos_of_mul_pos_right (a := g) (by omega) (by omega)
  have hy : 1 ≤ y := by
    apply Int.pos_of_mul_pos_right (a := g) (by omega) (by omega)
  have k1 : 1 * x ≤ g * x := Int.mul_le_mul_of_nonneg_right hg (by omega)
  have k2 : 1 * y ≤ g * y := Int.mul_le_mul_of_nonneg_right hg (by omega)
  omega

/-- What is not in least terms becomes less. -/
theorem Red.less {a b x y : Int} (h : Red a b x y) (hw : Wn a b) (hn : ¬ Fr a b) : x < a ∧ y < b := by
  obtain ⟨ha1, ha2, hb1, hb2⟩ := hw
  obtain ⟨h1, h2⟩ := h.mul ha1 hb1
  obtain ⟨hx, _, hy, _⟩ := h.bd ha1 hb1
  have hg : 2 ≤ ((Int.gcd a b : Nat) : Int) := by
    have := @gcd_pos a b ha1
    have : ((Int.gcd a b : Nat) : Int) ≠ 1 := fun e => hn ⟨ha1, ha2, hb1, hb2, by exact_mod_cast e⟩
    omega
  generalize ((Int.gcd a b : Nat) : Int) = g at *
  have k1 : 2 * x ≤ g * x := Int.mul_le_mul_of_nonneg_right hg (by omega)
  have k2 : 2 * y ≤ g * y := Int.mul_le_mul_of_nonneg_right hg (by omega)
  omega

theorem Red.wn {a b x y : Int} (h : Red a b x y) (hw : Wn a b) : Wn x y := by
  have := h.bd hw.1 hw.2.2.1
  obtain ⟨ha1, ha2, hb1, hb2⟩ := hw
  unfold Wn
  omega

theorem Red.gcd {a b x y : Int} (h : Red a b x y) (ha : 1 ≤ a) : Int.gcd x y = 1 := by
  rw [← h.num, ← h.den]
  exact Int.gcd_ediv_gcd_ediv_gcd (Int.gcd_pos_of_ne_zero_left b (by omega))

end Go.Proofs.Ytbdjllgngblfoaa
