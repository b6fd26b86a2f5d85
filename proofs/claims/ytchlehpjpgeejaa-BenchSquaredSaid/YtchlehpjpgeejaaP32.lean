/- The power of a lamp grows with the standard, and falls with the screen and the stray light. -/
import Derived.Test.YtchlehpjpgeejaaP31
namespace Go.Proofs.Ytchlehpjpgeejaa
set_option linter.unusedVariables false
set_option linter.unusedSimpArgs false
open Go Ev
noncomputable section

theorem pw_den {L a b c : Int} (h : PwP L a b c) : 1 ≤ b * b * 1000000 ∧ b * b * 1000000 ≤ 25000000000000 := by
  obtain ⟨_, _, ⟨b5, b6⟩, _⟩ := pw_bd h
  omega
theorem pw_spec {L a b c : Int} (h : PwP L a b c) : ∃ g : Int, 1 ≤ g ∧ (L - b) * (L - b) * lgt a b c = g * pwN L a b c ∧ b * b * 1000000 = g * pwD L a b c ∧ Int.gcd (pwN L a b c) (pwD L a b c) = 1 := by
  obtain ⟨f1, f2⟩ := fl_bd h
  obtain ⟨d1, d2⟩ := pw_den h
  obtain ⟨e1, e2, e3, _⟩ := red_spec f1 d1
  exact ⟨_, gcd_pos' d1, e1, e2, e3⟩
theorem pw_rng {L a b c : Int} (h : PwP L a b c) : (0 ≤ pwN L a b c ∧ pwN L a b c ≤ 9223372036854775807) ∧ (1 ≤ pwD L a b c ∧ pwD L a b c ≤ 9223372036854775807) := by
  obtain ⟨f1, f2⟩ := fl_bd h
  obtain ⟨d1, d2⟩ := pw_den h
  obtain ⟨e1, e2, e3, e4, e5, e6, e7⟩ := red_spec f1 d1
  show (0 ≤ rn _ _ ∧ rn _ _ ≤ _) ∧ (1 ≤ rd _ _ ∧ rd _ _ ≤ _)
  omega
theorem ls_pw {L a b c L' a' b' c' : Int} (h : PwP L a b c) (h' : PwP L' a' b' c') : LsOK (pwN L a b c) (pwD L a b c) (pwN L' a' b' c') (pwD L' a' b' c') := by
  obtain ⟨⟨h1, h2⟩, h3, h4⟩ := pw_rng h
  obtain ⟨⟨k1, k2⟩, k3, k4⟩ := pw_rng h'
  exact ⟨h1, h2, h3, h4, k1, k2, k3, k4⟩
theorem prB_pw {L a b c : Int} (h : PwP L a b c) : prB (pwN L a b c) (pwD L a b c) = true := by
  obtain ⟨g, _, _, _, hc⟩ := pw_spec h
  have e1 : rn (pwN L a b c) (pwD L a b c) = pwN L a b c := by unfold rn; rw [hc]; simp
  have e2 : rd (pwN L a b c) (pwD L a b c) = pwD L a b c := by unfold rd; rw [hc]; simp
  unfold prB
  rw [e1, e2, eqI_iff, eqI_iff]
  simp
theorem lgt_le {L a b c a' b' c' : Int} (h : PwP L a b c) (h' : PwP L a' b' c') (ha : a ≤ a') (hb : b' ≤ b) (hc : c' ≤ c) : lgt a b c ≤ lgt a' b' c' := by
  obtain ⟨h1, h2, h3, h4, h5, h6, h7⟩ := h
  obtain ⟨k1, k2, k3, k4, k5, k6, k7⟩ := h'
  have e1 : c' * b' ≤ c * b := Int.mul_le_mul hc hb (by omega) (by omega)
  have e0 : 0 ≤ c * b := Int.mul_nonneg (by omega) (by omega)
  have e2 : c' * b' * b' ≤ c * b * b := Int.mul_le_mul e1 hb (by omega) e0
  unfold lgt
  split <;> split <;> omega
theorem pw_le {L a b c a' b' c' : Int} (h : PwP L a b c) (h' : PwP L a' b' c') (ha : a ≤ a') (hb : b' ≤ b) (hc : c' ≤ c) : pwN L a b c * pwD L a' b' c' ≤ pwN L a' b' c' * pwD L a b c := by
  obtain ⟨g, hg, e1, e2, _⟩ := pw_spec h
  obtain ⟨g', hg', e1', e2', _⟩ := pw_spec h'
  have hl := lgt_le h h' ha hb hc
  obtain ⟨l1, _⟩ := lgt_bd h
  obtain ⟨l1', _⟩ := lgt_bd h'
  obtain ⟨h1, h2, h3, _⟩ := h
  obtain ⟨k1, k2, k3, _⟩ := h'
  have q1 : (L - b) * (L - b) ≤ (L - b') * (L - b') := Int.mul_le_mul (by omega) (by omega) (by omega) (by omega)
  have q0 : 0 ≤ (L - b') * (L - b') := Int.mul_nonneg (by omega) (by omega)
  have q2 : (L - b) * (L - b) * lgt a b c ≤ (L - b') * (L - b') * lgt a' b' c' := Int.mul_le_mul q1 hl l1 q0
  have q3 : b' * b' ≤ b * b := Int.mul_le_mul hb hb (by omega) (by omega)
  have q4 : 0 ≤ b' * b' * 1000000 := Int.mul_nonneg (Int.mul_nonneg (by omega) (by omega)) (by omega)
  have q5 : 0 ≤ (L - b') * (L - b') * lgt a' b' c' := Int.mul_nonneg q0 l1'
  have q6 : (L - b) * (L - b) * lgt a b c * (b' * b' * 1000000) ≤ (L - b') * (L - b') * lgt a' b' c' * (b * b * 1000000) := Int.mul_le_mul q2 (by omega) q4 q5
  rw [e1, e2', e1', e2] at q6
  have q7 : g * pwN L a b c * (g' * pwD L a' b' c') = g * g' * (pwN L a b c * pwD L a' b' c') := by simp only [Int.mul_assoc, Int.mul_comm, Int.mul_left_comm]
  have q8 : g' * pwN L a' b' c' * (g * pwD L a b c) = g * g' * (pwN L a' b' c' * pwD L a b c) := by simp only [Int.mul_assoc, Int.mul_comm, Int.mul_left_comm]
  rw [q7, q8] at q6
  exact Int.le_of_mul_le_mul_left q6 (by have := mul_pos1 hg hg'; omega)
theorem less_pw {L a b c a' b' c' : Int} (h : PwP L a b c) (h' : PwP L a' b' c') (ha : a ≤ a') (hb : b' ≤ b) (hc : c' ≤ c) : lessR (pwN L a' b' c') (pwD L a' b' c') (pwN L a b c) (pwD L a b c) false = false := by
  have := pw_le h h' ha hb hc
  unfold lessR
  simp only [decide_eq_false_iff_not]
  omega
/-- The old standard has its power again. -/
theorem pw_back {L P S : Int} (h : PwP L P S 0) (hP : 1 ≤ P) (h1 : pwD L P S 0 = 1) (hw : PwP L (pwN L P S 0) (L - S) 0) : pwN L (pwN L P S 0) (L - S) 0 = P ∧ pwD L (pwN L P S 0) (L - S) 0 = 1 := by
  obtain ⟨g, hg, e1, e2, _⟩ := pw_spec h
  obtain ⟨d1, _⟩ := pw_den hw
  have hl : lgt P S 0 = P * 1000000 := by unfold lgt; rw [if_neg (by omega)]; omega
  obtain ⟨⟨n0, _⟩, _⟩ := pw_rng h
  have hl2 : lgt (pwN L P S 0) (L - S) 0 = pwN L P S 0 * 1000000 := by unfold lgt; rw [if_neg (by omega)]; omega
  rw [h1, Int.mul_one] at e2
  rw [hl, ← e2] at e1
  have key : (L - (L - S)) * (L - (L - S)) * lgt (pwN L P S 0) (L - S) 0 = (L - S) * (L - S) * 1000000 * P := by
    rw [hl2, show L - (L - S) = S by omega]
    have : S * S * 1000000 * pwN L P S 0 = S * S * (pwN L P S 0 * 1000000) := by simp only [Int.mul_assoc, Int.mul_comm, Int.mul_left_comm]
    rw [← this, ← e1]
    simp only [Int.mul_assoc, Int.mul_comm, Int.mul_left_comm]
  exact red_unique (n := (L - (L - S)) * (L - (L - S)) * lgt (pwN L P S 0) (L - S) 0) (d := (L - S) * (L - S) * 1000000) (g := (L - S) * (L - S) * 1000000) (a := P) (b := 1) d1 key (by omega) (by simp)
theorem bar_facts {L N p q s t u v : Int} (h : errB L N p q s t u v = 0) : 2 ≤ L ∧ L ≤ 5000 ∧ 1 ≤ N ∧ N ≤ L ∧ 1 ≤ p ∧ p ≤ q ∧ q ≤ 100000 ∧ 1 ≤ s ∧ s ≤ t ∧ t ≤ L - 1 ∧ 0 ≤ u ∧ u ≤ v ∧ v ≤ 1000 ∧ N ≤ s ∧ N ≤ L - t := by
  unfold errB at h
  split at h
  · rename_i hb
    split at h
    · rename_i hr
      unfold BarP at hb
      omega
    · cases h
  · cases h
theorem bar_mk {L N p q s t u v : Int} (h : 2 ≤ L ∧ L ≤ 5000 ∧ 1 ≤ N ∧ N ≤ L ∧ 1 ≤ p ∧ p ≤ q ∧ q ≤ 100000 ∧ 1 ≤ s ∧ s ≤ t ∧ t ≤ L - 1 ∧ 0 ≤ u ∧ u ≤ v ∧ v ≤ 1000 ∧ N ≤ s ∧ N ≤ L - t) : errB L N p q s t u v = 0 := by
  unfold errB
  rw [if_pos (by unfold BarP; omega), if_pos (by omega)]
end
end Go.Proofs.Ytchlehpjpgeejaa
