/- Fractions in least terms, multiplied across. -/
import Derived.Test.YtchlehpjpgeejaaP5
namespace Go.Proofs.Ytchlehpjpgeejaa
set_option linter.unusedVariables false
set_option linter.unusedSimpArgs false
open Go Ev

theorem gcd_pos' {n d : Int} (hd : 1 ≤ d) : (1 : Int) ≤ (Int.gcd n d : Int) := by
  have : 0 < Int.gcd n d := Int.gcd_pos_of_ne_zero_right n (by omega)
  omega
/-- The fraction is what both numbers make with their common divisor; they have none left. -/
theorem red_spec {n d : Int} (h0 : 0 ≤ n) (hd : 1 ≤ d) : n = (Int.gcd n d : Int) * rn n d ∧ d = (Int.gcd n d : Int) * rd n d ∧ Int.gcd (rn n d) (rd n d) = 1 ∧ 0 ≤ rn n d ∧ 1 ≤ rd n d ∧ rn n d ≤ n ∧ rd n d ≤ d := by
  have hg := gcd_pos' (n := n) hd
  have e1 : n = (Int.gcd n d : Int) * rn n d := by unfold rn; exact (Int.mul_ediv_cancel' (Int.gcd_dvd_left ..)).symm
  have e2 : d = (Int.gcd n d : Int) * rd n d := by unfold rd; exact (Int.mul_ediv_cancel' (Int.gcd_dvd_right ..)).symm
  have h1 : 0 ≤ rn n d := Int.ediv_nonneg h0 (by omega)
  have h2 : 0 ≤ rd n d := Int.ediv_nonneg (by omega) (by omega)
  have h3 : 1 ≤ rd n d := by
    by_cases q : rd n d = 0
    · rw [q, Int.mul_zero] at e2; omega
    · omega
  have h4 : Int.gcd (rn n d) (rd n d) = 1 := by
    have hgn : 0 < Int.gcd n d := by omega
    exact Int.gcd_ediv_gcd_ediv_gcd hgn
  exact ⟨e1, e2, h4, h1, h3, Int.ediv_le_self _ h0, Int.ediv_le_self _ (by omega)⟩
theorem red_unique {n d g a b : Int} (hg : 1 ≤ g) (hn : n = g * a) (hd : d = g * b) (hc : Int.gcd a b = 1) : rn n d = a ∧ rd n d = b := by
  have e : Int.gcd n d = g.natAbs := by rw [hn, hd, Int.gcd_mul_left, hc, Nat.mul_one]
  have e' : (Int.gcd n d : Int) = g := by rw [e]; omega
  unfold rn rd
  rw [e', hn, hd]
  exact ⟨Int.mul_ediv_cancel_left _ (by omega), Int.mul_ediv_cancel_left _ (by omega)⟩
theorem cop_left {a b c : Int} (h : Int.gcd (a * b) c = 1) : Int.gcd a c = 1 := by
  have h1 : (Int.gcd a c : Int) ∣ a := Int.gcd_dvd_left ..
  have h2 : (Int.gcd a c : Int) ∣ c := Int.gcd_dvd_right ..
  have h3 : Int.gcd a c ∣ Int.gcd (a * b) c := Int.dvd_gcd (Int.dvd_trans h1 (Int.dvd_mul_right a b)) h2
  rw [h] at h3
  exact Nat.dvd_one.1 h3
theorem cop_mul {a b c : Int} (h1 : Int.gcd a c = 1) (h2 : Int.gcd b c = 1) : Int.gcd (a * b) c = 1 := by
  show Nat.gcd (a * b).natAbs c.natAbs = 1
  rw [Int.natAbs_mul]
  exact Nat.Coprime.mul_left h1 h2
theorem cop_comm {a b : Int} (h : Int.gcd a b = 1) : Int.gcd b a = 1 := by rw [Int.gcd_comm]; exact h
/-- Two fractions, multiplied when what their numbers have in common across was taken out. -/
theorem red_cross {F S l M : Int} (hF : 0 ≤ F) (hS : 1 ≤ S) (hl : 0 ≤ l) (hM : 1 ≤ M) :
    rn (rn F S) (rd l M) * rn (rn l M) (rd F S) = rn (F * l) (S * M) ∧ rd (rn F S) (rd l M) * rd (rn l M) (rd F S) = rd (F * l) (S * M) := by
  obtain ⟨a1, a2, a3, a4, a5, _⟩ := red_spec hF hS
  obtain ⟨b1, b2, b3, b4, b5, _⟩ := red_spec hl hM
  obtain ⟨c1, c2, c3, c4, c5, _⟩ := red_spec a4 b5
  obtain ⟨d1, d2, d3, d4, d5, _⟩ := red_spec b4 a5
  have g1 := gcd_pos' (n := F) hS
  have g2 := gcd_pos' (n := l) hM
  have g3 := gcd_pos' (n := rn F S) b5
  have g4 := gcd_pos' (n := rn l M) a5
  generalize hG1 : (Int.gcd F S : Int) = G1 at *
  generalize hG2 : (Int.gcd l M : Int) = G2 at *
  generalize hG3 : (Int.gcd (rn F S) (rd l M) : Int) = G3 at *
  generalize hG4 : (Int.gcd (rn l M) (rd F S) : Int) = G4 at *
  generalize hf' : rn (rn F S) (rd l M) = f' at *
  generalize hq' : rd (rn F S) (rd l M) = q' at *
  generalize hp' : rn (rn l M) (rd F S) = p' at *
  generalize hs' : rd (rn l M) (rd F S) = s' at *
  generalize hf : rn F S = f at *
  generalize hs : rd F S = s at *
  generalize hp : rn l M = p at *
  generalize hq : rd l M = q at *
  have k1 : Int.gcd f' s' = 1 := by
    rw [c1, d2] at a3
    rw [Int.mul_comm G3, Int.mul_comm G4] at a3
    exact cop_comm (cop_left (cop_comm (cop_left a3)))
  have k2 : Int.gcd p' q' = 1 := by
    rw [d1, c2] at b3
    rw [Int.mul_comm G4, Int.mul_comm G3] at b3
    exact cop_comm (cop_left (cop_comm (cop_left b3)))
  have hgpos : 1 ≤ G1 * G2 * (G3 * G4) := mul_pos1 (mul_pos1 g1 g2) (mul_pos1 g3 g4)
  obtain ⟨e1, e2⟩ := red_unique (n := F * l) (d := S * M) (g := G1 * G2 * (G3 * G4)) (a := f' * p') (b := q' * s') hgpos
    (by rw [a1, b1, c1, d1]; simp only [Int.mul_assoc, Int.mul_comm, Int.mul_left_comm])
    (by rw [a2, b2, c2, d2]; simp only [Int.mul_assoc, Int.mul_comm, Int.mul_left_comm])
    (cop_mul (cop_comm (cop_mul (cop_comm c3) (cop_comm k1))) (cop_comm (cop_mul (cop_comm k2) (cop_comm d3))))
  exact ⟨e1.symm, e2.symm⟩
end Go.Proofs.Ytchlehpjpgeejaa
