/- Which one of two fractions is less. -/
import Derived.Test.YtchlehpjpgeejaaQ1
namespace Go.Proofs.Ytchlehpjpgeejaa
set_option linter.unusedVariables false
set_option linter.unusedSimpArgs false
open Go Ev
noncomputable section

/-- A fraction is less than another one, or the other way round. -/
def lessR (a b c d : Int) (tn : Bool) : Bool := match tn with
  | true => decide (c * b < a * d)
  | false => decide (a * d < c * b)
def LsOK (a b c d : Int) : Prop := 0 ≤ a ∧ a ≤ 9223372036854775807 ∧ 1 ≤ b ∧ b ≤ 9223372036854775807 ∧ 0 ≤ c ∧ c ≤ 9223372036854775807 ∧ 1 ≤ d ∧ d ≤ 9223372036854775807
theorem quo_facts {a b : Int} (ha : 0 ≤ a) (hb : 1 ≤ b) : 0 ≤ a.tdiv b ∧ a.tdiv b ≤ a ∧ 0 ≤ a.tdiv b * b ∧ a.tdiv b * b ≤ a ∧ a < a.tdiv b * b + b := by
  rw [Int.tdiv_eq_ediv_of_nonneg ha]
  have h1 := Int.ediv_nonneg ha (show 0 ≤ b by omega)
  have h2 := Int.ediv_mul_le a (show b ≠ 0 by omega)
  have h3 := Int.lt_ediv_add_one_mul_self a (show 0 < b by omega)
  rw [Int.add_mul, Int.one_mul] at h3
  exact ⟨h1, Int.ediv_le_self b ha, Int.mul_nonneg h1 (by omega), h2, h3⟩
/-- Whole parts that differ tell which one is less. -/
theorem less_whole {a b c d p q : Int} (hb : 1 ≤ b) (hd : 1 ≤ d) (h1 : a < p * b + b) (h2 : q * d ≤ c) (h : p < q) : a * d < c * b := by
  have e1 : a < (p + 1) * b := by rw [Int.add_mul, Int.one_mul]; exact h1
  have e2 : (p + 1) * b * d ≤ q * b * d := Int.mul_le_mul_of_nonneg_right (Int.mul_le_mul_of_nonneg_right (by omega) (by omega)) (by omega)
  have e3 : a * d < (p + 1) * b * d := Int.mul_lt_mul_of_pos_right e1 (by omega)
  have e4 : q * d * b ≤ c * b := Int.mul_le_mul_of_nonneg_right h2 (by omega)
  have e5 : q * b * d = q * d * b := by rw [Int.mul_assoc, Int.mul_comm b d, ← Int.mul_assoc]
  omega
/-- What is left tells it where the whole parts are the same. -/
theorem less_rest (a b c d p : Int) : a * d - c * b = (a - p * b) * d - (c - p * d) * b := by
  rw [Int.sub_mul, Int.sub_mul, show p * b * d = p * d * b by rw [Int.mul_assoc, Int.mul_comm b d, ← Int.mul_assoc]]
  omega
theorem less_ne {a b c d : Int} (h : LsOK a b c d) (hq : a.tdiv b ≠ c.tdiv d) (tn : Bool) : (!(ltI (a.tdiv b) (c.tdiv d) == tn)) = lessR a b c d tn := by
  obtain ⟨h1, _, h2, _, h3, _, h4, _⟩ := h
  obtain ⟨_, _, _, p4, p5⟩ := quo_facts h1 h2
  obtain ⟨_, _, _, q4, q5⟩ := quo_facts h3 h4
  rw [ltI_iff]
  rcases Int.lt_or_gt_of_ne hq with hlt | hgt
  · have := less_whole h2 h4 p5 q4 hlt
    cases tn <;> simp [lessR, hlt] <;> omega
  · have := less_whole h4 h2 q5 p4 hgt
    have hn : ¬ a.tdiv b < c.tdiv d := by omega
    cases tn <;> simp [lessR, hn] <;> omega
theorem less_eq {a b c d : Int} (hq : a.tdiv b = c.tdiv d) (tn : Bool) : lessR a b c d tn = lessR (a - a.tdiv b * b) b (c - c.tdiv d * d) d tn := by
  have := less_rest a b c d (a.tdiv b)
  rw [← hq]
  cases tn <;> simp only [lessR, decide_eq_decide] <;> omega
theorem less_turn (a b c d : Int) (tn : Bool) : lessR a b c d tn = lessR b a d c (!tn) := by
  cases tn
  · simp only [lessR, Bool.not_false, decide_eq_decide]
    rw [Int.mul_comm a d, Int.mul_comm c b]
  · simp only [lessR, Bool.not_true, decide_eq_decide]
    rw [Int.mul_comm a d, Int.mul_comm c b]
theorem less_u0 {b v d : Int} (hb : 1 ≤ b) (hv : 1 ≤ v) (tn : Bool) : (!(true == tn)) = lessR 0 b v d tn := by
  have := mul_pos1 hv hb
  cases tn <;> simp [lessR] <;> omega
theorem less_v0 {u b d : Int} (hu : 1 ≤ u) (hd : 1 ≤ d) (tn : Bool) : (!(false == tn)) = lessR u b 0 d tn := by
  have := mul_pos1 hu hd
  cases tn <;> simp [lessR] <;> omega
theorem less_00 (b d : Int) (tn : Bool) : false = lessR 0 b 0 d tn := by cases tn <;> simp [lessR]
def LsI (r : Bool) : Type := { x : (Int × Int) × (Int × Int) × Bool // LsOK x.1.1 x.1.2 x.2.1.1 x.2.1.2 ∧ lessR x.1.1 x.1.2 x.2.1.1 x.2.1.2 x.2.2 = r }

set_option maxHeartbeats 4000000 in
theorem ls_loop (r : Bool) (x : LsI r) (w : World) : Goes Try.prog 85 (tlC (tlC (tlC (bodyC Try.f55)))) (⟨[(2, .ptr 0 0), (3, .ptr 1 0), (5, .v (.bool x.1.2.2))], [], 2, [(0, .cells [.v (.int .i64 (x.1.1.1)), .v (.int .i64 (x.1.1.2))] 51), (1, .cells [.v (.int .i64 (x.1.2.1.1)), .v (.int .i64 (x.1.2.1.2))] 51)]⟩) w (LandQ 85 (fun y : LsI r => ⟨[(2, .ptr 0 0), (3, .ptr 1 0), (5, .v (.bool y.1.2.2))], [], 2, [(0, .cells [.v (.int .i64 (y.1.1.1)), .v (.int .i64 (y.1.1.2))] 51), (1, .cells [.v (.int .i64 (y.1.2.1.1)), .v (.int .i64 (y.1.2.1.2))] 51)]⟩) (fun _ => False) w (OutR Try.prog Try.f55 85 (.bool r) w)) := by
  refine goes_blockloop (by kernel_rfl) (fun y : LsI r => ⟨[(2, .ptr 0 0), (3, .ptr 1 0), (5, .v (.bool y.1.2.2))], [], 2, [(0, .cells [.v (.int .i64 (y.1.1.1)), .v (.int .i64 (y.1.1.2))] 51), (1, .cells [.v (.int .i64 (y.1.2.1.1)), .v (.int .i64 (y.1.2.1.2))] 51)]⟩) (fun y => y.1.1.2.toNat) (R := fun _ => False) (fun y => ?_) x
  obtain ⟨⟨⟨a, b⟩, ⟨c, d⟩, tn⟩, ⟨k1, k2, k3, k4, k5, k6, k7, k8⟩, hr⟩ := y
  dsimp only at k1 k2 k3 k4 k5 k6 k7 k8 hr
  obtain ⟨p1, p2, p3, p4, p5⟩ := quo_facts (a := a) (b := b) k1 k3
  obtain ⟨q1, q2, q3, q4, q5⟩ := quo_facts (a := c) (b := d) k5 k7
  show (∃ j : LsI r, j.1.1.2.toNat < b.toNat ∧ Goes Try.prog 85 (loopC (tlC (tlC (tlC (bodyC Try.f55))))) (⟨[(2, .ptr 0 0), (3, .ptr 1 0), (5, .v (.bool tn))], [], 2, [(0, .cells [.v (.int .i64 (a)), .v (.int .i64 (b))] 51), (1, .cells [.v (.int .i64 (c)), .v (.int .i64 (d))] 51)]⟩) w (Land 85 isN (⟨[(2, .ptr 0 0), (3, .ptr 1 0), (5, .v (.bool j.1.2.2))], [], 2, [(0, .cells [.v (.int .i64 (j.1.1.1)), .v (.int .i64 (j.1.1.2))] 51), (1, .cells [.v (.int .i64 (j.1.2.1.1)), .v (.int .i64 (j.1.2.1.2))] 51)]⟩) w)) ∨ (False ∧ Goes Try.prog 85 (loopC (tlC (tlC (tlC (bodyC Try.f55))))) (⟨[(2, .ptr 0 0), (3, .ptr 1 0), (5, .v (.bool tn))], [], 2, [(0, .cells [.v (.int .i64 (a)), .v (.int .i64 (b))] 51), (1, .cells [.v (.int .i64 (c)), .v (.int .i64 (d))] 51)]⟩) w (Land 85 (isX 0) (⟨[(2, .ptr 0 0), (3, .ptr 1 0), (5, .v (.bool tn))], [], 2, [(0, .cells [.v (.int .i64 (a)), .v (.int .i64 (b))] 51), (1, .cells [.v (.int .i64 (c)), .v (.int .i64 (d))] 51)]⟩) w)) ∨ Goes Try.prog 85 (loopC (tlC (tlC (tlC (bodyC Try.f55))))) (⟨[(2, .ptr 0 0), (3, .ptr 1 0), (5, .v (.bool tn))], [], 2, [(0, .cells [.v (.int .i64 (a)), .v (.int .i64 (b))] 51), (1, .cells [.v (.int .i64 (c)), .v (.int .i64 (d))] 51)]⟩) w (fun e a w' => e = .ret ∧ OutR Try.prog Try.f55 85 (.bool r) w .ret a w')
  cases tn with
  | true =>
    cases hq1 : (eqI (a.tdiv b) (c.tdiv d)) with
    | true =>
      cases hq2 : (eqI (a - a.tdiv b * b) 0) with
      | true =>
        cases hq3 : (eqI (a - a.tdiv b * b) (c - c.tdiv d * d)) with
        | true =>
          have hne : a.tdiv b = c.tdiv d := by simpa [eqI_iff] using hq1
          have hu : a - a.tdiv b * b = 0 := by simpa [eqI_iff] using hq2
          have hv : c - c.tdiv d * d = 0 := by simpa [eqI_iff, hu, eq_comm] using hq3
          have e : false = r := by rw [← hr, less_eq hne, hu, hv]; exact less_00 b d true
          rw [← e]
          exact .inr (.inr (goes_ret Try.checked.mixed known_none 200 (v := .v (.bool (false))) (ps := [b ≠ 0, inR IntKind.i64 (a.tdiv b), d ≠ 0, inR IntKind.i64 (c.tdiv d), (!eqI (a.tdiv b) (c.tdiv d)) = false, inR IntKind.i64 (a.tdiv b * b), inR IntKind.i64 (a - a.tdiv b * b), inR IntKind.i64 (c.tdiv d * d), inR IntKind.i64 (c - c.tdiv d * d), eqI (a - a.tdiv b * b) 0 = true, true = true, true = true, (!eqI (a - a.tdiv b * b) (c - c.tdiv d * d)) = false, false = false, false = false, false = false]) [.go, .go, .go, .go, .go, .go, .go, .go, .go, .go, .go, .go, .go, .go, .go, .b false, .go, .go, .go, .go, .go, .go, .go, .go, .go, .go, .go, .go, .go, .go, .go, .go, .go, .go, .go, .b true, .b true, .go, .b true, .go, .go, .go, .go, .b false, .b false, .b false, .b false, .go, .go] (by kernel_rfl) (by kernel_rfl) ⟨(by omega), (by show -9223372036854775808 ≤ _ ∧ _ ≤ 9223372036854775807; constructor <;> omega), (by omega), (by show -9223372036854775808 ≤ _ ∧ _ ≤ 9223372036854775807; constructor <;> omega), (by rw [hq1]; rfl), (by show -9223372036854775808 ≤ _ ∧ _ ≤ 9223372036854775807; constructor <;> omega), (by show -9223372036854775808 ≤ _ ∧ _ ≤ 9223372036854775807; constructor <;> omega), (by show -9223372036854775808 ≤ _ ∧ _ ≤ 9223372036854775807; constructor <;> omega), (by show -9223372036854775808 ≤ _ ∧ _ ≤ 9223372036854775807; constructor <;> omega), hq2, rfl, rfl, (by rw [hq3]; rfl), rfl, rfl, rfl, trivial⟩ rfl))
        | false =>
          have hne : a.tdiv b = c.tdiv d := by simpa [eqI_iff] using hq1
          have hu : a - a.tdiv b * b = 0 := by simpa [eqI_iff] using hq2
          have hv : ¬ (c - c.tdiv d * d = 0) := by simpa [eqI_iff, hu, eq_comm] using hq3
          have e : (!eqI (a - a.tdiv b * b) 0 == true) = r := by rw [← hr, less_eq hne, hu]; exact less_u0 k3 (by omega) true
          rw [← e]
          exact .inr (.inr (goes_ret Try.checked.mixed known_none 200 (v := .v (.bool ((!eqI (a - a.tdiv b * b) 0 == true)))) (ps := [b ≠ 0, inR IntKind.i64 (a.tdiv b), d ≠ 0, inR IntKind.i64 (c.tdiv d), (!eqI (a.tdiv b) (c.tdiv d)) = false, inR IntKind.i64 (a.tdiv b * b), inR IntKind.i64 (a - a.tdiv b * b), inR IntKind.i64 (c.tdiv d * d), inR IntKind.i64 (c - c.tdiv d * d), eqI (a - a.tdiv b * b) 0 = true, true = true, true = true, (!eqI (a - a.tdiv b * b) (c - c.tdiv d * d)) = true, true = true, true = true, true = true]) [.go, .go, .go, .go, .go, .go, .go, .go, .go, .go, .go, .go, .go, .go, .go, .b false, .go, .go, .go, .go, .go, .go, .go, .go, .go, .go, .go, .go, .go, .go, .go, .go, .go, .go, .go, .b true, .b true, .go, .b true, .go, .go, .go, .go, .b true, .go, .b true, .go, .b true, .go, .b true, .go, .go, .go] (by kernel_rfl) (by kernel_rfl) ⟨(by omega), (by show -9223372036854775808 ≤ _ ∧ _ ≤ 9223372036854775807; constructor <;> omega), (by omega), (by show -9223372036854775808 ≤ _ ∧ _ ≤ 9223372036854775807; constructor <;> omega), (by rw [hq1]; rfl), (by show -9223372036854775808 ≤ _ ∧ _ ≤ 9223372036854775807; constructor <;> omega), (by show -9223372036854775808 ≤ _ ∧ _ ≤ 9223372036854775807; constructor <;> omega), (by show -9223372036854775808 ≤ _ ∧ _ ≤ 9223372036854775807; constructor <;> omega), (by show -9223372036854775808 ≤ _ ∧ _ ≤ 9223372036854775807; constructor <;> omega), hq2, rfl, rfl, (by rw [hq3]; rfl), rfl, rfl, rfl, trivial⟩ rfl))
      | false =>
        cases hq4 : (eqI (c - c.tdiv d * d) 0) with
        | true =>
          cases hq5 : (eqI (a - a.tdiv b * b) (c - c.tdiv d * d)) with
          | true =>
            have hne : a.tdiv b = c.tdiv d := by simpa [eqI_iff] using hq1
            have hu : ¬ (a - a.tdiv b * b = 0) := by simpa [eqI_iff] using hq2
            have hv : c - c.tdiv d * d = 0 := by simpa [eqI_iff] using hq4
            exact absurd (by simpa [eqI_iff, hv] using hq5 : a - a.tdiv b * b = 0) hu
          | false =>
            have hne : a.tdiv b = c.tdiv d := by simpa [eqI_iff] using hq1
            have hu : ¬ (a - a.tdiv b * b = 0) := by simpa [eqI_iff] using hq2
            have hv : c - c.tdiv d * d = 0 := by simpa [eqI_iff] using hq4
            have e : (!eqI (a - a.tdiv b * b) 0 == true) = r := by rw [← hr, less_eq hne, hv, hq2]; exact less_v0 (by omega) k7 true
            rw [← e]
            exact .inr (.inr (goes_ret Try.checked.mixed known_none 200 (v := .v (.bool ((!eqI (a - a.tdiv b * b) 0 == true)))) (ps := [b ≠ 0, inR IntKind.i64 (a.tdiv b), d ≠ 0, inR IntKind.i64 (c.tdiv d), (!eqI (a.tdiv b) (c.tdiv d)) = false, inR IntKind.i64 (a.tdiv b * b), inR IntKind.i64 (a - a.tdiv b * b), inR IntKind.i64 (c.tdiv d * d), inR IntKind.i64 (c - c.tdiv d * d), eqI (a - a.tdiv b * b) 0 = false, false = false, eqI (c - c.tdiv d * d) 0 = true, (!eqI (a - a.tdiv b * b) (c - c.tdiv d * d)) = true, true = true, true = true, true = true]) [.go, .go, .go, .go, .go, .go, .go, .go, .go, .go, .go, .go, .go, .go, .go, .b false, .go, .go, .go, .go, .go, .go, .go, .go, .go, .go, .go, .go, .go, .go, .go, .go, .go, .go, .go, .b false, .go, .b false, .go, .go, .b true, .go, .go, .go, .go, .b true, .go, .b true, .go, .b true, .go, .b true, .go, .go, .go] (by kernel_rfl) (by kernel_rfl) ⟨(by omega), (by show -9223372036854775808 ≤ _ ∧ _ ≤ 9223372036854775807; constructor <;> omega), (by omega), (by show -9223372036854775808 ≤ _ ∧ _ ≤ 9223372036854775807; constructor <;> omega), (by rw [hq1]; rfl), (by show -9223372036854775808 ≤ _ ∧ _ ≤ 9223372036854775807; constructor <;> omega), (by show -9223372036854775808 ≤ _ ∧ _ ≤ 9223372036854775807; constructor <;> omega), (by show -9223372036854775808 ≤ _ ∧ _ ≤ 9223372036854775807; constructor <;> omega), (by show -9223372036854775808 ≤ _ ∧ _ ≤ 9223372036854775807; constructor <;> omega), hq2, rfl, hq4, (by rw [hq5]; rfl), rfl, rfl, rfl, trivial⟩ rfl))
        | false =>
          have hne : a.tdiv b = c.tdiv d := by simpa [eqI_iff] using hq1
          have hu : ¬ (a - a.tdiv b * b = 0) := by simpa [eqI_iff] using hq2
          have hv : ¬ (c - c.tdiv d * d = 0) := by simpa [eqI_iff] using hq4
          refine .inl ⟨⟨((b, a - a.tdiv b * b), (d, c - c.tdiv d * d), false), (show LsOK b (a - a.tdiv b * b) d (c - c.tdiv d * d) from ⟨by omega, by omega, by omega, by omega, by omega, by omega, by omega, by omega⟩), ?_⟩, ?_, ?_⟩
          · rw [← hr, less_eq hne, less_turn]; rfl
          · show (a - a.tdiv b * b).toNat < b.toNat; omega
          · exact goes_told Try.checked.mixed known_none 200 (e := .normal) (ps := [b ≠ 0, inR IntKind.i64 (a.tdiv b), d ≠ 0, inR IntKind.i64 (c.tdiv d), (!eqI (a.tdiv b) (c.tdiv d)) = false, inR IntKind.i64 (a.tdiv b * b), inR IntKind.i64 (a - a.tdiv b * b), inR IntKind.i64 (c.tdiv d * d), inR IntKind.i64 (c - c.tdiv d * d), eqI (a - a.tdiv b * b) 0 = false, false = false, eqI (c - c.tdiv d * d) 0 = false]) [.go, .go, .go, .go, .go, .go, .go, .go, .go, .go, .go, .go, .go, .go, .go, .b false, .go, .go, .go, .go, .go, .go, .go, .go, .go, .go, .go, .go, .go, .go, .go, .go, .go, .go, .go, .b false, .go, .b false, .go, .go, .b false, .go, .go, .go, .go, .go, .go, .go, .go, .go, .go, .go, .go, .go] (by kernel_rfl) (by kernel_rfl) ⟨(by omega), (by show -9223372036854775808 ≤ _ ∧ _ ≤ 9223372036854775807; constructor <;> omega), (by omega), (by show -9223372036854775808 ≤ _ ∧ _ ≤ 9223372036854775807; constructor <;> omega), (by rw [hq1]; rfl), (by show -9223372036854775808 ≤ _ ∧ _ ≤ 9223372036854775807; constructor <;> omega), (by show -9223372036854775808 ≤ _ ∧ _ ≤ 9223372036854775807; constructor <;> omega), (by show -9223372036854775808 ≤ _ ∧ _ ≤ 9223372036854775807; constructor <;> omega), (by show -9223372036854775808 ≤ _ ∧ _ ≤ 9223372036854775807; constructor <;> omega), hq2, rfl, hq4, trivial⟩ rfl
    | false =>
      have hne : a.tdiv b ≠ c.tdiv d := by simpa [eqI_iff] using hq1
      have e : (!ltI (a.tdiv b) (c.tdiv d) == true) = r := by rw [← hr]; exact less_ne ⟨k1, k2, k3, k4, k5, k6, k7, k8⟩ hne true
      rw [← e]
      exact .inr (.inr (goes_ret Try.checked.mixed known_none 200 (v := .v (.bool ((!ltI (a.tdiv b) (c.tdiv d) == true)))) (ps := [b ≠ 0, inR IntKind.i64 (a.tdiv b), d ≠ 0, inR IntKind.i64 (c.tdiv d), (!eqI (a.tdiv b) (c.tdiv d)) = true]) [.go, .go, .go, .go, .go, .go, .go, .go, .go, .go, .go, .go, .go, .go, .go, .b true, .go, .go, .go, .go, .go, .go] (by kernel_rfl) (by kernel_rfl) ⟨(by omega), (by show -9223372036854775808 ≤ _ ∧ _ ≤ 9223372036854775807; constructor <;> omega), (by omega), (by show -9223372036854775808 ≤ _ ∧ _ ≤ 9223372036854775807; constructor <;> omega), (by rw [hq1]; rfl), trivial⟩ rfl))
  | false =>
    cases hq1 : (eqI (a.tdiv b) (c.tdiv d)) with
    | true =>
      cases hq2 : (eqI (a - a.tdiv b * b) 0) with
      | true =>
        cases hq3 : (eqI (a - a.tdiv b * b) (c - c.tdiv d * d)) with
        | true =>
          have hne : a.tdiv b = c.tdiv d := by simpa [eqI_iff] using hq1
          have hu : a - a.tdiv b * b = 0 := by simpa [eqI_iff] using hq2
          have hv : c - c.tdiv d * d = 0 := by simpa [eqI_iff, hu, eq_comm] using hq3
          have e : false = r := by rw [← hr, less_eq hne, hu, hv]; exact less_00 b d false
          rw [← e]
          exact .inr (.inr (goes_ret Try.checked.mixed known_none 200 (v := .v (.bool (false))) (ps := [b ≠ 0, inR IntKind.i64 (a.tdiv b), d ≠ 0, inR IntKind.i64 (c.tdiv d), (!eqI (a.tdiv b) (c.tdiv d)) = false, inR IntKind.i64 (a.tdiv b * b), inR IntKind.i64 (a - a.tdiv b * b), inR IntKind.i64 (c.tdiv d * d), inR IntKind.i64 (c - c.tdiv d * d), eqI (a - a.tdiv b * b) 0 = true, true = true, true = true, (!eqI (a - a.tdiv b * b) (c - c.tdiv d * d)) = false, false = false, false = false, false = false]) [.go, .go, .go, .go, .go, .go, .go, .go, .go, .go, .go, .go, .go, .go, .go, .b false, .go, .go, .go, .go, .go, .go, .go, .go, .go, .go, .go, .go, .go, .go, .go, .go, .go, .go, .go, .b true, .b true, .go, .b true, .go, .go, .go, .go, .b false, .b false, .b false, .b false, .go, .go] (by kernel_rfl) (by kernel_rfl) ⟨(by omega), (by show -9223372036854775808 ≤ _ ∧ _ ≤ 9223372036854775807; constructor <;> omega), (by omega), (by show -9223372036854775808 ≤ _ ∧ _ ≤ 9223372036854775807; constructor <;> omega), (by rw [hq1]; rfl), (by show -9223372036854775808 ≤ _ ∧ _ ≤ 9223372036854775807; constructor <;> omega), (by show -9223372036854775808 ≤ _ ∧ _ ≤ 9223372036854775807; constructor <;> omega), (by show -9223372036854775808 ≤ _ ∧ _ ≤ 9223372036854775807; constructor <;> omega), (by show -9223372036854775808 ≤ _ ∧ _ ≤ 9223372036854775807; constructor <;> omega), hq2, rfl, rfl, (by rw [hq3]; rfl), rfl, rfl, rfl, trivial⟩ rfl))
        | false =>
          have hne : a.tdiv b = c.tdiv d := by simpa [eqI_iff] using hq1
          have hu : a - a.tdiv b * b = 0 := by simpa [eqI_iff] using hq2
          have hv : ¬ (c - c.tdiv d * d = 0) := by simpa [eqI_iff, hu, eq_comm] using hq3
          have e : (!eqI (a - a.tdiv b * b) 0 == false) = r := by rw [← hr, less_eq hne, hu]; exact less_u0 k3 (by omega) false
          rw [← e]
          exact .inr (.inr (goes_ret Try.checked.mixed known_none 200 (v := .v (.bool ((!eqI (a - a.tdiv b * b) 0 == false)))) (ps := [b ≠ 0, inR IntKind.i64 (a.tdiv b), d ≠ 0, inR IntKind.i64 (c.tdiv d), (!eqI (a.tdiv b) (c.tdiv d)) = false, inR IntKind.i64 (a.tdiv b * b), inR IntKind.i64 (a - a.tdiv b * b), inR IntKind.i64 (c.tdiv d * d), inR IntKind.i64 (c - c.tdiv d * d), eqI (a - a.tdiv b * b) 0 = true, true = true, true = true, (!eqI (a - a.tdiv b * b) (c - c.tdiv d * d)) = true, true = true, true = true, true = true]) [.go, .go, .go, .go, .go, .go, .go, .go, .go, .go, .go, .go, .go, .go, .go, .b false, .go, .go, .go, .go, .go, .go, .go, .go, .go, .go, .go, .go, .go, .go, .go, .go, .go, .go, .go, .b true, .b true, .go, .b true, .go, .go, .go, .go, .b true, .go, .b true, .go, .b true, .go, .b true, .go, .go, .go] (by kernel_rfl) (by kernel_rfl) ⟨(by omega), (by show -9223372036854775808 ≤ _ ∧ _ ≤ 9223372036854775807; constructor <;> omega), (by omega), (by show -9223372036854775808 ≤ _ ∧ _ ≤ 9223372036854775807; constructor <;> omega), (by rw [hq1]; rfl), (by show -9223372036854775808 ≤ _ ∧ _ ≤ 9223372036854775807; constructor <;> omega), (by show -9223372036854775808 ≤ _ ∧ _ ≤ 9223372036854775807; constructor <;> omega), (by show -9223372036854775808 ≤ _ ∧ _ ≤ 9223372036854775807; constructor <;> omega), (by show -9223372036854775808 ≤ _ ∧ _ ≤ 9223372036854775807; constructor <;> omega), hq2, rfl, rfl, (by rw [hq3]; rfl), rfl, rfl, rfl, trivial⟩ rfl))
      | false =>
        cases hq4 : (eqI (c - c.tdiv d * d) 0) with
        | true =>
          cases hq5 : (eqI (a - a.tdiv b * b) (c - c.tdiv d * d)) with
          | true =>
            have hne : a.tdiv b = c.tdiv d := by simpa [eqI_iff] using hq1
            have hu : ¬ (a - a.tdiv b * b = 0) := by simpa [eqI_iff] using hq2
            have hv : c - c.tdiv d * d = 0 := by simpa [eqI_iff] using hq4
            exact absurd (by simpa [eqI_iff, hv] using hq5 : a - a.tdiv b * b = 0) hu
          | false =>
            have hne : a.tdiv b = c.tdiv d := by simpa [eqI_iff] using hq1
            have hu : ¬ (a - a.tdiv b * b = 0) := by simpa [eqI_iff] using hq2
            have hv : c - c.tdiv d * d = 0 := by simpa [eqI_iff] using hq4
            have e : (!eqI (a - a.tdiv b * b) 0 == false) = r := by rw [← hr, less_eq hne, hv, hq2]; exact less_v0 (by omega) k7 false
            rw [← e]
            exact .inr (.inr (goes_ret Try.checked.mixed known_none 200 (v := .v (.bool ((!eqI (a - a.tdiv b * b) 0 == false)))) (ps := [b ≠ 0, inR IntKind.i64 (a.tdiv b), d ≠ 0, inR IntKind.i64 (c.tdiv d), (!eqI (a.tdiv b) (c.tdiv d)) = false, inR IntKind.i64 (a.tdiv b * b), inR IntKind.i64 (a - a.tdiv b * b), inR IntKind.i64 (c.tdiv d * d), inR IntKind.i64 (c - c.tdiv d * d), eqI (a - a.tdiv b * b) 0 = false, false = false, eqI (c - c.tdiv d * d) 0 = true, (!eqI (a - a.tdiv b * b) (c - c.tdiv d * d)) = true, true = true, true = true, true = true]) [.go, .go, .go, .go, .go, .go, .go, .go, .go, .go, .go, .go, .go, .go, .go, .b false, .go, .go, .go, .go, .go, .go, .go, .go, .go, .go, .go, .go, .go, .go, .go, .go, .go, .go, .go, .b false, .go, .b false, .go, .go, .b true, .go, .go, .go, .go, .b true, .go, .b true, .go, .b true, .go, .b true, .go, .go, .go] (by kernel_rfl) (by kernel_rfl) ⟨(by omega), (by show -9223372036854775808 ≤ _ ∧ _ ≤ 9223372036854775807; constructor <;> omega), (by omega), (by show -9223372036854775808 ≤ _ ∧ _ ≤ 9223372036854775807; constructor <;> omega), (by rw [hq1]; rfl), (by show -9223372036854775808 ≤ _ ∧ _ ≤ 9223372036854775807; constructor <;> omega), (by show -9223372036854775808 ≤ _ ∧ _ ≤ 9223372036854775807; constructor <;> omega), (by show -9223372036854775808 ≤ _ ∧ _ ≤ 9223372036854775807; constructor <;> omega), (by show -9223372036854775808 ≤ _ ∧ _ ≤ 9223372036854775807; constructor <;> omega), hq2, rfl, hq4, (by rw [hq5]; rfl), rfl, rfl, rfl, trivial⟩ rfl))
        | false =>
          have hne : a.tdiv b = c.tdiv d := by simpa [eqI_iff] using hq1
          have hu : ¬ (a - a.tdiv b * b = 0) := by simpa [eqI_iff] using hq2
          have hv : ¬ (c - c.tdiv d * d = 0) := by simpa [eqI_iff] using hq4
          refine .inl ⟨⟨((b, a - a.tdiv b * b), (d, c - c.tdiv d * d), true), (show LsOK b (a - a.tdiv b * b) d (c - c.tdiv d * d) from ⟨by omega, by omega, by omega, by omega, by omega, by omega, by omega, by omega⟩), ?_⟩, ?_, ?_⟩
          · rw [← hr, less_eq hne, less_turn]; rfl
          · show (a - a.tdiv b * b).toNat < b.toNat; omega
          · exact goes_told Try.checked.mixed known_none 200 (e := .normal) (ps := [b ≠ 0, inR IntKind.i64 (a.tdiv b), d ≠ 0, inR IntKind.i64 (c.tdiv d), (!eqI (a.tdiv b) (c.tdiv d)) = false, inR IntKind.i64 (a.tdiv b * b), inR IntKind.i64 (a - a.tdiv b * b), inR IntKind.i64 (c.tdiv d * d), inR IntKind.i64 (c - c.tdiv d * d), eqI (a - a.tdiv b * b) 0 = false, false = false, eqI (c - c.tdiv d * d) 0 = false]) [.go, .go, .go, .go, .go, .go, .go, .go, .go, .go, .go, .go, .go, .go, .go, .b false, .go, .go, .go, .go, .go, .go, .go, .go, .go, .go, .go, .go, .go, .go, .go, .go, .go, .go, .go, .b false, .go, .b false, .go, .go, .b false, .go, .go, .go, .go, .go, .go, .go, .go, .go, .go, .go, .go, .go] (by kernel_rfl) (by kernel_rfl) ⟨(by omega), (by show -9223372036854775808 ≤ _ ∧ _ ≤ 9223372036854775807; constructor <;> omega), (by omega), (by show -9223372036854775808 ≤ _ ∧ _ ≤ 9223372036854775807; constructor <;> omega), (by rw [hq1]; rfl), (by show -9223372036854775808 ≤ _ ∧ _ ≤ 9223372036854775807; constructor <;> omega), (by show -9223372036854775808 ≤ _ ∧ _ ≤ 9223372036854775807; constructor <;> omega), (by show -9223372036854775808 ≤ _ ∧ _ ≤ 9223372036854775807; constructor <;> omega), (by show -9223372036854775808 ≤ _ ∧ _ ≤ 9223372036854775807; constructor <;> omega), hq2, rfl, hq4, trivial⟩ rfl
    | false =>
      have hne : a.tdiv b ≠ c.tdiv d := by simpa [eqI_iff] using hq1
      have e : (!ltI (a.tdiv b) (c.tdiv d) == false) = r := by rw [← hr]; exact less_ne ⟨k1, k2, k3, k4, k5, k6, k7, k8⟩ hne false
      rw [← e]
      exact .inr (.inr (goes_ret Try.checked.mixed known_none 200 (v := .v (.bool ((!ltI (a.tdiv b) (c.tdiv d) == false)))) (ps := [b ≠ 0, inR IntKind.i64 (a.tdiv b), d ≠ 0, inR IntKind.i64 (c.tdiv d), (!eqI (a.tdiv b) (c.tdiv d)) = true]) [.go, .go, .go, .go, .go, .go, .go, .go, .go, .go, .go, .go, .go, .go, .go, .b true, .go, .go, .go, .go, .go, .go] (by kernel_rfl) (by kernel_rfl) ⟨(by omega), (by show -9223372036854775808 ≤ _ ∧ _ ≤ 9223372036854775807; constructor <;> omega), (by omega), (by show -9223372036854775808 ≤ _ ∧ _ ≤ 9223372036854775807; constructor <;> omega), (by rw [hq1]; rfl), trivial⟩ rfl))

end
end Go.Proofs.Ytchlehpjpgeejaa
