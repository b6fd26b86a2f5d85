import Derived.Test.YtbdjllgngblfoaaUb
namespace Go.Proofs.Ytbdjllgngblfoaa
set_option linter.unusedVariables false
set_option linter.unusedSimpArgs false
open Go.RowKit

theorem isFraction_any (a b : Int) (r : Bool) (hr : decide (Fr a b) = r) (w : World) :
    Calls Try.prog 50 #[.agg #[.int .i64 a, .int .i64 b]] w fun e w' => e = .returned (.bool r) ∧ Below w.heap.size w w' := by
  by_cases h1 : Wn a b
  · have hb := h1
    unfold Wn at hb
    have H1 := Lib.hid (decide_eq_true h1)
    by_cases hF : Fr a b
    · have H2 := Lib.hid (Red.self hF)
      obtain rfl : true = r := by rw [← hr]; exact (decide_eq_true hF).symm
      clear h1 hr hF
      go_enter Try.func50, Try.ntmps50
      go_wp2_with fail
      go_region_held3 (fun w' => (w.heap.size < w'.heap.size ∧ Below w.heap.size w w') ∧ w'.cell? ⟨w.heap.size, 0, none⟩ = some (.int .i64 a) ∧ w'.cell? ⟨w.heap.size, 1, none⟩ = some (.int .i64 b)) (first | exact ⟨⟨by simp, ((Below.refl _ _).alloc (Nat.le_refl _) _).drew⟩, by go_keep⟩ | exact held2 (by assumption) hb2 | exact held2 (by assumption) hb1) (first
        | (go_at_call 67; refine (isWithin_any _ _ true H1.out _).mono ?_; rintro e w1 ⟨rfl, hb1⟩)
        | (go_at_call 68; refine (reduce_any _ _ _ _ H2.out (by omega) (by omega) (by omega) (by omega) _).mono ?_; rintro e w2 ⟨rfl, hb2⟩))
      all_goals go_wp2
      all_goals go_ret
      all_goals exact ⟨rfl, by rename_i h; exact h.1.2⟩
    · obtain ⟨x, hx⟩ : ∃ x, a / ((Int.gcd a b : Nat) : Int) = x := ⟨_, rfl⟩
      obtain ⟨y, hy⟩ : ∃ x, b / ((Int.gcd a b : Nat) : Int) = x := ⟨_, rfl⟩
      have hR : Red a b x y := ⟨hx, hy⟩
      have H2 := Lib.hid hR
      obtain ⟨hlt, _⟩ := hR.less h1 hF
      have hne : (a == x) = false := by simp; omega
      obtain rfl : false = r := by rw [← hr]; exact (decide_eq_false hF).symm
      clear h1 hr hF hx hy hR
      go_enter Try.func50, Try.ntmps50
      go_wp2_with fail
      go_region_held3 (fun w' => (w.heap.size < w'.heap.size ∧ Below w.heap.size w w') ∧ w'.cell? ⟨w.heap.size, 0, none⟩ = some (.int .i64 a) ∧ w'.cell? ⟨w.heap.size, 1, none⟩ = some (.int .i64 b)) (first | exact ⟨⟨by simp, ((Below.refl _ _).alloc (Nat.le_refl _) _).drew⟩, by go_keep⟩ | exact held2 (by assumption) hb2 | exact held2 (by assumption) hb1) (first
        | (go_at_call 67; refine (isWithin_any _ _ true H1.out _).mono ?_; rintro e w1 ⟨rfl, hb1⟩)
        | (go_at_call 68; refine (reduce_any _ _ _ _ H2.out (by omega) (by omega) (by omega) (by omega) _).mono ?_; rintro e w2 ⟨rfl, hb2⟩))
      all_goals go_wp2
      all_goals go_ret
      all_goals exact ⟨rfl, by rename_i h; exact h.1.2⟩
  · have hq : false = r := by rw [← hr]; exact (decide_eq_false (by unfold Fr; unfold Wn at h1; omega)).symm
    subst hq
    have H1 := Lib.hid (decide_eq_false h1)
    clear h1 hr
    go_enter Try.func50, Try.ntmps50
    go_wp2_with fail
    go_region_with (go_at_call 67; refine (isWithin_any _ _ false H1.out _).mono ?_; rintro e w1 ⟨rfl, hb1⟩; obtain ⟨hc1, hf1⟩ := bcell hb1)
    all_goals go_wp2
    all_goals go_ret
    all_goals exact ⟨rfl, by repeat (first | exact Below.refl _ _ | (refine Below.alloc ?_ (by simp) _) | (refine Below.setCell ?_ (by simp) _) | refine Below.drew ?_ | refine Below.trans ?_ (hb1.mono (by simp)))⟩

theorem IsFraction_any (a b : Int) (r : Bool) (hr : decide (Fr a b) = r) (w : World) :
    Calls Try.prog 18 #[.agg #[.int .i64 a, .int .i64 b]] w fun e w' => e = .returned (.bool r) ∧ Below w.heap.size w w' := by
  by_cases h1 : 1 ≤ a ∧ a ≤ 1000000000
  · have H1 := Lib.hid (decide_eq_true h1)
    by_cases h2 : 1 ≤ b ∧ b ≤ 1000000000
    · have H2 := Lib.hid (decide_eq_true h2)
      have hq : (((Int.gcd a b : Nat) : Int) == 1) = r := by
        rw [← hr]
        by_cases h3 : Int.gcd a b = 1
        · rw [decide_eq_true ⟨h1.1, h1.2, h2.1, h2.2, h3⟩]; simp [h3]
        · rw [decide_eq_false (fun h => h3 h.2.2.2.2)]
          have : ((Int.gcd a b : Nat) : Int) ≠ 1 := fun e => h3 (by exact_mod_cast e)
          simpa using this
      obtain ⟨g, hG⟩ : ∃ g, ((Int.gcd a b : Nat) : Int) = g := ⟨_, rfl⟩
      rw [hG] at hq
      have HG := Lib.hid hG
      have HQ := Lib.hid hq
      clear hG hr hq
      go_enter Try.func18, Try.ntmps18
      go_wp2_with fail
      refine (within_any _ _ _ true H1.out _).mono ?_
      rintro e w1 ⟨rfl, rfl⟩
      go_wp2_with fail
      refine (within_any _ _ _ true H2.out _).mono ?_
      rintro e w1 ⟨rfl, rfl⟩
      go_wp2_with fail
      refine (gcd_any _ _ (by omega) (by omega) _).mono ?_
      rintro e w1 ⟨rfl, hb1⟩
      rw [HG.out]
      go_wp2
      go_ret
      exact ⟨ret_b HQ.out, ((Below.refl _ _).alloc (Nat.le_refl _) _).trans (hb1.mono (by simp))⟩
    · have H2 := Lib.hid (decide_eq_false h2)
      obtain rfl : false = r := by rw [← hr]; exact (decide_eq_false (fun h => h2 ⟨h.2.2.1, h.2.2.2.1⟩)).symm
      clear h1 h2 hr
      go_enter Try.func18, Try.ntmps18
      go_wp2_with fail
      refine (within_any _ _ _ true H1.out _).mono ?_
      rintro e w1 ⟨rfl, rfl⟩
      go_wp2_with fail
      refine (within_any _ _ _ false H2.out _).mono ?_
      rintro e w1 ⟨rfl, rfl⟩
      go_wp2
      go_ret
      exact ⟨rfl, (Below.refl _ _).alloc (Nat.le_refl _) _⟩
  · have H1 := Lib.hid (decide_eq_false h1)
    obtain rfl : false = r := by rw [← hr]; exact (decide_eq_false (fun h => h1 ⟨h.1, h.2.1⟩)).symm
    clear h1 hr
    go_enter Try.func18, Try.ntmps18
    go_wp2_with fail
    refine (within_any _ _ _ false H1.out _).mono ?_
    rintro e w1 ⟨rfl, rfl⟩
    go_wp2
    go_ret
    exact ⟨rfl, (Below.refl _ _).alloc (Nat.le_refl _) _⟩

theorem fr_prod {a b c d : Int} (h : Fr a b) (k : Fr c d) : 0 ≤ a * d ∧ a * d ≤ 1000000000000000000 := by
  obtain ⟨h1, h2, h3, h4, _⟩ := h
  obtain ⟨k1, k2, k3, k4, _⟩ := k
  have := @mul_le a d 1000000000 1000000000 (by omega) (by omega) (by omega) (by omega)
  have := @mul_nn a d (by omega) (by omega)
  omega

end Go.Proofs.Ytbdjllgngblfoaa
