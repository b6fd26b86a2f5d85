import Derived.Test.YtbdjllgngblfoaaUj
namespace Go.Proofs.Ytbdjllgngblfoaa
set_option linter.unusedVariables false
set_option linter.unusedSimpArgs false
open Go.RowKit

/-- The numbers of a proof are as described. -/
def Pn (l m r s : Int) : Prop := (0 ≤ l ∧ l ≤ 1000000000) ∧ (1 ≤ m ∧ m ≤ 1000000000) ∧ (1 ≤ r ∧ r ≤ 1000000000) ∧ (0 ≤ s ∧ s ≤ 1000000000)
instance (l m r s : Int) : Decidable (Pn l m r s) := by unfold Pn; infer_instance
/-- A proof is right. -/
def Rt (a b c d l m r s : Int) : Prop := l * b < a * m ∧ c * s < r * d ∧ m * r - l * s = 1
instance (a b c d l m r s : Int) : Decidable (Rt a b c d l m r s) := by unfold Rt; infer_instance
/-- What CheckProof returns. -/
def chkProof (a b c d l m r s : Int) : Int × Int := if Sp a b c d then if Pn l m r s then if Rt a b c d l m r s then (m + s, 0) else (0, 14) else (0, 3) else (0, 2)

theorem sideV_low_iff {a b c d x y : Int} : sideV a b c d x y = -1 ↔ x * b < a * y := by
  refine ⟨sideV_low, fun h => ?_⟩
  unfold sideV
  rw [if_pos h]
theorem sideV_high_iff {a b c d x y : Int} (hS : Sp a b c d) (hx : 0 ≤ x) (hy : 0 ≤ y) : sideV a b c d x y = 1 ↔ c * y < x * d := by
  refine ⟨sideV_high, fun h => ?_⟩
  unfold sideV
  have : ¬ x * b < a * y := by
    intro hl
    obtain ⟨⟨h1, h2, h3, h4, _⟩, ⟨k1, k2, k3, k4, _⟩, hle⟩ := hS
    have e1 : (a * d) * y ≤ (c * b) * y := Int.mul_le_mul_of_nonneg_right hle hy
    have e2 : (c * y) * b < (x * d) * b := Int.mul_lt_mul_of_pos_right h (by omega)
    have e3 : (x * b) * d < (a * y) * d := Int.mul_lt_mul_of_pos_right hl (by omega)
    have i1 : (a * y) * d = (a * d) * y := by grind
    have i2 : (x * b) * d = (x * d) * b := by grind
    have i3 : (c * b) * y = (c * y) * b := by grind
    omega
  rw [if_neg this, if_pos h]

theorem pn_mul {a b c d l m r s : Int} (hS : Sp a b c d) (hP : Pn l m r s) : (0 ≤ l * b ∧ l * b ≤ 1000000000000000000) ∧ (0 ≤ a * m ∧ a * m ≤ 1000000000000000000) ∧ (0 ≤ c * s ∧ c * s ≤ 1000000000000000000) ∧ (0 ≤ r * d ∧ r * d ≤ 1000000000000000000) ∧ (0 ≤ m * r ∧ m * r ≤ 1000000000000000000) ∧ (0 ≤ l * s ∧ l * s ≤ 1000000000000000000) := by
  obtain ⟨⟨h1, h2, h3, h4, _⟩, ⟨k1, k2, k3, k4, _⟩, _⟩ := hS
  obtain ⟨⟨p1, p2⟩, ⟨p3, p4⟩, ⟨p5, p6⟩, p7, p8⟩ := hP
  have f : ∀ u v : Int, 0 ≤ u → u ≤ 1000000000 → 0 ≤ v → v ≤ 1000000000 → 0 ≤ u * v ∧ u * v ≤ 1000000000000000000 := fun u v a1 a2 a3 a4 => by
    have := @mul_le u v 1000000000 1000000000 a1 a3 a2 a4
    have := @mul_nn u v a1 a3
    omega
  exact ⟨f _ _ p1 p2 (by omega) h4, f _ _ (by omega) h2 (by omega) p4, f _ _ (by omega) k2 p7 p8, f _ _ (by omega) p6 (by omega) k4, f _ _ (by omega) p4 (by omega) p6, f _ _ p1 p2 p7 p8⟩

theorem areProofNumbers_any (l m r s : Int) (r0 : Bool) (hr : decide (Pn l m r s) = r0) (w : World) :
    Calls Try.prog 46 #[.agg #[.int .i64 l, .int .i64 m, .int .i64 r, .int .i64 s]] w fun e w' => e = .returned (.bool r0) ∧ Below w.heap.size w w' := by
  by_cases h0 : 0 ≤ l ∧ l ≤ 1000000000
  · have H0 := Lib.hid (decide_eq_true h0)
    by_cases h1 : 1 ≤ m ∧ m ≤ 1000000000
    · have H1 := Lib.hid (decide_eq_true h1)
      by_cases h2 : 1 ≤ r ∧ r ≤ 1000000000
      · have H2 := Lib.hid (decide_eq_true h2)
        by_cases h3 : 0 ≤ s ∧ s ≤ 1000000000
        · have H3 := Lib.hid (decide_eq_true h3)
          obtain rfl : true = r0 := by rw [← hr]; exact (decide_eq_true ⟨h0, h1, h2, h3⟩).symm
          clear hr h0 h1 h2 h3
          go_enter Try.func46, Try.ntmps46
          go_wp2_with fail
          refine (isFrom_any _ _ _ true H0.out _).mono ?_
          rintro e w' ⟨rfl, rfl⟩
          go_wp2_with fail
          refine (isFrom_any _ _ _ true H1.out _).mono ?_
          rintro e w' ⟨rfl, rfl⟩
          go_wp2_with fail
          refine (isFrom_any _ _ _ true H2.out _).mono ?_
          rintro e w' ⟨rfl, rfl⟩
          go_wp2_with fail
          refine (isFrom_any _ _ _ true H3.out _).mono ?_
          rintro e w' ⟨rfl, rfl⟩
          go_wp2
          go_ret
          exact ⟨rfl, (by repeat (first | exact Below.refl _ _ | (refine Below.alloc ?_ (by first | omega | (simp; done) | (simp; omega)) _) | (refine Below.setCell ?_ (by first | omega | (simp; done) | (simp; omega)) _) | refine Below.drew ?_))⟩
        · have H3 := Lib.hid (decide_eq_false h3)
          obtain rfl : false = r0 := by rw [← hr]; exact (decide_eq_false (fun h => h3 h.2.2.2)).symm
          clear hr h0 h1 h2 h3
          go_enter Try.func46, Try.ntmps46
          go_wp2_with fail
          refine (isFrom_any _ _ _ true H0.out _).mono ?_
          rintro e w' ⟨rfl, rfl⟩
          go_wp2_with fail
          refine (isFrom_any _ _ _ true H1.out _).mono ?_
          rintro e w' ⟨rfl, rfl⟩
          go_wp2_with fail
          refine (isFrom_any _ _ _ true H2.out _).mono ?_
          rintro e w' ⟨rfl, rfl⟩
          go_wp2_with fail
          refine (isFrom_any _ _ _ false H3.out _).mono ?_
          rintro e w' ⟨rfl, rfl⟩
          go_wp2
          go_ret
          exact ⟨rfl, (by repeat (first | exact Below.refl _ _ | (refine Below.alloc ?_ (by first | omega | (simp; done) | (simp; omega)) _) | (refine Below.setCell ?_ (by first | omega | (simp; done) | (simp; omega)) _) | refine Below.drew ?_))⟩
      · have H2 := Lib.hid (decide_eq_false h2)
        obtain rfl : false = r0 := by rw [← hr]; exact (decide_eq_false (fun h => h2 h.2.2.1)).symm
        clear hr h0 h1 h2
        go_enter Try.func46, Try.ntmps46
        go_wp2_with fail
        refine (isFrom_any _ _ _ true H0.out _).mono ?_
        rintro e w' ⟨rfl, rfl⟩
        go_wp2_with fail
        refine (isFrom_any _ _ _ true H1.out _).mono ?_
        rintro e w' ⟨rfl, rfl⟩
        go_wp2_with fail
        refine (isFrom_any _ _ _ false H2.out _).mono ?_
        rintro e w' ⟨rfl, rfl⟩
        go_wp2
        go_ret
        exact ⟨rfl, (by repeat (first | exact Below.refl _ _ | (refine Below.alloc ?_ (by first | omega | (simp; done) | (simp; omega)) _) | (refine Below.setCell ?_ (by first | omega | (simp; done) | (simp; omega)) _) | refine Below.drew ?_))⟩
    · have H1 := Lib.hid (decide_eq_false h1)
      obtain rfl : false = r0 := by rw [← hr]; exact (decide_eq_false (fun h => h1 h.2.1)).symm
      clear hr h0 h1
      go_enter Try.func46, Try.ntmps46
      go_wp2_with fail
      refine (isFrom_any _ _ _ true H0.out _).mono ?_
      rintro e w' ⟨rfl, rfl⟩
      go_wp2_with fail
      refine (isFrom_any _ _ _ false H1.out _).mono ?_
      rintro e w' ⟨rfl, rfl⟩
      go_wp2
      go_ret
      exact ⟨rfl, (by repeat (first | exact Below.refl _ _ | (refine Below.alloc ?_ (by first | omega | (simp; done) | (simp; omega)) _) | (refine Below.setCell ?_ (by first | omega | (simp; done) | (simp; omega)) _) | refine Below.drew ?_))⟩
  · have H0 := Lib.hid (decide_eq_false h0)
    obtain rfl : false = r0 := by rw [← hr]; exact (decide_eq_false (fun h => h0 h.1)).symm
    clear hr h0
    go_enter Try.func46, Try.ntmps46
    go_wp2_with fail
    refine (isFrom_any _ _ _ false H0.out _).mono ?_
    rintro e w' ⟨rfl, rfl⟩
    go_wp2
    go_ret
    exact ⟨rfl, (by repeat (first | exact Below.refl _ _ | (refine Below.alloc ?_ (by first | omega | (simp; done) | (simp; omega)) _) | (refine Below.setCell ?_ (by first | omega | (simp; done) | (simp; omega)) _) | refine Below.drew ?_))⟩

theorem isRight_any (a b c d l m r s : Int) (hS : Sp a b c d) (hP : Pn l m r s) (r0 : Bool) (hr : decide (Rt a b c d l m r s) = r0) (w : World) :
    Calls Try.prog 47 #[.agg #[.int .i64 a, .int .i64 b, .int .i64 c, .int .i64 d], .agg #[.int .i64 l, .int .i64 m, .int .i64 r, .int .i64 s]] w fun e w' => e = .returned (.bool r0) ∧ Below w.heap.size w w' := by
  obtain ⟨⟨m1, m2⟩, ⟨m3, m4⟩, ⟨m5, m6⟩, ⟨m7, m8⟩, ⟨m9, m10⟩, m11, m12⟩ := pn_mul hS hP
  have iL := @sideV_low_iff a b c d l m
  have iR := @sideV_high_iff a b c d r s hS (by have := hP.2.2.1; omega) (by have := hP.2.2.2; omega)
  obtain ⟨⟨a1, a2, a3, a4, _⟩, ⟨a5, a6, a7, a8, _⟩, _⟩ := hS
  obtain ⟨⟨p1, p2⟩, ⟨p3, p4⟩, ⟨p5, p6⟩, p7, p8⟩ := hP
  obtain ⟨vL, hvL⟩ : ∃ v, sideV a b c d l m = v := ⟨_, rfl⟩
  obtain ⟨vR, hvR⟩ : ∃ v, sideV a b c d r s = v := ⟨_, rfl⟩
  rw [hvL] at iL
  rw [hvR] at iR
  have HL := Lib.hid hvL
  have HR := Lib.hid hvR
  clear hvL hvR
  by_cases h1 : l * b < a * m
  · obtain rfl := iL.2 h1
    by_cases h2 : c * s < r * d
    · obtain rfl := iR.2 h2
      by_cases h3 : m * r - l * s = 1
      · obtain rfl : true = r0 := by rw [← hr]; exact (decide_eq_true ⟨h1, h2, h3⟩).symm
        have hq : (m * r - l * s == 1) = true := by simpa using h3
        clear hr iL iR h3
        go_enter Try.func47, Try.ntmps47
        go_wp2_with fail
        refine (side_any _ _ _ _ _ _ _ HL.out (by omega) (by omega) (by omega) (by omega) (by omega) (by omega) (by omega) (by omega) (by omega) (by omega) (by omega) (by omega) _).mono ?_
        rintro e w1 ⟨rfl, hb1⟩
        obtain ⟨hc1, hf1⟩ := bcell hb1
        have hz1_0 : w.heap.size < w1.heap.size := by have := hb1.size; (try simp at this); omega
        have hz1_1 : w.heap.size + 1 < w1.heap.size := by have := hb1.size; (try simp at this); omega
        go_wp2_with fail
        refine (side_any _ _ _ _ _ _ _ HR.out (by omega) (by omega) (by omega) (by omega) (by omega) (by omega) (by omega) (by omega) (by omega) (by omega) (by omega) (by omega) _).mono ?_
        rintro e w2 ⟨rfl, hb2⟩
        obtain ⟨hc2, hf2⟩ := bcell hb2
        have hz2_0 : w.heap.size < w2.heap.size := by have := hb2.size; (try simp at this); omega
        have hz2_1 : w.heap.size + 1 < w2.heap.size := by have := hb2.size; (try simp at this); omega
        go_wp2
        go_ret
        exact ⟨rfl, (by repeat (first | exact Below.refl _ _ | (with_reducible refine Below.trans ?_ (hb2.mono (by first | omega | (simp; done) | (simp; omega)))) | (with_reducible refine Below.trans ?_ (hb1.mono (by first | omega | (simp; done) | (simp; omega)))) | (refine Below.alloc ?_ (by first | omega | (simp; done) | (simp; omega)) _) | (refine Below.setCell ?_ (by first | omega | (simp; done) | (simp; omega)) _) | refine Below.drew ?_))⟩
      · obtain rfl : false = r0 := by rw [← hr]; exact (decide_eq_false (fun h => h3 h.2.2)).symm
        have hq : (m * r - l * s == 1) = false := by simpa using h3
        clear hr iL iR h3
        go_enter Try.func47, Try.ntmps47
        go_wp2_with fail
        refine (side_any _ _ _ _ _ _ _ HL.out (by omega) (by omega) (by omega) (by omega) (by omega) (by omega) (by omega) (by omega) (by omega) (by omega) (by omega) (by omega) _).mono ?_
        rintro e w1 ⟨rfl, hb1⟩
        obtain ⟨hc1, hf1⟩ := bcell hb1
        have hz1_0 : w.heap.size < w1.heap.size := by have := hb1.size; (try simp at this); omega
        have hz1_1 : w.heap.size + 1 < w1.heap.size := by have := hb1.size; (try simp at this); omega
        go_wp2_with fail
        refine (side_any _ _ _ _ _ _ _ HR.out (by omega) (by omega) (by omega) (by omega) (by omega) (by omega) (by omega) (by omega) (by omega) (by omega) (by omega) (by omega) _).mono ?_
        rintro e w2 ⟨rfl, hb2⟩
        obtain ⟨hc2, hf2⟩ := bcell hb2
        have hz2_0 : w.heap.size < w2.heap.size := by have := hb2.size; (try simp at this); omega
        have hz2_1 : w.heap.size + 1 < w2.heap.size := by have := hb2.size; (try simp at this); omega
        go_wp2
        go_ret
        exact ⟨rfl, (by repeat (first | exact Below.refl _ _ | (with_reducible refine Below.trans ?_ (hb2.mono (by first | omega | (simp; done) | (simp; omega)))) | (with_reducible refine Below.trans ?_ (hb1.mono (by first | omega | (simp; done) | (simp; omega)))) | (refine Below.alloc ?_ (by first | omega | (simp; done) | (simp; omega)) _) | (refine Below.setCell ?_ (by first | omega | (simp; done) | (simp; omega)) _) | refine Below.drew ?_))⟩
    · obtain rfl : false = r0 := by rw [← hr]; exact (decide_eq_false (fun h => h2 h.2.1)).symm
      have hq : (vR == 1) = false := by simpa using fun e => h2 (iR.1 e)
      clear hr iL iR
      go_enter Try.func47, Try.ntmps47
      go_wp2_with fail
      refine (side_any _ _ _ _ _ _ _ HL.out (by omega) (by omega) (by omega) (by omega) (by omega) (by omega) (by omega) (by omega) (by omega) (by omega) (by omega) (by omega) _).mono ?_
      rintro e w1 ⟨rfl, hb1⟩
      obtain ⟨hc1, hf1⟩ := bcell hb1
      have hz1_0 : w.heap.size < w1.heap.size := by have := hb1.size; (try simp at this); omega
      have hz1_1 : w.heap.size + 1 < w1.heap.size := by have := hb1.size; (try simp at this); omega
      go_wp2_with fail
      refine (side_any _ _ _ _ _ _ _ HR.out (by omega) (by omega) (by omega) (by omega) (by omega) (by omega) (by omega) (by omega) (by omega) (by omega) (by omega) (by omega) _).mono ?_
      rintro e w2 ⟨rfl, hb2⟩
      obtain ⟨hc2, hf2⟩ := bcell hb2
      have hz2_0 : w.heap.size < w2.heap.size := by have := hb2.size; (try simp at this); omega
      have hz2_1 : w.heap.size + 1 < w2.heap.size := by have := hb2.size; (try simp at this); omega
      go_wp2
      go_ret
      exact ⟨rfl, (by repeat (first | exact Below.refl _ _ | (with_reducible refine Below.trans ?_ (hb2.mono (by first | omega | (simp; done) | (simp; omega)))) | (with_reducible refine Below.trans ?_ (hb1.mono (by first | omega | (simp; done) | (simp; omega)))) | (refine Below.alloc ?_ (by first | omega | (simp; done) | (simp; omega)) _) | (refine Below.setCell ?_ (by first | omega | (simp; done) | (simp; omega)) _) | refine Below.drew ?_))⟩
  · obtain rfl : false = r0 := by rw [← hr]; exact (decide_eq_false (fun h => h1 h.1)).symm
    have hq : (vL == -1) = false := by simpa using fun e => h1 (iL.1 e)
    clear hr iL iR
    go_enter Try.func47, Try.ntmps47
    go_wp2_with fail
    refine (side_any _ _ _ _ _ _ _ HL.out (by omega) (by omega) (by omega) (by omega) (by omega) (by omega) (by omega) (by omega) (by omega) (by omega) (by omega) (by omega) _).mono ?_
    rintro e w1 ⟨rfl, hb1⟩
    obtain ⟨hc1, hf1⟩ := bcell hb1
    have hz1_0 : w.heap.size < w1.heap.size := by have := hb1.size; (try simp at this); omega
    have hz1_1 : w.heap.size + 1 < w1.heap.size := by have := hb1.size; (try simp at this); omega
    go_wp2
    go_ret
    exact ⟨rfl, (by repeat (first | exact Below.refl _ _ | (with_reducible refine Below.trans ?_ (hb1.mono (by first | omega | (simp; done) | (simp; omega)))) | (refine Below.alloc ?_ (by first | omega | (simp; done) | (simp; omega)) _) | (refine Below.setCell ?_ (by first | omega | (simp; done) | (simp; omega)) _) | refine Below.drew ?_))⟩

end Go.Proofs.Ytbdjllgngblfoaa
