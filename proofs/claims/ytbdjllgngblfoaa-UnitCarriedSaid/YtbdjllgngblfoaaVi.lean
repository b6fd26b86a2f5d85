import Derived.Test.YtbdjllgngblfoaaUz2
import Derived.Test.YtbdjllgngblfoaaHv
import Derived.Test.YtbdjllgngblfoaaVn
namespace Go.Proofs.Ytbdjllgngblfoaa
set_option linter.unusedVariables false
set_option linter.unusedSimpArgs false
open Go.RowKit

theorem mid_in {a b c d x y : Int} (hS : Sp a b c d) (hR : Red (a + c) (b + d) x y) (hF : Fr x y) : InS (x, y) (a, b, c, d) := by
  obtain ⟨⟨a1, a2, b1, b2, _⟩, ⟨c1, c2, d1, d2, _⟩, hle⟩ := hS
  obtain ⟨e1, e2⟩ := hR.mul (by omega) (by omega)
  have g1 := @gcd_pos (a + c) (b + d) (by omega)
  generalize ((Int.gcd (a + c) (b + d) : Nat) : Int) = g at *
  refine ⟨hF, ?_, ?_⟩
  · show a * y ≤ x * b
    have t : (a * y) * g ≤ (x * b) * g := by
      have p1 : (a * y) * g = a * (b + d) := by rw [e2]; grind
      have p2 : (x * b) * g = (a + c) * b := by rw [e1]; grind
      have p3 : a * (b + d) = a * b + a * d := by grind
      have p4 : (a + c) * b = a * b + c * b := by grind
      omega
    exact Int.le_of_mul_le_mul_right t (by omega)
  · show x * d ≤ c * y
    have t : (x * d) * g ≤ (c * y) * g := by
      have p1 : (c * y) * g = c * (b + d) := by rw [e2]; grind
      have p2 : (x * d) * g = (a + c) * d := by rw [e1]; grind
      have p3 : c * (b + d) = c * b + c * d := by grind
      have p4 : (a + c) * d = a * d + c * d := by grind
      omega
    exact Int.le_of_mul_le_mul_right t (by omega)
theorem lo_in {a b c d : Int} (hS : Sp a b c d) : InS (a, b) (a, b, c, d) := ⟨hS.1, Int.le_refl _, hS.2.2⟩
theorem hi_in {a b c d : Int} (hS : Sp a b c d) : InS (c, d) (a, b, c, d) := ⟨hS.2.1, hS.2.2, Int.le_refl _⟩

set_option maxHeartbeats 4000000 in
theorem Inside_any (a b c d n : Int) (hS : Sp a b c d) (n0 : 0 ≤ n) (n1 : n < 256) (w : World) :
    Calls Try.prog 31 #[.agg #[.int .i64 a, .int .i64 b, .int .i64 c, .int .i64 d], .int .u8 n] w fun e w' => (∃ x y : Int, e = .returned (.agg #[.int .i64 x, .int .i64 y]) ∧ InS (x, y) (a, b, c, d)) ∧ Below w.heap.size w w' := by
  have HS := Lib.hid hS
  obtain ⟨⟨a1, a2, b1, b2, _⟩, ⟨c1, c2, d1, d2, _⟩, _⟩ := hS
  have m0 := Int.emod_nonneg n (show (3 : Int) ≠ 0 by decide)
  have m1 := Int.emod_lt_of_pos n (show (0 : Int) < 3 by decide)
  by_cases h0 : n % 3 = 0
  · have q0 : (n % 3 == 0) = true := by simp [h0]
    have H0 := Lib.hid h0
    clear h0
    go_enter Try.func31, Try.ntmps31
    go_wp2
    exact bodyPost_ret (v := .agg #[.int .i64 a, .int .i64 b]) (by simp [results, Try.results31, go_sem]) rfl ⟨⟨a, b, rfl, lo_in HS.out⟩, (by repeat (first | exact Below.refl _ _ | (refine Below.alloc ?_ (by first | omega | (simp; done) | (simp; omega)) _) | (refine Below.setCell ?_ (by first | omega | (simp; done) | (simp; omega)) _) | refine Below.drew ?_))⟩
  · have q0 : (n % 3 == 0) = false := by simp [h0]
    by_cases h1 : n % 3 = 1
    · have q1 : (n % 3 == 1) = true := by simp [h1]
      have H1 := Lib.hid h1
      clear h0 h1
      go_enter Try.func31, Try.ntmps31
      go_wp2
      exact bodyPost_ret (v := .agg #[.int .i64 c, .int .i64 d]) (by simp [results, Try.results31, go_sem]) rfl ⟨⟨c, d, rfl, hi_in HS.out⟩, (by repeat (first | exact Below.refl _ _ | (refine Below.alloc ?_ (by first | omega | (simp; done) | (simp; omega)) _) | (refine Below.setCell ?_ (by first | omega | (simp; done) | (simp; omega)) _) | refine Below.drew ?_))⟩
    · have q1 : (n % 3 == 1) = false := by simp [h1]
      obtain ⟨x, hx⟩ : ∃ x, (a + c) / ((Int.gcd (a + c) (b + d) : Nat) : Int) = x := ⟨_, rfl⟩
      obtain ⟨y, hy⟩ : ∃ y, (b + d) / ((Int.gcd (a + c) (b + d) : Nat) : Int) = y := ⟨_, rfl⟩
      have HR : Hid (Red (a + c) (b + d) x y) := Lib.hid ⟨hx, hy⟩
      clear hx hy h0 h1
      by_cases hF : Fr x y
      · have HFb := Lib.hid (decide_eq_true hF)
        have HI := Lib.hid (mid_in HS.out HR.out hF)
        clear hF
        go_enter Try.func31, Try.ntmps31
        go_wp2_with fail
        refine (Reduced_any (a + c) (b + d) x y HR.out (by omega) (by omega) (by omega) (by omega) _).mono ?_
        rintro e w1 ⟨rfl, hb1⟩
        obtain ⟨hc1, hf1⟩ := bcell hb1
        have hz1_0 : w.heap.size < w1.heap.size := by have := hb1.size; (try simp at this); omega
        have hz1_1 : w.heap.size + 1 < w1.heap.size := by have := hb1.size; (try simp at this); omega
        go_wp2_with fail
        refine (IsFraction_any _ _ true HFb.out _).mono ?_
        rintro e w2 ⟨rfl, hb2⟩
        obtain ⟨hc2, hf2⟩ := bcell hb2
        have hz2 : w1.heap.size < w2.heap.size := by have := hb2.size; simp at this; omega
        have hz2_0 : w.heap.size < w2.heap.size := by omega
        have hz2_1 : w.heap.size + 1 < w2.heap.size := by omega
        go_wp2
        exact bodyPost_ret (v := .agg #[.int .i64 x, .int .i64 y]) (by simp [results, Try.results31, go_sem, hc1, hf1, hz1_0, hz1_1, hc2, hf2, hz2, hz2_0, hz2_1]) rfl ⟨⟨x, y, rfl, HI.out⟩, (by repeat (first | exact Below.refl _ _ | (with_reducible refine Below.trans ?_ (hb2.mono (by first | omega | (simp; done) | (simp; omega)))) | (with_reducible refine Below.trans ?_ (hb1.mono (by first | omega | (simp; done) | (simp; omega)))) | (refine Below.alloc ?_ (by first | omega | (simp; done) | (simp; omega)) _) | (refine Below.setCell ?_ (by first | omega | (simp; done) | (simp; omega)) _) | refine Below.drew ?_))⟩
      · have HFb := Lib.hid (decide_eq_false hF)
        clear hF
        go_enter Try.func31, Try.ntmps31
        go_wp2_with fail
        refine (Reduced_any (a + c) (b + d) x y HR.out (by omega) (by omega) (by omega) (by omega) _).mono ?_
        rintro e w1 ⟨rfl, hb1⟩
        obtain ⟨hc1, hf1⟩ := bcell hb1
        have hz1_0 : w.heap.size < w1.heap.size := by have := hb1.size; (try simp at this); omega
        have hz1_1 : w.heap.size + 1 < w1.heap.size := by have := hb1.size; (try simp at this); omega
        go_wp2_with fail
        refine (IsFraction_any _ _ false HFb.out _).mono ?_
        rintro e w2 ⟨rfl, hb2⟩
        obtain ⟨hc2, hf2⟩ := bcell hb2
        have hz2 : w1.heap.size < w2.heap.size := by have := hb2.size; simp at this; omega
        have hz2_0 : w.heap.size < w2.heap.size := by omega
        have hz2_1 : w.heap.size + 1 < w2.heap.size := by omega
        go_wp2
        exact bodyPost_ret (v := .agg #[.int .i64 a, .int .i64 b]) (by simp [results, Try.results31, go_sem, hc1, hf1, hz1_0, hz1_1, hc2, hf2, hz2, hz2_0, hz2_1]) rfl ⟨⟨a, b, rfl, lo_in HS.out⟩, (by repeat (first | exact Below.refl _ _ | (with_reducible refine Below.trans ?_ (hb2.mono (by first | omega | (simp; done) | (simp; omega)))) | (with_reducible refine Below.trans ?_ (hb1.mono (by first | omega | (simp; done) | (simp; omega)))) | (refine Below.alloc ?_ (by first | omega | (simp; done) | (simp; omega)) _) | (refine Below.setCell ?_ (by first | omega | (simp; done) | (simp; omega)) _) | refine Below.drew ?_))⟩
end Go.Proofs.Ytbdjllgngblfoaa
