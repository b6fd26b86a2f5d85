import Derived.Test.YtbdjllgngblfoaaUz2
namespace Go.Proofs.Ytbdjllgngblfoaa
set_option linter.unusedVariables false
set_option linter.unusedSimpArgs false
open Go.RowKit

/-- The least Num for a Den, and whether it does. -/
theorem ceil_at {a b c d k : Int} (hS : Sp a b c d) (hk : 1 ≤ k) (hk2 : k ≤ 3000) : 0 ≤ a * k ∧ a * k ≤ 3000000000000 ∧ 0 ≤ c * k ∧ c * k ≤ 3000000000000 ∧ 0 ≤ (a * k + b - 1) / b ∧ (a * k + b - 1) / b ≤ 4000000000000 ∧ 0 ≤ (a * k + b - 1) / b * d ∧ (a * k + b - 1) / b * d ≤ 4000000000000 ∧ a * k ≤ (a * k + b - 1) / b * b ∧ ∀ n, a * k ≤ n * b → (a * k + b - 1) / b ≤ n := by
  obtain ⟨⟨a1, a2, b1, b2, _⟩, ⟨c1, c2, d1, d2, _⟩, hle⟩ := hS
  have p0 := Int.mul_nonneg (show 0 ≤ a by omega) (show 0 ≤ k by omega)
  have p1 := @mul_le a k 1000000000 3000 (by omega) (by omega) a2 hk2
  have q0 := Int.mul_nonneg (show 0 ≤ c by omega) (show 0 ≤ k by omega)
  have q1 := @mul_le c k 1000000000 3000 (by omega) (by omega) c2 hk2
  have e := Int.emod_add_mul_ediv (a * k + b - 1) b
  have e0 := Int.emod_nonneg (a * k + b - 1) (show b ≠ 0 by omega)
  have e1 := Int.emod_lt_of_pos (a * k + b - 1) (show 0 < b by omega)
  obtain ⟨n, hn⟩ : ∃ n, (a * k + b - 1) / b = n := ⟨_, rfl⟩
  have n0 : 0 ≤ n := hn ▸ Int.ediv_nonneg (by omega) (by omega)
  rw [hn] at e ⊢
  have f1 : a * k ≤ n * b := by
    have : b * n = n * b := Int.mul_comm _ _
    omega
  have f2 : n * b ≤ a * k + b - 1 := by
    have : b * n = n * b := Int.mul_comm _ _
    omega
  have n1 : n ≤ a * k + b - 1 := by
    have := Int.mul_le_mul_of_nonneg_left b1 n0
    omega
  have g0 := Int.mul_nonneg n0 (show 0 ≤ d by omega)
  have g1 : n * d ≤ c * k + d := by
    have t1 : n * b * d ≤ (a * k + b) * d := Int.mul_le_mul_of_nonneg_right (by omega) (by omega)
    have t2 : a * d * k ≤ c * b * k := Int.mul_le_mul_of_nonneg_right hle (by omega)
    have t3 : (n * d) * b ≤ (c * k + d) * b := by grind
    exact Int.le_of_mul_le_mul_right t3 (by omega)
  refine ⟨p0, by omega, q0, by omega, n0, by omega, g0, by omega, f1, fun m hm => ?_⟩
  apply Decidable.byContradiction
  intro hlt
  have t1 : (m + 1) * b ≤ n * b := Int.mul_le_mul_of_nonneg_right (by omega) (by omega)
  have t2 : (m + 1) * b = m * b + b := by grind
  omega

theorem found_hit {a b c d x y k : Int} (hS : Sp a b c d) (hL : Least a b c d x y) (hk : 1 ≤ k) (hk2 : k ≤ 3000) (hky : k ≤ y) (hc : (a * k + b - 1) / b * d ≤ c * k) : y = k ∧ (a * k + b - 1) / b = x := by
  obtain ⟨p0, p1, q0, q1, n0, n1, g0, g1, f1, f2⟩ := ceil_at hS hk hk2
  generalize (a * k + b - 1) / b = n at *
  have a1 := hS.1.1
  have b1 := hS.1.2.2.1
  have hn1 : 1 ≤ n := by
    have : 1 * 1 ≤ a * k := Int.mul_le_mul a1 hk (by omega) (by omega)
    apply Decidable.byContradiction
    intro h0
    have : n = 0 := by omega
    subst this
    omega
  have := hL.min n k hn1 hk f1 hc
  have hy : y = k := by omega
  subst hy
  have := f2 x hL.lo
  omega

theorem found_miss {a b c d x y k : Int} (hS : Sp a b c d) (hL : Least a b c d x y) (hk : 1 ≤ k) (hk2 : k ≤ 3000) (hky : k ≤ y) (hc : ¬ (a * k + b - 1) / b * d ≤ c * k) : k + 1 ≤ y := by
  apply Decidable.byContradiction
  intro h
  have : y = k := by omega
  subst this
  obtain ⟨p0, p1, q0, q1, n0, n1, g0, g1, f1, f2⟩ := ceil_at hS hk hk2
  have t := f2 x hL.lo
  have d1 := hS.2.1.2.2.1
  have t1 : (a * y + b - 1) / b * d ≤ x * d := Int.mul_le_mul_of_nonneg_right t (by omega)
  have := hL.hi
  omega

set_option maxHeartbeats 4000000 in
theorem Found_any (a b c d x y fx fy : Int) (f : Bool) (hS : Sp a b c d) (hL : Least a b c d x y) (hf : (if y ≤ 3000 then (x, y, true) else (0, 0, false)) = (fx, fy, f)) (w : World) :
    Calls Try.prog 17 #[.agg #[.int .i64 a, .int .i64 b, .int .i64 c, .int .i64 d], .int .i64 3000] w fun e w' => e = .returned (.tuple #[.agg #[.int .i64 fx, .int .i64 fy], .bool f]) ∧ Below w.heap.size w w' := by
  have HS := Lib.hid hS
  have HL := Lib.hid hL
  have HF := Lib.hid hf
  have y1 := hL.fr.2.2.1
  have b1 := hS.1.2.2.1
  have b2 := hS.1.2.2.2.1
  have d1 := hS.2.1.2.2.1
  have d2 := hS.2.1.2.2.2.1
  clear hS hL hf
  go_enter Try.func17, Try.ntmps17
  go_wp2
  go_loop [6] (fun u => ∃ k : Int, 1 ≤ k ∧ k ≤ 3001 ∧ k ≤ y ∧ u = .int .i64 k) (fun u => (3001 - intOf u).toNat)
  case atStart => exact ⟨1, by omega, by omega, y1, rfl⟩
  case round =>
    obtain ⟨k, h1, h2, h3, rfl⟩ := hrel
    by_cases hk : k ≤ 3000
    · obtain ⟨p0, p1, q0, q1, n0, n1, g0, g1, _, _⟩ := ceil_at HS.out h1 hk
      have m0 : 0 ≤ a * k + b - 1 := by omega
      have bz : (b == 0) = false := by simp; omega
      by_cases hc : (a * k + b - 1) / b * d ≤ c * k
      · obtain ⟨e1, e2⟩ := found_hit HS.out HL.out h1 hk h3 hc
        have HX := Lib.hid e2
        have HY := Lib.hid e1
        clear e1 e2
        go_wp2
        refine bodyPost_ret (v := .tuple #[.agg #[.int .i64 ((a * k + b - 1) / b), .int .i64 k], .bool true]) (by simp [results, Try.results17, go_sem]) rfl ⟨?_, (by repeat (first | exact Below.refl _ _ | (refine Below.alloc ?_ (by first | omega | (simp; done) | (simp; omega)) _) | (refine Below.setCell ?_ (by first | omega | (simp; done) | (simp; omega)) _) | refine Below.drew ?_))⟩
        have := HF.out
        rw [HX.out, ← HY.out]
        rw [if_pos (by rw [HY.out]; exact hk)] at this
        obtain ⟨rfl, rfl, rfl⟩ := (Prod.mk.injEq ..).mp this |>.imp id (Prod.mk.injEq ..).mp
        rfl
      · have hn := found_miss HS.out HL.out h1 hk h3 hc
        go_wp2
        go_round
        case rel => exact ⟨k + 1, by omega, by omega, hn, rfl⟩
        case measure => simp [intOf]; omega
    · have hy : ¬ y ≤ 3000 := by omega
      have HY := Lib.hid hy
      clear hy
      go_wp2
      refine bodyPost_ret (v := .tuple #[.agg #[.int .i64 0, .int .i64 0], .bool false]) (by simp [results, Try.results17, go_sem]) rfl ⟨?_, (by repeat (first | exact Below.refl _ _ | (refine Below.alloc ?_ (by first | omega | (simp; done) | (simp; omega)) _) | (refine Below.setCell ?_ (by first | omega | (simp; done) | (simp; omega)) _) | refine Below.drew ?_))⟩
      have := HF.out
      rw [if_neg (show ¬ y ≤ 3000 from by have := HY.out; omega)] at this
      obtain ⟨rfl, rfl, rfl⟩ := (Prod.mk.injEq ..).mp this |>.imp id (Prod.mk.injEq ..).mp
      rfl

end Go.Proofs.Ytbdjllgngblfoaa
