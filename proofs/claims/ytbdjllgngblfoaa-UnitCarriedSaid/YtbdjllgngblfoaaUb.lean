import Derived.Test.YtbdjllgngblfoaaUa
namespace Go.Proofs.Ytbdjllgngblfoaa
set_option linter.unusedVariables false
set_option linter.unusedSimpArgs false
open Go.RowKit

theorem gcd_any (a b : Int) (ha : 0 ≤ a) (hb : 0 ≤ b) (w : World) :
    Calls Try.prog 45 #[.int .i64 a, .int .i64 b] w fun e w' => e = .returned (.int .i64 ((Int.gcd a b : Nat) : Int)) ∧ Below w.heap.size w w' := by
  go_enter Try.func45, Try.ntmps45
  go_wp2
  go_loopw [0, 1] (fun u v wr => ∃ x y : Int, 0 ≤ x ∧ 0 ≤ y ∧ u = .int .i64 x ∧ v = .int .i64 y ∧ Int.gcd x y = Int.gcd a b ∧ Below w.heap.size w wr) (fun _ v _ => (intOf v).toNat)
  case atStart => exact ⟨a, b, ha, hb, rfl, rfl, rfl, Below.refl _ _⟩
  case round =>
    obtain ⟨x, y, hx, hy, rfl, rfl, hg, hbl⟩ := hrel
    have Hg := Lib.hid hg
    clear hg
    by_cases h : y = 0
    · subst h
      go_wp2
      go_ret
      exact ⟨ret_i (by rw [← Hg.out]; simp; omega), hbl⟩
    · have hb1 : (y != 0) = true := by simp [h]
      have hy1 : 1 ≤ y := by omega
      go_wp2
      go_region
      go_wp2
      go_roundw
      case rel => exact ⟨y, x % y, hy, Int.emod_nonneg _ h, rfl, rfl, by rw [← Hg.out]; exact gcd_step, hbl.drew⟩
      case measure => 
        have := Int.emod_lt_of_pos x (show 0 < y by omega)
        have := Int.emod_nonneg x h
        simp [intOf]; omega

theorem isWithin_any (a b : Int) (r : Bool) (hr : decide (Wn a b) = r) (w : World) :
    Calls Try.prog 67 #[.agg #[.int .i64 a, .int .i64 b]] w fun e w' => e = .returned (.bool r) ∧ Below w.heap.size w w' := by
  by_cases h1 : 1 ≤ a ∧ a ≤ 1000000000
  · have hq : decide (1 ≤ b ∧ b ≤ 1000000000) = r := by rw [← hr]; simp [Wn, h1]
    have H1 := Lib.hid (decide_eq_true h1)
    have H2 := Lib.hid hq
    clear h1 hq hr
    go_enter Try.func67, Try.ntmps67
    go_wp2_with fail
    refine (isFrom_any _ _ _ true H1.out _).mono ?_
    rintro e w1 ⟨rfl, rfl⟩
    go_wp2_with fail
    refine (isFrom_any _ _ _ _ H2.out _).mono ?_
    rintro e w1 ⟨rfl, rfl⟩
    go_wp2
    go_ret
    exact ⟨rfl, (Below.refl _ _).alloc (Nat.le_refl _) _⟩
  · have hq : false = r := by rw [← hr]; exact (decide_eq_false (by unfold Wn; omega)).symm
    subst hq
    have H1 := Lib.hid (decide_eq_false h1)
    clear h1 hr
    go_enter Try.func67, Try.ntmps67
    go_wp2_with fail
    refine (isFrom_any _ _ _ false H1.out _).mono ?_
    rintro e w1 ⟨rfl, rfl⟩
    go_wp2
    go_ret
    exact ⟨rfl, (Below.refl _ _).alloc (Nat.le_refl _) _⟩

theorem div_bd {a g : Int} (ha : 1 ≤ a) (hg : 1 ≤ g) : 0 ≤ a / g ∧ a / g ≤ a :=
  ⟨Int.ediv_nonneg (by omega) (by omega), Int.ediv_le_self _ (by omega)⟩

theorem reduce_any (a b x y : Int) (h : Red a b x y) (ha : 1 ≤ a) (ha' : a ≤ 9000000000000000000) (hb : 1 ≤ b) (hb' : b ≤ 9000000000000000000) (w : World) :
    Calls Try.prog 68 #[.agg #[.int .i64 a, .int .i64 b]] w fun e w' => e = .returned (.agg #[.int .i64 x, .int .i64 y]) ∧ Below w.heap.size w w' := by
  have hg := @gcd_pos a b ha
  obtain ⟨g, hG⟩ : ∃ g, ((Int.gcd a b : Nat) : Int) = g := ⟨_, rfl⟩
  rw [hG] at hg
  obtain ⟨hq1, hq2⟩ := div_bd ha hg
  obtain ⟨hq3, hq4⟩ := div_bd hb hg
  have hx : a / g = x := by rw [← hG]; exact h.num
  have hy : b / g = y := by rw [← hG]; exact h.den
  have HG := Lib.hid hG
  have HX := Lib.hid hx
  have HY := Lib.hid hy
  clear hG h hx hy
  go_enter Try.func68, Try.ntmps68
  go_wp2_with fail
  refine (divisor_any a b (by omega) (by omega) _).mono ?_
  rintro e w1 ⟨rfl, hb1⟩
  obtain ⟨hc, hf⟩ := bcell hb1
  rw [HG.out]
  go_wp2
  go_region
  go_wp2
  exact bodyPost_ret (v := .agg #[.int .i64 (a / g), .int .i64 (b / g)]) (by simp [results, Try.results68, go_sem, hc]) rfl ⟨by rw [HX.out, HY.out], by repeat (first | exact Below.refl _ _ | (refine Below.alloc ?_ (by simp) _) | (refine Below.setCell ?_ (by simp) _) | refine Below.drew ?_ | refine Below.trans ?_ (hb1.mono (by simp; omega)))⟩

end Go.Proofs.Ytbdjllgngblfoaa
