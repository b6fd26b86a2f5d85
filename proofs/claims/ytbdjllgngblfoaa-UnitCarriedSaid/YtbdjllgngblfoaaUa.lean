import Derived.Test.YtbdjllgngblfoaaRows
import Derived.Test.YtbdjllgngblfoaaUm
import Derived.WalkKit
import Derived.WalkSpells
import Derived.WalkLawsBesides
import Derived.BigQuiet
import Derived.Deep.QuietTactic
import Derived.Deep.RegionHeld3
import Derived.Lib.Hide
namespace Go.Proofs.Ytbdjllgngblfoaa
set_option linter.unusedVariables false
set_option linter.unusedSimpArgs false
open Go.RowKit

theorem ret_b {a b : Bool} (h : a = b) : Ending.returned (.bool a) = .returned (.bool b) := by rw [h]
theorem ret_i {k : IntKind} {a b : Int} (h : a = b) : Ending.returned (.int k a) = .returned (.int k b) := by rw [h]
theorem bcell {W w1 : World} (hb : Below W.heap.size W w1) : (∀ b o, b < W.heap.size → w1.cell? ⟨b, o, none⟩ = W.cell? ⟨b, o, none⟩) ∧ (∀ b o, b < W.heap.size → w1.frozen? ⟨b, o, none⟩ = W.frozen? ⟨b, o, none⟩) :=
  ⟨fun b o h => hb.cell (p := ⟨b, o, none⟩) h, fun b o h => hb.frozen (p := ⟨b, o, none⟩) h⟩

/-- What a region's loads read stays behind a call: two cells of the block that the function began with. -/
theorem held2 {w W w' : World} {v1 v2 : Option Value} (h : (w.heap.size < W.heap.size ∧ Below w.heap.size w W) ∧ W.cell? ⟨w.heap.size, 0, none⟩ = v1 ∧ W.cell? ⟨w.heap.size, 1, none⟩ = v2) (hb : Below W.heap.size W w') :
    (w.heap.size < w'.heap.size ∧ Below w.heap.size w w') ∧ w'.cell? ⟨w.heap.size, 0, none⟩ = v1 ∧ w'.cell? ⟨w.heap.size, 1, none⟩ = v2 :=
  ⟨⟨Nat.lt_of_lt_of_le h.1.1 hb.size, h.1.2.trans (hb.mono (Nat.le_of_lt h.1.1))⟩, (hb.cell h.1.1).trans h.2.1, (hb.cell h.1.1).trans h.2.2⟩

theorem isFrom_any (a b c : Int) (r : Bool) (hr : decide (b ≤ a ∧ a ≤ c) = r) (w : World) :
    Calls Try.prog 55 #[.int .i64 a, .int .i64 b, .int .i64 c] w fun e w' => e = .returned (.bool r) ∧ w = w' := by
  subst hr
  by_cases h1 : b ≤ a
  · go_enter Try.func55, Try.ntmps55
    go_wp2
    go_ret
    exact ⟨ret_b (by simp [h1]), rfl⟩
  · go_enter Try.func55, Try.ntmps55
    go_wp2
    go_ret
    exact ⟨ret_b (by simp; omega), rfl⟩

theorem within_any (a b c : Int) (r : Bool) (hr : decide (b ≤ a ∧ a ≤ c) = r) (w : World) :
    Calls Try.prog 44 #[.int .i64 a, .int .i64 b, .int .i64 c] w fun e w' => e = .returned (.bool r) ∧ w = w' := by
  subst hr
  by_cases h1 : b ≤ a
  · go_enter Try.func44, Try.ntmps44
    go_wp2
    go_ret
    exact ⟨ret_b (by simp [h1]), rfl⟩
  · go_enter Try.func44, Try.ntmps44
    go_wp2
    go_ret
    exact ⟨ret_b (by simp; omega), rfl⟩

theorem cmp_any (x y k : Int) (hk : cmp3 x y = k) (w : World) :
    Calls Try.prog 70 #[.int .i64 x, .int .i64 y] w fun e w' => e = .returned (.int .i64 k) ∧ w = w' := by
  subst hk
  go_enter Try.func70, Try.ntmps70
  go_wp2
  · rename_i h
    go_ret
    exact ⟨ret_i (cmp3_lt h).symm, rfl⟩
  · rename_i h
    go_ret
    exact ⟨ret_i (cmp3_gt h).symm, rfl⟩
  · rename_i h1 h2
    go_ret
    exact ⟨ret_i (cmp3_eq (by omega)).symm, rfl⟩

theorem compare_any (a b c d k : Int) (hk : cmp3 (a * d) (c * b) = k) (h0 : 0 ≤ a * d) (h1 : a * d ≤ 9000000000000000000) (h2 : 0 ≤ c * b) (h3 : c * b ≤ 9000000000000000000) (w : World) :
    Calls Try.prog 57 #[.agg #[.int .i64 a, .int .i64 b], .agg #[.int .i64 c, .int .i64 d]] w fun e w' => e = .returned (.int .i64 k) ∧ Below w.heap.size w w' := by
  have Hk := Lib.hid hk
  clear hk
  go_enter Try.func57, Try.ntmps57
  go_wp2_with (go_at_call 70; refine (cmp_any _ _ _ Hk.out _).mono ?_; rintro e w1 ⟨rfl, rfl⟩)
  go_ret
  exact ⟨rfl, ((Below.refl _ _).alloc (Nat.le_refl _) _).alloc (by simp) _⟩

theorem less_any (a b c d : Int) (r : Bool) (hr : decide (a * d < c * b) = r) (h0 : 0 ≤ a * d) (h1 : a * d ≤ 9000000000000000000) (h2 : 0 ≤ c * b) (h3 : c * b ≤ 9000000000000000000) (w : World) :
    Calls Try.prog 37 #[.agg #[.int .i64 a, .int .i64 b], .agg #[.int .i64 c, .int .i64 d]] w fun e w' => e = .returned (.bool r) ∧ Below w.heap.size w w' := by
  have Hk := Lib.hid hr
  clear hr
  go_enter Try.func37, Try.ntmps37
  go_wp2
  go_ret
  exact ⟨ret_b Hk.out, ((Below.refl _ _).alloc (Nat.le_refl _) _).alloc (by simp) _⟩

theorem divisor_any (a b : Int) (ha : 0 ≤ a) (hb : 0 ≤ b) (w : World) :
    Calls Try.prog 72 #[.int .i64 a, .int .i64 b] w fun e w' => e = .returned (.int .i64 ((Int.gcd a b : Nat) : Int)) ∧ Below w.heap.size w w' := by
  go_enter Try.func72, Try.ntmps72
  go_wp2
  go_loopw [0, 1] (fun u v wr => ∃ x y : Int, 0 ≤ x ∧ 0 ≤ y ∧ u = .int .i64 x ∧ v = .int .i64 y ∧ Int.gcd x y = Int.gcd a b ∧ Below w.heap.size w wr) (fun _ v _ => (intOf v).toNat)
  case atStart => exact ⟨a, b, ha, hb, rfl, rfl, rfl, Below.refl _ _⟩
  case round =>
    obtain ⟨x, y, hx, hy, rfl, rfl, hg, hbl⟩ := hrel
    have Hg := Lib.hid hg
    clear hg
    by_cases h : y = 0
    · subst h
      go_wp2
      go_ret
      exact ⟨ret_i (by rw [← Hg.out]; simp; omega), hbl⟩
    · have hb1 : (y != 0) = true := by simp [h]
      have hy1 : 1 ≤ y := by omega
      go_wp2
      go_region
      go_wp2
      go_roundw
      case rel => exact ⟨y, x % y, hy, Int.emod_nonneg _ h, rfl, rfl, by rw [← Hg.out]; exact gcd_step, hbl.drew⟩
      case measure => 
        have := Int.emod_lt_of_pos x (show 0 < y by omega)
        have := Int.emod_nonneg x h
        simp [intOf]; omega

end Go.Proofs.Ytbdjllgngblfoaa
