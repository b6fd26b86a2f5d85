import Derived.Test.YtbdjllgngblfoaaUq
namespace Go.Proofs.Ytbdjllgngblfoaa
set_option linter.unusedVariables false
set_option linter.unusedSimpArgs false
open Go.RowKit

/-- The numbers of a path, or just 0. -/
def PthOK (L : List Int) : Prop := (∀ i, i < L.length → 0 ≤ L.getD i 0 ∧ (0 < i → 1 ≤ L.getD i 0)) ∧ (L.length = 1 ∨ 2 ≤ L.getD (L.length - 1) 0)
instance (L : List Int) : Decidable (PthOK L) := by unfold PthOK; infer_instance

theorem isPath_any (va : Value) (L : List Int) (r : Bool) (hr : decide (PthOK L) = r) (hl0 : 1 ≤ L.length) (hA0 : L.length ≤ 4000000000000000000) (w : World) (hA : Sl w va L) :
    Calls Try.prog 51 #[va] w fun e w' => e = .returned (.bool r) ∧ Below w.heap.size w w' := by
  obtain ⟨o1, c1, rfl, hc1, k1⟩ := hA.form
  clear hA
  have K1 := Lib.hid k1
  have HR := Lib.hid hr
  clear k1 hr
  go_enter Try.func51, Try.ntmps51
  go_wp2_with fail
  go_loopw [7] (fun v wr => ∃ k : Nat, v = .int .i64 k ∧ k ≤ L.length ∧ Hid (∀ j, j < k → 0 ≤ L.getD j 0 ∧ (0 < j → 1 ≤ L.getD j 0)) ∧ Below w.heap.size w wr) (fun v _ => L.length - (intOf v).toNat)
  case atStart => exact ⟨0, rfl, Nat.zero_le _, Lib.hid (fun j h => absurd h (Nat.not_lt_zero _)), Below.refl _ _⟩
  case round =>
    obtain ⟨k, rfl, hk, hall, hbl⟩ := hrel
    by_cases hlt : k < L.length
    · obtain ⟨g1, f1, rfl, e1⟩ := K1.out (by omega)
      have q1 : wr.cell? ⟨g1, f1 + k, none⟩ = some (.int .i64 (L.getD k 0)) := (hbl.cell (lt_of_cell' (e1 k hlt))).trans (e1 k hlt)
      clear e1
      generalize hx : L.getD k 0 = x at *
      have HX := Lib.hid hx
      clear hx
      have i1 : (0 : Int) ≤ k := by omega
      have i2 : (k : Int) < L.length := by omega
      by_cases h1 : x < 0
      · have hf : false = r := by rw [← HR.out]; exact (decide_eq_false (fun e => by have := e.1 k hlt; rw [HX.out] at this; omega)).symm
        subst hf
        go_wp2_with fail
        go_ret
        exact ⟨rfl, hbl⟩
      · by_cases h2 : x = 0
        · by_cases h3 : 0 < k
          · have hf : false = r := by rw [← HR.out]; exact (decide_eq_false (fun e => by have := e.1 k hlt; rw [HX.out] at this; omega)).symm
            subst hf
            have b1 : (x == 0) = true := by simp [h2]
            have b2 : (0 : Int) < k := by omega
            clear h2
            go_wp2_with fail
            go_ret
            exact ⟨rfl, hbl⟩
          · have b1 : (x == 0) = true := by simp [h2]
            have b2 : ¬ (0 : Int) < k := by omega
            clear h2
            go_wp2_with fail
            go_roundw
            case rel => exact ⟨k + 1, by go_num, by omega, Lib.hid (fun j hj => by
              by_cases hjk : j = k
              · subst hjk; rw [HX.out]; have := h1; omega
              · exact hall.out j (by omega)), hbl⟩
            case measure => simp [intOf]; omega
        · have b1 : (x == 0) = false := by simp [h2]
          go_wp2_with fail
          go_roundw
          case rel => exact ⟨k + 1, by go_num, by omega, Lib.hid (fun j hj => by
            by_cases hjk : j = k
            · subst hjk; rw [HX.out]; omega
            · exact hall.out j (by omega)), hbl⟩
          case measure => simp [intOf]; omega
    · by_cases h1 : L.length = 1
      · have hT : true = r := by
          rw [← HR.out]
          exact (decide_eq_true ⟨fun i hi => hall.out i (by omega), .inl h1⟩).symm
        subst hT
        have b1 : ((L.length : Int) == 1) = true := by simp [h1]
        clear h1
        go_wp2_with fail
        go_ret
        exact ⟨rfl, hbl⟩
      · obtain ⟨g1, f1, rfl, e1⟩ := K1.out (by omega)
        have q0 : wr.cell? ⟨g1, f1 + (L.length - 1), none⟩ = some (.int .i64 (L.getD (L.length - 1) 0)) := (hbl.cell (lt_of_cell' (e1 (L.length - 1) (by omega)))).trans (e1 (L.length - 1) (by omega))
        clear e1
        have b1 : ((L.length : Int) == 1) = false := by simp; omega
        have i1 : (0 : Int) ≤ (L.length : Int) - 1 := by omega
        have i2 : (L.length : Int) - 1 < L.length := by omega
        have i3 : ((L.length : Int) - 1).toNat = L.length - 1 := by omega
        generalize hx : L.getD (L.length - 1) 0 = x at *
        have HX := Lib.hid hx
        have hT : decide (2 ≤ x) = r := by
          rw [← HR.out]
          refine decide_eq_decide.2 ⟨fun h => ⟨fun i hi => hall.out i (by omega), .inr (by rw [HX.out]; exact h)⟩, fun h => ?_⟩
          have := h.2.resolve_left h1
          rw [HX.out] at this
          exact this
        clear hx h1
        by_cases hx2 : 2 ≤ x
        · have : true = r := by rw [← hT]; exact (decide_eq_true hx2).symm
          subst this
          go_wp2_with fail
          go_ret
          exact ⟨rfl, hbl⟩
        · have : false = r := by rw [← hT]; exact (decide_eq_false hx2).symm
          subst this
          go_wp2_with fail
          go_ret
          exact ⟨rfl, hbl⟩

end Go.Proofs.Ytbdjllgngblfoaa
