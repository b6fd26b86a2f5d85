/- The steps after the numbers of a path: plain arithmetic. -/
import Derived.Test.YtbdjllgngblfoaaUm3
namespace Go.Proofs.Ytbdjllgngblfoaa
set_option linter.unusedVariables false
set_option linter.unusedSimpArgs false

/-- The step after a number. -/
def stp (i : Nat) (n : Int) (s : S4) : S4 :=
  if i % 2 = 0 then (s.1 + n * s.2.2.1, s.2.1 + n * s.2.2.2, s.2.2.1, s.2.2.2) else (s.1, s.2.1, s.2.2.1 + n * s.1, s.2.2.2 + n * s.2.1)
/-- A number is beyond the limit. -/
def overS (s : S4) : Prop := 1000000000 < s.1 ∨ 1000000000 < s.2.1 ∨ 1000000000 < s.2.2.1 ∨ 1000000000 < s.2.2.2
instance (s : S4) : Decidable (overS s) := by unfold overS; infer_instance
/-- The steps that are yielded. -/
def stepsL : Nat → S4 → List Int → List S4
  | _, _, [] => []
  | i, s, n :: l => stp i (min n 1000000001) s :: (if overS (stp i (min n 1000000001) s) then [] else stepsL (i + 1) (stp i (min n 1000000001) s) l)
/-- All numbers are from 0 on. -/
def nnS (s : S4) : Prop := 0 ≤ s.1 ∧ 0 ≤ s.2.1 ∧ 0 ≤ s.2.2.1 ∧ 0 ≤ s.2.2.2
abbrev S0 : S4 := (0, 1, 1, 0)

theorem stepsL_cons (i : Nat) (s : S4) (n : Int) (l : List Int) (t : S4) (h : stp i (min n 1000000001) s = t) (ho : ¬ overS t) : stepsL i s (n :: l) = t :: stepsL (i + 1) t l := by
  simp only [stepsL, h, if_neg ho]
theorem stepsL_over (i : Nat) (s : S4) (n : Int) (l : List Int) (t : S4) (h : stp i (min n 1000000001) s = t) (ho : overS t) : stepsL i s (n :: l) = [t] := by
  simp only [stepsL, h, if_pos ho]
theorem stepsL_head (i : Nat) (s : S4) (n : Int) (l : List Int) : ∃ r, stepsL i s (n :: l) = stp i (min n 1000000001) s :: r := ⟨_, rfl⟩

theorem mulN {n c : Int} (h : 0 ≤ n) (hn : n ≤ 1000000001) (hc : 0 ≤ c) (hc2 : c ≤ 1000000000) : 0 ≤ n * c ∧ n * c ≤ 4000000000000000000 := by
  have h1 := Int.mul_le_mul hn hc2 hc (by omega)
  exact ⟨Int.mul_nonneg h hc, by omega⟩

theorem stp_nn {i : Nat} {n : Int} {s : S4} (hn : 0 ≤ n) (h : nnS s) : nnS (stp i n s) := by
  obtain ⟨h1, h2, h3, h4⟩ := h
  have e1 := Int.mul_nonneg hn h1
  have e2 := Int.mul_nonneg hn h2
  have e3 := Int.mul_nonneg hn h3
  have e4 := Int.mul_nonneg hn h4
  unfold stp
  split
  · exact ⟨by simp only; omega, by simp only; omega, h3, h4⟩
  · exact ⟨h1, h2, by simp only; omega, by simp only; omega⟩

theorem not_over {s : S4} (h : ¬ overS s) : s.1 ≤ 1000000000 ∧ s.2.1 ≤ 1000000000 ∧ s.2.2.1 ≤ 1000000000 ∧ s.2.2.2 ≤ 1000000000 := by
  unfold overS at h
  omega

/-- Where the steps lead: none, if one is over. -/
def folL (L : List Int) : Option S4 := if ∃ t ∈ stepsL 0 S0 L, overS t then none else some ((stepsL 0 S0 L).getLastD S0)

/-- What Follow returns. -/
def resF (L : List Int) : (Int × Int) × Int :=
  if L.length = 0 ∨ 64 < L.length then ((0, 0), 6)
  else if (∀ i, i < L.length → 0 ≤ L.getD i 0 ∧ (0 < i → 1 ≤ L.getD i 0)) ∧ (L.length = 1 ∨ 2 ≤ L.getD (L.length - 1) 0) then
    match folL L with
    | none => ((0, 0), 4)
    | some e => if e = S0 then ((0, 0), 2) else if L.length % 2 = 1 then ((e.1, e.2.1), 0) else ((e.2.2.1, e.2.2.2), 0)
  else ((0, 0), 2)

end Go.Proofs.Ytbdjllgngblfoaa
