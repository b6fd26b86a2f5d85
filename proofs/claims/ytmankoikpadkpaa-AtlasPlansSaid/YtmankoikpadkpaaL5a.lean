/- The codes of a page. -/
import Derived.Test.YtmankoikpadkpaaL0
namespace Go.Proofs.Ytmankoikpadkpaa
set_option linter.unusedVariables false
set_option linter.unusedSimpArgs false
open Go Ev
noncomputable section

/-- The codes of a page, number by number, when so many rows, and so many chips of the next one, are in them. -/
def pgF (c : List AV) (i k : Nat) (j : Nat) : Int := if j % 4 < i ∨ (j % 4 = i ∧ j / 4 < k) then intAt (xlC c (j % 4 * 1)) (j / 4 * 1) else 0
theorem tabL_ext {f g : Nat → Int} : ∀ {n : Nat}, (∀ j, j < n → f j = g j) → tabL f n = tabL g n
  | 0, _ => rfl
  | n + 1, h => by
    simp only [tabL]
    rw [tabL_ext (fun j hj => h j (by omega)), h n (by omega)]
theorem tabL_set (f : Nat → Int) (x : Int) {n i : Nat} (h : i < n) : (tabL f n).set i x = tabL (fun j => if j = i then x else f j) n := by
  apply List.ext_getElem?
  intro j
  by_cases hj : j < n
  · rw [tabL_at _ n j hj]
    by_cases e : j = i
    · subst e
      rw [List.getElem?_set_self (by rw [tabL_len]; exact h), if_pos rfl]
    · rw [List.getElem?_set_ne (Ne.symm e), tabL_at f n j hj, if_neg e]
  · rw [List.getElem?_eq_none (by rw [List.length_set, tabL_len]; omega), List.getElem?_eq_none (by rw [tabL_len]; omega)]
theorem cI_set {L : List Int} {i : Nat} (h : i < L.length) (x : Int) : splice (cI L) i [.v (.int .i64 x)] = cI (L.set i x) := by
  rw [cI_map, cI_map]
  unfold splice
  apply List.ext_getElem?
  intro j
  simp only [List.length_singleton]
  by_cases h1 : j < i
  · rw [List.getElem?_append_left (by rw [List.length_take, List.length_map]; omega), List.getElem?_take, if_pos h1, List.getElem?_map, List.getElem?_map, List.getElem?_set_ne (by omega)]
  · rw [List.getElem?_append_right (by rw [List.length_take, List.length_map]; omega), List.length_take, List.length_map, Nat.min_eq_left (by omega)]
    by_cases h2 : j = i
    · subst h2
      simp [h]
    · rw [List.getElem?_append_right (by simp; omega), List.getElem?_drop, List.getElem?_map, List.getElem?_map, List.getElem?_set_ne (by omega)]
      congr 2
      simp only [List.length_singleton]
      omega
def z4 : List AV := [.v (.int .i64 (.ofNat 0)), .v (.int .i64 (.ofNat 0)), .v (.int .i64 (.ofNat 0)), .v (.int .i64 (.ofNat 0))]
theorem rep_app {α : Type} (l : List α) : ∀ n : Nat, repL (n + 1) l = repL n l ++ l
  | 0 => by simp [repL]
  | n + 1 => by
    show l ++ repL (n + 1) l = (l ++ repL n l) ++ l
    rw [rep_app l n, List.append_assoc]
theorem cI_zero4 : ∀ n : Nat, repL n z4 = cI (tabL (fun _ => 0) (n * 4))
  | 0 => rfl
  | n + 1 => by
    rw [rep_app, cI_zero4 n, show (n + 1) * 4 = n * 4 + 1 + 1 + 1 + 1 by omega]
    simp only [tabL]
    rw [← cI_app, ← cI_app, ← cI_app, ← cI_app]
    simp only [List.append_assoc]
    rfl
theorem pg_zero (c : List AV) (p : Nat) : repL p z4 = cI (tabL (pgF c 0 0) (p * 4)) := by
  rw [cI_zero4]
  congr 1
  exact tabL_ext (fun j _ => by unfold pgF; rw [if_neg (by omega)])
theorem pg_set (c : List AV) {p i k : Nat} (hk : k < p) (hi : i < 4) : splice (cI (tabL (pgF c i k) (p * 4))) (0 + k * 4 + i * 1) [.v (.int .i64 (intAt (xlC c (i * 1)) (k * 1)))] = cI (tabL (pgF c i (k + 1)) (p * 4)) := by
  rw [cI_set (by rw [tabL_len]; omega), tabL_set _ _ (by omega)]
  congr 1
  refine tabL_ext (fun j hj => ?_)
  by_cases e : j = 0 + k * 4 + i * 1
  · rw [if_pos e]
    unfold pgF
    rw [if_pos (by omega), show j % 4 = i by omega, show j / 4 = k by omega]
  · rw [if_neg e]
    unfold pgF
    by_cases h : j % 4 < i ∨ (j % 4 = i ∧ j / 4 < k)
    · rw [if_pos h, if_pos (by omega)]
    · rw [if_neg h, if_neg (by omega)]
theorem pg_row (c : List AV) {p i k : Nat} (hk : p ≤ k) : cI (tabL (pgF c (i + 1) 0) (p * 4)) = cI (tabL (pgF c i k) (p * 4)) := by
  congr 1
  refine tabL_ext (fun j hj => ?_)
  unfold pgF
  by_cases h : j % 4 < i ∨ (j % 4 = i ∧ j / 4 < k)
  · rw [if_pos h, if_pos (by omega)]
  · rw [if_neg h, if_neg (by omega)]
theorem rw_load {R : List (Value × List Int)} {i k : Nat} (hi : i < R.length) (hk : k < xlN (cRw R) (i * 1)) (t : TypeId) {d : TypeDesc} (hd : Try.prog.underlying t = some d) (ha : aggD d = false) : loadL Try.prog (xlC (cRw R) (i * 1)) (k * 1) t = some (.v (.int .i64 (intAt (xlC (cRw R) (i * 1)) (k * 1)))) := by
  rw [Nat.mul_one i] at hk ⊢
  rw [cRw_n hi] at hk
  rw [cRw_c hi, Nat.mul_one]
  exact cI_load hk t hd ha

end
end Go.Proofs.Ytmankoikpadkpaa
