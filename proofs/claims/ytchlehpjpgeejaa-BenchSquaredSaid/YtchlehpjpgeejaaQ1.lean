/- What the law of squares needs of bars: values and spans, numbers picked by numbers (grabbed from P12, P17, P19: never import both). -/
import Derived.Test.YtchlehpjpgeejaaP9
import Derived.Test.YtchlehpjpgeejaaM8
namespace Go.Proofs.Ytchlehpjpgeejaa
set_option linter.unusedVariables false
set_option linter.unusedSimpArgs false
open Go Ev
noncomputable section
theorem ltI_lt {a b : Int} (h : a < b) : ltI a b = true := by rw [ltI_iff]; exact decide_eq_true h
theorem ltI_ge {a b : Int} (h : b ≤ a) : ltI a b = false := by rw [ltI_iff]; exact decide_eq_false (by omega)

theorem eqI_self (a : Int) : eqI a a = true := by rw [eqI_iff]; exact decide_eq_true rfl
def vlS : List (Bool × List Int) → Option (AV × List Prop) := fun ys =>
  match ys with
  | [(true, [L, N, p, q, s, t, u, v]), (true, [a, b, c])] => some (.tup [.agg [.v (.int .i64 (vlN L N p q s t u v a b c)), .v (.int .i64 (vlD L N p q s t u v a b c))], .v (.int .i64 (vlE L N p q s t u v a b c))], [])
  | _ => none
def spS : List (Bool × List Int) → Option (AV × List Prop) := fun ys =>
  match ys with
  | [(true, [L, N, p, q, s, t, u, v])] => some (.tup [.agg [.v (.int .i64 (spN L N p q s t u v p t v)), .v (.int .i64 (spD L N p q s t u v p t v)), .v (.int .i64 (spN L N p q s t u v q s u)), .v (.int .i64 (spD L N p q s t u v q s u))], .v (.int .i64 (errB L N p q s t u v))], [])
  | _ => none
def vlO : OrcH := iOrc 34 vlS
def spO : OrcH := iOrc 36 spS
theorem known_vl : Known Try.prog (clsO vlO) := known_i (fun ys v ps h hp => by
  unfold vlS at h
  split at h
  · cases h
    exact ⟨_, rfl, Value_g _ _ _ _ _ _ _ _ _ _ _⟩
  · cases h)
theorem known_sp : Known Try.prog (clsO spO) := known_i (fun ys v ps h hp => by
  unfold spS at h
  split at h
  · cases h
    exact ⟨_, rfl, Span_g _ _ _ _ _ _ _ _⟩
  · cases h)
def wkO : OrcH := plainOrc 15 (fun xs => match xs with | [] => some (.v (.bool true)) | _ => none)
/-- A number from one to another, by a number of 32 bits. -/
def pickN (lo hi b : Int) : Int := lo + (IntKind.i64.wrap b).tmod (hi - lo + 1)
def PickP (lo hi b : Int) : Prop := 0 ≤ lo ∧ lo ≤ hi ∧ hi ≤ 1000000 ∧ 0 ≤ b ∧ b ≤ 4294967295
theorem pick_bd {lo hi b : Int} (h : PickP lo hi b) : lo ≤ pickN lo hi b ∧ pickN lo hi b ≤ hi := by
  obtain ⟨h1, h2, h3, h4, h5⟩ := h
  unfold pickN
  rw [show IntKind.i64.wrap b = b from IntWalk.i64_in b ⟨by omega, by omega⟩, Int.tmod_eq_emod_of_nonneg h4]
  have h6 := Int.emod_nonneg b (show hi - lo + 1 ≠ 0 by omega)
  have h7 := Int.emod_lt_of_pos b (show 0 < hi - lo + 1 by omega)
  omega
theorem pick_g (lo hi b : Int) (h : PickP lo hi b) : Gives Try.prog 57 [.agg #[.int .i64 lo, .int .i64 hi], .int .u32 b] (.int .i64 (pickN lo hi b)) := by
  have hb := pick_bd h
  unfold pickN at hb
  obtain ⟨h1, h2, h3, h4, h5⟩ := h
  exact gives_told (args := [.agg [.v (.int .i64 lo), .v (.int .i64 hi)], .v (.int .u32 b)]) (v := .v (.int .i64 (lo + (IntKind.i64.wrap b).tmod (hi - lo + 1)))) (ps := [inR IntKind.i64 (hi - lo), inR IntKind.i64 (hi - lo + 1), hi - lo + 1 ≠ 0, inR IntKind.i64 (lo + (IntKind.i64.wrap b).tmod (hi - lo + 1))]) Try.checked.mixed known_none 200 [.go, .go, .go, .go, .go, .go, .go, .go, .go, .go, .go, .go, .go, .go, .go] (by kernel_rfl)
    ⟨by show -9223372036854775808 ≤ _ ∧ _ ≤ 9223372036854775807; constructor <;> omega, by show -9223372036854775808 ≤ _ ∧ _ ≤ 9223372036854775807; constructor <;> omega, by omega, by show -9223372036854775808 ≤ _ ∧ _ ≤ 9223372036854775807; constructor <;> omega, trivial⟩ rfl rfl
def pickS : List Value → Option (AV × List Prop) := fun xs =>
  match xs with
  | [.agg a, .int .u32 b] => match intsL a.toList with
    | some [lo, hi] => some (.v (.int .i64 (pickN lo hi b)), [PickP lo hi b])
    | _ => none
  | _ => none
def pickO : OrcH := condOrc 57 pickS
theorem known_pick : Known Try.prog (clsO pickO) := known_cond (fun xs v ps h hp => by
  unfold pickS at h
  split at h
  · rename_i a b
    split at h
    · rename_i lo hi q
      cases h
      have e := intsL_eq q
      have ea : a = #[.int .i64 lo, .int .i64 hi] := by apply Array.ext'; simpa using e
      rw [ea]
      exact ⟨_, rfl, pick_g _ _ _ hp.1⟩
    · cases h
  · cases h)
end
end Go.Proofs.Ytchlehpjpgeejaa
