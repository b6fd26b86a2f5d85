/- Numbers picked by numbers: pick and number of the laws. -/
import Derived.Test.YtchlehpjpgeejaaP18
import Derived.Test.YtchlehpjpgeejaaM8
namespace Go.Proofs.Ytchlehpjpgeejaa
set_option linter.unusedVariables false
set_option linter.unusedSimpArgs false
open Go Ev
noncomputable section

/-- The cells of a list of numbers of 32 bits. -/
def cU : List Int → List AV
  | [] => []
  | n :: l => .v (.int .u32 n) :: cU l
def cUv : List Int → List Value
  | [] => []
  | n :: l => .int .u32 n :: cUv l
theorem cU_plain : ∀ L : List Int, plainL (cU L) = some (cUv L)
  | [] => rfl
  | n :: l => by simp only [cU, plainL, plain, cU_plain l, cUv]
theorem cU_at : ∀ (L : List Int) (i : Nat) (h : i < L.length), (cU L)[i]? = some (.v (.int .u32 (L[i])))
  | [], i, h => by simp at h
  | x :: l, 0, h => rfl
  | x :: l, i + 1, h => cU_at l i (by simpa using h)
theorem cU_int {L : List Int} {i : Nat} (h : i < L.length) : intAt (cU L) i = L[i] := intAt_of (cU_at L i h)
theorem cU_load {L : List Int} {i : Nat} (h : i < L.length) (t : TypeId) {d : TypeDesc} (hd : Try.prog.underlying t = some d) (ha : aggD d = false) : loadL Try.prog (cU L) i t = some (.v (.int .u32 (intAt (cU L) i))) := by
  simp only [loadL, hd, ha, getL_eq, cU_at L i h, cU_int h]
/-- Numbers of 32 bits. -/
def AllU (L : List Int) : Prop := ∀ n ∈ L, 0 ≤ n ∧ n ≤ 4294967295
/-- The one of them at a place, turn by turn. -/
def numN (c : List AV) (n i : Nat) : Int := match n with
  | 0 => 0
  | k + 1 => intAt c (i % (k + 1) * 1)
theorem numN_bd {L : List Int} (h : AllU L) (i : Nat) : 0 ≤ numN (cU L) L.length i ∧ numN (cU L) L.length i ≤ 4294967295 := by
  unfold numN
  split
  · omega
  · rename_i k hk
    have hi : i % (k + 1) * 1 < L.length := by rw [Nat.mul_one, hk]; exact Nat.mod_lt _ (by omega)
    rw [cU_int hi]
    exact h _ (List.getElem_mem hi)
theorem number_g (z : Value) (B : List Int) (i : Nat) : GivesA Try.prog 58 [.xl z B.length 1 (cU B), .v (.int .i64 (.ofNat i))] (.int .u32 (numN (cU B) B.length i)) := by
  cases B with
  | nil => exact givesA_told (v := .v (.int .u32 (.ofNat 0))) (ps := [eqI ((0 : Nat) : Int) 0 = true]) Try.checked.mixed known_none 200 [.go, .go, .go, .go, .b true, .go] (by kernel_rfl) ⟨rfl, trivial⟩ rfl
  | cons b l =>
    have hi : i % (l.length + 1) * 1 < (b :: l).length := by rw [Nat.mul_one]; exact Nat.mod_lt _ (by omega)
    exact givesA_told (v := .v (.int .u32 (intAt (cU (b :: l)) (i % (b :: l).length * 1)))) (ps := [eqI (((b :: l).length : Nat) : Int) 0 = false, (((b :: l).length : Nat) : Int) ≠ 0, i % (b :: l).length < (b :: l).length, loadL Try.prog (cU (b :: l)) (i % (b :: l).length * 1) 81 = some (AV.v (Value.int IntKind.u32 (intAt (cU (b :: l)) (i % (b :: l).length * 1))))]) Try.checked.mixed known_none 200 [.go, .go, .go, .go, .b false, .go, .go, .go, .go, .go, .sym, .sym, .go] (by kernel_rfl)
      ⟨by rw [eqI_iff]; exact decide_eq_false (by simp; omega), by simp; omega, by exact Nat.mod_lt _ (by simp), cU_load hi 81 (Try.underlying81) rfl, trivial⟩ rfl
/-- A number from one to another, by a number of 32 bits. -/
def pickN (lo hi b : Int) : Int := lo + (IntKind.i64.wrap b).tmod (hi - lo + 1)
def PickP (lo hi b : Int) : Prop := 0 ≤ lo ∧ lo ≤ hi ∧ hi ≤ 1000000 ∧ 0 ≤ b ∧ b ≤ 4294967295
theorem pick_bd {lo hi b : Int} (h : PickP lo hi b) : lo ≤ pickN lo hi b ∧ pickN lo hi b ≤ hi := by
  obtain ⟨h1, h2, h3, h4, h5⟩ := h
  unfold pickN
  rw [show IntKind.i64.wrap b = b from IntWalk.i64_in b ⟨by omega, by omega⟩, Int.tmod_eq_emod_of_nonneg h4]
  have h6 := Int.emod_nonneg b (show hi - lo + 1 ≠ 0 by omega)
  have h7 := Int.emod_lt_of_pos b (show 0 < hi - lo + 1 by omega)
  omega
theorem pick_g (lo hi b : Int) (h : PickP lo hi b) : Gives Try.prog 57 [.agg #[.int .i64 lo, .int .i64 hi], .int .u32 b] (.int .i64 (pickN lo hi b)) := by
  have hb := pick_bd h
  unfold pickN at hb
  obtain ⟨h1, h2, h3, h4, h5⟩ := h
  exact gives_told (args := [.agg [.v (.int .i64 lo), .v (.int .i64 hi)], .v (.int .u32 b)]) (v := .v (.int .i64 (lo + (IntKind.i64.wrap b).tmod (hi - lo + 1)))) (ps := [inR IntKind.i64 (hi - lo), inR IntKind.i64 (hi - lo + 1), hi - lo + 1 ≠ 0, inR IntKind.i64 (lo + (IntKind.i64.wrap b).tmod (hi - lo + 1))]) Try.checked.mixed known_none 200 [.go, .go, .go, .go, .go, .go, .go, .go, .go, .go, .go, .go, .go, .go, .go] (by kernel_rfl)
    ⟨by show -9223372036854775808 ≤ _ ∧ _ ≤ 9223372036854775807; constructor <;> omega, by show -9223372036854775808 ≤ _ ∧ _ ≤ 9223372036854775807; constructor <;> omega, by omega, by show -9223372036854775808 ≤ _ ∧ _ ≤ 9223372036854775807; constructor <;> omega, trivial⟩ rfl rfl
def pickS : List Value → Option (AV × List Prop) := fun xs =>
  match xs with
  | [.agg a, .int .u32 b] => match intsL a.toList with
    | some [lo, hi] => some (.v (.int .i64 (pickN lo hi b)), [PickP lo hi b])
    | _ => none
  | _ => none
def pickO : OrcH := condOrc 57 pickS
theorem known_pick : Known Try.prog (clsO pickO) := known_cond (fun xs v ps h hp => by
  unfold pickS at h
  split at h
  · rename_i a b
    split at h
    · rename_i lo hi q
      cases h
      have e := intsL_eq q
      have ea : a = #[.int .i64 lo, .int .i64 hi] := by apply Array.ext'; simpa using e
      rw [ea]
      exact ⟨_, rfl, pick_g _ _ _ hp.1⟩
    · cases h
  · cases h)
/-- A list of numbers of 32 bits, as it lies. -/
def IsU (k n : Nat) (c : List AV) : Prop := k = 1 ∧ ∃ B, c = cU B ∧ n = B.length
def numS : List Vw → Option (Res1 × List Prop) := fun vs =>
  match vs with
  | [.lst n k c, .val a] => match argI a with
    | some (false, [x]) => match x with
      | .ofNat i => some (.val (.v (.int .u32 (numN c n i))), [IsU k n c])
      | .negSucc _ => none
    | _ => none
  | _ => none
def numO : OrcH := avOrc 58 [1, 0] numS
theorem known_num : Known Try.prog (clsO numO) := known_av (fun vs r ps h hp => by
  unfold numS at h
  split at h
  · rename_i n k c a
    split at h
    · rename_i x h1
      split at h
      · rename_i i
        cases h
        obtain ⟨⟨rfl, B, rfl, rfl⟩, -⟩ := hp
        rw [argI_eq h1]
        refine ⟨⟨⟨_, cU_plain B⟩, trivial⟩, fun ys hy => ?_⟩
        obtain ⟨y1, y2, rfl⟩ := len2 hy
        exact ⟨_, rfl, number_g y1 B i⟩
      · cases h
    · cases h
  · cases h)
def ppO : OrcH := orO (orO pickO numO) (orO wkO noOrcH)
theorem known_pp (hw : Known Try.prog (clsO wkO)) : Known Try.prog (clsO ppO) := known_or (known_or known_pick known_num) (known_or hw known_none)
end
end Go.Proofs.Ytchlehpjpgeejaa
