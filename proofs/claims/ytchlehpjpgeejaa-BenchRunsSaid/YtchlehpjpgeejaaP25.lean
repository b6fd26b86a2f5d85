import Derived.Test.YtchlehpjpgeejaaP24
/- Powers and longs of the laws. -/
namespace Go.Proofs.Ytchlehpjpgeejaa
set_option linter.unusedVariables false
set_option linter.unusedSimpArgs false
open Go Ev
noncomputable section
def tabL (f : Nat → Int) : Nat → List Int
  | 0 => []
  | n + 1 => tabL f n ++ [f n]
theorem tabL_len (f : Nat → Int) : ∀ n : Nat, (tabL f n).length = n
  | 0 => rfl
  | n + 1 => by simp [tabL, tabL_len f n]
theorem tabL_at (f : Nat → Int) : ∀ (n i : Nat), i < n → (tabL f n)[i]? = some (f i)
  | 0, i, h => by omega
  | n + 1, i, h => by
    simp only [tabL]
    by_cases e : i < n
    · rw [List.getElem?_append_left (by rw [tabL_len]; exact e)]
      exact tabL_at f n i e
    · have : i = n := by omega
      subst this
      rw [List.getElem?_append_right (by rw [tabL_len]; omega), tabL_len]
      simp
theorem goes_loop1 {P : Program} {sz : Nat} {w0 : World} {ι : Type} {c : Code} {T0 T' : Ev.Lit} {T : ι → Ev.Lit} {R : ι → Prop} (h : Goes P sz c T0 w0 (LandQ sz T R w0 (fun _ _ _ => False))) (k : ∀ i, R i → T i = T') : Goes P sz c T0 w0 (Land sz isN T' w0) :=
  goes_mono h (fun e a w hp => by
    rcases hp with ⟨rfl, i, hi, σ, hN⟩ | ⟨_, hf⟩
    · rw [k i hi] at hN
      exact ⟨rfl, σ, hN⟩
    · exact hf.elim)
def powA (c : List AV) (n i : Nat) : Int := if 0 < n then (IntKind.i64.wrap (intAt c (i % n * 1))).tmod 100001 else 0
theorem lg_loop (y z : Value) (L : List Int) (hL : L.length ≤ 1000) (w : World) : Goes Try.prog 26 (tlC (hdC (tlC (tlC (bodyC Try.f22))))) (⟨[(0, .xl y L.length 1 (cI L)), (1, .xl z L.length 1 (cI L)), (5, .v (.int .i64 (0 : Nat)))], [], 0, []⟩) w (Land 26 isN (⟨[(0, .xl y L.length 1 (cI L)), (1, .xl z L.length 1 (cI L)), (5, .v (.int .i64 (L.length : Nat)))], [], 0, []⟩) w) := by
  refine goes_loop1 (goes_blockloop (ι := CnI L.length) (by kernel_rfl) (fun i : CnI L.length => ⟨[(0, .xl y L.length 1 (cI L)), (1, .xl z L.length 1 (cI L)), (5, .v (.int .i64 (i.1 : Nat)))], [], 0, []⟩) (fun i => L.length - i.1) (R := fun i => L.length ≤ i.1) (Q := fun _ _ _ => False) (fun i => ?_) ⟨0, Nat.zero_le _⟩) (fun i hi => by rw [show i.1 = L.length from Nat.le_antisymm i.2 hi])
  obtain ⟨i, hi1⟩ := i
  show (∃ j : CnI L.length, L.length - j.1 < L.length - i ∧ Goes Try.prog 26 (loopC (tlC (hdC (tlC (tlC (bodyC Try.f22)))))) (⟨[(0, .xl y L.length 1 (cI L)), (1, .xl z L.length 1 (cI L)), (5, .v (.int .i64 (i : Nat)))], [], 0, []⟩) w (Land 26 isN (⟨[(0, .xl y L.length 1 (cI L)), (1, .xl z L.length 1 (cI L)), (5, .v (.int .i64 (j.1 : Nat)))], [], 0, []⟩) w)) ∨ (L.length ≤ i ∧ Goes Try.prog 26 (loopC (tlC (hdC (tlC (tlC (bodyC Try.f22)))))) (⟨[(0, .xl y L.length 1 (cI L)), (1, .xl z L.length 1 (cI L)), (5, .v (.int .i64 (i : Nat)))], [], 0, []⟩) w (Land 26 (isX 0) (⟨[(0, .xl y L.length 1 (cI L)), (1, .xl z L.length 1 (cI L)), (5, .v (.int .i64 (i : Nat)))], [], 0, []⟩) w)) ∨ Goes Try.prog 26 (loopC (tlC (hdC (tlC (tlC (bodyC Try.f22)))))) (⟨[(0, .xl y L.length 1 (cI L)), (1, .xl z L.length 1 (cI L)), (5, .v (.int .i64 (i : Nat)))], [], 0, []⟩) w (fun e a w' => e = .ret ∧ False)
  cases hq1 : (ltI ↑i ↑L.length) with
  | true =>
    have ghq1 := ltI_true hq1
    cases hq2 : (eqI (intAt (cI L) (i * 1)) (intAt (cI L) (i * 1))) with
    | true =>
      exact .inl ⟨⟨i + 1, by omega⟩, (by show L.length - (i + 1) < L.length - i; omega), goes_told Try.checked.mixed known_none 200 (e := .normal) (ps := [ltI ↑i ↑L.length = true, i < L.length, loadL Try.prog (cI L) (i * 1) 2 = some (AV.v (Value.int IntKind.i64 (intAt (cI L) (i * 1)))), i < L.length, loadL Try.prog (cI L) (i * 1) 2 = some (AV.v (Value.int IntKind.i64 (intAt (cI L) (i * 1)))), (!eqI (intAt (cI L) (i * 1)) (intAt (cI L) (i * 1))) = false, inR IntKind.i64 (↑i + 1)]) [.go, .go, .go, .go, .b true, .go, .go, .sym, .sym, .go, .go, .sym, .sym, .go, .b false, .go, .go, .go] (by kernel_rfl) (by kernel_rfl) ⟨hq1, (by omega), (by rw [Nat.mul_one]; exact cI_load (by omega) 2 (Try.underlying2) rfl), (by omega), (by rw [Nat.mul_one]; exact cI_load (by omega) 2 (Try.underlying2) rfl), (by rw [hq2]; rfl), (by show -9223372036854775808 ≤ _ ∧ _ ≤ 9223372036854775807; constructor <;> omega), trivial⟩ rfl⟩
    | false =>
      exfalso
      simp [eqI_iff] at *
  | false =>
    have ghq1 := ltI_false hq1
    exact .inr (.inl ⟨(by show L.length ≤ i; omega), goes_told Try.checked.mixed known_none 200 (e := .exit 0) (ps := [ltI ↑i ↑L.length = false]) [.go, .go, .go, .go, .b false] (by kernel_rfl) (by kernel_rfl) ⟨hq1, trivial⟩ rfl⟩)
theorem longs_g (y z : Value) (L : List Int) (hL : L.length ≤ 1000) : GivesA Try.prog 22 [.xl y L.length 1 (cI L), .xl z L.length 1 (cI L)] (.bool true) := by
  refine givesA_parts 26 Try.func22 (by kernel_rfl) (by kernel_rfl) (by kernel_rfl) (fun w => ?_)
  refine goes_spine (T' := ⟨[(0, .xl y L.length 1 (cI L)), (1, .xl z L.length 1 (cI L))], [], 0, []⟩) (by kernel_rfl) (goes_told Try.checked.mixed known_none 200 (e := .normal) (ps := []) [.go] (by kernel_rfl) (by kernel_rfl) trivial rfl) ?_
  refine goes_spine (T' := ⟨[(0, .xl y L.length 1 (cI L)), (1, .xl z L.length 1 (cI L))], [], 0, []⟩) (by kernel_rfl) (goes_told Try.checked.mixed known_none 200 (e := .normal) (ps := [(!eqI ↑L.length ↑L.length) = false]) [.go, .go, .go, .go, .go, .b false] (by kernel_rfl) (by kernel_rfl) ⟨by rw [eqI_iff]; simp, trivial⟩ rfl) ?_
  refine goes_spine (T' := ⟨[(0, .xl y L.length 1 (cI L)), (1, .xl z L.length 1 (cI L)), (5, .v (.int .i64 (L.length : Nat)))], [], 0, []⟩) (by kernel_rfl) (goes_spine (T' := ⟨[(0, .xl y L.length 1 (cI L)), (1, .xl z L.length 1 (cI L)), (5, .v (.int .i64 (0 : Nat)))], [], 0, []⟩) (by kernel_rfl) (goes_told Try.checked.mixed known_none 200 (e := .normal) (ps := []) [.go] (by kernel_rfl) (by kernel_rfl) trivial rfl) (lg_loop y z L hL w)) ?_
  exact goes_out Try.checked.mixed known_none 200 (v := .v (.bool true)) (ps := []) [.go] (by kernel_rfl) (by kernel_rfl) trivial rfl
end
end Go.Proofs.Ytchlehpjpgeejaa
