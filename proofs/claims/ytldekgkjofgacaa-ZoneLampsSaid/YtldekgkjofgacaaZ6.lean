/- onlyFalls, Gap, Sum. -/
import Derived.Test.YtldekgkjofgacaaZ5
namespace Go.Proofs.Ytldekgkjofgacaa
set_option linter.unusedVariables false
set_option linter.unusedSimpArgs false
open Go Ev
noncomputable section

noncomputable def ofuK1 : Code := bodyC Try.f57

noncomputable def ofuK3 : Code := tlC ofuK1

noncomputable def ofuK5 : Code := loopC (tlC (hdC ofuK3))

noncomputable def ofuK6 : Code := tlC ofuK3

set_option maxHeartbeats 2000000 in
theorem ofu_7 (y : Value) (b : Int) (e : Int) (X : List Int) (h0 : 0 ≤ b) (h1 : b ≤ e) (h2 : e < X.length) (hX : X.length ≤ 1000) (i0 : Nat) (h0a : i0 ≤ (e - b).toNat) (h0b : ∀ k : Nat, b ≤ k → (k : Int) < b + ((i0 : Nat) : Int) → intAt (cI X) ((k + 1) * 1) ≤ intAt (cI X) (k * 1)) (h0c : (e - b).toNat ≤ i0) (w : World) : Goes Try.prog 28 ofuK6 (⟨[], [], 1, []⟩) w (OutR Try.prog Try.f57 28 (.bool (clB (fallP (cI X) b e))) w) := by
  exact goes_eqR (r := (.bool .true)) (by rw [clB_yes (p := fallP (cI X) b e) (fun k k1 k2 => h0b k (by omega) (by omega))]) (goes_out Try.checked.mixed (known_none) 200 (v := (.v (.bool .true))) (ps := []) [.go] (by kernel_rfl) (by kernel_rfl) trivial rfl)

set_option maxHeartbeats 4000000 in
theorem ofu_4 (y : Value) (b : Int) (e : Int) (X : List Int) (h0 : 0 ≤ b) (h1 : b ≤ e) (h2 : e < X.length) (hX : X.length ≤ 1000) (w : World) : Goes Try.prog 28 ofuK3 (⟨[(1, (.xl (y) (X.length) 1 (cI X))), (2, (.ptr 0 0))], [], 1, [(0, (.cells [(.v (.int .i64 (b))), (.v (.int .i64 (e))), (.v (.int .i64 (.ofNat 1)))] 83))]⟩) w (OutR Try.prog Try.f57 28 (.bool (clB (fallP (cI X) b e))) w) := by
  refine goes_spineQ (ι := { i : Nat // i ≤ (e - b).toNat ∧ ∀ k : Nat, b ≤ k → (k : Int) < b + ((i : Nat) : Int) → intAt (cI X) ((k + 1) * 1) ≤ intAt (cI X) (k * 1) }) (T := (fun i : { i : Nat // i ≤ (e - b).toNat ∧ ∀ k : Nat, b ≤ k → (k : Int) < b + ((i : Nat) : Int) → intAt (cI X) ((k + 1) * 1) ≤ intAt (cI X) (k * 1) } => ⟨[(1, (.xl (y) (X.length) 1 (cI X))), (2, (.ptr 0 0)), (5, (.v (.int .i64 (b + ((i.1 : Nat) : Int)))))], [], 1, [(0, (.cells [(.v (.int .i64 (b))), (.v (.int .i64 (e))), (.v (.int .i64 (.ofNat 1)))] 83))]⟩)) (R := (fun i : { i : Nat // i ≤ (e - b).toNat ∧ ∀ k : Nat, b ≤ k → (k : Int) < b + ((i : Nat) : Int) → intAt (cI X) ((k + 1) * 1) ≤ intAt (cI X) (k * 1) } => (e - b).toNat ≤ i.1)) (by kernel_rfl) (goes_spine (T' := ⟨[(1, (.xl (y) (X.length) 1 (cI X))), (2, (.ptr 0 0)), (5, (.v (.int .i64 (b))))], [], 1, [(0, (.cells [(.v (.int .i64 (b))), (.v (.int .i64 (e))), (.v (.int .i64 (.ofNat 1)))] 83))]⟩) (by kernel_rfl) (goes_told Try.checked.mixed (known_none) 200 (T' := ⟨[(1, (.xl (y) (X.length) 1 (cI X))), (2, (.ptr 0 0)), (5, (.v (.int .i64 (b))))], [], 1, [(0, (.cells [(.v (.int .i64 (b))), (.v (.int .i64 (e))), (.v (.int .i64 (.ofNat 1)))] 83))]⟩) (e := .normal) (ps := []) [.go, .go, .go] (by kernel_rfl) (by kernel_rfl) trivial rfl) (goes_lit (show (⟨[(1, (.xl (y) (X.length) 1 (cI X))), (2, (.ptr 0 0)), (5, (.v (.int .i64 (b))))], [], 1, [(0, (.cells [(.v (.int .i64 (b))), (.v (.int .i64 (e))), (.v (.int .i64 (.ofNat 1)))] 83))]⟩ : Ev.Lit) = ⟨[(1, (.xl (y) (X.length) 1 (cI X))), (2, (.ptr 0 0)), (5, (.v (.int .i64 (b + ((0 : Nat) : Int)))))], [], 1, [(0, (.cells [(.v (.int .i64 (b))), (.v (.int .i64 (e))), (.v (.int .i64 (.ofNat 1)))] 83))]⟩ from by simp) (goes_blockstep (by kernel_rfl) (fun i : { i : Nat // i ≤ (e - b).toNat ∧ ∀ k : Nat, b ≤ k → (k : Int) < b + ((i : Nat) : Int) → intAt (cI X) ((k + 1) * 1) ≤ intAt (cI X) (k * 1) } => ⟨[(1, (.xl (y) (X.length) 1 (cI X))), (2, (.ptr 0 0)), (5, (.v (.int .i64 (b + ((i.1 : Nat) : Int)))))], [], 1, [(0, (.cells [(.v (.int .i64 (b))), (.v (.int .i64 (e))), (.v (.int .i64 (.ofNat 1)))] 83))]⟩) (fun i : { i : Nat // i ≤ (e - b).toNat ∧ ∀ k : Nat, b ≤ k → (k : Int) < b + ((i : Nat) : Int) → intAt (cI X) ((k + 1) * 1) ≤ intAt (cI X) (k * 1) } => (e - b).toNat - i.1) (fun i => ?_) ⟨0, Nat.zero_le _, (fun k k1 k2 => by omega)⟩))) (fun ixR hxR => goes_less (by kernel_rfl) (by kernel_rfl) (by kernel_rfl) (by kernel_rfl) (ofu_7 y b e X h0 h1 h2 hX ixR.1 ixR.2.1 ixR.2.2 hxR w))
  obtain ⟨i, hi1, hi2⟩ := i
  have hk : (b + (i : Int) + 1).toNat = (b + (i : Int)).toNat + 1 := by omega
  have hk0 : ((b + (i : Int)).toNat : Int) = b + i := by omega
  show Goes Try.prog 28 ofuK5 (⟨[(1, (.xl (y) (X.length) 1 (cI X))), (2, (.ptr 0 0)), (5, (.v (.int .i64 (b + ((i : Nat) : Int)))))], [], 1, [(0, (.cells [(.v (.int .i64 (b))), (.v (.int .i64 (e))), (.v (.int .i64 (.ofNat 1)))] 83))]⟩) w (StepQ _ _ _ _ _ _ _ _)
  cases hl0_1 : (eqI (b + ↑i) e) with
  | true =>
    have ghl0_1 := eqI_true hl0_1
    exact Ev.step_out (by show (e - b).toNat ≤ i; omega) (goes_told Try.checked.mixed (known_none) 200 (T' := ⟨[(1, (.xl (y) (X.length) 1 (cI X))), (2, (.ptr 0 0)), (5, (.v (.int .i64 (b + ((i : Nat) : Int)))))], [], 1, [(0, (.cells [(.v (.int .i64 (b))), (.v (.int .i64 (e))), (.v (.int .i64 (.ofNat 1)))] 83))]⟩) (e := .exit 0) (ps := [(!eqI (b + ↑i) e) = false]) [.go, .go, .go, .go, .b false] (by kernel_rfl) (by kernel_rfl) ⟨(by rw [hl0_1]; rfl), trivial⟩ rfl)
  | false =>
    have ghl0_1 := eqI_false hl0_1
    cases hl0_2 : (ltI (intAt (cI X) ((b + ↑i).toNat * 1)) (intAt (cI X) ((b + ↑i + (1 : Int)).toNat * 1))) with
    | true =>
      have ghl0_2 := ltI_true hl0_2
      rw [hk] at ghl0_2
      exact Ev.step_ret (goes_eqR2 (r := (.bool .false)) (by rw [clB_no (fun q => by have := q ((b + (i : Int)).toNat) (by omega) (by omega); omega)]) (goes_ret Try.checked.mixed (known_none) 200 (v := (.v (.bool .false))) (ps := [(!eqI (b + ↑i) e) = true, inR IntKind.i64 (b + ↑i + (1 : Int)), 0 ≤ b + ↑i + (1 : Int), (b + ↑i + (1 : Int)).toNat < X.length, loadL Try.prog (cI X) ((b + ↑i + (1 : Int)).toNat * 1) 2 = some (AV.v (Value.int IntKind.i64 (intAt (cI X) ((b + ↑i + (1 : Int)).toNat * 1)))), 0 ≤ b + ↑i, (b + ↑i).toNat < X.length, loadL Try.prog (cI X) ((b + ↑i).toNat * 1) 2 = some (AV.v (Value.int IntKind.i64 (intAt (cI X) ((b + ↑i).toNat * 1)))), ltI (intAt (cI X) ((b + ↑i).toNat * 1)) (intAt (cI X) ((b + ↑i + (1 : Int)).toNat * 1)) = true]) [.go, .go, .go, .go, .b true, .go, .go, .go, .go, .go, .nat, .sym, .go, .go, .nat, .sym, .go, .b true, .go] (by kernel_rfl) (by kernel_rfl) ⟨(by rw [hl0_1]; rfl), (by show -9223372036854775808 ≤ _ ∧ _ ≤ 9223372036854775807; constructor <;> omega), (by omega), (by omega), (cI_ld (by omega) 2 (Try.underlying2) rfl), (by omega), (by omega), (cI_ld (by omega) 2 (Try.underlying2) rfl), hl0_2, trivial⟩ rfl))
    | false =>
      have ghl0_2 := ltI_false hl0_2
      rw [hk] at ghl0_2
      refine Ev.step_on ⟨i + 1, by omega, (fun k k1 k2 => (by by_cases q : (k : Int) < b + (i : Int); exact hi2 k k1 q; (rw [show k = (b + (i : Int)).toNat by omega]; omega)))⟩ (by show (e - b).toNat - (i + 1) < (e - b).toNat - i; omega) ?_
      show Goes _ _ _ _ _ (Land _ isN (⟨[(1, (.xl (y) (X.length) 1 (cI X))), (2, (.ptr 0 0)), (5, (.v (.int .i64 (b + (((i + 1) : Nat) : Int)))))], [], 1, [(0, (.cells [(.v (.int .i64 (b))), (.v (.int .i64 (e))), (.v (.int .i64 (.ofNat 1)))] 83))]⟩) _)
      rw [show ((b + (((i + 1) : Nat) : Int)) : Int) = (b + ↑i + (1 : Int)) from by omega]
      exact goes_told Try.checked.mixed (known_none) 200 (T' := ⟨[(1, (.xl (y) (X.length) 1 (cI X))), (2, (.ptr 0 0)), (5, (.v (.int .i64 (b + ↑i + (1 : Int)))))], [], 1, [(0, (.cells [(.v (.int .i64 (b))), (.v (.int .i64 (e))), (.v (.int .i64 (.ofNat 1)))] 83))]⟩) (e := .normal) (ps := [(!eqI (b + ↑i) e) = true, inR IntKind.i64 (b + ↑i + (1 : Int)), 0 ≤ b + ↑i + (1 : Int), (b + ↑i + (1 : Int)).toNat < X.length, loadL Try.prog (cI X) ((b + ↑i + (1 : Int)).toNat * 1) 2 = some (AV.v (Value.int IntKind.i64 (intAt (cI X) ((b + ↑i + (1 : Int)).toNat * 1)))), 0 ≤ b + ↑i, (b + ↑i).toNat < X.length, loadL Try.prog (cI X) ((b + ↑i).toNat * 1) 2 = some (AV.v (Value.int IntKind.i64 (intAt (cI X) ((b + ↑i).toNat * 1)))), ltI (intAt (cI X) ((b + ↑i).toNat * 1)) (intAt (cI X) ((b + ↑i + (1 : Int)).toNat * 1)) = false, inR IntKind.i64 (b + ↑i + (1 : Int))]) [.go, .go, .go, .go, .b true, .go, .go, .go, .go, .go, .nat, .sym, .go, .go, .nat, .sym, .go, .b false, .go, .go, .go, .go, .go] (by kernel_rfl) (by kernel_rfl) ⟨(by rw [hl0_1]; rfl), (by show -9223372036854775808 ≤ _ ∧ _ ≤ 9223372036854775807; constructor <;> omega), (by omega), (by omega), (cI_ld (by omega) 2 (Try.underlying2) rfl), (by omega), (by omega), (cI_ld (by omega) 2 (Try.underlying2) rfl), hl0_2, (by show -9223372036854775808 ≤ _ ∧ _ ≤ 9223372036854775807; constructor <;> omega), trivial⟩ rfl

set_option maxHeartbeats 2000000 in
theorem ofu_2 (y : Value) (b : Int) (e : Int) (X : List Int) (h0 : 0 ≤ b) (h1 : b ≤ e) (h2 : e < X.length) (hX : X.length ≤ 1000) (w : World) : Goes Try.prog 28 ofuK1 (⟨[(0, .agg [.v (.int .i64 b), .v (.int .i64 e), .v (.int .i64 1)]), (1, .xl y X.length 1 (cI X))], [], 0, []⟩) w (OutR Try.prog Try.f57 28 (.bool (clB (fallP (cI X) b e))) w) := by
  exact goes_spine (T' := ⟨[(1, (.xl (y) (X.length) 1 (cI X))), (2, (.ptr 0 0))], [], 1, [(0, (.cells [(.v (.int .i64 (b))), (.v (.int .i64 (e))), (.v (.int .i64 (.ofNat 1)))] 83))]⟩) (by kernel_rfl) (goes_told Try.checked.mixed (known_none) 200 (T' := ⟨[(1, (.xl (y) (X.length) 1 (cI X))), (2, (.ptr 0 0))], [], 1, [(0, (.cells [(.v (.int .i64 (b))), (.v (.int .i64 (e))), (.v (.int .i64 (.ofNat 1)))] 83))]⟩) (e := .normal) (ps := []) [.go, .go] (by kernel_rfl) (by kernel_rfl) trivial rfl) (ofu_4 y b e X h0 h1 h2 hX w)

theorem ofu_g (y : Value) (b : Int) (e : Int) (X : List Int) (h0 : 0 ≤ b) (h1 : b ≤ e) (h2 : e < X.length) (hX : X.length ≤ 1000) : GivesA Try.prog 57 [.agg [.v (.int .i64 b), .v (.int .i64 e), .v (.int .i64 1)], .xl y X.length 1 (cI X)] (.bool (clB (fallP (cI X) b e))) :=
  givesA_parts 28 Try.func57 (by kernel_rfl) (by kernel_rfl) (by kernel_rfl) (fun w => goes_less (by kernel_rfl) (by kernel_rfl) (by kernel_rfl) (by kernel_rfl) (ofu_2 y b e X h0 h1 h2 hX w))

noncomputable def ofdK1 : Code := bodyC Try.f57

noncomputable def ofdK3 : Code := tlC ofdK1

noncomputable def ofdK5 : Code := loopC (tlC (hdC ofdK3))

noncomputable def ofdK6 : Code := tlC ofdK3

set_option maxHeartbeats 2000000 in
theorem ofd_7 (y : Value) (b : Int) (e : Int) (X : List Int) (h0 : 0 ≤ e) (h1 : e ≤ b) (h2 : b < X.length) (hX : X.length ≤ 1000) (i0 : Nat) (h0a : i0 ≤ (b - e).toNat) (h0b : ∀ k : Nat, b - ((i0 : Nat) : Int) ≤ k → (k : Int) < b → intAt (cI X) (k * 1) ≤ intAt (cI X) ((k + 1) * 1)) (h0c : (b - e).toNat ≤ i0) (w : World) : Goes Try.prog 28 ofdK6 (⟨[], [], 1, []⟩) w (OutR Try.prog Try.f57 28 (.bool (clB (riseP (cI X) e b))) w) := by
  exact goes_eqR (r := (.bool .true)) (by rw [clB_yes (p := riseP (cI X) e b) (fun k k1 k2 => h0b k (by omega) (by omega))]) (goes_out Try.checked.mixed (known_none) 200 (v := (.v (.bool .true))) (ps := []) [.go] (by kernel_rfl) (by kernel_rfl) trivial rfl)

set_option maxHeartbeats 4000000 in
theorem ofd_4 (y : Value) (b : Int) (e : Int) (X : List Int) (h0 : 0 ≤ e) (h1 : e ≤ b) (h2 : b < X.length) (hX : X.length ≤ 1000) (w : World) : Goes Try.prog 28 ofdK3 (⟨[(1, (.xl (y) (X.length) 1 (cI X))), (2, (.ptr 0 0))], [], 1, [(0, (.cells [(.v (.int .i64 (b))), (.v (.int .i64 (e))), (.v (.int .i64 (.negSucc 0)))] 83))]⟩) w (OutR Try.prog Try.f57 28 (.bool (clB (riseP (cI X) e b))) w) := by
  refine goes_spineQ (ι := { i : Nat // i ≤ (b - e).toNat ∧ ∀ k : Nat, b - ((i : Nat) : Int) ≤ k → (k : Int) < b → intAt (cI X) (k * 1) ≤ intAt (cI X) ((k + 1) * 1) }) (T := (fun i : { i : Nat // i ≤ (b - e).toNat ∧ ∀ k : Nat, b - ((i : Nat) : Int) ≤ k → (k : Int) < b → intAt (cI X) (k * 1) ≤ intAt (cI X) ((k + 1) * 1) } => ⟨[(1, (.xl (y) (X.length) 1 (cI X))), (2, (.ptr 0 0)), (5, (.v (.int .i64 (b - ((i.1 : Nat) : Int)))))], [], 1, [(0, (.cells [(.v (.int .i64 (b))), (.v (.int .i64 (e))), (.v (.int .i64 (.negSucc 0)))] 83))]⟩)) (R := (fun i : { i : Nat // i ≤ (b - e).toNat ∧ ∀ k : Nat, b - ((i : Nat) : Int) ≤ k → (k : Int) < b → intAt (cI X) (k * 1) ≤ intAt (cI X) ((k + 1) * 1) } => (b - e).toNat ≤ i.1)) (by kernel_rfl) (goes_spine (T' := ⟨[(1, (.xl (y) (X.length) 1 (cI X))), (2, (.ptr 0 0)), (5, (.v (.int .i64 (b))))], [], 1, [(0, (.cells [(.v (.int .i64 (b))), (.v (.int .i64 (e))), (.v (.int .i64 (.negSucc 0)))] 83))]⟩) (by kernel_rfl) (goes_told Try.checked.mixed (known_none) 200 (T' := ⟨[(1, (.xl (y) (X.length) 1 (cI X))), (2, (.ptr 0 0)), (5, (.v (.int .i64 (b))))], [], 1, [(0, (.cells [(.v (.int .i64 (b))), (.v (.int .i64 (e))), (.v (.int .i64 (.negSucc 0)))] 83))]⟩) (e := .normal) (ps := []) [.go, .go, .go] (by kernel_rfl) (by kernel_rfl) trivial rfl) (goes_lit (show (⟨[(1, (.xl (y) (X.length) 1 (cI X))), (2, (.ptr 0 0)), (5, (.v (.int .i64 (b))))], [], 1, [(0, (.cells [(.v (.int .i64 (b))), (.v (.int .i64 (e))), (.v (.int .i64 (.negSucc 0)))] 83))]⟩ : Ev.Lit) = ⟨[(1, (.xl (y) (X.length) 1 (cI X))), (2, (.ptr 0 0)), (5, (.v (.int .i64 (b - ((0 : Nat) : Int)))))], [], 1, [(0, (.cells [(.v (.int .i64 (b))), (.v (.int .i64 (e))), (.v (.int .i64 (.negSucc 0)))] 83))]⟩ from by simp) (goes_blockstep (by kernel_rfl) (fun i : { i : Nat // i ≤ (b - e).toNat ∧ ∀ k : Nat, b - ((i : Nat) : Int) ≤ k → (k : Int) < b → intAt (cI X) (k * 1) ≤ intAt (cI X) ((k + 1) * 1) } => ⟨[(1, (.xl (y) (X.length) 1 (cI X))), (2, (.ptr 0 0)), (5, (.v (.int .i64 (b - ((i.1 : Nat) : Int)))))], [], 1, [(0, (.cells [(.v (.int .i64 (b))), (.v (.int .i64 (e))), (.v (.int .i64 (.negSucc 0)))] 83))]⟩) (fun i : { i : Nat // i ≤ (b - e).toNat ∧ ∀ k : Nat, b - ((i : Nat) : Int) ≤ k → (k : Int) < b → intAt (cI X) (k * 1) ≤ intAt (cI X) ((k + 1) * 1) } => (b - e).toNat - i.1) (fun i => ?_) ⟨0, Nat.zero_le _, (fun k k1 k2 => by omega)⟩))) (fun ixR hxR => goes_less (by kernel_rfl) (by kernel_rfl) (by kernel_rfl) (by kernel_rfl) (ofd_7 y b e X h0 h1 h2 hX ixR.1 ixR.2.1 ixR.2.2 hxR w))
  obtain ⟨i, hi1, hi2⟩ := i
  have hk0 : ((b - (i : Int)).toNat : Int) = b - i := by omega
  show Goes Try.prog 28 ofdK5 (⟨[(1, (.xl (y) (X.length) 1 (cI X))), (2, (.ptr 0 0)), (5, (.v (.int .i64 (b - ((i : Nat) : Int)))))], [], 1, [(0, (.cells [(.v (.int .i64 (b))), (.v (.int .i64 (e))), (.v (.int .i64 (.negSucc 0)))] 83))]⟩) w (StepQ _ _ _ _ _ _ _ _)
  cases hl0_1 : (eqI (b - ↑i) e) with
  | true =>
    have ghl0_1 := eqI_true hl0_1
    exact Ev.step_out (by show (b - e).toNat ≤ i; omega) (goes_told Try.checked.mixed (known_none) 200 (T' := ⟨[(1, (.xl (y) (X.length) 1 (cI X))), (2, (.ptr 0 0)), (5, (.v (.int .i64 (b - ((i : Nat) : Int)))))], [], 1, [(0, (.cells [(.v (.int .i64 (b))), (.v (.int .i64 (e))), (.v (.int .i64 (.negSucc 0)))] 83))]⟩) (e := .exit 0) (ps := [(!eqI (b - ↑i) e) = false]) [.go, .go, .go, .go, .b false] (by kernel_rfl) (by kernel_rfl) ⟨(by rw [hl0_1]; rfl), trivial⟩ rfl)
  | false =>
    have ghl0_1 := eqI_false hl0_1
    cases hl0_2 : (ltI (intAt (cI X) ((b - ↑i).toNat * 1)) (intAt (cI X) ((b - ↑i + (-1 : Int)).toNat * 1))) with
    | true =>
      have ghl0_2 := ltI_true hl0_2
      have hk : (b - (i : Int)).toNat = (b - (i : Int) + -1).toNat + 1 := by omega
      rw [hk] at ghl0_2
      have hk1 : ((b - (i : Int) + -1).toNat : Int) = b - i + -1 := by omega
      exact Ev.step_ret (goes_eqR2 (r := (.bool .false)) (by rw [clB_no (fun q => by have := q ((b - (i : Int) + -1).toNat) (by omega) (by omega); omega)]) (goes_ret Try.checked.mixed (known_none) 200 (v := (.v (.bool .false))) (ps := [(!eqI (b - ↑i) e) = true, inR IntKind.i64 (b - ↑i + (-1 : Int)), 0 ≤ b - ↑i + (-1 : Int), (b - ↑i + (-1 : Int)).toNat < X.length, loadL Try.prog (cI X) ((b - ↑i + (-1 : Int)).toNat * 1) 2 = some (AV.v (Value.int IntKind.i64 (intAt (cI X) ((b - ↑i + (-1 : Int)).toNat * 1)))), 0 ≤ b - ↑i, (b - ↑i).toNat < X.length, loadL Try.prog (cI X) ((b - ↑i).toNat * 1) 2 = some (AV.v (Value.int IntKind.i64 (intAt (cI X) ((b - ↑i).toNat * 1)))), ltI (intAt (cI X) ((b - ↑i).toNat * 1)) (intAt (cI X) ((b - ↑i + (-1 : Int)).toNat * 1)) = true]) [.go, .go, .go, .go, .b true, .go, .go, .go, .go, .go, .nat, .sym, .go, .go, .nat, .sym, .go, .b true, .go] (by kernel_rfl) (by kernel_rfl) ⟨(by rw [hl0_1]; rfl), (by show -9223372036854775808 ≤ _ ∧ _ ≤ 9223372036854775807; constructor <;> omega), (by omega), (by omega), (cI_ld (by omega) 2 (Try.underlying2) rfl), (by omega), (by omega), (cI_ld (by omega) 2 (Try.underlying2) rfl), hl0_2, trivial⟩ rfl))
    | false =>
      have ghl0_2 := ltI_false hl0_2
      have hk : (b - (i : Int)).toNat = (b - (i : Int) + -1).toNat + 1 := by omega
      rw [hk] at ghl0_2
      have hk1 : ((b - (i : Int) + -1).toNat : Int) = b - i + -1 := by omega
      refine Ev.step_on ⟨i + 1, by omega, (fun k k1 k2 => (by by_cases q : b - (i : Int) ≤ k; exact hi2 k q k2; (rw [show k = (b - (i : Int) + -1).toNat by omega]; omega)))⟩ (by show (b - e).toNat - (i + 1) < (b - e).toNat - i; omega) ?_
      show Goes _ _ _ _ _ (Land _ isN (⟨[(1, (.xl (y) (X.length) 1 (cI X))), (2, (.ptr 0 0)), (5, (.v (.int .i64 (b - (((i + 1) : Nat) : Int)))))], [], 1, [(0, (.cells [(.v (.int .i64 (b))), (.v (.int .i64 (e))), (.v (.int .i64 (.negSucc 0)))] 83))]⟩) _)
      rw [show ((b - (((i + 1) : Nat) : Int)) : Int) = (b - ↑i + (-1 : Int)) from by omega]
      exact goes_told Try.checked.mixed (known_none) 200 (T' := ⟨[(1, (.xl (y) (X.length) 1 (cI X))), (2, (.ptr 0 0)), (5, (.v (.int .i64 (b - ↑i + (-1 : Int)))))], [], 1, [(0, (.cells [(.v (.int .i64 (b))), (.v (.int .i64 (e))), (.v (.int .i64 (.negSucc 0)))] 83))]⟩) (e := .normal) (ps := [(!eqI (b - ↑i) e) = true, inR IntKind.i64 (b - ↑i + (-1 : Int)), 0 ≤ b - ↑i + (-1 : Int), (b - ↑i + (-1 : Int)).toNat < X.length, loadL Try.prog (cI X) ((b - ↑i + (-1 : Int)).toNat * 1) 2 = some (AV.v (Value.int IntKind.i64 (intAt (cI X) ((b - ↑i + (-1 : Int)).toNat * 1)))), 0 ≤ b - ↑i, (b - ↑i).toNat < X.length, loadL Try.prog (cI X) ((b - ↑i).toNat * 1) 2 = some (AV.v (Value.int IntKind.i64 (intAt (cI X) ((b - ↑i).toNat * 1)))), ltI (intAt (cI X) ((b - ↑i).toNat * 1)) (intAt (cI X) ((b - ↑i + (-1 : Int)).toNat * 1)) = false, inR IntKind.i64 (b - ↑i + (-1 : Int))]) [.go, .go, .go, .go, .b true, .go, .go, .go, .go, .go, .nat, .sym, .go, .go, .nat, .sym, .go, .b false, .go, .go, .go, .go, .go] (by kernel_rfl) (by kernel_rfl) ⟨(by rw [hl0_1]; rfl), (by show -9223372036854775808 ≤ _ ∧ _ ≤ 9223372036854775807; constructor <;> omega), (by omega), (by omega), (cI_ld (by omega) 2 (Try.underlying2) rfl), (by omega), (by omega), (cI_ld (by omega) 2 (Try.underlying2) rfl), hl0_2, (by show -9223372036854775808 ≤ _ ∧ _ ≤ 9223372036854775807; constructor <;> omega), trivial⟩ rfl

set_option maxHeartbeats 2000000 in
theorem ofd_2 (y : Value) (b : Int) (e : Int) (X : List Int) (h0 : 0 ≤ e) (h1 : e ≤ b) (h2 : b < X.length) (hX : X.length ≤ 1000) (w : World) : Goes Try.prog 28 ofdK1 (⟨[(0, .agg [.v (.int .i64 b), .v (.int .i64 e), .v (.int .i64 (-1))]), (1, .xl y X.length 1 (cI X))], [], 0, []⟩) w (OutR Try.prog Try.f57 28 (.bool (clB (riseP (cI X) e b))) w) := by
  exact goes_spine (T' := ⟨[(1, (.xl (y) (X.length) 1 (cI X))), (2, (.ptr 0 0))], [], 1, [(0, (.cells [(.v (.int .i64 (b))), (.v (.int .i64 (e))), (.v (.int .i64 (.negSucc 0)))] 83))]⟩) (by kernel_rfl) (goes_told Try.checked.mixed (known_none) 200 (T' := ⟨[(1, (.xl (y) (X.length) 1 (cI X))), (2, (.ptr 0 0))], [], 1, [(0, (.cells [(.v (.int .i64 (b))), (.v (.int .i64 (e))), (.v (.int .i64 (.negSucc 0)))] 83))]⟩) (e := .normal) (ps := []) [.go, .go] (by kernel_rfl) (by kernel_rfl) trivial rfl) (ofd_4 y b e X h0 h1 h2 hX w)

theorem ofd_g (y : Value) (b : Int) (e : Int) (X : List Int) (h0 : 0 ≤ e) (h1 : e ≤ b) (h2 : b < X.length) (hX : X.length ≤ 1000) : GivesA Try.prog 57 [.agg [.v (.int .i64 b), .v (.int .i64 e), .v (.int .i64 (-1))], .xl y X.length 1 (cI X)] (.bool (clB (riseP (cI X) e b))) :=
  givesA_parts 28 Try.func57 (by kernel_rfl) (by kernel_rfl) (by kernel_rfl) (fun w => goes_less (by kernel_rfl) (by kernel_rfl) (by kernel_rfl) (by kernel_rfl) (ofd_2 y b e X h0 h1 h2 hX w))

noncomputable def gpK1 : Code := bodyC Try.f58

noncomputable def gpK3 : Code := tlC gpK1

noncomputable def gpK5 : Code := tlC gpK3

noncomputable def gpK7 : Code := loopC (hdC gpK5)

noncomputable def gpK8 : Code := tlC gpK5

set_option maxHeartbeats 2000000 in
theorem gp_9 (ya : Value) (yl : Value) (yf : Value) (yw : Value) (A : List Int) (L : List (Int × Int)) (B : List Bool) (W : List Int) (x : Int) (hz : clE (cI A) A.length (cR L) L.length B.length (cI W) W.length = 0) (hx : intAt (cI A) (0 * 1) < x ∧ x ≤ intAt (cI A) ((A.length - 1) * 1)) (i0 : Nat) (h0a : i0 ≤ (A.length - 2)) (h0b : ∀ j, j < i0 → intAt (cI A) ((0 + j + 1) * 1) < x) (h0c : ¬ intAt (cI A) ((i0 + 1) * 1) < x) (w : World) : Goes Try.prog 17 gpK8 (⟨[(5, (.v (.int .i64 ((i0 : Nat) : Int))))], [], 1, []⟩) w (OutR Try.prog Try.f58 17 (.int .i64 (gapF (cI A) x A.length 0)) w) := by
  exact goes_eqR (r := (.int .i64 (↑i0))) (by rw [gapF_at A.length 0 i0 (by have := (clE_zero hz).1; omega) h0b (by rw [Nat.zero_add]; exact h0c), Nat.zero_add]) (goes_out Try.checked.mixed (known_none) 200 (v := (.v (.int .i64 (↑i0)))) (ps := []) [.go, .go] (by kernel_rfl) (by kernel_rfl) trivial rfl)

set_option maxHeartbeats 4000000 in
theorem gp_6 (ya : Value) (yl : Value) (yf : Value) (yw : Value) (A : List Int) (L : List (Int × Int)) (B : List Bool) (W : List Int) (x : Int) (hz : clE (cI A) A.length (cR L) L.length B.length (cI W) W.length = 0) (hx : intAt (cI A) (0 * 1) < x ∧ x ≤ intAt (cI A) ((A.length - 1) * 1)) (w : World) : Goes Try.prog 17 gpK5 (⟨[(1, (.v (.int .i64 (x)))), (2, (.ptr 0 0)), (5, (.v (.int .i64 (.ofNat 0))))], [], 1, [(0, (.cells [(.xl (ya) (A.length) 1 (cI A)), (.xl (yl) (L.length) 2 (cR L)), (.xl (yf) (B.length) 1 (cB B)), (.xl (yw) (W.length) 1 (cI W))] 26))]⟩) w (OutR Try.prog Try.f58 17 (.int .i64 (gapF (cI A) x A.length 0)) w) := by
  obtain ⟨hn, ha, he, -, -⟩ := clE_zero hz
  refine goes_less (T' := ⟨[(1, (.v (.int .i64 (x)))), (2, (.ptr 0 0)), (5, (.v (.int .i64 ((0 : Nat) : Int))))], [], 1, [(0, (.cells [(.xl (ya) (A.length) 1 (cI A)), (.xl (yl) (L.length) 2 (cR L)), (.xl (yf) (B.length) 1 (cB B)), (.xl (yw) (W.length) 1 (cI W))] 26))]⟩) (by kernel_rfl) (by kernel_rfl) (by kernel_rfl) (by kernel_rfl) (goes_spineQ (ι := { i : Nat // i ≤ (A.length - 2) ∧ ∀ j, j < i → intAt (cI A) ((0 + j + 1) * 1) < x }) (T := (fun i : { i : Nat // i ≤ (A.length - 2) ∧ ∀ j, j < i → intAt (cI A) ((0 + j + 1) * 1) < x } => ⟨[(1, (.v (.int .i64 (x)))), (2, (.ptr 0 0)), (5, (.v (.int .i64 ((i.1 : Nat) : Int))))], [], 1, [(0, (.cells [(.xl (ya) (A.length) 1 (cI A)), (.xl (yl) (L.length) 2 (cR L)), (.xl (yf) (B.length) 1 (cB B)), (.xl (yw) (W.length) 1 (cI W))] 26))]⟩)) (R := (fun i : { i : Nat // i ≤ (A.length - 2) ∧ ∀ j, j < i → intAt (cI A) ((0 + j + 1) * 1) < x } => ¬ intAt (cI A) ((i.1 + 1) * 1) < x)) (by kernel_rfl) (goes_blockstep (by kernel_rfl) (fun i : { i : Nat // i ≤ (A.length - 2) ∧ ∀ j, j < i → intAt (cI A) ((0 + j + 1) * 1) < x } => ⟨[(1, (.v (.int .i64 (x)))), (2, (.ptr 0 0)), (5, (.v (.int .i64 ((i.1 : Nat) : Int))))], [], 1, [(0, (.cells [(.xl (ya) (A.length) 1 (cI A)), (.xl (yl) (L.length) 2 (cR L)), (.xl (yf) (B.length) 1 (cB B)), (.xl (yw) (W.length) 1 (cI W))] 26))]⟩) (fun i : { i : Nat // i ≤ (A.length - 2) ∧ ∀ j, j < i → intAt (cI A) ((0 + j + 1) * 1) < x } => (A.length - 2) - i.1) (fun i => ?_) ⟨0, Nat.zero_le _, (fun j hj => by omega)⟩) (fun ixR hxR => goes_less (by kernel_rfl) (by kernel_rfl) (by kernel_rfl) (by kernel_rfl) (gp_9 ya yl yf yw A L B W x hz hx ixR.1 ixR.2.1 ixR.2.2 hxR w)))
  obtain ⟨i, hi1, hi2⟩ := i
  have e1 : ((i : Int) + 1).toNat = i + 1 := by omega
  show Goes Try.prog 17 gpK7 (⟨[(1, (.v (.int .i64 (x)))), (2, (.ptr 0 0)), (5, (.v (.int .i64 ((i : Nat) : Int))))], [], 1, [(0, (.cells [(.xl (ya) (A.length) 1 (cI A)), (.xl (yl) (L.length) 2 (cR L)), (.xl (yf) (B.length) 1 (cB B)), (.xl (yw) (W.length) 1 (cI W))] 26))]⟩) w (StepQ _ _ _ _ _ _ _ _)
  cases hl0_1 : (ltI (intAt (cI A) ((i + 1) * 1)) x) with
  | true =>
    have ghl0_1 := ltI_true hl0_1
    have hlt : i + 1 ≠ A.length - 1 := fun q => by rw [← q] at hx; omega
    refine Ev.step_on ⟨i + 1, by omega, (fun j hj => by by_cases q : j < i; exact hi2 j q; (rw [show 0 + j + 1 = i + 1 by omega]; omega))⟩ (by show (A.length - 2) - (i + 1) < (A.length - 2) - i; omega) ?_
    exact goes_told Try.checked.mixed (known_none) 200 (T' := ⟨[(1, (.v (.int .i64 (x)))), (2, (.ptr 0 0)), (5, (.v (.int .i64 (((i + 1) : Nat) : Int))))], [], 1, [(0, (.cells [(.xl (ya) (A.length) 1 (cI A)), (.xl (yl) (L.length) 2 (cR L)), (.xl (yf) (B.length) 1 (cB B)), (.xl (yw) (W.length) 1 (cI W))] 26))]⟩) (e := .normal) (ps := [inR IntKind.i64 (↑i + 1), i + 1 < A.length, loadL Try.prog (cI A) ((i + 1) * 1) 2 = some (AV.v (Value.int IntKind.i64 (intAt (cI A) ((i + 1) * 1)))), ltI (intAt (cI A) ((i + 1) * 1)) x = true, inR IntKind.i64 (↑i + 1)]) [.go, .go, .go, .go, .sym, .sym, .go, .go, .b true, .go, .go, .go] (by kernel_rfl) (by kernel_rfl) ⟨(by show -9223372036854775808 ≤ _ ∧ _ ≤ 9223372036854775807; constructor <;> omega), (by omega), (cI_ld (by omega) 2 (Try.underlying2) rfl), hl0_1, (by show -9223372036854775808 ≤ _ ∧ _ ≤ 9223372036854775807; constructor <;> omega), trivial⟩ rfl
  | false =>
    have ghl0_1 := ltI_false hl0_1
    exact Ev.step_out (by show ¬ intAt (cI A) ((i + 1) * 1) < x; omega) (goes_told Try.checked.mixed (known_none) 200 (T' := ⟨[(1, (.v (.int .i64 (x)))), (2, (.ptr 0 0)), (5, (.v (.int .i64 ((i : Nat) : Int))))], [], 1, [(0, (.cells [(.xl (ya) (A.length) 1 (cI A)), (.xl (yl) (L.length) 2 (cR L)), (.xl (yf) (B.length) 1 (cB B)), (.xl (yw) (W.length) 1 (cI W))] 26))]⟩) (e := .exit 0) (ps := [inR IntKind.i64 (↑i + 1), i + 1 < A.length, loadL Try.prog (cI A) ((i + 1) * 1) 2 = some (AV.v (Value.int IntKind.i64 (intAt (cI A) ((i + 1) * 1)))), ltI (intAt (cI A) ((i + 1) * 1)) x = false]) [.go, .go, .go, .go, .sym, .sym, .go, .go, .b false] (by kernel_rfl) (by kernel_rfl) ⟨(by show -9223372036854775808 ≤ _ ∧ _ ≤ 9223372036854775807; constructor <;> omega), (by omega), (cI_ld (by omega) 2 (Try.underlying2) rfl), hl0_1, trivial⟩ rfl)

set_option maxHeartbeats 2000000 in
theorem gp_4 (ya : Value) (yl : Value) (yf : Value) (yw : Value) (A : List Int) (L : List (Int × Int)) (B : List Bool) (W : List Int) (x : Int) (hz : clE (cI A) A.length (cR L) L.length B.length (cI W) W.length = 0) (hx : intAt (cI A) (0 * 1) < x ∧ x ≤ intAt (cI A) ((A.length - 1) * 1)) (w : World) : Goes Try.prog 17 gpK3 (⟨[(1, (.v (.int .i64 (x)))), (2, (.ptr 0 0))], [], 1, [(0, (.cells [(.xl (ya) (A.length) 1 (cI A)), (.xl (yl) (L.length) 2 (cR L)), (.xl (yf) (B.length) 1 (cB B)), (.xl (yw) (W.length) 1 (cI W))] 26))]⟩) w (OutR Try.prog Try.f58 17 (.int .i64 (gapF (cI A) x A.length 0)) w) := by
  exact goes_spine (T' := ⟨[(1, (.v (.int .i64 (x)))), (2, (.ptr 0 0)), (5, (.v (.int .i64 (.ofNat 0))))], [], 1, [(0, (.cells [(.xl (ya) (A.length) 1 (cI A)), (.xl (yl) (L.length) 2 (cR L)), (.xl (yf) (B.length) 1 (cB B)), (.xl (yw) (W.length) 1 (cI W))] 26))]⟩) (by kernel_rfl) (goes_told Try.checked.mixed (known_none) 200 (T' := ⟨[(1, (.v (.int .i64 (x)))), (2, (.ptr 0 0)), (5, (.v (.int .i64 (.ofNat 0))))], [], 1, [(0, (.cells [(.xl (ya) (A.length) 1 (cI A)), (.xl (yl) (L.length) 2 (cR L)), (.xl (yf) (B.length) 1 (cB B)), (.xl (yw) (W.length) 1 (cI W))] 26))]⟩) (e := .normal) (ps := []) [.go] (by kernel_rfl) (by kernel_rfl) trivial rfl) (gp_6 ya yl yf yw A L B W x hz hx w)

set_option maxHeartbeats 2000000 in
theorem gp_2 (ya : Value) (yl : Value) (yf : Value) (yw : Value) (A : List Int) (L : List (Int × Int)) (B : List Bool) (W : List Int) (x : Int) (hz : clE (cI A) A.length (cR L) L.length B.length (cI W) W.length = 0) (hx : intAt (cI A) (0 * 1) < x ∧ x ≤ intAt (cI A) ((A.length - 1) * 1)) (w : World) : Goes Try.prog 17 gpK1 (⟨[(0, .agg [.xl ya A.length 1 (cI A), .xl yl L.length 2 (cR L), .xl yf B.length 1 (cB B), .xl yw W.length 1 (cI W)]), (1, .v (.int .i64 x))], [], 0, []⟩) w (OutR Try.prog Try.f58 17 (.int .i64 (gapF (cI A) x A.length 0)) w) := by
  exact goes_spine (T' := ⟨[(1, (.v (.int .i64 (x)))), (2, (.ptr 0 0))], [], 1, [(0, (.cells [(.xl (ya) (A.length) 1 (cI A)), (.xl (yl) (L.length) 2 (cR L)), (.xl (yf) (B.length) 1 (cB B)), (.xl (yw) (W.length) 1 (cI W))] 26))]⟩) (by kernel_rfl) (goes_told Try.checked.mixed (known_none) 200 (T' := ⟨[(1, (.v (.int .i64 (x)))), (2, (.ptr 0 0))], [], 1, [(0, (.cells [(.xl (ya) (A.length) 1 (cI A)), (.xl (yl) (L.length) 2 (cR L)), (.xl (yf) (B.length) 1 (cB B)), (.xl (yw) (W.length) 1 (cI W))] 26))]⟩) (e := .normal) (ps := []) [.go, .go] (by kernel_rfl) (by kernel_rfl) trivial rfl) (gp_4 ya yl yf yw A L B W x hz hx w)

theorem gp_g (ya : Value) (yl : Value) (yf : Value) (yw : Value) (A : List Int) (L : List (Int × Int)) (B : List Bool) (W : List Int) (x : Int) (hz : clE (cI A) A.length (cR L) L.length B.length (cI W) W.length = 0) (hx : intAt (cI A) (0 * 1) < x ∧ x ≤ intAt (cI A) ((A.length - 1) * 1)) : GivesA Try.prog 58 [.agg [.xl ya A.length 1 (cI A), .xl yl L.length 2 (cR L), .xl yf B.length 1 (cB B), .xl yw W.length 1 (cI W)], .v (.int .i64 x)] (.int .i64 (gapF (cI A) x A.length 0)) :=
  givesA_parts 17 Try.func58 (by kernel_rfl) (by kernel_rfl) (by kernel_rfl) (fun w => goes_less (by kernel_rfl) (by kernel_rfl) (by kernel_rfl) (by kernel_rfl) (gp_2 ya yl yf yw A L B W x hz hx w))

noncomputable def smK1 : Code := bodyC Try.f38

noncomputable def smK3 : Code := tlC smK1

noncomputable def smK5 : Code := tlC smK3

noncomputable def smK7 : Code := loopC (tlC (hdC smK5))

noncomputable def smK8 : Code := tlC smK5

set_option maxHeartbeats 2000000 in
theorem sm_9 (yw : Value) (yx : Value) (W : List Int) (X : List Int) (hl : W.length ≤ X.length) (hX : W.length ≤ 1000) (hw : ∀ i, i < W.length → 0 ≤ intAt (cI W) (i * 1) ∧ intAt (cI W) (i * 1) ≤ 1000) (hx : ∀ i, i < W.length → 0 ≤ intAt (cI X) (i * 1) ∧ intAt (cI X) (i * 1) ≤ 200) (i0 : Nat) (h0a : i0 ≤ W.length) (h0b : True) (h0c : W.length ≤ i0) (w : World) : Goes Try.prog 25 smK8 (⟨[(5, (.v (.int .i64 (sumP (cI W) (cI X) i0))))], [], 0, []⟩) w (OutR Try.prog Try.f38 25 (.int .i64 (sumP (cI W) (cI X) W.length)) w) := by
  exact goes_eqR (r := (.int .i64 (sumP (cI W) (cI X) i0))) (by rw [show i0 = W.length by omega]) (goes_out Try.checked.mixed (known_none) 200 (v := (.v (.int .i64 (sumP (cI W) (cI X) i0)))) (ps := []) [.go, .go] (by kernel_rfl) (by kernel_rfl) trivial rfl)

set_option maxHeartbeats 4000000 in
theorem sm_6 (yw : Value) (yx : Value) (W : List Int) (X : List Int) (hl : W.length ≤ X.length) (hX : W.length ≤ 1000) (hw : ∀ i, i < W.length → 0 ≤ intAt (cI W) (i * 1) ∧ intAt (cI W) (i * 1) ≤ 1000) (hx : ∀ i, i < W.length → 0 ≤ intAt (cI X) (i * 1) ∧ intAt (cI X) (i * 1) ≤ 200) (w : World) : Goes Try.prog 25 smK5 (⟨[(0, (.xl (yw) (W.length) 1 (cI W))), (1, (.xl (yx) (X.length) 1 (cI X))), (5, (.v (.int .i64 (.ofNat 0))))], [], 0, []⟩) w (OutR Try.prog Try.f38 25 (.int .i64 (sumP (cI W) (cI X) W.length)) w) := by
  refine goes_spineQ (ι := { i : Nat // i ≤ W.length ∧ True }) (T := (fun i : { i : Nat // i ≤ W.length ∧ True } => ⟨[(0, (.xl (yw) (W.length) 1 (cI W))), (1, (.xl (yx) (X.length) 1 (cI X))), (5, (.v (.int .i64 (sumP (cI W) (cI X) i.1)))), (6, (.v (.int .i64 ((i.1 : Nat) : Int))))], [], 0, []⟩)) (R := (fun i : { i : Nat // i ≤ W.length ∧ True } => W.length ≤ i.1)) (by kernel_rfl) (goes_spine (T' := ⟨[(0, (.xl (yw) (W.length) 1 (cI W))), (1, (.xl (yx) (X.length) 1 (cI X))), (5, (.v (.int .i64 (sumP (cI W) (cI X) 0)))), (6, (.v (.int .i64 ((0 : Nat) : Int))))], [], 0, []⟩) (by kernel_rfl) (goes_told Try.checked.mixed (known_none) 200 (T' := ⟨[(0, (.xl (yw) (W.length) 1 (cI W))), (1, (.xl (yx) (X.length) 1 (cI X))), (5, (.v (.int .i64 (sumP (cI W) (cI X) 0)))), (6, (.v (.int .i64 ((0 : Nat) : Int))))], [], 0, []⟩) (e := .normal) (ps := []) [.go] (by kernel_rfl) (by kernel_rfl) trivial rfl) (goes_blockstep (by kernel_rfl) (fun i : { i : Nat // i ≤ W.length ∧ True } => ⟨[(0, (.xl (yw) (W.length) 1 (cI W))), (1, (.xl (yx) (X.length) 1 (cI X))), (5, (.v (.int .i64 (sumP (cI W) (cI X) i.1)))), (6, (.v (.int .i64 ((i.1 : Nat) : Int))))], [], 0, []⟩) (fun i : { i : Nat // i ≤ W.length ∧ True } => W.length - i.1) (fun i => ?_) ⟨0, Nat.zero_le _, trivial⟩)) (fun ixR hxR => goes_less (by kernel_rfl) (by kernel_rfl) (by kernel_rfl) (by kernel_rfl) (sm_9 yw yx W X hl hX hw hx ixR.1 ixR.2.1 ixR.2.2 hxR w))
  obtain ⟨i, hi1, hi2⟩ := i
  have hb1 := sumP_bd (c := cI W) (d := cI X) (n := i) (fun j hj => hw j (by omega)) (fun j hj => hx j (by omega))
  show Goes Try.prog 25 smK7 (⟨[(0, (.xl (yw) (W.length) 1 (cI W))), (1, (.xl (yx) (X.length) 1 (cI X))), (5, (.v (.int .i64 (sumP (cI W) (cI X) i)))), (6, (.v (.int .i64 ((i : Nat) : Int))))], [], 0, []⟩) w (StepQ _ _ _ _ _ _ _ _)
  cases hl0_1 : (ltI ↑i ↑W.length) with
  | true =>
    have ghl0_1 := ltI_true hl0_1
    have hb2 := mul_bd2 (hw i (by omega)).1 (hw i (by omega)).2 (hx i (by omega)).1 (hx i (by omega)).2
    refine Ev.step_on ⟨i + 1, by omega, trivial⟩ (by show W.length - (i + 1) < W.length - i; omega) ?_
    exact goes_told Try.checked.mixed (known_none) 200 (T' := ⟨[(0, (.xl (yw) (W.length) 1 (cI W))), (1, (.xl (yx) (X.length) 1 (cI X))), (5, (.v (.int .i64 (sumP (cI W) (cI X) (i + 1))))), (6, (.v (.int .i64 (((i + 1) : Nat) : Int))))], [], 0, []⟩) (e := .normal) (ps := [ltI ↑i ↑W.length = true, i < W.length, loadL Try.prog (cI W) (i * 1) 2 = some (AV.v (Value.int IntKind.i64 (intAt (cI W) (i * 1)))), i < X.length, loadL Try.prog (cI X) (i * 1) 2 = some (AV.v (Value.int IntKind.i64 (intAt (cI X) (i * 1)))), inR IntKind.i64 (intAt (cI W) (i * 1) * intAt (cI X) (i * 1)), inR IntKind.i64 (sumP (cI W) (cI X) i + intAt (cI W) (i * 1) * intAt (cI X) (i * 1)), inR IntKind.i64 (↑i + 1)]) [.go, .go, .go, .go, .b true, .go, .go, .go, .sym, .sym, .go, .go, .sym, .sym, .go, .go, .go, .go, .go, .go] (by kernel_rfl) (by kernel_rfl) ⟨hl0_1, (by omega), (cI_ld (by omega) 2 (Try.underlying2) rfl), (by omega), (cI_ld (by omega) 2 (Try.underlying2) rfl), (by show -9223372036854775808 ≤ _ ∧ _ ≤ 9223372036854775807; constructor <;> omega), (by show -9223372036854775808 ≤ _ ∧ _ ≤ 9223372036854775807; constructor <;> omega), (by show -9223372036854775808 ≤ _ ∧ _ ≤ 9223372036854775807; constructor <;> omega), trivial⟩ rfl
  | false =>
    have ghl0_1 := ltI_false hl0_1
    exact Ev.step_out (by show W.length ≤ i; omega) (goes_told Try.checked.mixed (known_none) 200 (T' := ⟨[(0, (.xl (yw) (W.length) 1 (cI W))), (1, (.xl (yx) (X.length) 1 (cI X))), (5, (.v (.int .i64 (sumP (cI W) (cI X) i)))), (6, (.v (.int .i64 ((i : Nat) : Int))))], [], 0, []⟩) (e := .exit 0) (ps := [ltI ↑i ↑W.length = false]) [.go, .go, .go, .go, .b false] (by kernel_rfl) (by kernel_rfl) ⟨hl0_1, trivial⟩ rfl)

set_option maxHeartbeats 2000000 in
theorem sm_4 (yw : Value) (yx : Value) (W : List Int) (X : List Int) (hl : W.length ≤ X.length) (hX : W.length ≤ 1000) (hw : ∀ i, i < W.length → 0 ≤ intAt (cI W) (i * 1) ∧ intAt (cI W) (i * 1) ≤ 1000) (hx : ∀ i, i < W.length → 0 ≤ intAt (cI X) (i * 1) ∧ intAt (cI X) (i * 1) ≤ 200) (w : World) : Goes Try.prog 25 smK3 (⟨[(0, (.xl (yw) (W.length) 1 (cI W))), (1, (.xl (yx) (X.length) 1 (cI X)))], [], 0, []⟩) w (OutR Try.prog Try.f38 25 (.int .i64 (sumP (cI W) (cI X) W.length)) w) := by
  exact goes_spine (T' := ⟨[(0, (.xl (yw) (W.length) 1 (cI W))), (1, (.xl (yx) (X.length) 1 (cI X))), (5, (.v (.int .i64 (.ofNat 0))))], [], 0, []⟩) (by kernel_rfl) (goes_told Try.checked.mixed (known_none) 200 (T' := ⟨[(0, (.xl (yw) (W.length) 1 (cI W))), (1, (.xl (yx) (X.length) 1 (cI X))), (5, (.v (.int .i64 (.ofNat 0))))], [], 0, []⟩) (e := .normal) (ps := []) [.go] (by kernel_rfl) (by kernel_rfl) trivial rfl) (sm_6 yw yx W X hl hX hw hx w)

set_option maxHeartbeats 2000000 in
theorem sm_2 (yw : Value) (yx : Value) (W : List Int) (X : List Int) (hl : W.length ≤ X.length) (hX : W.length ≤ 1000) (hw : ∀ i, i < W.length → 0 ≤ intAt (cI W) (i * 1) ∧ intAt (cI W) (i * 1) ≤ 1000) (hx : ∀ i, i < W.length → 0 ≤ intAt (cI X) (i * 1) ∧ intAt (cI X) (i * 1) ≤ 200) (w : World) : Goes Try.prog 25 smK1 (⟨[(0, .xl yw W.length 1 (cI W)), (1, .xl yx X.length 1 (cI X))], [], 0, []⟩) w (OutR Try.prog Try.f38 25 (.int .i64 (sumP (cI W) (cI X) W.length)) w) := by
  exact goes_spine (T' := ⟨[(0, (.xl (yw) (W.length) 1 (cI W))), (1, (.xl (yx) (X.length) 1 (cI X)))], [], 0, []⟩) (by kernel_rfl) (goes_told Try.checked.mixed (known_none) 200 (T' := ⟨[(0, (.xl (yw) (W.length) 1 (cI W))), (1, (.xl (yx) (X.length) 1 (cI X)))], [], 0, []⟩) (e := .normal) (ps := []) [.go] (by kernel_rfl) (by kernel_rfl) trivial rfl) (sm_4 yw yx W X hl hX hw hx w)

theorem sm_g (yw : Value) (yx : Value) (W : List Int) (X : List Int) (hl : W.length ≤ X.length) (hX : W.length ≤ 1000) (hw : ∀ i, i < W.length → 0 ≤ intAt (cI W) (i * 1) ∧ intAt (cI W) (i * 1) ≤ 1000) (hx : ∀ i, i < W.length → 0 ≤ intAt (cI X) (i * 1) ∧ intAt (cI X) (i * 1) ≤ 200) : GivesA Try.prog 38 [.xl yw W.length 1 (cI W), .xl yx X.length 1 (cI X)] (.int .i64 (sumP (cI W) (cI X) W.length)) :=
  givesA_parts 25 Try.func38 (by kernel_rfl) (by kernel_rfl) (by kernel_rfl) (fun w => goes_less (by kernel_rfl) (by kernel_rfl) (by kernel_rfl) (by kernel_rfl) (sm_2 yw yx W X hl hX hw hx w))

end
end Go.Proofs.Ytldekgkjofgacaa
