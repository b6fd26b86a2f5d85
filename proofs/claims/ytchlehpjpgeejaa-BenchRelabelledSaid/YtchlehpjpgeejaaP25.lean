/- Powers and longs of the laws. -/
import Derived.Test.YtchlehpjpgeejaaP24
namespace Go.Proofs.Ytchlehpjpgeejaa
set_option linter.unusedVariables false
set_option linter.unusedSimpArgs false
open Go Ev
noncomputable section

/-- A list of what a function gives for 0, 1, .. -/
def tabL (f : Nat → Int) : Nat → List Int
  | 0 => []
  | n + 1 => tabL f n ++ [f n]
theorem tabL_len (f : Nat → Int) : ∀ n : Nat, (tabL f n).length = n
  | 0 => rfl
  | n + 1 => by simp [tabL, tabL_len f n]
theorem tabL_at (f : Nat → Int) : ∀ (n i : Nat), i < n → (tabL f n)[i]? = some (f i)
  | 0, i, h => by omega
  | n + 1, i, h => by
    simp only [tabL]
    by_cases e : i < n
    · rw [List.getElem?_append_left (by rw [tabL_len]; exact e)]
      exact tabL_at f n i e
    · have : i = n := by omega
      subst this
      rw [List.getElem?_append_right (by rw [tabL_len]; omega), tabL_len]
      simp
theorem nrl_app {rs : List Nat} {L M : List Int} {x : Int} (e : M = L ++ [x]) : NRL rs (cI L ++ [.v (.int .i64 x)]) (cI M) := by
  subst e
  show NRL rs (cI L ++ cI [x]) _
  rw [cI_app]
  exact nrl_plain (cI_plain _)
theorem goes_loop1 {P : Program} {sz : Nat} {w0 : World} {ι : Type} {c : Code} {T0 T' : Ev.Lit} {T : ι → Ev.Lit} {R : ι → Prop} (h : Goes P sz c T0 w0 (LandQ sz T R w0 (fun _ _ _ => False))) (k : ∀ i, R i → T i = T') : Goes P sz c T0 w0 (Land sz isN T' w0) :=
  goes_mono h (fun e a w hp => by
    rcases hp with ⟨rfl, i, hi, σ, hN⟩ | ⟨_, hf⟩
    · rw [k i hi] at hN
      exact ⟨rfl, σ, hN⟩
    · exact hf.elim)
/-- A power by numbers. -/
def powA (c : List AV) (n i : Nat) : Int := if 0 < n then (IntKind.i64.wrap (intAt c (i % n * 1))).tmod 100001 else 0
theorem powA_bd {B : List Int} (hB : AllU B) (i : Nat) : 0 ≤ powA (cU B) B.length i ∧ powA (cU B) B.length i ≤ 100000 := by
  unfold powA
  split
  · rename_i h
    have hi : i % B.length * 1 < B.length := by rw [Nat.mul_one]; exact Nat.mod_lt _ h
    rw [cU_int hi]
    have hb := hB _ (List.getElem_mem hi)
    rw [show IntKind.i64.wrap B[i % B.length * 1] = B[i % B.length * 1] from IntWalk.i64_in _ ⟨by omega, by omega⟩, Int.tmod_eq_emod_of_nonneg hb.1]
    have h6 := Int.emod_nonneg B[i % B.length * 1] (show (100001 : Int) ≠ 0 by decide)
    have h7 := Int.emod_lt_of_pos B[i % B.length * 1] (show (0 : Int) < 100001 by decide)
    omega
  · omega
def pwT (z : Value) (B : List Int) (n : Nat) : Nat → Ev.Lit
  | 0 => ⟨[(0, .v (.int .i64 n)), (1, .xl z B.length 1 (cU B)), (5, .v (.slice none 0 0)), (6, .v (.int .i64 (0 : Nat)))], [], 0, []⟩
  | k + 1 => ⟨[(0, .v (.int .i64 n)), (1, .xl z B.length 1 (cU B)), (5, .slu 0 0 (k + 1) 0), (6, .v (.int .i64 ((k + 1 : Nat) : Int)))], [], 1, [(0, .row (cI (tabL (powA (cU B) B.length) (k + 1))) 2 1)]⟩

set_option maxHeartbeats 2000000 in
theorem pw_loop (z : Value) (B : List Int) (n : Nat) (hn : n ≤ 1000) (w : World) : Goes Try.prog 30 (tlC (hdC (tlC (tlC (bodyC Try.f44))))) (pwT z B n 0) w (Land 30 isN (pwT z B n n) w) := by
  refine goes_loop1 (goes_blockloop (ι := CnI n) (by kernel_rfl) (fun i : CnI n => pwT z B n i.1) (fun i => n - i.1) (R := fun i => n ≤ i.1) (Q := fun _ _ _ => False) (fun i => ?_) ⟨0, Nat.zero_le _⟩) (fun i hi => by rw [show i.1 = n from Nat.le_antisymm i.2 hi])
  obtain ⟨i, hi1⟩ := i
  cases i with
  | zero =>
    show (∃ j : CnI n, n - j.1 < n - 0 ∧ Goes Try.prog 30 (loopC (tlC (hdC (tlC (tlC (bodyC Try.f44)))))) (pwT z B n 0) w (Land 30 isN (pwT z B n j.1) w)) ∨ (n ≤ 0 ∧ Goes Try.prog 30 (loopC (tlC (hdC (tlC (tlC (bodyC Try.f44)))))) (pwT z B n 0) w (Land 30 (isX 0) (pwT z B n 0) w)) ∨ Goes Try.prog 30 (loopC (tlC (hdC (tlC (tlC (bodyC Try.f44)))))) (pwT z B n 0) w (fun e a w' => e = .ret ∧ False)
    cases hq1 : (ltI ↑0 ↑n) with
    | true =>
      have ghq1 := ltI_true hq1
      cases hq2 : (ltI 0 ↑B.length) with
      | true =>
        have ghq2 := ltI_true hq2
        refine .inl ⟨⟨0 + 1, by omega⟩, (by show n - (0 + 1) < n - 0; omega), ?_⟩
        have e : tabL (powA (cU B) B.length) (0 + 1) = tabL (powA (cU B) B.length) 0 ++ [(IntKind.i64.wrap (intAt (cU B) (0 % B.length * 1))).tmod 100001] := by show _ ++ [powA (cU B) B.length 0] = _; rw [show powA (cU B) B.length 0 = (IntKind.i64.wrap (intAt (cU B) (0 % B.length * 1))).tmod 100001 from if_pos (by omega)]
        show Goes _ _ _ _ _ (Land _ isN ⟨[(0, .v (.int .i64 n)), (1, .xl z B.length 1 (cU B)), (5, .slu 0 0 (0 + 1) 0), (6, .v (.int .i64 ((0 + 1 : Nat) : Int)))], [], 1, [(0, .row (cI (tabL (powA (cU B) B.length) (0 + 1))) 2 1)]⟩ _)
        exact goes_cutR Try.checked.mixed known_none 200 (e := .normal) (m := 2) (ps := [ltI ↑0 ↑n = true, ltI 0 ↑B.length = true, (B.length : Int) ≠ 0, 0 % B.length < B.length, loadL Try.prog (cU B) (0 % B.length * 1) 81 = some (AV.v (Value.int IntKind.u32 (intAt (cU B) (0 % B.length * 1)))), (100001 : Int) ≠ 0, inR IntKind.i64 (↑0 + 1)]) [.go, .go, .go, .b true, .go, .go, .go, .go, .b true, .go, .go, .go, .go, .go, .sym, .sym, .go, .go, .go, .go, .go, .go, .go, .go, .go, .go, .go] [1] [.v (.int .i64 n), .xl z B.length 1 (cU B), .slu 1 0 (0 + 1) 0, .v (.int .i64 (((0 : Nat) : Int) + 1))] [.row (cI (tabL (powA (cU B) B.length) 0) ++ [.v (.int .i64 ((IntKind.i64.wrap (intAt (cU B) (0 % B.length * 1))).tmod 100001))]) 2 1] (by kernel_rfl) (by kernel_rfl) ⟨hq1, hq2, (by omega), (Nat.mod_lt _ (by omega)), (by rw [Nat.mul_one]; exact cU_load (Nat.mod_lt _ (by omega)) 81 (Try.underlying81) rfl), (by decide), (by show -9223372036854775808 ≤ _ ∧ _ ≤ 9223372036854775807; constructor <;> omega), trivial⟩ rfl rfl (by decide) rfl ⟨nr_v _, nr_xl (nrl_plain (cU_plain B)), nr_slu rfl, nr_v _, trivial⟩ ⟨⟨by show 0 < 1; decide, nrb_row (nrl_app e)⟩, trivial⟩
      | false =>
        have ghq2 := ltI_false hq2
        refine .inl ⟨⟨0 + 1, by omega⟩, (by show n - (0 + 1) < n - 0; omega), ?_⟩
        have e : tabL (powA (cU B) B.length) (0 + 1) = tabL (powA (cU B) B.length) 0 ++ [0] := by show _ ++ [powA (cU B) B.length 0] = _; rw [show powA (cU B) B.length 0 = 0 from if_neg (by omega)]
        show Goes _ _ _ _ _ (Land _ isN ⟨[(0, .v (.int .i64 n)), (1, .xl z B.length 1 (cU B)), (5, .slu 0 0 (0 + 1) 0), (6, .v (.int .i64 ((0 + 1 : Nat) : Int)))], [], 1, [(0, .row (cI (tabL (powA (cU B) B.length) (0 + 1))) 2 1)]⟩ _)
        exact goes_cutR Try.checked.mixed known_none 200 (e := .normal) (m := 2) (ps := [ltI ↑0 ↑n = true, ltI 0 ↑B.length = false, inR IntKind.i64 (↑0 + 1)]) [.go, .go, .go, .b true, .go, .go, .go, .go, .b false, .go, .go, .go, .go, .go, .go, .go, .go] [1] [.v (.int .i64 n), .xl z B.length 1 (cU B), .slu 1 0 (0 + 1) 0, .v (.int .i64 (((0 : Nat) : Int) + 1))] [.row (cI (tabL (powA (cU B) B.length) 0) ++ [.v (.int .i64 (0))]) 2 1] (by kernel_rfl) (by kernel_rfl) ⟨hq1, hq2, (by show -9223372036854775808 ≤ _ ∧ _ ≤ 9223372036854775807; constructor <;> omega), trivial⟩ rfl rfl (by decide) rfl ⟨nr_v _, nr_xl (nrl_plain (cU_plain B)), nr_slu rfl, nr_v _, trivial⟩ ⟨⟨by show 0 < 1; decide, nrb_row (nrl_app e)⟩, trivial⟩
    | false =>
      have ghq1 := ltI_false hq1
      exact .inr (.inl ⟨(by show n ≤ 0; omega), goes_told Try.checked.mixed known_none 200 (e := .exit 0) (ps := [ltI ↑0 ↑n = false]) [.go, .go, .go, .b false] (by kernel_rfl) (by kernel_rfl) ⟨hq1, trivial⟩ rfl⟩)
  | succ k =>
    show (∃ j : CnI n, n - j.1 < n - (k + 1) ∧ Goes Try.prog 30 (loopC (tlC (hdC (tlC (tlC (bodyC Try.f44)))))) (pwT z B n (k + 1)) w (Land 30 isN (pwT z B n j.1) w)) ∨ (n ≤ (k + 1) ∧ Goes Try.prog 30 (loopC (tlC (hdC (tlC (tlC (bodyC Try.f44)))))) (pwT z B n (k + 1)) w (Land 30 (isX 0) (pwT z B n (k + 1)) w)) ∨ Goes Try.prog 30 (loopC (tlC (hdC (tlC (tlC (bodyC Try.f44)))))) (pwT z B n (k + 1)) w (fun e a w' => e = .ret ∧ False)
    cases hq1 : (ltI ((k + 1 : Nat) : Int) ↑n) with
    | true =>
      have ghq1 := ltI_true hq1
      cases hq2 : (ltI 0 ↑B.length) with
      | true =>
        have ghq2 := ltI_true hq2
        refine .inl ⟨⟨(k + 1) + 1, by omega⟩, (by show n - ((k + 1) + 1) < n - (k + 1); omega), ?_⟩
        have e : tabL (powA (cU B) B.length) ((k + 1) + 1) = tabL (powA (cU B) B.length) (k + 1) ++ [(IntKind.i64.wrap (intAt (cU B) ((k + 1) % B.length * 1))).tmod 100001] := by show _ ++ [powA (cU B) B.length (k + 1)] = _; rw [show powA (cU B) B.length (k + 1) = (IntKind.i64.wrap (intAt (cU B) ((k + 1) % B.length * 1))).tmod 100001 from if_pos (by omega)]
        show Goes _ _ _ _ _ (Land _ isN ⟨[(0, .v (.int .i64 n)), (1, .xl z B.length 1 (cU B)), (5, .slu 0 0 ((k + 1) + 1) 0), (6, .v (.int .i64 (((k + 1) + 1 : Nat) : Int)))], [], 1, [(0, .row (cI (tabL (powA (cU B) B.length) ((k + 1) + 1))) 2 1)]⟩ _)
        exact goes_cutR Try.checked.mixed known_none 200 (e := .normal) (m := 3) (ps := [ltI ((k + 1 : Nat) : Int) ↑n = true, ltI 0 ↑B.length = true, (B.length : Int) ≠ 0, (k + 1) % B.length < B.length, loadL Try.prog (cU B) ((k + 1) % B.length * 1) 81 = some (AV.v (Value.int IntKind.u32 (intAt (cU B) ((k + 1) % B.length * 1)))), (100001 : Int) ≠ 0, (cI (tabL (powA (cU B) B.length) (k + 1))).length = (k + 1) * 1, (k + 1) + 1 ≤ 1000000, inR IntKind.i64 (((k + 1 : Nat) : Int) + 1)]) [.go, .go, .go, .b true, .go, .go, .go, .go, .b true, .go, .go, .go, .go, .go, .sym, .sym, .go, .go, .go, .go, .go, .go, .sym, .go, .go, .go, .go] [2] [.v (.int .i64 n), .xl z B.length 1 (cU B), .slu 2 0 ((k + 1) + 1) 0, .v (.int .i64 ((((k + 1) : Nat) : Int) + 1))] [.row (cI (tabL (powA (cU B) B.length) (k + 1)) ++ [.v (.int .i64 ((IntKind.i64.wrap (intAt (cU B) ((k + 1) % B.length * 1))).tmod 100001))]) 2 1] (by kernel_rfl) (by kernel_rfl) ⟨hq1, hq2, (by omega), (Nat.mod_lt _ (by omega)), (by rw [Nat.mul_one]; exact cU_load (Nat.mod_lt _ (by omega)) 81 (Try.underlying81) rfl), (by decide), (by rw [cI_len, tabL_len]; omega), (by omega), (by show -9223372036854775808 ≤ _ ∧ _ ≤ 9223372036854775807; constructor <;> omega), trivial⟩ rfl rfl (by decide) rfl ⟨nr_v _, nr_xl (nrl_plain (cU_plain B)), nr_slu rfl, nr_v _, trivial⟩ ⟨⟨by show 0 < 1; decide, nrb_row (nrl_app e)⟩, trivial⟩
      | false =>
        have ghq2 := ltI_false hq2
        refine .inl ⟨⟨(k + 1) + 1, by omega⟩, (by show n - ((k + 1) + 1) < n - (k + 1); omega), ?_⟩
        have e : tabL (powA (cU B) B.length) ((k + 1) + 1) = tabL (powA (cU B) B.length) (k + 1) ++ [0] := by show _ ++ [powA (cU B) B.length (k + 1)] = _; rw [show powA (cU B) B.length (k + 1) = 0 from if_neg (by omega)]
        show Goes _ _ _ _ _ (Land _ isN ⟨[(0, .v (.int .i64 n)), (1, .xl z B.length 1 (cU B)), (5, .slu 0 0 ((k + 1) + 1) 0), (6, .v (.int .i64 (((k + 1) + 1 : Nat) : Int)))], [], 1, [(0, .row (cI (tabL (powA (cU B) B.length) ((k + 1) + 1))) 2 1)]⟩ _)
        exact goes_cutR Try.checked.mixed known_none 200 (e := .normal) (m := 3) (ps := [ltI ((k + 1 : Nat) : Int) ↑n = true, ltI 0 ↑B.length = false, (cI (tabL (powA (cU B) B.length) (k + 1))).length = (k + 1) * 1, (k + 1) + 1 ≤ 1000000, inR IntKind.i64 (((k + 1 : Nat) : Int) + 1)]) [.go, .go, .go, .b true, .go, .go, .go, .go, .b false, .go, .go, .go, .sym, .go, .go, .go, .go] [2] [.v (.int .i64 n), .xl z B.length 1 (cU B), .slu 2 0 ((k + 1) + 1) 0, .v (.int .i64 ((((k + 1) : Nat) : Int) + 1))] [.row (cI (tabL (powA (cU B) B.length) (k + 1)) ++ [.v (.int .i64 (0))]) 2 1] (by kernel_rfl) (by kernel_rfl) ⟨hq1, hq2, (by rw [cI_len, tabL_len]; omega), (by omega), (by show -9223372036854775808 ≤ _ ∧ _ ≤ 9223372036854775807; constructor <;> omega), trivial⟩ rfl rfl (by decide) rfl ⟨nr_v _, nr_xl (nrl_plain (cU_plain B)), nr_slu rfl, nr_v _, trivial⟩ ⟨⟨by show 0 < 1; decide, nrb_row (nrl_app e)⟩, trivial⟩
    | false =>
      have ghq1 := ltI_false hq1
      exact .inr (.inl ⟨(by show n ≤ (k + 1); omega), goes_told Try.checked.mixed known_none 200 (e := .exit 0) (ps := [ltI ((k + 1 : Nat) : Int) ↑n = false]) [.go, .go, .go, .b false] (by kernel_rfl) (by kernel_rfl) ⟨hq1, trivial⟩ rfl⟩)

theorem Powers_g (z : Value) (B : List Int) (n : Nat) (h1 : 1 ≤ n) (hn : n ≤ 1000) : GivesB Try.prog 44 [.v (.int .i64 n), .xl z B.length 1 (cU B)] (fun b => .slu b 0 n 0) (.row (cI (tabL (powA (cU B) B.length) n)) 2 1) := by
  obtain ⟨k, rfl⟩ : ∃ k, n = k + 1 := ⟨n - 1, by omega⟩
  refine givesB_parts 30 Try.func44 (by kernel_rfl) (by kernel_rfl) (by kernel_rfl) (one_slu (k + 1) (cI_plain _)) (fun w => ?_)
  refine goes_spine (T' := ⟨[(0, .v (.int .i64 ((k + 1 : Nat) : Int))), (1, .xl z B.length 1 (cU B))], [], 0, []⟩) (by kernel_rfl) (goes_told Try.checked.mixed known_none 200 (e := .normal) (ps := []) [.go] (by kernel_rfl) (by kernel_rfl) trivial rfl) ?_
  refine goes_spine (T' := ⟨[(0, .v (.int .i64 ((k + 1 : Nat) : Int))), (1, .xl z B.length 1 (cU B)), (5, .v (.slice none 0 0))], [], 0, []⟩) (by kernel_rfl) (goes_told Try.checked.mixed known_none 200 (e := .normal) (ps := []) [.go] (by kernel_rfl) (by kernel_rfl) trivial rfl) ?_
  refine goes_spine (T' := pwT z B (k + 1) (k + 1)) (by kernel_rfl) (goes_spine (T' := pwT z B (k + 1) 0) (by kernel_rfl) (goes_told Try.checked.mixed known_none 200 (e := .normal) (ps := []) [.go] (by kernel_rfl) (by kernel_rfl) trivial rfl) (pw_loop z B (k + 1) hn w)) ?_
  exact goes_outB Try.checked.mixed known_none 200 (ps := []) [.go, .go] 0 (by kernel_rfl) (by kernel_rfl) trivial

theorem longs_loop_bd : True := trivial

theorem lg_loop (y z : Value) (L : List Int) (hL : L.length ≤ 1000) (w : World) : Goes Try.prog 26 (tlC (hdC (tlC (tlC (bodyC Try.f22))))) (⟨[(0, .xl y L.length 1 (cI L)), (1, .xl z L.length 1 (cI L)), (5, .v (.int .i64 (0 : Nat)))], [], 0, []⟩) w (Land 26 isN (⟨[(0, .xl y L.length 1 (cI L)), (1, .xl z L.length 1 (cI L)), (5, .v (.int .i64 (L.length : Nat)))], [], 0, []⟩) w) := by
  refine goes_loop1 (goes_blockloop (ι := CnI L.length) (by kernel_rfl) (fun i : CnI L.length => ⟨[(0, .xl y L.length 1 (cI L)), (1, .xl z L.length 1 (cI L)), (5, .v (.int .i64 (i.1 : Nat)))], [], 0, []⟩) (fun i => L.length - i.1) (R := fun i => L.length ≤ i.1) (Q := fun _ _ _ => False) (fun i => ?_) ⟨0, Nat.zero_le _⟩) (fun i hi => by rw [show i.1 = L.length from Nat.le_antisymm i.2 hi])
  obtain ⟨i, hi1⟩ := i
  show (∃ j : CnI L.length, L.length - j.1 < L.length - i ∧ Goes Try.prog 26 (loopC (tlC (hdC (tlC (tlC (bodyC Try.f22)))))) (⟨[(0, .xl y L.length 1 (cI L)), (1, .xl z L.length 1 (cI L)), (5, .v (.int .i64 (i : Nat)))], [], 0, []⟩) w (Land 26 isN (⟨[(0, .xl y L.length 1 (cI L)), (1, .xl z L.length 1 (cI L)), (5, .v (.int .i64 (j.1 : Nat)))], [], 0, []⟩) w)) ∨ (L.length ≤ i ∧ Goes Try.prog 26 (loopC (tlC (hdC (tlC (tlC (bodyC Try.f22)))))) (⟨[(0, .xl y L.length 1 (cI L)), (1, .xl z L.length 1 (cI L)), (5, .v (.int .i64 (i : Nat)))], [], 0, []⟩) w (Land 26 (isX 0) (⟨[(0, .xl y L.length 1 (cI L)), (1, .xl z L.length 1 (cI L)), (5, .v (.int .i64 (i : Nat)))], [], 0, []⟩) w)) ∨ Goes Try.prog 26 (loopC (tlC (hdC (tlC (tlC (bodyC Try.f22)))))) (⟨[(0, .xl y L.length 1 (cI L)), (1, .xl z L.length 1 (cI L)), (5, .v (.int .i64 (i : Nat)))], [], 0, []⟩) w (fun e a w' => e = .ret ∧ False)
  cases hq1 : (ltI ↑i ↑L.length) with
  | true =>
    have ghq1 := ltI_true hq1
    cases hq2 : (eqI (intAt (cI L) (i * 1)) (intAt (cI L) (i * 1))) with
    | true =>
      exact .inl ⟨⟨i + 1, by omega⟩, (by show L.length - (i + 1) < L.length - i; omega), goes_told Try.checked.mixed known_none 200 (e := .normal) (ps := [ltI ↑i ↑L.length = true, i < L.length, loadL Try.prog (cI L) (i * 1) 2 = some (AV.v (Value.int IntKind.i64 (intAt (cI L) (i * 1)))), i < L.length, loadL Try.prog (cI L) (i * 1) 2 = some (AV.v (Value.int IntKind.i64 (intAt (cI L) (i * 1)))), (!eqI (intAt (cI L) (i * 1)) (intAt (cI L) (i * 1))) = false, inR IntKind.i64 (↑i + 1)]) [.go, .go, .go, .go, .b true, .go, .go, .sym, .sym, .go, .go, .sym, .sym, .go, .b false, .go, .go, .go] (by kernel_rfl) (by kernel_rfl) ⟨hq1, (by omega), (by rw [Nat.mul_one]; exact cI_load (by omega) 2 (Try.underlying2) rfl), (by omega), (by rw [Nat.mul_one]; exact cI_load (by omega) 2 (Try.underlying2) rfl), (by rw [hq2]; rfl), (by show -9223372036854775808 ≤ _ ∧ _ ≤ 9223372036854775807; constructor <;> omega), trivial⟩ rfl⟩
    | false =>
      exfalso
      simp [eqI_iff] at *
  | false =>
    have ghq1 := ltI_false hq1
    exact .inr (.inl ⟨(by show L.length ≤ i; omega), goes_told Try.checked.mixed known_none 200 (e := .exit 0) (ps := [ltI ↑i ↑L.length = false]) [.go, .go, .go, .go, .b false] (by kernel_rfl) (by kernel_rfl) ⟨hq1, trivial⟩ rfl⟩)

theorem longs_g (y z : Value) (L : List Int) (hL : L.length ≤ 1000) : GivesA Try.prog 22 [.xl y L.length 1 (cI L), .xl z L.length 1 (cI L)] (.bool true) := by
  refine givesA_parts 26 Try.func22 (by kernel_rfl) (by kernel_rfl) (by kernel_rfl) (fun w => ?_)
  refine goes_spine (T' := ⟨[(0, .xl y L.length 1 (cI L)), (1, .xl z L.length 1 (cI L))], [], 0, []⟩) (by kernel_rfl) (goes_told Try.checked.mixed known_none 200 (e := .normal) (ps := []) [.go] (by kernel_rfl) (by kernel_rfl) trivial rfl) ?_
  refine goes_spine (T' := ⟨[(0, .xl y L.length 1 (cI L)), (1, .xl z L.length 1 (cI L))], [], 0, []⟩) (by kernel_rfl) (goes_told Try.checked.mixed known_none 200 (e := .normal) (ps := [(!eqI ↑L.length ↑L.length) = false]) [.go, .go, .go, .go, .go, .b false] (by kernel_rfl) (by kernel_rfl) ⟨by rw [eqI_iff]; simp, trivial⟩ rfl) ?_
  refine goes_spine (T' := ⟨[(0, .xl y L.length 1 (cI L)), (1, .xl z L.length 1 (cI L)), (5, .v (.int .i64 (L.length : Nat)))], [], 0, []⟩) (by kernel_rfl) (goes_spine (T' := ⟨[(0, .xl y L.length 1 (cI L)), (1, .xl z L.length 1 (cI L)), (5, .v (.int .i64 (0 : Nat)))], [], 0, []⟩) (by kernel_rfl) (goes_told Try.checked.mixed known_none 200 (e := .normal) (ps := []) [.go] (by kernel_rfl) (by kernel_rfl) trivial rfl) (lg_loop y z L hL w)) ?_
  exact goes_out Try.checked.mixed known_none 200 (v := .v (.bool true)) (ps := []) [.go] (by kernel_rfl) (by kernel_rfl) trivial rfl

end
end Go.Proofs.Ytchlehpjpgeejaa
