import Derived.Test.YtchlehpjpgeejaaP22
/- CheckProgramme on both sides. -/
namespace Go.Proofs.Ytchlehpjpgeejaa
set_option linter.unusedVariables false
set_option linter.unusedSimpArgs false
open Go Ev
noncomputable section
theorem prE_arg {n : Int} {c : List AV} {m : Nat} (h : ¬ (2 ≤ n ∧ n ≤ 12)) : prE n c m = 2 := if_neg h
theorem prE_many {n : Int} {c : List AV} {m : Nat} (h : 2 ≤ n ∧ n ≤ 12) (h2 : ¬ m ≤ 80) : prE n c m = 6 := by unfold prE; rw [if_pos h, if_neg h2]
theorem prE_range {n : Int} {c : List AV} {m i : Nat} (h : 2 ≤ n ∧ n ≤ 12) (h2 : m ≤ 80) (hi : i < m) (h3 : ¬ pairAt n c i) : prE n c m = 3 := by
  unfold prE
  rw [if_pos h, if_pos h2]
  cases e : okP n c m with
  | true => exact absurd (okP_all.1 e i hi) h3
  | false => rfl
theorem prE_ok {n : Int} {c : List AV} {m : Nat} (h : 2 ≤ n ∧ n ≤ 12) (h2 : m ≤ 80) (h3 : ∀ i, i < m → pairAt n c i) : prE n c m = 0 := by
  unfold prE
  rw [if_pos h, if_pos h2, okP_all.2 h3]
def PrI (n : Int) (c : List AV) (m : Nat) : Type := { i : Nat // i ≤ m ∧ ∀ j, j < i → pairAt n c j }
theorem pairAt_next {n : Int} {c : List AV} {i : Nat} (h : ∀ j, j < i → pairAt n c j) (k : pairAt n c i) : ∀ j, j < i + 1 → pairAt n c j := fun j hj => by
  by_cases e : j < i
  · exact h j e
  · rw [show j = i by omega]; exact k
def cpC0 : Code := bodyC Try.f20
def cpC1 : Code := tlC cpC0
set_option maxHeartbeats 2000000 in
theorem cp_0 (y : Value) (P : List (Int × Int)) (n : Int)  (w : World) (hc : Goes Try.prog 36 cpC1 (⟨[(0, .v (.int .i64 n)), (1, .xl y P.length 2 (cR P))], [], 0, []⟩) w (OutR Try.prog Try.f20 36 (.int .i64 (prE n (cR P) P.length)) w)) : Goes Try.prog 36 cpC0 (argLit [.v (.int .i64 n), .xl y P.length 2 (cR P)]) w (OutR Try.prog Try.f20 36 (.int .i64 (prE n (cR P) P.length)) w) := by
  exact goes_spine (T' := ⟨[(0, .v (.int .i64 n)), (1, .xl y P.length 2 (cR P))], [], 0, []⟩) (by kernel_rfl) (goes_told Try.checked.mixed (known_none) 200 (e := .normal) (ps := []) [.go] (by kernel_rfl) (by kernel_rfl) trivial rfl) (hc)
def cpC2 : Code := tlC cpC1
set_option maxHeartbeats 2000000 in
theorem cp_1 (y : Value) (P : List (Int × Int)) (n : Int)  (w : World) (hc : (2 ≤ n ∧ n ≤ 12) → Goes Try.prog 36 cpC2 (⟨[(0, .v (.int .i64 n)), (1, .xl y P.length 2 (cR P))], [], 0, []⟩) w (OutR Try.prog Try.f20 36 (.int .i64 (prE n (cR P) P.length)) w)) : Goes Try.prog 36 cpC1 (⟨[(0, .v (.int .i64 n)), (1, .xl y P.length 2 (cR P))], [], 0, []⟩) w (OutR Try.prog Try.f20 36 (.int .i64 (prE n (cR P) P.length)) w) := by
  cases hq1 : (ltI n 2) with
  | true =>
    have ghq1 := ltI_true hq1
    rw [prE_arg (by omega)]
    exact goes_out Try.checked.mixed (known_none) 200 (v := (.v (.int .i64 (.ofNat 2)))) (ps := [(!ltI n 2) = false, false = false, false = false, (!false) = true]) [.go, .go, .go, .go, .go, .go, .go, .go, .b false, .b false, .b false, .go, .go, .go, .go, .b true, .go] (by kernel_rfl) (by kernel_rfl) ⟨(by rw [hq1]; rfl), rfl, rfl, rfl, trivial⟩ rfl
  | false =>
    have ghq1 := ltI_false hq1
    cases hq2 : (ltI 12 n) with
    | true =>
      have ghq2 := ltI_true hq2
      rw [prE_arg (by omega)]
      exact goes_out Try.checked.mixed (known_none) 200 (v := (.v (.int .i64 (.ofNat 2)))) (ps := [(!ltI n 2) = true, true = true, true = true, (!!ltI 12 n) = true]) [.go, .go, .go, .go, .go, .go, .go, .go, .b true, .go, .b true, .go, .b true, .go, .go, .go, .go, .go, .b true, .go] (by kernel_rfl) (by kernel_rfl) ⟨(by rw [hq1]; rfl), rfl, rfl, (by rw [hq2]; rfl), trivial⟩ rfl
    | false =>
      have ghq2 := ltI_false hq2
      exact goes_spine (T' := ⟨[(0, .v (.int .i64 n)), (1, .xl y P.length 2 (cR P))], [], 0, []⟩) (by kernel_rfl) (goes_told Try.checked.mixed (known_none) 200 (e := .normal) (ps := [(!ltI n 2) = true, true = true, true = true, (!!ltI 12 n) = false]) [.go, .go, .go, .go, .go, .go, .go, .go, .b true, .go, .b true, .go, .b true, .go, .go, .go, .go, .go, .b false] (by kernel_rfl) (by kernel_rfl) ⟨(by rw [hq1]; rfl), rfl, rfl, (by rw [hq2]; rfl), trivial⟩ rfl) (hc (by omega))
def cpC3 : Code := tlC cpC2
set_option maxHeartbeats 2000000 in
theorem cp_2 (y : Value) (P : List (Int × Int)) (n : Int) (hn : 2 ≤ n ∧ n ≤ 12) (w : World) (hc : P.length ≤ 80 → Goes Try.prog 36 cpC3 (⟨[(0, .v (.int .i64 n)), (1, .xl y P.length 2 (cR P))], [], 0, []⟩) w (OutR Try.prog Try.f20 36 (.int .i64 (prE n (cR P) P.length)) w)) : Goes Try.prog 36 cpC2 (⟨[(0, .v (.int .i64 n)), (1, .xl y P.length 2 (cR P))], [], 0, []⟩) w (OutR Try.prog Try.f20 36 (.int .i64 (prE n (cR P) P.length)) w) := by
  cases hq1 : (ltI 80 ↑P.length) with
  | true =>
    have ghq1 := ltI_true hq1
    rw [prE_many hn (by omega)]
    exact goes_out Try.checked.mixed (known_none) 200 (v := (.v (.int .i64 (.ofNat 6)))) (ps := [ltI 80 ↑P.length = true]) [.go, .go, .go, .b true, .go] (by kernel_rfl) (by kernel_rfl) ⟨hq1, trivial⟩ rfl
  | false =>
    have ghq1 := ltI_false hq1
    exact goes_spine (T' := ⟨[(0, .v (.int .i64 n)), (1, .xl y P.length 2 (cR P))], [], 0, []⟩) (by kernel_rfl) (goes_told Try.checked.mixed (known_none) 200 (e := .normal) (ps := [ltI 80 ↑P.length = false]) [.go, .go, .go, .b false] (by kernel_rfl) (by kernel_rfl) ⟨hq1, trivial⟩ rfl) (hc (by omega))
def cpC4 : Code := tlC cpC3
set_option maxHeartbeats 4000000 in
theorem cp_3 (y : Value) (P : List (Int × Int)) (n : Int) (hn : 2 ≤ n ∧ n ≤ 12) (hm : P.length ≤ 80) (w : World) (hc : ∀ i : PrI n (cR P) P.length, P.length ≤ i.1 → Goes Try.prog 36 cpC4 (⟨[(0, .v (.int .i64 n)), (1, .xl y P.length 2 (cR P)), (13, .xl y P.length 2 (cR P)), (14, .v (.int .i64 P.length)), (15, .v (.int .i64 (i.1 : Nat)))], [], 0, []⟩) w (OutR Try.prog Try.f20 36 (.int .i64 (prE n (cR P) P.length)) w)) : Goes Try.prog 36 cpC3 (⟨[(0, .v (.int .i64 n)), (1, .xl y P.length 2 (cR P))], [], 0, []⟩) w (OutR Try.prog Try.f20 36 (.int .i64 (prE n (cR P) P.length)) w) := by
  refine goes_spineQ (ι := PrI n (cR P) P.length) (T := fun i => ⟨[(0, .v (.int .i64 n)), (1, .xl y P.length 2 (cR P)), (13, .xl y P.length 2 (cR P)), (14, .v (.int .i64 P.length)), (15, .v (.int .i64 (i.1 : Nat)))], [], 0, []⟩) (R := fun i => P.length ≤ i.1) (by kernel_rfl)
    (goes_spine (T' := ⟨[(0, .v (.int .i64 n)), (1, .xl y P.length 2 (cR P)), (13, .xl y P.length 2 (cR P)), (14, .v (.int .i64 P.length)), (15, .v (.int .i64 (0 : Nat)))], [], 0, []⟩) (by kernel_rfl) (goes_told Try.checked.mixed (known_none) 200 (e := .normal) (ps := []) [.go, .go, .go] (by kernel_rfl) (by kernel_rfl) trivial rfl)
      (goes_blockloop (by kernel_rfl) (fun i : PrI n (cR P) P.length => ⟨[(0, .v (.int .i64 n)), (1, .xl y P.length 2 (cR P)), (13, .xl y P.length 2 (cR P)), (14, .v (.int .i64 P.length)), (15, .v (.int .i64 (i.1 : Nat)))], [], 0, []⟩) (fun i => P.length - i.1) (fun i => ?_) ⟨0, Nat.zero_le _, fun j hj => by omega⟩)) hc
  obtain ⟨i, hi1, hi2⟩ := i
  show (∃ j : PrI n (cR P) P.length, P.length - j.1 < P.length - i ∧ Goes Try.prog 36 (loopC (tlC (hdC cpC3))) (⟨[(0, .v (.int .i64 n)), (1, .xl y P.length 2 (cR P)), (13, .xl y P.length 2 (cR P)), (14, .v (.int .i64 P.length)), (15, .v (.int .i64 (i : Nat)))], [], 0, []⟩) w (Land 36 isN (⟨[(0, .v (.int .i64 n)), (1, .xl y P.length 2 (cR P)), (13, .xl y P.length 2 (cR P)), (14, .v (.int .i64 P.length)), (15, .v (.int .i64 (j.1 : Nat)))], [], 0, []⟩) w)) ∨ (P.length ≤ i ∧ Goes Try.prog 36 (loopC (tlC (hdC cpC3))) (⟨[(0, .v (.int .i64 n)), (1, .xl y P.length 2 (cR P)), (13, .xl y P.length 2 (cR P)), (14, .v (.int .i64 P.length)), (15, .v (.int .i64 (i : Nat)))], [], 0, []⟩) w (Land 36 (isX 0) (⟨[(0, .v (.int .i64 n)), (1, .xl y P.length 2 (cR P)), (13, .xl y P.length 2 (cR P)), (14, .v (.int .i64 P.length)), (15, .v (.int .i64 (i : Nat)))], [], 0, []⟩) w)) ∨ Goes Try.prog 36 (loopC (tlC (hdC cpC3))) (⟨[(0, .v (.int .i64 n)), (1, .xl y P.length 2 (cR P)), (13, .xl y P.length 2 (cR P)), (14, .v (.int .i64 P.length)), (15, .v (.int .i64 (i : Nat)))], [], 0, []⟩) w (fun e a w' => e = .ret ∧ OutR Try.prog Try.f20 36 (.int .i64 (prE n (cR P) P.length)) w .ret a w')
  have hcl := cR_len P
  cases hq1 : (ltI ↑i ↑P.length) with
  | true =>
    have ghq1 := ltI_true hq1
    cases hq2 : (ltI (intAt (cR P) (i * 2 + 0)) 0) with
    | true =>
      have ghq2 := ltI_true hq2
      rw [prE_range hn hm (show i < P.length by omega) (by unfold pairAt; omega)]
      exact .inr (.inr (goes_ret Try.checked.mixed (known_none) 200 (v := (.v (.int .i64 (.ofNat 3)))) (ps := [ltI ↑i ↑P.length = true, i < P.length, loadL Try.prog (cR P) (i * 2) 75 = some (AV.agg [AV.v (Value.int IntKind.i64 (intAt (cR P) (i * 2 + 0))), AV.v (Value.int IntKind.i64 (intAt (cR P) (i * 2 + 1)))]), ltI (intAt (cR P) (i * 2 + 0)) 0 = true, true = true, true = true, true = true, true = true, true = true, true = true, true = true, true = true, true = true]) [.go, .b true, .sym, .sym, .go, .go, .go, .go, .go, .go, .b true, .b true, .b true, .b true, .b true, .go, .go, .b true, .b true, .b true, .b true, .go, .b true, .go] (by kernel_rfl) (by kernel_rfl) ⟨hq1, (by omega), (cR_load (by omega) 75 (Try.underlying75) rfl (inf := (Try.prog.info? 75).getD default) (by kernel_rfl) (by kernel_rfl)), hq2, rfl, rfl, rfl, rfl, rfl, rfl, rfl, rfl, rfl, trivial⟩ rfl))
    | false =>
      have ghq2 := ltI_false hq2
      cases hq3 : (ltI (intAt (cR P) (i * 2 + 0)) (intAt (cR P) (i * 2 + 1))) with
      | true =>
        have ghq3 := ltI_true hq3
        cases hq4 : (ltI (intAt (cR P) (i * 2 + 1)) n) with
        | true =>
          have ghq4 := ltI_true hq4
          refine .inl ⟨⟨i + 1, by omega, pairAt_next hi2 ⟨by omega, by omega, by omega⟩⟩, (by show P.length - (i + 1) < P.length - i; omega), ?_⟩
          exact goes_cut Try.checked.mixed (known_none) 200 (e := .normal) (m := 1) (ps := [ltI ↑i ↑P.length = true, i < P.length, loadL Try.prog (cR P) (i * 2) 75 = some (AV.agg [AV.v (Value.int IntKind.i64 (intAt (cR P) (i * 2 + 0))), AV.v (Value.int IntKind.i64 (intAt (cR P) (i * 2 + 1)))]), ltI (intAt (cR P) (i * 2 + 0)) 0 = false, false = false, false = false, false = false, false = false, (!ltI (intAt (cR P) (i * 2 + 0)) (intAt (cR P) (i * 2 + 1))) = false, false = false, false = false, false = false, (!ltI (intAt (cR P) (i * 2 + 1)) n) = false, inR IntKind.i64 (↑i + 1)]) [.go, .b true, .sym, .sym, .go, .go, .go, .go, .go, .go, .b false, .go, .b false, .go, .b false, .go, .b false, .go, .b false, .go, .go, .go, .b false, .go, .b false, .go, .b false, .go, .b false, .go, .go, .b false, .go, .go] (by kernel_rfl) (by kernel_rfl) ⟨hq1, (by omega), (cR_load (by omega) 75 (Try.underlying75) rfl (inf := (Try.prog.info? 75).getD default) (by kernel_rfl) (by kernel_rfl)), hq2, rfl, rfl, rfl, rfl, (by rw [hq3]; rfl), rfl, rfl, rfl, (by rw [hq4]; rfl), (by show -9223372036854775808 ≤ _ ∧ _ ≤ 9223372036854775807; constructor <;> omega), trivial⟩ rfl (by show 0 ≤ 1; decide) ⟨⟨nb_v _, nb_xl (cR_plain P), nb_xl (cR_plain P), nb_v _, nb_v _, trivial⟩, trivial, rfl⟩
        | false =>
          have ghq4 := ltI_false hq4
          rw [prE_range hn hm (show i < P.length by omega) (by unfold pairAt; omega)]
          exact .inr (.inr (goes_ret Try.checked.mixed (known_none) 200 (v := (.v (.int .i64 (.ofNat 3)))) (ps := [ltI ↑i ↑P.length = true, i < P.length, loadL Try.prog (cR P) (i * 2) 75 = some (AV.agg [AV.v (Value.int IntKind.i64 (intAt (cR P) (i * 2 + 0))), AV.v (Value.int IntKind.i64 (intAt (cR P) (i * 2 + 1)))]), ltI (intAt (cR P) (i * 2 + 0)) 0 = false, false = false, false = false, false = false, false = false, (!ltI (intAt (cR P) (i * 2 + 0)) (intAt (cR P) (i * 2 + 1))) = false, false = false, false = false, false = false, (!ltI (intAt (cR P) (i * 2 + 1)) n) = true]) [.go, .b true, .sym, .sym, .go, .go, .go, .go, .go, .go, .b false, .go, .b false, .go, .b false, .go, .b false, .go, .b false, .go, .go, .go, .b false, .go, .b false, .go, .b false, .go, .b false, .go, .go, .b true, .go] (by kernel_rfl) (by kernel_rfl) ⟨hq1, (by omega), (cR_load (by omega) 75 (Try.underlying75) rfl (inf := (Try.prog.info? 75).getD default) (by kernel_rfl) (by kernel_rfl)), hq2, rfl, rfl, rfl, rfl, (by rw [hq3]; rfl), rfl, rfl, rfl, (by rw [hq4]; rfl), trivial⟩ rfl))
      | false =>
        have ghq3 := ltI_false hq3
        rw [prE_range hn hm (show i < P.length by omega) (by unfold pairAt; omega)]
        exact .inr (.inr (goes_ret Try.checked.mixed (known_none) 200 (v := (.v (.int .i64 (.ofNat 3)))) (ps := [ltI ↑i ↑P.length = true, i < P.length, loadL Try.prog (cR P) (i * 2) 75 = some (AV.agg [AV.v (Value.int IntKind.i64 (intAt (cR P) (i * 2 + 0))), AV.v (Value.int IntKind.i64 (intAt (cR P) (i * 2 + 1)))]), ltI (intAt (cR P) (i * 2 + 0)) 0 = false, false = false, false = false, false = false, false = false, (!ltI (intAt (cR P) (i * 2 + 0)) (intAt (cR P) (i * 2 + 1))) = true, true = true, true = true, true = true, true = true]) [.go, .b true, .sym, .sym, .go, .go, .go, .go, .go, .go, .b false, .go, .b false, .go, .b false, .go, .b false, .go, .b false, .go, .go, .go, .b true, .b true, .b true, .b true, .go, .b true, .go] (by kernel_rfl) (by kernel_rfl) ⟨hq1, (by omega), (cR_load (by omega) 75 (Try.underlying75) rfl (inf := (Try.prog.info? 75).getD default) (by kernel_rfl) (by kernel_rfl)), hq2, rfl, rfl, rfl, rfl, (by rw [hq3]; rfl), rfl, rfl, rfl, rfl, trivial⟩ rfl))
  | false =>
    have ghq1 := ltI_false hq1
    exact .inr (.inl ⟨(by show P.length ≤ i; omega), goes_told Try.checked.mixed (known_none) 200 (e := .exit 0) (ps := [ltI ↑i ↑P.length = false]) [.go, .b false] (by kernel_rfl) (by kernel_rfl) ⟨hq1, trivial⟩ rfl⟩)
theorem cp_4 (y : Value) (P : List (Int × Int)) (n : Int) (i : Nat) (hn : 2 ≤ n ∧ n ≤ 12) (hm : P.length ≤ 80) (h3 : ∀ j, j < P.length → pairAt n (cR P) j) (w : World) : Goes Try.prog 36 cpC4 (⟨[(0, .v (.int .i64 n)), (1, .xl y P.length 2 (cR P)), (13, .xl y P.length 2 (cR P)), (14, .v (.int .i64 P.length)), (15, .v (.int .i64 (i : Nat)))], [], 0, []⟩) w (OutR Try.prog Try.f20 36 (.int .i64 (prE n (cR P) P.length)) w) := by
  rw [prE_ok hn hm h3]
  exact goes_out Try.checked.mixed (known_none) 200 (v := (.v (.int .i64 (.ofNat 0)))) (ps := []) [.go] (by kernel_rfl) (by kernel_rfl) trivial rfl
theorem cp_g (y : Value) (P : List (Int × Int)) (n : Int) : GivesA Try.prog 20 [.v (.int .i64 n), .xl y P.length 2 (cR P)] (.int .i64 (prE n (cR P) P.length)) :=
  givesA_parts 36 Try.func20 (by kernel_rfl) (by kernel_rfl) (by kernel_rfl) (fun w => cp_0 y P n w (cp_1 y P n w (fun hn => cp_2 y P n hn w (fun hm => cp_3 y P n hn hm w (fun i hi => cp_4 y P n i.1 hn hm (fun j hj => i.2.2 j (Nat.lt_of_lt_of_le hj hi)) w)))))
def rcpC0 : Code := bodyC Try.f21
def rcpC1 : Code := tlC rcpC0
set_option maxHeartbeats 2000000 in
theorem rcp_0 (y : Value) (P : List (Int × Int)) (n : Int)  (w : World) (hc : Goes Try.prog 49 rcpC1 (⟨[(0, .v (.int .i64 n)), (1, .xl y P.length 2 (cR P))], [], 0, []⟩) w (OutR Try.prog Try.f21 49 (.int .i64 (prE n (cR P) P.length)) w)) : Goes Try.prog 49 rcpC0 (argLit [.v (.int .i64 n), .xl y P.length 2 (cR P)]) w (OutR Try.prog Try.f21 49 (.int .i64 (prE n (cR P) P.length)) w) := by
  exact goes_spine (T' := ⟨[(0, .v (.int .i64 n)), (1, .xl y P.length 2 (cR P))], [], 0, []⟩) (by kernel_rfl) (goes_told Try.checked.mixed (known_none) 200 (e := .normal) (ps := []) [.go] (by kernel_rfl) (by kernel_rfl) trivial rfl) (hc)
def rcpC2 : Code := tlC rcpC1
set_option maxHeartbeats 2000000 in
theorem rcp_1 (y : Value) (P : List (Int × Int)) (n : Int)  (w : World) (hc : (2 ≤ n ∧ n ≤ 12) → Goes Try.prog 49 rcpC2 (⟨[(0, .v (.int .i64 n)), (1, .xl y P.length 2 (cR P))], [], 0, []⟩) w (OutR Try.prog Try.f21 49 (.int .i64 (prE n (cR P) P.length)) w)) : Goes Try.prog 49 rcpC1 (⟨[(0, .v (.int .i64 n)), (1, .xl y P.length 2 (cR P))], [], 0, []⟩) w (OutR Try.prog Try.f21 49 (.int .i64 (prE n (cR P) P.length)) w) := by
  cases hq1 : (ltI n 2) with
  | true =>
    have ghq1 := ltI_true hq1
    rw [prE_arg (by omega)]
    exact goes_out Try.checked.mixed (known_none) 200 (v := (.v (.int .i64 (.ofNat 2)))) (ps := [ltI n 2 = true, true = true, true = true]) [.go, .go, .go, .b true, .b true, .go, .b true, .go] (by kernel_rfl) (by kernel_rfl) ⟨hq1, rfl, rfl, trivial⟩ rfl
  | false =>
    have ghq1 := ltI_false hq1
    cases hq2 : (ltI 12 n) with
    | true =>
      have ghq2 := ltI_true hq2
      rw [prE_arg (by omega)]
      exact goes_out Try.checked.mixed (known_none) 200 (v := (.v (.int .i64 (.ofNat 2)))) (ps := [ltI n 2 = false, false = false, ltI 12 n = true]) [.go, .go, .go, .b false, .go, .b false, .go, .go, .b true, .go] (by kernel_rfl) (by kernel_rfl) ⟨hq1, rfl, hq2, trivial⟩ rfl
    | false =>
      have ghq2 := ltI_false hq2
      exact goes_spine (T' := ⟨[(0, .v (.int .i64 n)), (1, .xl y P.length 2 (cR P))], [], 0, []⟩) (by kernel_rfl) (goes_told Try.checked.mixed (known_none) 200 (e := .normal) (ps := [ltI n 2 = false, false = false, ltI 12 n = false]) [.go, .go, .go, .b false, .go, .b false, .go, .go, .b false] (by kernel_rfl) (by kernel_rfl) ⟨hq1, rfl, hq2, trivial⟩ rfl) (hc (by omega))
def rcpC3 : Code := tlC rcpC2
set_option maxHeartbeats 2000000 in
theorem rcp_2 (y : Value) (P : List (Int × Int)) (n : Int) (hn : 2 ≤ n ∧ n ≤ 12) (w : World) (hc : P.length ≤ 80 → Goes Try.prog 49 rcpC3 (⟨[(0, .v (.int .i64 n)), (1, .xl y P.length 2 (cR P))], [], 0, []⟩) w (OutR Try.prog Try.f21 49 (.int .i64 (prE n (cR P) P.length)) w)) : Goes Try.prog 49 rcpC2 (⟨[(0, .v (.int .i64 n)), (1, .xl y P.length 2 (cR P))], [], 0, []⟩) w (OutR Try.prog Try.f21 49 (.int .i64 (prE n (cR P) P.length)) w) := by
  cases hq1 : (ltI 80 ↑P.length) with
  | true =>
    have ghq1 := ltI_true hq1
    rw [prE_many hn (by omega)]
    exact goes_out Try.checked.mixed (known_none) 200 (v := (.v (.int .i64 (.ofNat 6)))) (ps := [ltI 80 ↑P.length = true]) [.go, .go, .go, .b true, .go] (by kernel_rfl) (by kernel_rfl) ⟨hq1, trivial⟩ rfl
  | false =>
    have ghq1 := ltI_false hq1
    exact goes_spine (T' := ⟨[(0, .v (.int .i64 n)), (1, .xl y P.length 2 (cR P))], [], 0, []⟩) (by kernel_rfl) (goes_told Try.checked.mixed (known_none) 200 (e := .normal) (ps := [ltI 80 ↑P.length = false]) [.go, .go, .go, .b false] (by kernel_rfl) (by kernel_rfl) ⟨hq1, trivial⟩ rfl) (hc (by omega))
def rcpC4 : Code := tlC rcpC3
set_option maxHeartbeats 4000000 in
theorem rcp_3 (y : Value) (P : List (Int × Int)) (n : Int) (hn : 2 ≤ n ∧ n ≤ 12) (hm : P.length ≤ 80) (w : World) (hc : ∀ i : PrI n (cR P) P.length, P.length ≤ i.1 → Goes Try.prog 49 rcpC4 (⟨[(0, .v (.int .i64 n)), (1, .xl y P.length 2 (cR P)), (5, .v (.int .i64 (i.1 : Nat)))], [], 0, []⟩) w (OutR Try.prog Try.f21 49 (.int .i64 (prE n (cR P) P.length)) w)) : Goes Try.prog 49 rcpC3 (⟨[(0, .v (.int .i64 n)), (1, .xl y P.length 2 (cR P))], [], 0, []⟩) w (OutR Try.prog Try.f21 49 (.int .i64 (prE n (cR P) P.length)) w) := by
  refine goes_spineQ (ι := PrI n (cR P) P.length) (T := fun i => ⟨[(0, .v (.int .i64 n)), (1, .xl y P.length 2 (cR P)), (5, .v (.int .i64 (i.1 : Nat)))], [], 0, []⟩) (R := fun i => P.length ≤ i.1) (by kernel_rfl)
    (goes_spine (T' := ⟨[(0, .v (.int .i64 n)), (1, .xl y P.length 2 (cR P)), (5, .v (.int .i64 (0 : Nat)))], [], 0, []⟩) (by kernel_rfl) (goes_told Try.checked.mixed (known_none) 200 (e := .normal) (ps := []) [.go] (by kernel_rfl) (by kernel_rfl) trivial rfl)
      (goes_blockloop (by kernel_rfl) (fun i : PrI n (cR P) P.length => ⟨[(0, .v (.int .i64 n)), (1, .xl y P.length 2 (cR P)), (5, .v (.int .i64 (i.1 : Nat)))], [], 0, []⟩) (fun i => P.length - i.1) (fun i => ?_) ⟨0, Nat.zero_le _, fun j hj => by omega⟩)) hc
  obtain ⟨i, hi1, hi2⟩ := i
  show (∃ j : PrI n (cR P) P.length, P.length - j.1 < P.length - i ∧ Goes Try.prog 49 (loopC (tlC (hdC rcpC3))) (⟨[(0, .v (.int .i64 n)), (1, .xl y P.length 2 (cR P)), (5, .v (.int .i64 (i : Nat)))], [], 0, []⟩) w (Land 49 isN (⟨[(0, .v (.int .i64 n)), (1, .xl y P.length 2 (cR P)), (5, .v (.int .i64 (j.1 : Nat)))], [], 0, []⟩) w)) ∨ (P.length ≤ i ∧ Goes Try.prog 49 (loopC (tlC (hdC rcpC3))) (⟨[(0, .v (.int .i64 n)), (1, .xl y P.length 2 (cR P)), (5, .v (.int .i64 (i : Nat)))], [], 0, []⟩) w (Land 49 (isX 0) (⟨[(0, .v (.int .i64 n)), (1, .xl y P.length 2 (cR P)), (5, .v (.int .i64 (i : Nat)))], [], 0, []⟩) w)) ∨ Goes Try.prog 49 (loopC (tlC (hdC rcpC3))) (⟨[(0, .v (.int .i64 n)), (1, .xl y P.length 2 (cR P)), (5, .v (.int .i64 (i : Nat)))], [], 0, []⟩) w (fun e a w' => e = .ret ∧ OutR Try.prog Try.f21 49 (.int .i64 (prE n (cR P) P.length)) w .ret a w')
  have hcl := cR_len P
  cases hq1 : (ltI ↑i ↑P.length) with
  | true =>
    have ghq1 := ltI_true hq1
    cases hq2 : (ltI (intAt (cR P) (i * 2 + 0)) 0) with
    | true =>
      have ghq2 := ltI_true hq2
      rw [prE_range hn hm (show i < P.length by omega) (by unfold pairAt; omega)]
      exact .inr (.inr (goes_ret Try.checked.mixed (known_none) 200 (v := (.v (.int .i64 (.ofNat 3)))) (ps := [ltI ↑i ↑P.length = true, i < P.length, i * 2 + 0 < (cR P).length, loadL Try.prog (cR P) (i * 2 + 0) 3 = some (AV.v (Value.int IntKind.i64 (intAt (cR P) (i * 2 + 0)))), ltI (intAt (cR P) (i * 2 + 0)) 0 = true, true = true, true = true, true = true, true = true, true = true, true = true, true = true, true = true, true = true, true = true, true = true, true = true, true = true, true = true, true = true, true = true, true = true, true = true]) [.go, .go, .go, .go, .b true, .go, .go, .sym, .sym, .sym, .go, .go, .b true, .b true, .b true, .b true, .b true, .b true, .b true, .b true, .b true, .b true, .b true, .go, .go, .b true, .b true, .b true, .b true, .b true, .b true, .b true, .go, .b true, .go] (by kernel_rfl) (by kernel_rfl) ⟨hq1, (by omega), (by omega), (cR_load1 (by omega) 3 (Try.underlying3) rfl), hq2, rfl, rfl, rfl, rfl, rfl, rfl, rfl, rfl, rfl, rfl, rfl, rfl, rfl, rfl, rfl, rfl, rfl, rfl, trivial⟩ rfl))
    | false =>
      have ghq2 := ltI_false hq2
      cases hq3 : (ltI (intAt (cR P) (i * 2 + 0)) (intAt (cR P) (i * 2 + 1))) with
      | true =>
        have ghq3 := ltI_true hq3
        cases hq4 : (ltI (intAt (cR P) (i * 2 + 1)) n) with
        | true =>
          have ghq4 := ltI_true hq4
          refine .inl ⟨⟨i + 1, by omega, pairAt_next hi2 ⟨by omega, by omega, by omega⟩⟩, (by show P.length - (i + 1) < P.length - i; omega), ?_⟩
          exact goes_told Try.checked.mixed (known_none) 200 (e := .normal) (ps := [ltI ↑i ↑P.length = true, i < P.length, i * 2 + 0 < (cR P).length, loadL Try.prog (cR P) (i * 2 + 0) 3 = some (AV.v (Value.int IntKind.i64 (intAt (cR P) (i * 2 + 0)))), ltI (intAt (cR P) (i * 2 + 0)) 0 = false, false = false, false = false, i < P.length, false = false, i * 2 + 1 < (cR P).length, false = false, loadL Try.prog (cR P) (i * 2 + 1) 3 = some (AV.v (Value.int IntKind.i64 (intAt (cR P) (i * 2 + 1)))), false = false, false = false, false = false, i < P.length, false = false, i * 2 + 0 < (cR P).length, false = false, loadL Try.prog (cR P) (i * 2 + 0) 3 = some (AV.v (Value.int IntKind.i64 (intAt (cR P) (i * 2 + 0)))), false = false, (!ltI (intAt (cR P) (i * 2 + 0)) (intAt (cR P) (i * 2 + 1))) = false, false = false, false = false, i < P.length, false = false, i * 2 + 1 < (cR P).length, false = false, loadL Try.prog (cR P) (i * 2 + 1) 3 = some (AV.v (Value.int IntKind.i64 (intAt (cR P) (i * 2 + 1)))), false = false, false = false, (!ltI (intAt (cR P) (i * 2 + 1)) n) = false, inR IntKind.i64 (↑i + 1)]) [.go, .go, .go, .go, .b true, .go, .go, .sym, .sym, .sym, .go, .go, .b false, .go, .b false, .go, .b false, .sym, .b false, .sym, .b false, .sym, .b false, .go, .b false, .go, .b false, .sym, .b false, .sym, .b false, .sym, .b false, .go, .go, .go, .b false, .go, .b false, .go, .b false, .sym, .b false, .sym, .b false, .sym, .b false, .go, .b false, .go, .go, .b false, .go, .go, .go] (by kernel_rfl) (by kernel_rfl) ⟨hq1, (by omega), (by omega), (cR_load1 (by omega) 3 (Try.underlying3) rfl), hq2, rfl, rfl, (by omega), rfl, (by omega), rfl, (cR_load1 (by omega) 3 (Try.underlying3) rfl), rfl, rfl, rfl, (by omega), rfl, (by omega), rfl, (cR_load1 (by omega) 3 (Try.underlying3) rfl), rfl, (by rw [hq3]; rfl), rfl, rfl, (by omega), rfl, (by omega), rfl, (cR_load1 (by omega) 3 (Try.underlying3) rfl), rfl, rfl, (by rw [hq4]; rfl), (by show -9223372036854775808 ≤ _ ∧ _ ≤ 9223372036854775807; constructor <;> omega), trivial⟩ rfl
        | false =>
          have ghq4 := ltI_false hq4
          rw [prE_range hn hm (show i < P.length by omega) (by unfold pairAt; omega)]
          exact .inr (.inr (goes_ret Try.checked.mixed (known_none) 200 (v := (.v (.int .i64 (.ofNat 3)))) (ps := [ltI ↑i ↑P.length = true, i < P.length, i * 2 + 0 < (cR P).length, loadL Try.prog (cR P) (i * 2 + 0) 3 = some (AV.v (Value.int IntKind.i64 (intAt (cR P) (i * 2 + 0)))), ltI (intAt (cR P) (i * 2 + 0)) 0 = false, false = false, false = false, i < P.length, false = false, i * 2 + 1 < (cR P).length, false = false, loadL Try.prog (cR P) (i * 2 + 1) 3 = some (AV.v (Value.int IntKind.i64 (intAt (cR P) (i * 2 + 1)))), false = false, false = false, false = false, i < P.length, false = false, i * 2 + 0 < (cR P).length, false = false, loadL Try.prog (cR P) (i * 2 + 0) 3 = some (AV.v (Value.int IntKind.i64 (intAt (cR P) (i * 2 + 0)))), false = false, (!ltI (intAt (cR P) (i * 2 + 0)) (intAt (cR P) (i * 2 + 1))) = false, false = false, false = false, i < P.length, false = false, i * 2 + 1 < (cR P).length, false = false, loadL Try.prog (cR P) (i * 2 + 1) 3 = some (AV.v (Value.int IntKind.i64 (intAt (cR P) (i * 2 + 1)))), false = false, false = false, (!ltI (intAt (cR P) (i * 2 + 1)) n) = true]) [.go, .go, .go, .go, .b true, .go, .go, .sym, .sym, .sym, .go, .go, .b false, .go, .b false, .go, .b false, .sym, .b false, .sym, .b false, .sym, .b false, .go, .b false, .go, .b false, .sym, .b false, .sym, .b false, .sym, .b false, .go, .go, .go, .b false, .go, .b false, .go, .b false, .sym, .b false, .sym, .b false, .sym, .b false, .go, .b false, .go, .go, .b true, .go] (by kernel_rfl) (by kernel_rfl) ⟨hq1, (by omega), (by omega), (cR_load1 (by omega) 3 (Try.underlying3) rfl), hq2, rfl, rfl, (by omega), rfl, (by omega), rfl, (cR_load1 (by omega) 3 (Try.underlying3) rfl), rfl, rfl, rfl, (by omega), rfl, (by omega), rfl, (cR_load1 (by omega) 3 (Try.underlying3) rfl), rfl, (by rw [hq3]; rfl), rfl, rfl, (by omega), rfl, (by omega), rfl, (cR_load1 (by omega) 3 (Try.underlying3) rfl), rfl, rfl, (by rw [hq4]; rfl), trivial⟩ rfl))
      | false =>
        have ghq3 := ltI_false hq3
        rw [prE_range hn hm (show i < P.length by omega) (by unfold pairAt; omega)]
        exact .inr (.inr (goes_ret Try.checked.mixed (known_none) 200 (v := (.v (.int .i64 (.ofNat 3)))) (ps := [ltI ↑i ↑P.length = true, i < P.length, i * 2 + 0 < (cR P).length, loadL Try.prog (cR P) (i * 2 + 0) 3 = some (AV.v (Value.int IntKind.i64 (intAt (cR P) (i * 2 + 0)))), ltI (intAt (cR P) (i * 2 + 0)) 0 = false, false = false, false = false, i < P.length, false = false, i * 2 + 1 < (cR P).length, false = false, loadL Try.prog (cR P) (i * 2 + 1) 3 = some (AV.v (Value.int IntKind.i64 (intAt (cR P) (i * 2 + 1)))), false = false, false = false, false = false, i < P.length, false = false, i * 2 + 0 < (cR P).length, false = false, loadL Try.prog (cR P) (i * 2 + 0) 3 = some (AV.v (Value.int IntKind.i64 (intAt (cR P) (i * 2 + 0)))), false = false, (!ltI (intAt (cR P) (i * 2 + 0)) (intAt (cR P) (i * 2 + 1))) = true, true = true, true = true, true = true, true = true, true = true, true = true, true = true]) [.go, .go, .go, .go, .b true, .go, .go, .sym, .sym, .sym, .go, .go, .b false, .go, .b false, .go, .b false, .sym, .b false, .sym, .b false, .sym, .b false, .go, .b false, .go, .b false, .sym, .b false, .sym, .b false, .sym, .b false, .go, .go, .go, .b true, .b true, .b true, .b true, .b true, .b true, .b true, .go, .b true, .go] (by kernel_rfl) (by kernel_rfl) ⟨hq1, (by omega), (by omega), (cR_load1 (by omega) 3 (Try.underlying3) rfl), hq2, rfl, rfl, (by omega), rfl, (by omega), rfl, (cR_load1 (by omega) 3 (Try.underlying3) rfl), rfl, rfl, rfl, (by omega), rfl, (by omega), rfl, (cR_load1 (by omega) 3 (Try.underlying3) rfl), rfl, (by rw [hq3]; rfl), rfl, rfl, rfl, rfl, rfl, rfl, rfl, trivial⟩ rfl))
  | false =>
    have ghq1 := ltI_false hq1
    exact .inr (.inl ⟨(by show P.length ≤ i; omega), goes_told Try.checked.mixed (known_none) 200 (e := .exit 0) (ps := [ltI ↑i ↑P.length = false]) [.go, .go, .go, .go, .b false] (by kernel_rfl) (by kernel_rfl) ⟨hq1, trivial⟩ rfl⟩)
theorem rcp_4 (y : Value) (P : List (Int × Int)) (n : Int) (i : Nat) (hn : 2 ≤ n ∧ n ≤ 12) (hm : P.length ≤ 80) (h3 : ∀ j, j < P.length → pairAt n (cR P) j) (w : World) : Goes Try.prog 49 rcpC4 (⟨[(0, .v (.int .i64 n)), (1, .xl y P.length 2 (cR P)), (5, .v (.int .i64 (i : Nat)))], [], 0, []⟩) w (OutR Try.prog Try.f21 49 (.int .i64 (prE n (cR P) P.length)) w) := by
  rw [prE_ok hn hm h3]
  exact goes_out Try.checked.mixed (known_none) 200 (v := (.v (.int .i64 (.ofNat 0)))) (ps := []) [.go] (by kernel_rfl) (by kernel_rfl) trivial rfl
theorem rcp_g (y : Value) (P : List (Int × Int)) (n : Int) : GivesA Try.prog 21 [.v (.int .i64 n), .xl y P.length 2 (cR P)] (.int .i64 (prE n (cR P) P.length)) :=
  givesA_parts 49 Try.func21 (by kernel_rfl) (by kernel_rfl) (by kernel_rfl) (fun w => rcp_0 y P n w (rcp_1 y P n w (fun hn => rcp_2 y P n hn w (fun hm => rcp_3 y P n hn hm w (fun i hi => rcp_4 y P n i.1 hn hm (fun j hj => i.2.2 j (Nat.lt_of_lt_of_le hj hi)) w)))))
end
end Go.Proofs.Ytchlehpjpgeejaa
