import Derived.Test.YtldekgkjofgacaaZ0
/- areAngles, areWeights. -/
namespace Go.Proofs.Ytldekgkjofgacaa
set_option linter.unusedVariables false
set_option linter.unusedSimpArgs false
open Go Ev
noncomputable section
def aaC0 : Code := bodyC Try.f49
def aaC1 : Code := tlC aaC0
set_option maxHeartbeats 2000000 in
theorem aa_0 (y : Value) (L : List Int) (hL : L.length ≤ 1000) (w : World) (hc : Goes Try.prog 21 aaC1 (⟨[(0, .xl y L.length 1 (cI L))], [], 0, []⟩) w (OutR Try.prog Try.f49 21 (.bool (allB (angAt (cI L)) L.length)) w)) : Goes Try.prog 21 aaC0 (argLit [.xl y L.length 1 (cI L)]) w (OutR Try.prog Try.f49 21 (.bool (allB (angAt (cI L)) L.length)) w) := by
  exact goes_spine (T' := ⟨[(0, .xl y L.length 1 (cI L))], [], 0, []⟩) (by kernel_rfl) (goes_told Try.checked.mixed (known_none) 200 (e := .normal) (ps := []) [.go] (by kernel_rfl) (by kernel_rfl) trivial rfl) (hc)
def aaC2 : Code := tlC aaC1
set_option maxHeartbeats 2000000 in
theorem aa_1 (y : Value) (L : List Int) (hL : L.length ≤ 1000) (w : World) (hc : Goes Try.prog 21 aaC2 (⟨[(0, .xl y L.length 1 (cI L)), (3, .v (.int .i64 (.negSucc 0)))], [], 0, []⟩) w (OutR Try.prog Try.f49 21 (.bool (allB (angAt (cI L)) L.length)) w)) : Goes Try.prog 21 aaC1 (⟨[(0, .xl y L.length 1 (cI L))], [], 0, []⟩) w (OutR Try.prog Try.f49 21 (.bool (allB (angAt (cI L)) L.length)) w) := by
  exact goes_spine (T' := ⟨[(0, .xl y L.length 1 (cI L)), (3, .v (.int .i64 (.negSucc 0)))], [], 0, []⟩) (by kernel_rfl) (goes_told Try.checked.mixed (known_none) 200 (e := .normal) (ps := []) [.go] (by kernel_rfl) (by kernel_rfl) trivial rfl) (hc)
def aaC3 : Code := tlC aaC2
set_option maxHeartbeats 4000000 in
theorem aa_2 (y : Value) (L : List Int) (hL : L.length ≤ 1000) (w : World) (hc : ∀ i : UpI (angAt (cI L)) L.length, L.length ≤ i.1 → Goes Try.prog 21 aaC3 (⟨[(3, .v (.int .i64 (bfI (cI L) i.1))), (6, .xl y L.length 1 (cI L)), (7, .v (.int .i64 L.length)), (8, .v (.int .i64 (i.1 : Nat)))], [], 0, []⟩) w (OutR Try.prog Try.f49 21 (.bool (allB (angAt (cI L)) L.length)) w)) : Goes Try.prog 21 aaC2 (⟨[(0, .xl y L.length 1 (cI L)), (3, .v (.int .i64 (.negSucc 0)))], [], 0, []⟩) w (OutR Try.prog Try.f49 21 (.bool (allB (angAt (cI L)) L.length)) w) := by
  refine goes_spineQ (ι := UpI (angAt (cI L)) L.length) (T := fun i => ⟨[(3, .v (.int .i64 (bfI (cI L) i.1))), (6, .xl y L.length 1 (cI L)), (7, .v (.int .i64 L.length)), (8, .v (.int .i64 (i.1 : Nat)))], [], 0, []⟩) (R := fun i => L.length ≤ i.1) (by kernel_rfl)
    (goes_spine (T' := ⟨[(3, .v (.int .i64 (bfI (cI L) 0))), (6, .xl y L.length 1 (cI L)), (7, .v (.int .i64 L.length)), (8, .v (.int .i64 (0 : Nat)))], [], 0, []⟩) (by kernel_rfl) (goes_told Try.checked.mixed (known_none) 200 (e := .normal) (ps := []) [.go, .go, .go] (by kernel_rfl) (by kernel_rfl) trivial rfl)
      (goes_blockloop (by kernel_rfl) (fun i : UpI (angAt (cI L)) L.length => ⟨[(3, .v (.int .i64 (bfI (cI L) i.1))), (6, .xl y L.length 1 (cI L)), (7, .v (.int .i64 L.length)), (8, .v (.int .i64 (i.1 : Nat)))], [], 0, []⟩) (fun i => L.length - i.1) (fun i => ?_) ⟨0, Nat.zero_le _, fun j hj => by omega⟩)) hc
  obtain ⟨i, hi1, hi2⟩ := i
  show (∃ j : UpI (angAt (cI L)) L.length, L.length - j.1 < L.length - i ∧ Goes Try.prog 21 (loopC (tlC (hdC aaC2))) (⟨[(3, .v (.int .i64 (bfI (cI L) i))), (6, .xl y L.length 1 (cI L)), (7, .v (.int .i64 L.length)), (8, .v (.int .i64 (i : Nat)))], [], 0, []⟩) w (Land 21 isN (⟨[(3, .v (.int .i64 (bfI (cI L) j.1))), (6, .xl y L.length 1 (cI L)), (7, .v (.int .i64 L.length)), (8, .v (.int .i64 (j.1 : Nat)))], [], 0, []⟩) w)) ∨ (L.length ≤ i ∧ Goes Try.prog 21 (loopC (tlC (hdC aaC2))) (⟨[(3, .v (.int .i64 (bfI (cI L) i))), (6, .xl y L.length 1 (cI L)), (7, .v (.int .i64 L.length)), (8, .v (.int .i64 (i : Nat)))], [], 0, []⟩) w (Land 21 (isX 0) (⟨[(3, .v (.int .i64 (bfI (cI L) i))), (6, .xl y L.length 1 (cI L)), (7, .v (.int .i64 L.length)), (8, .v (.int .i64 (i : Nat)))], [], 0, []⟩) w)) ∨ Goes Try.prog 21 (loopC (tlC (hdC aaC2))) (⟨[(3, .v (.int .i64 (bfI (cI L) i))), (6, .xl y L.length 1 (cI L)), (7, .v (.int .i64 L.length)), (8, .v (.int .i64 (i : Nat)))], [], 0, []⟩) w (fun e a w' => e = .ret ∧ (OutR Try.prog Try.f49 21 (.bool (allB (angAt (cI L)) L.length)) w) .ret a w')
  have hcl := cI_len L
  cases hq1 : (ltI ↑i ↑L.length) with
  | true =>
    have ghq1 := ltI_true hq1
    cases hq2 : (ltI (bfI (cI L) i) (intAt (cI L) (i * 1))) with
    | true =>
      have ghq2 := ltI_true hq2
      cases hq3 : (ltI 90 (intAt (cI L) (i * 1))) with
      | true =>
        have ghq3 := ltI_true hq3
        rw [allB_no (show i < L.length by omega) (by unfold angAt; omega)]
        exact .inr (.inr (goes_ret Try.checked.mixed (known_none) 200 (v := (.v (.bool .false))) (ps := [ltI ↑i ↑L.length = true, i < L.length, loadL Try.prog (cI L) (i * 1) 2 = some (AV.v (Value.int IntKind.i64 (intAt (cI L) (i * 1)))), (!ltI (bfI (cI L) i) (intAt (cI L) (i * 1))) = false, false = false, ltI 90 (intAt (cI L) (i * 1)) = true]) [.go, .b true, .sym, .sym, .go, .go, .go, .go, .go, .b false, .go, .b false, .go, .go, .b true, .go] (by kernel_rfl) (by kernel_rfl) ⟨hq1, (by omega), (by rw [Nat.mul_one]; exact cI_load (by omega) 2 (Try.underlying2) rfl), (by rw [hq2]; rfl), rfl, hq3, trivial⟩ rfl))
      | false =>
        have ghq3 := ltI_false hq3
        refine .inl ⟨⟨i + 1, by omega, up_next hi2 (show angAt (cI L) i by unfold angAt; omega)⟩, (by show L.length - (i + 1) < L.length - i; omega), ?_⟩
        exact goes_told Try.checked.mixed (known_none) 200 (e := .normal) (ps := [ltI ↑i ↑L.length = true, i < L.length, loadL Try.prog (cI L) (i * 1) 2 = some (AV.v (Value.int IntKind.i64 (intAt (cI L) (i * 1)))), (!ltI (bfI (cI L) i) (intAt (cI L) (i * 1))) = false, false = false, ltI 90 (intAt (cI L) (i * 1)) = false, inR IntKind.i64 (↑i + 1)]) [.go, .b true, .sym, .sym, .go, .go, .go, .go, .go, .b false, .go, .b false, .go, .go, .b false, .go, .go, .go, .go] (by kernel_rfl) (by kernel_rfl) ⟨hq1, (by omega), (by rw [Nat.mul_one]; exact cI_load (by omega) 2 (Try.underlying2) rfl), (by rw [hq2]; rfl), rfl, hq3, (by show -9223372036854775808 ≤ _ ∧ _ ≤ 9223372036854775807; constructor <;> omega), trivial⟩ rfl
    | false =>
      have ghq2 := ltI_false hq2
      rw [allB_no (show i < L.length by omega) (by unfold angAt; omega)]
      exact .inr (.inr (goes_ret Try.checked.mixed (known_none) 200 (v := (.v (.bool .false))) (ps := [ltI ↑i ↑L.length = true, i < L.length, loadL Try.prog (cI L) (i * 1) 2 = some (AV.v (Value.int IntKind.i64 (intAt (cI L) (i * 1)))), (!ltI (bfI (cI L) i) (intAt (cI L) (i * 1))) = true, true = true, true = true]) [.go, .b true, .sym, .sym, .go, .go, .go, .go, .go, .b true, .b true, .go, .b true, .go] (by kernel_rfl) (by kernel_rfl) ⟨hq1, (by omega), (by rw [Nat.mul_one]; exact cI_load (by omega) 2 (Try.underlying2) rfl), (by rw [hq2]; rfl), rfl, rfl, trivial⟩ rfl))
  | false =>
    have ghq1 := ltI_false hq1
    exact .inr (.inl ⟨(by show L.length ≤ i; omega), goes_told Try.checked.mixed (known_none) 200 (e := .exit 0) (ps := [ltI ↑i ↑L.length = false]) [.go, .b false] (by kernel_rfl) (by kernel_rfl) ⟨hq1, trivial⟩ rfl⟩)
theorem aa_3 (y : Value) (L : List Int) (i : Nat) (hL : L.length ≤ 1000) (h3 : ∀ j, j < L.length → angAt (cI L) j) (w : World) : Goes Try.prog 21 aaC3 (⟨[(3, .v (.int .i64 (bfI (cI L) i))), (6, .xl y L.length 1 (cI L)), (7, .v (.int .i64 L.length)), (8, .v (.int .i64 (i : Nat)))], [], 0, []⟩) w (OutR Try.prog Try.f49 21 (.bool (allB (angAt (cI L)) L.length)) w) := by
  rw [allB_true.2 h3]
  exact goes_out Try.checked.mixed (known_none) 200 (v := (.v (.bool .true))) (ps := []) [.go] (by kernel_rfl) (by kernel_rfl) trivial rfl
theorem aa_g (y : Value) (L : List Int) (hL : L.length ≤ 1000) : GivesA Try.prog 49 [.xl y L.length 1 (cI L)] (.bool (allB (angAt (cI L)) L.length)) :=
  givesA_parts 21 Try.func49 (by kernel_rfl) (by kernel_rfl) (by kernel_rfl) (fun w => aa_0 y L hL w (aa_1 y L hL w (aa_2 y L hL w (fun i hi => aa_3 y L i.1 hL (fun j hj => i.2.2 j (Nat.lt_of_lt_of_le hj hi)) w))))
def awC0 : Code := bodyC Try.f52
def awC1 : Code := tlC awC0
set_option maxHeartbeats 2000000 in
theorem aw_0 (y : Value) (L : List Int) (hL : L.length ≤ 1000) (w : World) (hc : Goes Try.prog 15 awC1 (⟨[(0, .xl y L.length 1 (cI L))], [], 0, []⟩) w (OutR Try.prog Try.f52 15 (.bool (allB (wgtAt (cI L)) L.length)) w)) : Goes Try.prog 15 awC0 (argLit [.xl y L.length 1 (cI L)]) w (OutR Try.prog Try.f52 15 (.bool (allB (wgtAt (cI L)) L.length)) w) := by
  exact goes_spine (T' := ⟨[(0, .xl y L.length 1 (cI L))], [], 0, []⟩) (by kernel_rfl) (goes_told Try.checked.mixed (known_none) 200 (e := .normal) (ps := []) [.go] (by kernel_rfl) (by kernel_rfl) trivial rfl) (hc)
def awC2 : Code := tlC awC1
set_option maxHeartbeats 4000000 in
theorem aw_1 (y : Value) (L : List Int) (hL : L.length ≤ 1000) (w : World) (hc : ∀ i : UpI (wgtAt (cI L)) L.length, L.length ≤ i.1 → Goes Try.prog 15 awC2 (⟨[(5, .xl y L.length 1 (cI L)), (6, .v (.int .i64 L.length)), (7, .v (.int .i64 (i.1 : Nat)))], [], 0, []⟩) w (OutR Try.prog Try.f52 15 (.bool (allB (wgtAt (cI L)) L.length)) w)) : Goes Try.prog 15 awC1 (⟨[(0, .xl y L.length 1 (cI L))], [], 0, []⟩) w (OutR Try.prog Try.f52 15 (.bool (allB (wgtAt (cI L)) L.length)) w) := by
  refine goes_spineQ (ι := UpI (wgtAt (cI L)) L.length) (T := fun i => ⟨[(5, .xl y L.length 1 (cI L)), (6, .v (.int .i64 L.length)), (7, .v (.int .i64 (i.1 : Nat)))], [], 0, []⟩) (R := fun i => L.length ≤ i.1) (by kernel_rfl)
    (goes_spine (T' := ⟨[(5, .xl y L.length 1 (cI L)), (6, .v (.int .i64 L.length)), (7, .v (.int .i64 (0 : Nat)))], [], 0, []⟩) (by kernel_rfl) (goes_told Try.checked.mixed (known_none) 200 (e := .normal) (ps := []) [.go, .go, .go] (by kernel_rfl) (by kernel_rfl) trivial rfl)
      (goes_blockloop (by kernel_rfl) (fun i : UpI (wgtAt (cI L)) L.length => ⟨[(5, .xl y L.length 1 (cI L)), (6, .v (.int .i64 L.length)), (7, .v (.int .i64 (i.1 : Nat)))], [], 0, []⟩) (fun i => L.length - i.1) (fun i => ?_) ⟨0, Nat.zero_le _, fun j hj => by omega⟩)) hc
  obtain ⟨i, hi1, hi2⟩ := i
  show (∃ j : UpI (wgtAt (cI L)) L.length, L.length - j.1 < L.length - i ∧ Goes Try.prog 15 (loopC (tlC (hdC awC1))) (⟨[(5, .xl y L.length 1 (cI L)), (6, .v (.int .i64 L.length)), (7, .v (.int .i64 (i : Nat)))], [], 0, []⟩) w (Land 15 isN (⟨[(5, .xl y L.length 1 (cI L)), (6, .v (.int .i64 L.length)), (7, .v (.int .i64 (j.1 : Nat)))], [], 0, []⟩) w)) ∨ (L.length ≤ i ∧ Goes Try.prog 15 (loopC (tlC (hdC awC1))) (⟨[(5, .xl y L.length 1 (cI L)), (6, .v (.int .i64 L.length)), (7, .v (.int .i64 (i : Nat)))], [], 0, []⟩) w (Land 15 (isX 0) (⟨[(5, .xl y L.length 1 (cI L)), (6, .v (.int .i64 L.length)), (7, .v (.int .i64 (i : Nat)))], [], 0, []⟩) w)) ∨ Goes Try.prog 15 (loopC (tlC (hdC awC1))) (⟨[(5, .xl y L.length 1 (cI L)), (6, .v (.int .i64 L.length)), (7, .v (.int .i64 (i : Nat)))], [], 0, []⟩) w (fun e a w' => e = .ret ∧ (OutR Try.prog Try.f52 15 (.bool (allB (wgtAt (cI L)) L.length)) w) .ret a w')
  have hcl := cI_len L
  cases hq1 : (ltI ↑i ↑L.length) with
  | true =>
    have ghq1 := ltI_true hq1
    cases hq2 : (ltI (intAt (cI L) (i * 1)) 0) with
    | true =>
      have ghq2 := ltI_true hq2
      rw [allB_no (show i < L.length by omega) (by unfold wgtAt; omega)]
      exact .inr (.inr (goes_ret Try.checked.mixed (known_none) 200 (v := (.v (.bool .false))) (ps := [ltI ↑i ↑L.length = true, i < L.length, loadL Try.prog (cI L) (i * 1) 2 = some (AV.v (Value.int IntKind.i64 (intAt (cI L) (i * 1)))), (!ltI (intAt (cI L) (i * 1)) 0) = false, false = false, false = false, (!false) = true]) [.go, .b true, .sym, .sym, .go, .go, .go, .go, .go, .go, .go, .b false, .b false, .b false, .go, .go, .go, .b true, .go] (by kernel_rfl) (by kernel_rfl) ⟨hq1, (by omega), (by rw [Nat.mul_one]; exact cI_load (by omega) 2 (Try.underlying2) rfl), (by rw [hq2]; rfl), rfl, rfl, rfl, trivial⟩ rfl))
    | false =>
      have ghq2 := ltI_false hq2
      cases hq3 : (ltI 1000 (intAt (cI L) (i * 1))) with
      | true =>
        have ghq3 := ltI_true hq3
        rw [allB_no (show i < L.length by omega) (by unfold wgtAt; omega)]
        exact .inr (.inr (goes_ret Try.checked.mixed (known_none) 200 (v := (.v (.bool .false))) (ps := [ltI ↑i ↑L.length = true, i < L.length, loadL Try.prog (cI L) (i * 1) 2 = some (AV.v (Value.int IntKind.i64 (intAt (cI L) (i * 1)))), (!ltI (intAt (cI L) (i * 1)) 0) = true, true = true, true = true, (!!ltI 1000 (intAt (cI L) (i * 1))) = true]) [.go, .b true, .sym, .sym, .go, .go, .go, .go, .go, .go, .go, .b true, .go, .b true, .go, .b true, .go, .go, .go, .go, .b true, .go] (by kernel_rfl) (by kernel_rfl) ⟨hq1, (by omega), (by rw [Nat.mul_one]; exact cI_load (by omega) 2 (Try.underlying2) rfl), (by rw [hq2]; rfl), rfl, rfl, (by rw [hq3]; rfl), trivial⟩ rfl))
      | false =>
        have ghq3 := ltI_false hq3
        refine .inl ⟨⟨i + 1, by omega, up_next hi2 (show wgtAt (cI L) i by unfold wgtAt; omega)⟩, (by show L.length - (i + 1) < L.length - i; omega), ?_⟩
        exact goes_told Try.checked.mixed (known_none) 200 (e := .normal) (ps := [ltI ↑i ↑L.length = true, i < L.length, loadL Try.prog (cI L) (i * 1) 2 = some (AV.v (Value.int IntKind.i64 (intAt (cI L) (i * 1)))), (!ltI (intAt (cI L) (i * 1)) 0) = true, true = true, true = true, (!!ltI 1000 (intAt (cI L) (i * 1))) = false, inR IntKind.i64 (↑i + 1)]) [.go, .b true, .sym, .sym, .go, .go, .go, .go, .go, .go, .go, .b true, .go, .b true, .go, .b true, .go, .go, .go, .go, .b false, .go, .go] (by kernel_rfl) (by kernel_rfl) ⟨hq1, (by omega), (by rw [Nat.mul_one]; exact cI_load (by omega) 2 (Try.underlying2) rfl), (by rw [hq2]; rfl), rfl, rfl, (by rw [hq3]; rfl), (by show -9223372036854775808 ≤ _ ∧ _ ≤ 9223372036854775807; constructor <;> omega), trivial⟩ rfl
  | false =>
    have ghq1 := ltI_false hq1
    exact .inr (.inl ⟨(by show L.length ≤ i; omega), goes_told Try.checked.mixed (known_none) 200 (e := .exit 0) (ps := [ltI ↑i ↑L.length = false]) [.go, .b false] (by kernel_rfl) (by kernel_rfl) ⟨hq1, trivial⟩ rfl⟩)
theorem aw_2 (y : Value) (L : List Int) (i : Nat) (hL : L.length ≤ 1000) (h3 : ∀ j, j < L.length → wgtAt (cI L) j) (w : World) : Goes Try.prog 15 awC2 (⟨[(5, .xl y L.length 1 (cI L)), (6, .v (.int .i64 L.length)), (7, .v (.int .i64 (i : Nat)))], [], 0, []⟩) w (OutR Try.prog Try.f52 15 (.bool (allB (wgtAt (cI L)) L.length)) w) := by
  rw [allB_true.2 h3]
  exact goes_out Try.checked.mixed (known_none) 200 (v := (.v (.bool .true))) (ps := []) [.go] (by kernel_rfl) (by kernel_rfl) trivial rfl
theorem awt_g (y : Value) (L : List Int) (hL : L.length ≤ 1000) : GivesA Try.prog 52 [.xl y L.length 1 (cI L)] (.bool (allB (wgtAt (cI L)) L.length)) :=
  givesA_parts 15 Try.func52 (by kernel_rfl) (by kernel_rfl) (by kernel_rfl) (fun w => aw_0 y L hL w (aw_1 y L hL w (fun i hi => aw_2 y L i.1 hL (fun j hj => i.2.2 j (Nat.lt_of_lt_of_le hj hi)) w)))
end
end Go.Proofs.Ytldekgkjofgacaa
