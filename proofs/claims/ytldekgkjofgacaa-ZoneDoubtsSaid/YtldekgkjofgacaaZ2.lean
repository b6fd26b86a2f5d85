import Derived.Test.YtldekgkjofgacaaZ0
/- areRanges. -/
namespace Go.Proofs.Ytldekgkjofgacaa
set_option linter.unusedVariables false
set_option linter.unusedSimpArgs false
open Go Ev
noncomputable section
def arC0 : Code := bodyC Try.f51
def arC1 : Code := tlC arC0
set_option maxHeartbeats 2000000 in
theorem ar_0 (m : Int) (y : Value) (L : List (Int × Int)) (hL : L.length ≤ 1000) (w : World) (hc : Goes Try.prog 30 arC1 (⟨[(0, .v (.int .i64 m)), (1, .xl y L.length 2 (cR L))], [], 0, []⟩) w (OutR Try.prog Try.f51 30 (.bool (allB (rngAt m (cR L)) L.length)) w)) : Goes Try.prog 30 arC0 (argLit [.v (.int .i64 m), .xl y L.length 2 (cR L)]) w (OutR Try.prog Try.f51 30 (.bool (allB (rngAt m (cR L)) L.length)) w) := by
  exact goes_spine (T' := ⟨[(0, .v (.int .i64 m)), (1, .xl y L.length 2 (cR L))], [], 0, []⟩) (by kernel_rfl) (goes_told Try.checked.mixed (known_none) 200 (e := .normal) (ps := []) [.go] (by kernel_rfl) (by kernel_rfl) trivial rfl) (hc)
def arC2 : Code := tlC arC1
set_option maxHeartbeats 4000000 in
theorem ar_1 (m : Int) (y : Value) (L : List (Int × Int)) (hL : L.length ≤ 1000) (w : World) (hc : ∀ i : UpI (rngAt m (cR L)) L.length, L.length ≤ i.1 → Goes Try.prog 30 arC2 (⟨[(0, .v (.int .i64 m)), (7, .xl y L.length 2 (cR L)), (8, .v (.int .i64 L.length)), (9, .v (.int .i64 (i.1 : Nat)))], [], 0, []⟩) w (OutR Try.prog Try.f51 30 (.bool (allB (rngAt m (cR L)) L.length)) w)) : Goes Try.prog 30 arC1 (⟨[(0, .v (.int .i64 m)), (1, .xl y L.length 2 (cR L))], [], 0, []⟩) w (OutR Try.prog Try.f51 30 (.bool (allB (rngAt m (cR L)) L.length)) w) := by
  refine goes_spineQ (ι := UpI (rngAt m (cR L)) L.length) (T := fun i => ⟨[(0, .v (.int .i64 m)), (7, .xl y L.length 2 (cR L)), (8, .v (.int .i64 L.length)), (9, .v (.int .i64 (i.1 : Nat)))], [], 0, []⟩) (R := fun i => L.length ≤ i.1) (by kernel_rfl)
    (goes_spine (T' := ⟨[(0, .v (.int .i64 m)), (7, .xl y L.length 2 (cR L)), (8, .v (.int .i64 L.length)), (9, .v (.int .i64 (0 : Nat)))], [], 0, []⟩) (by kernel_rfl) (goes_told Try.checked.mixed (known_none) 200 (e := .normal) (ps := []) [.go, .go, .go] (by kernel_rfl) (by kernel_rfl) trivial rfl)
      (goes_blockloop (by kernel_rfl) (fun i : UpI (rngAt m (cR L)) L.length => ⟨[(0, .v (.int .i64 m)), (7, .xl y L.length 2 (cR L)), (8, .v (.int .i64 L.length)), (9, .v (.int .i64 (i.1 : Nat)))], [], 0, []⟩) (fun i => L.length - i.1) (fun i => ?_) ⟨0, Nat.zero_le _, fun j hj => by omega⟩)) hc
  obtain ⟨i, hi1, hi2⟩ := i
  show (∃ j : UpI (rngAt m (cR L)) L.length, L.length - j.1 < L.length - i ∧ Goes Try.prog 30 (loopC (tlC (hdC arC1))) (⟨[(0, .v (.int .i64 m)), (7, .xl y L.length 2 (cR L)), (8, .v (.int .i64 L.length)), (9, .v (.int .i64 (i : Nat)))], [], 0, []⟩) w (Land 30 isN (⟨[(0, .v (.int .i64 m)), (7, .xl y L.length 2 (cR L)), (8, .v (.int .i64 L.length)), (9, .v (.int .i64 (j.1 : Nat)))], [], 0, []⟩) w)) ∨ (L.length ≤ i ∧ Goes Try.prog 30 (loopC (tlC (hdC arC1))) (⟨[(0, .v (.int .i64 m)), (7, .xl y L.length 2 (cR L)), (8, .v (.int .i64 L.length)), (9, .v (.int .i64 (i : Nat)))], [], 0, []⟩) w (Land 30 (isX 0) (⟨[(0, .v (.int .i64 m)), (7, .xl y L.length 2 (cR L)), (8, .v (.int .i64 L.length)), (9, .v (.int .i64 (i : Nat)))], [], 0, []⟩) w)) ∨ Goes Try.prog 30 (loopC (tlC (hdC arC1))) (⟨[(0, .v (.int .i64 m)), (7, .xl y L.length 2 (cR L)), (8, .v (.int .i64 L.length)), (9, .v (.int .i64 (i : Nat)))], [], 0, []⟩) w (fun e a w' => e = .ret ∧ (OutR Try.prog Try.f51 30 (.bool (allB (rngAt m (cR L)) L.length)) w) .ret a w')
  have hcl := cR_len L
  cases hq1 : (ltI ↑i ↑L.length) with
  | true =>
    have ghq1 := ltI_true hq1
    cases hq2 : (ltI (intAt (cR L) (i * 2 + 0)) 0) with
    | true =>
      have ghq2 := ltI_true hq2
      rw [allB_no (show i < L.length by omega) (by unfold rngAt; omega)]
      exact .inr (.inr (goes_ret Try.checked.mixed (known_none) 200 (v := (.v (.bool .false))) (ps := [ltI ↑i ↑L.length = true, i < L.length, loadL Try.prog (cR L) (i * 2) 40 = some (AV.agg [AV.v (Value.int IntKind.i64 (intAt (cR L) (i * 2 + 0))), AV.v (Value.int IntKind.i64 (intAt (cR L) (i * 2 + 1)))]), ltI (intAt (cR L) (i * 2 + 0)) 0 = true, true = true, true = true, true = true, true = true, true = true, true = true, true = true, true = true, true = true]) [.go, .b true, .sym, .sym, .go, .go, .go, .go, .go, .go, .b true, .b true, .b true, .b true, .b true, .go, .go, .b true, .b true, .b true, .b true, .go, .b true, .go] (by kernel_rfl) (by kernel_rfl) ⟨hq1, (by omega), (cR_load (by omega) 40 (Try.underlying40) rfl (inf := (Try.prog.info? 40).getD default) (by kernel_rfl) (by kernel_rfl)), hq2, rfl, rfl, rfl, rfl, rfl, rfl, rfl, rfl, rfl, trivial⟩ rfl))
    | false =>
      have ghq2 := ltI_false hq2
      cases hq3 : (ltI (intAt (cR L) (i * 2 + 1)) (intAt (cR L) (i * 2 + 0))) with
      | true =>
        have ghq3 := ltI_true hq3
        rw [allB_no (show i < L.length by omega) (by unfold rngAt; omega)]
        exact .inr (.inr (goes_ret Try.checked.mixed (known_none) 200 (v := (.v (.bool .false))) (ps := [ltI ↑i ↑L.length = true, i < L.length, loadL Try.prog (cR L) (i * 2) 40 = some (AV.agg [AV.v (Value.int IntKind.i64 (intAt (cR L) (i * 2 + 0))), AV.v (Value.int IntKind.i64 (intAt (cR L) (i * 2 + 1)))]), ltI (intAt (cR L) (i * 2 + 0)) 0 = false, false = false, false = false, false = false, false = false, ltI (intAt (cR L) (i * 2 + 1)) (intAt (cR L) (i * 2 + 0)) = true, true = true, true = true, true = true, true = true]) [.go, .b true, .sym, .sym, .go, .go, .go, .go, .go, .go, .b false, .go, .b false, .go, .b false, .go, .b false, .go, .b false, .go, .go, .go, .b true, .b true, .b true, .b true, .go, .b true, .go] (by kernel_rfl) (by kernel_rfl) ⟨hq1, (by omega), (cR_load (by omega) 40 (Try.underlying40) rfl (inf := (Try.prog.info? 40).getD default) (by kernel_rfl) (by kernel_rfl)), hq2, rfl, rfl, rfl, rfl, hq3, rfl, rfl, rfl, rfl, trivial⟩ rfl))
      | false =>
        have ghq3 := ltI_false hq3
        cases hq4 : (ltI m (intAt (cR L) (i * 2 + 1))) with
        | true =>
          have ghq4 := ltI_true hq4
          rw [allB_no (show i < L.length by omega) (by unfold rngAt; omega)]
          exact .inr (.inr (goes_ret Try.checked.mixed (known_none) 200 (v := (.v (.bool .false))) (ps := [ltI ↑i ↑L.length = true, i < L.length, loadL Try.prog (cR L) (i * 2) 40 = some (AV.agg [AV.v (Value.int IntKind.i64 (intAt (cR L) (i * 2 + 0))), AV.v (Value.int IntKind.i64 (intAt (cR L) (i * 2 + 1)))]), ltI (intAt (cR L) (i * 2 + 0)) 0 = false, false = false, false = false, false = false, false = false, ltI (intAt (cR L) (i * 2 + 1)) (intAt (cR L) (i * 2 + 0)) = false, false = false, false = false, false = false, ltI m (intAt (cR L) (i * 2 + 1)) = true]) [.go, .b true, .sym, .sym, .go, .go, .go, .go, .go, .go, .b false, .go, .b false, .go, .b false, .go, .b false, .go, .b false, .go, .go, .go, .b false, .go, .b false, .go, .b false, .go, .b false, .go, .go, .b true, .go] (by kernel_rfl) (by kernel_rfl) ⟨hq1, (by omega), (cR_load (by omega) 40 (Try.underlying40) rfl (inf := (Try.prog.info? 40).getD default) (by kernel_rfl) (by kernel_rfl)), hq2, rfl, rfl, rfl, rfl, hq3, rfl, rfl, rfl, hq4, trivial⟩ rfl))
        | false =>
          have ghq4 := ltI_false hq4
          refine .inl ⟨⟨i + 1, by omega, up_next hi2 (show rngAt m (cR L) i by unfold rngAt; omega)⟩, (by show L.length - (i + 1) < L.length - i; omega), ?_⟩
          exact goes_cut Try.checked.mixed (known_none) 200 (e := .normal) (m := 1) (ps := [ltI ↑i ↑L.length = true, i < L.length, loadL Try.prog (cR L) (i * 2) 40 = some (AV.agg [AV.v (Value.int IntKind.i64 (intAt (cR L) (i * 2 + 0))), AV.v (Value.int IntKind.i64 (intAt (cR L) (i * 2 + 1)))]), ltI (intAt (cR L) (i * 2 + 0)) 0 = false, false = false, false = false, false = false, false = false, ltI (intAt (cR L) (i * 2 + 1)) (intAt (cR L) (i * 2 + 0)) = false, false = false, false = false, false = false, ltI m (intAt (cR L) (i * 2 + 1)) = false, inR IntKind.i64 (↑i + 1)]) [.go, .b true, .sym, .sym, .go, .go, .go, .go, .go, .go, .b false, .go, .b false, .go, .b false, .go, .b false, .go, .b false, .go, .go, .go, .b false, .go, .b false, .go, .b false, .go, .b false, .go, .go, .b false, .go, .go] (by kernel_rfl) (by kernel_rfl) ⟨hq1, (by omega), (cR_load (by omega) 40 (Try.underlying40) rfl (inf := (Try.prog.info? 40).getD default) (by kernel_rfl) (by kernel_rfl)), hq2, rfl, rfl, rfl, rfl, hq3, rfl, rfl, rfl, hq4, (by show -9223372036854775808 ≤ _ ∧ _ ≤ 9223372036854775807; constructor <;> omega), trivial⟩ rfl (by show 0 ≤ 1; decide) ⟨⟨nb_v _, nb_xl (cR_plain L), nb_v _, nb_v _, trivial⟩, trivial, rfl⟩
  | false =>
    have ghq1 := ltI_false hq1
    exact .inr (.inl ⟨(by show L.length ≤ i; omega), goes_told Try.checked.mixed (known_none) 200 (e := .exit 0) (ps := [ltI ↑i ↑L.length = false]) [.go, .b false] (by kernel_rfl) (by kernel_rfl) ⟨hq1, trivial⟩ rfl⟩)
theorem ar_2 (m : Int) (y : Value) (L : List (Int × Int)) (i : Nat) (hL : L.length ≤ 1000) (h3 : ∀ j, j < L.length → rngAt m (cR L) j) (w : World) : Goes Try.prog 30 arC2 (⟨[(0, .v (.int .i64 m)), (7, .xl y L.length 2 (cR L)), (8, .v (.int .i64 L.length)), (9, .v (.int .i64 (i : Nat)))], [], 0, []⟩) w (OutR Try.prog Try.f51 30 (.bool (allB (rngAt m (cR L)) L.length)) w) := by
  rw [allB_true.2 h3]
  exact goes_out Try.checked.mixed (known_none) 200 (v := (.v (.bool .true))) (ps := []) [.go] (by kernel_rfl) (by kernel_rfl) trivial rfl
theorem ar_g (m : Int) (y : Value) (L : List (Int × Int)) (hL : L.length ≤ 1000) : GivesA Try.prog 51 [.v (.int .i64 m), .xl y L.length 2 (cR L)] (.bool (allB (rngAt m (cR L)) L.length)) :=
  givesA_parts 30 Try.func51 (by kernel_rfl) (by kernel_rfl) (by kernel_rfl) (fun w => ar_0 m y L hL w (ar_1 m y L hL w (fun i hi => ar_2 m y L i.1 hL (fun j hj => i.2.2 j (Nat.lt_of_lt_of_le hj hi)) w)))
end
end Go.Proofs.Ytldekgkjofgacaa
