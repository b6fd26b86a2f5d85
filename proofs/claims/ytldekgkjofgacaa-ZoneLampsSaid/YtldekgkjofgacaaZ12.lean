/- The law ZoneLamps. -/
import Derived.Test.YtldekgkjofgacaaZ12a
namespace Go.Proofs.Ytldekgkjofgacaa
set_option linter.unusedVariables false
set_option linter.unusedSimpArgs false
open Go Ev
noncomputable section

noncomputable def zlK1 : Code := bodyC Try.f3

set_option maxHeartbeats 2000000 in
theorem zl_2 (ya : Value) (yl : Value) (yf : Value) (yw : Value) (A : List Int) (L : List (Int × Int)) (B : List Bool) (W : List Int) (yx : Value) (X : List Int) (hw : Known Try.prog (clsO zwO)) (w : World) : Goes Try.prog 56 zlK1 (⟨[(0, .agg [.xl ya A.length 1 (cI A), .xl yl L.length 2 (cR L), .xl yf B.length 1 (cB B), .xl yw W.length 1 (cI W)]), (1, .xl yx X.length 1 (cI X))], [], 0, []⟩) w (OutR Try.prog Try.f3 56 (.bool true) w) := by
  have hcl_A := cI_len A
  have hcl_L := cR_len L
  have hcl_B := cB_len B
  have hcl_W := cI_len W
  have hcl_X := cI_len X
  cases hq21 : (ltI 14 ((A.length : Nat) : Int)) with
  | true =>
    have ghq21 := ltI_true hq21
    exact goes_eqR (r := (.bool .true)) (by first | rfl | (simp only [eqI_self]; rfl) | simp [eqI_self]) (goes_out Try.checked.mixed (known_zl hw) 200 (v := (.v (.bool .true))) (ps := [ltI 14 ((A.length : Nat) : Int) = true, true = true, true = true, true = true, true = true, true = true, true = true, true = true, true = true, true = true, true = true, true = true, true = true, true = true, true = true, true = true]) [.go, .go, .go, .go, .go, .go, .go, .go, .go, .go, .b true, .b true, .b true, .b true, .go, .go, .b true, .b true, .b true, .b true, .go, .go, .b true, .b true, .b true, .b true, .go, .go, .go, .b true, .b true, .b true, .go, .b true, .go] (by kernel_rfl) (by kernel_rfl) ⟨hq21, rfl, rfl, rfl, rfl, rfl, rfl, rfl, rfl, rfl, rfl, rfl, rfl, rfl, rfl, rfl, trivial⟩ rfl)
  | false =>
    have ghq21 := ltI_false hq21
    cases hq22 : (ltI 14 ((L.length : Nat) : Int)) with
    | true =>
      have ghq22 := ltI_true hq22
      exact goes_eqR (r := (.bool .true)) (by first | rfl | (simp only [eqI_self]; rfl) | simp [eqI_self]) (goes_out Try.checked.mixed (known_zl hw) 200 (v := (.v (.bool .true))) (ps := [ltI 14 ((A.length : Nat) : Int) = false, false = false, false = false, false = false, ltI 14 ((L.length : Nat) : Int) = true, true = true, true = true, true = true, true = true, true = true, true = true, true = true, true = true, true = true, true = true, true = true]) [.go, .go, .go, .go, .go, .go, .go, .go, .go, .go, .b false, .go, .b false, .go, .b false, .go, .b false, .go, .go, .go, .b true, .b true, .b true, .b true, .go, .go, .b true, .b true, .b true, .b true, .go, .go, .go, .b true, .b true, .b true, .go, .b true, .go] (by kernel_rfl) (by kernel_rfl) ⟨hq21, rfl, rfl, rfl, hq22, rfl, rfl, rfl, rfl, rfl, rfl, rfl, rfl, rfl, rfl, rfl, trivial⟩ rfl)
    | false =>
      have ghq22 := ltI_false hq22
      cases hq23 : (ltI 14 ((B.length : Nat) : Int)) with
      | true =>
        have ghq23 := ltI_true hq23
        exact goes_eqR (r := (.bool .true)) (by first | rfl | (simp only [eqI_self]; rfl) | simp [eqI_self]) (goes_out Try.checked.mixed (known_zl hw) 200 (v := (.v (.bool .true))) (ps := [ltI 14 ((A.length : Nat) : Int) = false, false = false, false = false, false = false, ltI 14 ((L.length : Nat) : Int) = false, false = false, false = false, false = false, ltI 14 ((B.length : Nat) : Int) = true, true = true, true = true, true = true, true = true, true = true, true = true, true = true]) [.go, .go, .go, .go, .go, .go, .go, .go, .go, .go, .b false, .go, .b false, .go, .b false, .go, .b false, .go, .go, .go, .b false, .go, .b false, .go, .b false, .go, .b false, .go, .go, .go, .b true, .b true, .b true, .b true, .go, .go, .go, .b true, .b true, .b true, .go, .b true, .go] (by kernel_rfl) (by kernel_rfl) ⟨hq21, rfl, rfl, rfl, hq22, rfl, rfl, rfl, hq23, rfl, rfl, rfl, rfl, rfl, rfl, rfl, trivial⟩ rfl)
      | false =>
        have ghq23 := ltI_false hq23
        cases hq24 : (ltI 100 ((W.length : Nat) : Int)) with
        | true =>
          have ghq24 := ltI_true hq24
          exact goes_eqR (r := (.bool .true)) (by first | rfl | (simp only [eqI_self]; rfl) | simp [eqI_self]) (goes_out Try.checked.mixed (known_zl hw) 200 (v := (.v (.bool .true))) (ps := [ltI 14 ((A.length : Nat) : Int) = false, false = false, false = false, false = false, ltI 14 ((L.length : Nat) : Int) = false, false = false, false = false, false = false, ltI 14 ((B.length : Nat) : Int) = false, false = false, false = false, false = false, ltI 100 ((W.length : Nat) : Int) = true, true = true, true = true, true = true]) [.go, .go, .go, .go, .go, .go, .go, .go, .go, .go, .b false, .go, .b false, .go, .b false, .go, .b false, .go, .go, .go, .b false, .go, .b false, .go, .b false, .go, .b false, .go, .go, .go, .b false, .go, .b false, .go, .b false, .go, .b false, .go, .go, .go, .go, .b true, .b true, .b true, .go, .b true, .go] (by kernel_rfl) (by kernel_rfl) ⟨hq21, rfl, rfl, rfl, hq22, rfl, rfl, rfl, hq23, rfl, rfl, rfl, hq24, rfl, rfl, rfl, trivial⟩ rfl)
        | false =>
          have ghq24 := ltI_false hq24
          cases hq25 : (ltI 100 ((X.length : Nat) : Int)) with
          | true =>
            have ghq25 := ltI_true hq25
            exact goes_eqR (r := (.bool .true)) (by first | rfl | (simp only [eqI_self]; rfl) | simp [eqI_self]) (goes_out Try.checked.mixed (known_zl hw) 200 (v := (.v (.bool .true))) (ps := [ltI 14 ((A.length : Nat) : Int) = false, false = false, false = false, false = false, ltI 14 ((L.length : Nat) : Int) = false, false = false, false = false, false = false, ltI 14 ((B.length : Nat) : Int) = false, false = false, false = false, false = false, ltI 100 ((W.length : Nat) : Int) = false, false = false, false = false, ltI 100 ((X.length : Nat) : Int) = true]) [.go, .go, .go, .go, .go, .go, .go, .go, .go, .go, .b false, .go, .b false, .go, .b false, .go, .b false, .go, .go, .go, .b false, .go, .b false, .go, .b false, .go, .b false, .go, .go, .go, .b false, .go, .b false, .go, .b false, .go, .b false, .go, .go, .go, .go, .b false, .go, .b false, .go, .b false, .go, .go, .b true, .go] (by kernel_rfl) (by kernel_rfl) ⟨hq21, rfl, rfl, rfl, hq22, rfl, rfl, rfl, hq23, rfl, rfl, rfl, hq24, rfl, rfl, hq25, trivial⟩ rfl)
          | false =>
            have ghq25 := ltI_false hq25
            cases hq26 : (eqI (clE (cI A) A.length (cR L) L.length B.length (cI W) W.length) (clE (cI A) A.length (cR L) L.length B.length (cI W) W.length)) with
            | true =>
              have ghq26 := eqI_true hq26
              cases hq27 : (eqI (tE (cI A) A.length (cR L) L.length (cB B) B.length (cI W) W.length (cI X) X.length) (tE (cI A) A.length (cR L) L.length (cB B) B.length (cI W) W.length (cI X) X.length)) with
              | true =>
                have ghq27 := eqI_true hq27
                cases hq28 : (eqI (fxE (cI A) A.length (cR L) L.length (cB B) B.length (cI W) W.length (cI X) X.length) (fxE (cI A) A.length (cR L) L.length (cB B) B.length (cI W) W.length (cI X) X.length)) with
                | true =>
                  have ghq28 := eqI_true hq28
                  exact goes_eqR (r := (.bool .true)) (by first | rfl | (simp only [eqI_self]; rfl) | simp [eqI_self]) (goes_out Try.checked.mixed (known_zl hw) 200 (v := (.v (.bool .true))) (ps := [ltI 14 ((A.length : Nat) : Int) = false, false = false, false = false, false = false, ltI 14 ((L.length : Nat) : Int) = false, false = false, false = false, false = false, ltI 14 ((B.length : Nat) : Int) = false, false = false, false = false, false = false, ltI 100 ((W.length : Nat) : Int) = false, false = false, false = false, ltI 100 ((X.length : Nat) : Int) = false, IsLamX 1 2 1 1 1 (cI A) A.length (cR L) L.length (cB B) B.length (cI W) W.length (cI X) X.length, IsLamX 1 2 1 1 1 (cI A) A.length (cR L) L.length (cB B) B.length (cI W) W.length (cI X) X.length, IsLampK 1 2 1 1 (cI A) A.length (cR L) L.length (cB B) B.length (cI W) W.length, IsLampK 1 2 1 1 (cI A) A.length (cR L) L.length (cB B) B.length (cI W) W.length, eqI (clE (cI A) A.length (cR L) L.length B.length (cI W) W.length) (clE (cI A) A.length (cR L) L.length B.length (cI W) W.length) = true, true = true, true = true, IsLamX 1 2 1 1 1 (cI A) A.length (cR L) L.length (cB B) B.length (cI W) W.length (cI X) X.length, true = true, true = true, true = true, IsLamX 1 2 1 1 1 (cI A) A.length (cR L) L.length (cB B) B.length (cI W) W.length (cI X) X.length, true = true, eqI (tE (cI A) A.length (cR L) L.length (cB B) B.length (cI W) W.length (cI X) X.length) (tE (cI A) A.length (cR L) L.length (cB B) B.length (cI W) W.length (cI X) X.length) = true, true = true, true = true, eqI (fxE (cI A) A.length (cR L) L.length (cB B) B.length (cI W) W.length (cI X) X.length) (fxE (cI A) A.length (cR L) L.length (cB B) B.length (cI W) W.length (cI X) X.length) = true, true = true, true = true, eqI (tE (cI A) A.length (cR L) L.length (cB B) B.length (cI W) W.length (cI X) X.length) (tE (cI A) A.length (cR L) L.length (cB B) B.length (cI W) W.length (cI X) X.length) = true]) [.go, .go, .go, .go, .go, .go, .go, .go, .go, .go, .b false, .go, .b false, .go, .b false, .go, .b false, .go, .go, .go, .b false, .go, .b false, .go, .b false, .go, .b false, .go, .go, .go, .b false, .go, .b false, .go, .b false, .go, .b false, .go, .go, .go, .go, .b false, .go, .b false, .go, .b false, .go, .go, .b false, .go, .go, .go, .go, .go, .go, .go, .go, .go, .go, .go, .go, .go, .go, .go, .go, .go, .go, .b true, .go, .b true, .go, .b true, .b true, .go, .b true, .go, .b true, .b true, .go, .go, .go, .b true, .go, .b true, .go, .b true, .go, .go, .go, .b true, .go, .b true, .go, .b true, .go, .go, .go, .b true, .go, .go] (by kernel_rfl) (by kernel_rfl) ⟨hq21, rfl, rfl, rfl, hq22, rfl, rfl, rfl, hq23, rfl, rfl, rfl, hq24, rfl, rfl, hq25, ⟨⟨rfl, rfl, rfl, rfl, A, L, B, W, rfl, rfl, rfl, rfl, rfl, rfl, rfl, rfl⟩, ⟨rfl, _, rfl, rfl⟩⟩, ⟨⟨rfl, rfl, rfl, rfl, A, L, B, W, rfl, rfl, rfl, rfl, rfl, rfl, rfl, rfl⟩, ⟨rfl, _, rfl, rfl⟩⟩, ⟨rfl, rfl, rfl, rfl, A, L, B, W, rfl, rfl, rfl, rfl, rfl, rfl, rfl, rfl⟩, ⟨rfl, rfl, rfl, rfl, A, L, B, W, rfl, rfl, rfl, rfl, rfl, rfl, rfl, rfl⟩, hq26, rfl, rfl, ⟨⟨rfl, rfl, rfl, rfl, A, L, B, W, rfl, rfl, rfl, rfl, rfl, rfl, rfl, rfl⟩, ⟨rfl, _, rfl, rfl⟩⟩, rfl, rfl, rfl, ⟨⟨rfl, rfl, rfl, rfl, A, L, B, W, rfl, rfl, rfl, rfl, rfl, rfl, rfl, rfl⟩, ⟨rfl, _, rfl, rfl⟩⟩, rfl, hq27, rfl, rfl, hq28, rfl, rfl, hq27, trivial⟩ rfl)
                | false =>
                  have ghq28 := eqI_false hq28
                  exact absurd (eqI_self _) (by rw [hq28]; decide)
              | false =>
                have ghq27 := eqI_false hq27
                exact absurd (eqI_self _) (by rw [hq27]; decide)
            | false =>
              have ghq26 := eqI_false hq26
              exact absurd (eqI_self _) (by rw [hq26]; decide)

theorem zl_g (ya : Value) (yl : Value) (yf : Value) (yw : Value) (A : List Int) (L : List (Int × Int)) (B : List Bool) (W : List Int) (yx : Value) (X : List Int) (hw : Known Try.prog (clsO zwO)) : GivesA Try.prog 3 [.agg [.xl ya A.length 1 (cI A), .xl yl L.length 2 (cR L), .xl yf B.length 1 (cB B), .xl yw W.length 1 (cI W)], .xl yx X.length 1 (cI X)] (.bool true) :=
  givesA_parts 56 Try.func3 (by kernel_rfl) (by kernel_rfl) (by kernel_rfl) (fun w => goes_less (by kernel_rfl) (by kernel_rfl) (by kernel_rfl) (by kernel_rfl) (zl_2 ya yl yf yw A L B W yx X hw w))

end
end Go.Proofs.Ytldekgkjofgacaa
