/- Flux on both sides. -/
import Derived.Test.YtldekgkjofgacaaZ10
namespace Go.Proofs.Ytldekgkjofgacaa
set_option linter.unusedVariables false
set_option linter.unusedSimpArgs false
open Go Ev
noncomputable section

noncomputable def rxK1 : Code := bodyC Try.f18

set_option maxHeartbeats 2000000 in
theorem rx_2 (ya : Value) (yl : Value) (yf : Value) (yw : Value) (A : List Int) (L : List (Int × Int)) (B : List Bool) (W : List Int) (yx : Value) (X : List Int) (w : World) : Goes Try.prog 17 rxK1 (⟨[(0, .agg [.xl ya A.length 1 (cI A), .xl yl L.length 2 (cR L), .xl yf B.length 1 (cB B), .xl yw W.length 1 (cI W)]), (1, .xl yx X.length 1 (cI X))], [], 0, []⟩) w (OutR Try.prog Try.f18 17 (.tuple #[.int .i64 (fxE (cI A) A.length (cR L) L.length (cB B) B.length (cI W) W.length (cI X) X.length), .int .i64 (tE (cI A) A.length (cR L) L.length (cB B) B.length (cI W) W.length (cI X) X.length)]) w) := by
  have hcl_A := cI_len A
  have hcl_L := cR_len L
  have hcl_B := cB_len B
  have hcl_W := cI_len W
  have hcl_X := cI_len X
  cases hq21 : (eqI (tE (cI A) A.length (cR L) L.length (cB B) B.length (cI W) W.length (cI X) X.length) 0) with
  | true =>
    have ghq21 := eqI_true hq21
    have ht := ghq21
    obtain ⟨hbX, hbW, hW91, hXW⟩ := true_bd ht
    exact goes_eqR (r := .tuple #[(.int .i64 (sumP (cI W) (cI X) W.length)), (.int .i64 0)]) (by unfold fxE; rw [if_pos ht, ht]) (goes_out Try.checked.mixed (known_rf) 200 (v := (.tup [(.v (.int .i64 (sumP (cI W) (cI X) W.length))), (.v (.int .i64 (.ofNat 0)))])) (ps := [IsLamX 1 2 1 1 1 (cI A) A.length (cR L) L.length (cB B) B.length (cI W) W.length (cI X) X.length, (!eqI (tE (cI A) A.length (cR L) L.length (cB B) B.length (cI W) W.length (cI X) X.length) 0) = false, IsI 1 W.length (cI W), IsI 1 X.length (cI X), W.length ≤ X.length, W.length ≤ 1000, ∀ (i : Nat), i < W.length → 0 ≤ intAt (cI W) (i * 1) ∧ intAt (cI W) (i * 1) ≤ 1000, ∀ (i : Nat), i < W.length → 0 ≤ intAt (cI X) (i * 1) ∧ intAt (cI X) (i * 1) ≤ 200]) [.go, .go, .go, .go, .go, .go, .b false, .go, .go, .go, .go, .go] (by kernel_rfl) (by kernel_rfl) ⟨⟨⟨rfl, rfl, rfl, rfl, A, L, B, W, rfl, rfl, rfl, rfl, rfl, rfl, rfl, rfl⟩, ⟨rfl, _, rfl, rfl⟩⟩, (by rw [hq21]; rfl), ⟨rfl, _, rfl, rfl⟩, ⟨rfl, _, rfl, rfl⟩, (by omega), (by omega), hbW, hbX, trivial⟩ rfl)
  | false =>
    have ghq21 := eqI_false hq21
    exact goes_eqR (r := .tuple #[(.int .i64 0), (.int .i64 (tE (cI A) A.length (cR L) L.length (cB B) B.length (cI W) W.length (cI X) X.length))]) (by unfold fxE; rw [if_neg ghq21]) (goes_out Try.checked.mixed (known_rf) 200 (v := (.tup [(.v (.int .i64 (.ofNat 0))), (.v (.int .i64 (tE (cI A) A.length (cR L) L.length (cB B) B.length (cI W) W.length (cI X) X.length)))])) (ps := [IsLamX 1 2 1 1 1 (cI A) A.length (cR L) L.length (cB B) B.length (cI W) W.length (cI X) X.length, (!eqI (tE (cI A) A.length (cR L) L.length (cB B) B.length (cI W) W.length (cI X) X.length) 0) = true, IsLamX 1 2 1 1 1 (cI A) A.length (cR L) L.length (cB B) B.length (cI W) W.length (cI X) X.length]) [.go, .go, .go, .go, .go, .go, .b true, .go, .go, .go, .go] (by kernel_rfl) (by kernel_rfl) ⟨⟨⟨rfl, rfl, rfl, rfl, A, L, B, W, rfl, rfl, rfl, rfl, rfl, rfl, rfl, rfl⟩, ⟨rfl, _, rfl, rfl⟩⟩, (by rw [hq21]; rfl), ⟨⟨rfl, rfl, rfl, rfl, A, L, B, W, rfl, rfl, rfl, rfl, rfl, rfl, rfl, rfl⟩, ⟨rfl, _, rfl, rfl⟩⟩, trivial⟩ rfl)

theorem rx_g (ya : Value) (yl : Value) (yf : Value) (yw : Value) (A : List Int) (L : List (Int × Int)) (B : List Bool) (W : List Int) (yx : Value) (X : List Int) : GivesA Try.prog 18 [.agg [.xl ya A.length 1 (cI A), .xl yl L.length 2 (cR L), .xl yf B.length 1 (cB B), .xl yw W.length 1 (cI W)], .xl yx X.length 1 (cI X)] (.tuple #[.int .i64 (fxE (cI A) A.length (cR L) L.length (cB B) B.length (cI W) W.length (cI X) X.length), .int .i64 (tE (cI A) A.length (cR L) L.length (cB B) B.length (cI W) W.length (cI X) X.length)]) :=
  givesA_parts 17 Try.func18 (by kernel_rfl) (by kernel_rfl) (by kernel_rfl) (fun w => goes_less (by kernel_rfl) (by kernel_rfl) (by kernel_rfl) (by kernel_rfl) (rx_2 ya yl yf yw A L B W yx X w))

noncomputable def oxK1 : Code := bodyC Try.f17

noncomputable def oxK3 : Code := tlC oxK1

noncomputable def oxK5 : Code := tlC oxK3

noncomputable def oxc4K1 : Code := bodyC Try.f46

noncomputable def oxc4K3 : Code := tlC oxc4K1

noncomputable def oxc4K5 : Code := tlC oxc4K3

noncomputable def oxc4K7 : Code := loopC (tlC (hdC oxc4K5))

noncomputable def oxc4K8 : Code := tlC oxc4K5

set_option maxHeartbeats 2000000 in
theorem oxc4_9 (ya : Value) (yl : Value) (yf : Value) (yw : Value) (A : List Int) (L : List (Int × Int)) (B : List Bool) (W : List Int) (yx : Value) (X : List Int) (hq4_1 : (eqI (tE (cI A) A.length (cR L) L.length (cB B) B.length (cI W) W.length (cI X) X.length) 0) = true) (h0rb : True) (v : BaseW) (eb : Nat → Option Nat) (ec : Nat → Nat) : Goes Try.prog 25 oxc4K8 (⟨[(5, (.v (.int .i64 (sumP (cI W) (cI X) (W.length)))))], [], 3, []⟩) (bw v 2 eb ec) (BackQ 25 (fun _ : Unit => ⟨[(4, (.v (.int .i64 (sumP (cI W) (cI X) W.length))))], [], 2, []⟩) (fun _ : Unit => True) (bw v 2 eb ec)) := by
  have hcl_A := cI_len A
  have hcl_L := cR_len L
  have hcl_B := cB_len B
  have hcl_W := cI_len W
  have hcl_X := cI_len X
  have ghq4_1 := eqI_true hq4_1
  have ht := ghq4_1
  obtain ⟨hbX, hbW, hW91, hXW⟩ := true_bd ht
  exact backQ_i (S := (fun _ : Unit => ⟨[(4, (.v (.int .i64 (sumP (cI W) (cI X) W.length))))], [], 2, []⟩)) () (show True from trivial) isR_back (goes_cut Try.checked.mixed (known_otc) 200 (T' := ⟨[(4, (.v (.int .i64 (sumP (cI W) (cI X) W.length))))], [], 2, []⟩) (e := .ret) (m := 3) (ps := []) [.go, .go] (by kernel_rfl) (by kernel_rfl) trivial rfl (by show 2 ≤ 3; decide) ⟨⟨nb_v _, trivial⟩, trivial, rfl⟩ (by show 2 ≤ 2; decide))

set_option maxHeartbeats 4000000 in
theorem oxc4_6 (ya : Value) (yl : Value) (yf : Value) (yw : Value) (A : List Int) (L : List (Int × Int)) (B : List Bool) (W : List Int) (yx : Value) (X : List Int) (hq4_1 : (eqI (tE (cI A) A.length (cR L) L.length (cB B) B.length (cI W) W.length (cI X) X.length) 0) = true) (v : BaseW) (eb : Nat → Option Nat) (ec : Nat → Nat) : Goes Try.prog 25 oxc4K5 (⟨[(1, (.fn (.func 47) [] [(.ptr 1 0)])), (2, (.ptr 2 0)), (5, (.v (.int .i64 (.ofNat 0))))], [], 3, [(1, (.cells [(.xl (yx) (X.length) 1 (cI X))] 22)), (2, (.cells [(.xl (ya) (A.length) 1 (cI A)), (.xl (yl) (L.length) 2 (cR L)), (.xl (yf) (B.length) 1 (cB B)), (.xl (yw) (W.length) 1 (cI W))] 26))]⟩) (bw v 2 eb ec) (BackQ 25 (fun _ : Unit => ⟨[(4, (.v (.int .i64 (sumP (cI W) (cI X) W.length))))], [], 2, []⟩) (fun _ : Unit => True) (bw v 2 eb ec)) := by
  have hcl_A := cI_len A
  have hcl_L := cR_len L
  have hcl_B := cB_len B
  have hcl_W := cI_len W
  have hcl_X := cI_len X
  have ghq4_1 := eqI_true hq4_1
  have ht := ghq4_1
  obtain ⟨hbX, hbW, hW91, hXW⟩ := true_bd ht
  refine goes_spineQ (ι := { i : Nat // i ≤ W.length ∧ True }) (T := (fun i : { i : Nat // i ≤ W.length ∧ True } => ⟨[(1, (.fn (.func 47) [] [(.ptr 1 0)])), (5, (.v (.int .i64 (sumP (cI W) (cI X) i.1)))), (9, (.xl (yw) (W.length) 1 (cI W))), (10, (.v (.int .i64 (((W.length : Nat) : Int))))), (11, (.v (.int .i64 ((i.1 : Nat) : Int))))], [], 3, [(1, (.cells [(.xl (yx) (X.length) 1 (cI X))] 22))]⟩)) (R := (fun i : { i : Nat // i ≤ W.length ∧ True } => W.length ≤ i.1)) (by kernel_rfl) (goes_spine (T' := ⟨[(1, (.fn (.func 47) [] [(.ptr 1 0)])), (5, (.v (.int .i64 (sumP (cI W) (cI X) 0)))), (9, (.xl (yw) (W.length) 1 (cI W))), (10, (.v (.int .i64 (((W.length : Nat) : Int))))), (11, (.v (.int .i64 ((0 : Nat) : Int))))], [], 3, [(1, (.cells [(.xl (yx) (X.length) 1 (cI X))] 22))]⟩) (by kernel_rfl) (goes_told Try.checked.mixed (known_otc) 200 (T' := ⟨[(1, (.fn (.func 47) [] [(.ptr 1 0)])), (5, (.v (.int .i64 (sumP (cI W) (cI X) 0)))), (9, (.xl (yw) (W.length) 1 (cI W))), (10, (.v (.int .i64 (((W.length : Nat) : Int))))), (11, (.v (.int .i64 ((0 : Nat) : Int))))], [], 3, [(1, (.cells [(.xl (yx) (X.length) 1 (cI X))] 22))]⟩) (e := .normal) (ps := []) [.go, .go, .go, .go] (by kernel_rfl) (by kernel_rfl) trivial rfl) (goes_blockstep (by kernel_rfl) (fun i : { i : Nat // i ≤ W.length ∧ True } => ⟨[(1, (.fn (.func 47) [] [(.ptr 1 0)])), (5, (.v (.int .i64 (sumP (cI W) (cI X) i.1)))), (9, (.xl (yw) (W.length) 1 (cI W))), (10, (.v (.int .i64 (((W.length : Nat) : Int))))), (11, (.v (.int .i64 ((i.1 : Nat) : Int))))], [], 3, [(1, (.cells [(.xl (yx) (X.length) 1 (cI X))] 22))]⟩) (fun i : { i : Nat // i ≤ W.length ∧ True } => W.length - i.1) (fun i => ?_) ⟨0, Nat.zero_le _, trivial⟩)) (fun ixR hxR => (fun (e : ixR.1 = W.length) => goes_lit (show (⟨[(1, (.fn (.func 47) [] [(.ptr 1 0)])), (5, (.v (.int .i64 (sumP (cI W) (cI X) ixR.1)))), (9, (.xl (yw) (W.length) 1 (cI W))), (10, (.v (.int .i64 (((W.length : Nat) : Int))))), (11, (.v (.int .i64 ((ixR.1 : Nat) : Int))))], [], 3, [(1, (.cells [(.xl (yx) (X.length) 1 (cI X))] 22))]⟩ : Ev.Lit) = ⟨[(1, (.fn (.func 47) [] [(.ptr 1 0)])), (5, (.v (.int .i64 (sumP (cI W) (cI X) (W.length))))), (9, (.xl (yw) (W.length) 1 (cI W))), (10, (.v (.int .i64 (((W.length : Nat) : Int))))), (11, (.v (.int .i64 (((W.length) : Nat) : Int))))], [], 3, [(1, (.cells [(.xl (yx) (X.length) 1 (cI X))] 22))]⟩ from by rw [e]) (goes_less (by kernel_rfl) (by kernel_rfl) (by kernel_rfl) (by kernel_rfl) (oxc4_9 ya yl yf yw A L B W yx X hq4_1 trivial v eb ec))) (by have h1 := ixR.2.1; have h2 : W.length ≤ ixR.1 := hxR; omega))
  obtain ⟨i, hi1, hi2⟩ := i
  have hb1 := sumP_bd (c := cI W) (d := cI X) (n := i) (fun j hj => hbW j (by omega)) (fun j hj => hbX j (by omega))
  show Goes Try.prog 25 oxc4K7 (⟨[(1, (.fn (.func 47) [] [(.ptr 1 0)])), (5, (.v (.int .i64 (sumP (cI W) (cI X) i)))), (9, (.xl (yw) (W.length) 1 (cI W))), (10, (.v (.int .i64 (((W.length : Nat) : Int))))), (11, (.v (.int .i64 ((i : Nat) : Int))))], [], 3, [(1, (.cells [(.xl (yx) (X.length) 1 (cI X))] 22))]⟩) (bw v 2 eb ec) (StepQ _ _ _ _ _ _ _ _)
  cases hl0_1 : (ltI ((i : Nat) : Int) ((W.length : Nat) : Int)) with
  | true =>
    have ghl0_1 := ltI_true hl0_1
    have hb2 := mul_bd2 (hbW i (by omega)).1 (hbW i (by omega)).2 (hbX i (by omega)).1 (hbX i (by omega)).2
    refine Ev.step_on ⟨i + 1, by omega, trivial⟩ (by show W.length - (i + 1) < W.length - i; omega) ?_
    exact goes_told Try.checked.mixed (known_otc) 200 (T' := ⟨[(1, (.fn (.func 47) [] [(.ptr 1 0)])), (5, (.v (.int .i64 (sumP (cI W) (cI X) (i + 1))))), (9, (.xl (yw) (W.length) 1 (cI W))), (10, (.v (.int .i64 (((W.length : Nat) : Int))))), (11, (.v (.int .i64 (((i + 1) : Nat) : Int))))], [], 3, [(1, (.cells [(.xl (yx) (X.length) 1 (cI X))] 22))]⟩) (e := .normal) (ps := [ltI ((i : Nat) : Int) ((W.length : Nat) : Int) = true, i < W.length, loadL Try.prog (cI W) (i * 1) 2 = some (AV.v (Value.int IntKind.i64 (intAt (cI W) (i * 1)))), i < X.length, loadL Try.prog (cI X) (i * 1) 2 = some (AV.v (Value.int IntKind.i64 (intAt (cI X) (i * 1)))), inR IntKind.i64 (intAt (cI W) (i * 1) * intAt (cI X) (i * 1)), inR IntKind.i64 (sumP (cI W) (cI X) i + intAt (cI W) (i * 1) * intAt (cI X) (i * 1)), inR IntKind.i64 (((i : Nat) : Int) + 1)]) [.go, .b true, .go, .sym, .sym, .go, .go, .go, .go, .go, .go, .go, .go, .go, .sym, .sym, .go, .go, .go, .go, .go, .go] (by kernel_rfl) (by kernel_rfl) ⟨hl0_1, (by omega), (cI_ld (by omega) 2 (Try.underlying2) rfl), (by omega), (cI_ld (by omega) 2 (Try.underlying2) rfl), (by show -9223372036854775808 ≤ _ ∧ _ ≤ 9223372036854775807; constructor <;> omega), (by show -9223372036854775808 ≤ _ ∧ _ ≤ 9223372036854775807; constructor <;> omega), (by show -9223372036854775808 ≤ _ ∧ _ ≤ 9223372036854775807; constructor <;> omega), trivial⟩ rfl
  | false =>
    have ghl0_1 := ltI_false hl0_1
    exact Ev.step_out (by show W.length ≤ i; omega) (goes_told Try.checked.mixed (known_otc) 200 (T' := ⟨[(1, (.fn (.func 47) [] [(.ptr 1 0)])), (5, (.v (.int .i64 (sumP (cI W) (cI X) i)))), (9, (.xl (yw) (W.length) 1 (cI W))), (10, (.v (.int .i64 (((W.length : Nat) : Int))))), (11, (.v (.int .i64 ((i : Nat) : Int))))], [], 3, [(1, (.cells [(.xl (yx) (X.length) 1 (cI X))] 22))]⟩) (e := .exit 0) (ps := [ltI ((i : Nat) : Int) ((W.length : Nat) : Int) = false]) [.go, .b false] (by kernel_rfl) (by kernel_rfl) ⟨hl0_1, trivial⟩ rfl)

set_option maxHeartbeats 2000000 in
theorem oxc4_4 (ya : Value) (yl : Value) (yf : Value) (yw : Value) (A : List Int) (L : List (Int × Int)) (B : List Bool) (W : List Int) (yx : Value) (X : List Int) (hq4_1 : (eqI (tE (cI A) A.length (cR L) L.length (cB B) B.length (cI W) W.length (cI X) X.length) 0) = true) (v : BaseW) (eb : Nat → Option Nat) (ec : Nat → Nat) : Goes Try.prog 25 oxc4K3 (⟨[(1, (.fn (.func 47) [] [(.ptr 1 0)])), (2, (.ptr 2 0))], [], 3, [(1, (.cells [(.xl (yx) (X.length) 1 (cI X))] 22)), (2, (.cells [(.xl (ya) (A.length) 1 (cI A)), (.xl (yl) (L.length) 2 (cR L)), (.xl (yf) (B.length) 1 (cB B)), (.xl (yw) (W.length) 1 (cI W))] 26))]⟩) (bw v 2 eb ec) (BackQ 25 (fun _ : Unit => ⟨[(4, (.v (.int .i64 (sumP (cI W) (cI X) W.length))))], [], 2, []⟩) (fun _ : Unit => True) (bw v 2 eb ec)) := by
  have hcl_A := cI_len A
  have hcl_L := cR_len L
  have hcl_B := cB_len B
  have hcl_W := cI_len W
  have hcl_X := cI_len X
  have ghq4_1 := eqI_true hq4_1
  have ht := ghq4_1
  obtain ⟨hbX, hbW, hW91, hXW⟩ := true_bd ht
  exact goes_spine (T' := ⟨[(1, (.fn (.func 47) [] [(.ptr 1 0)])), (2, (.ptr 2 0)), (5, (.v (.int .i64 (.ofNat 0))))], [], 3, [(1, (.cells [(.xl (yx) (X.length) 1 (cI X))] 22)), (2, (.cells [(.xl (ya) (A.length) 1 (cI A)), (.xl (yl) (L.length) 2 (cR L)), (.xl (yf) (B.length) 1 (cB B)), (.xl (yw) (W.length) 1 (cI W))] 26))]⟩) (by kernel_rfl) (goes_told Try.checked.mixed (known_otc) 200 (T' := ⟨[(1, (.fn (.func 47) [] [(.ptr 1 0)])), (2, (.ptr 2 0)), (5, (.v (.int .i64 (.ofNat 0))))], [], 3, [(1, (.cells [(.xl (yx) (X.length) 1 (cI X))] 22)), (2, (.cells [(.xl (ya) (A.length) 1 (cI A)), (.xl (yl) (L.length) 2 (cR L)), (.xl (yf) (B.length) 1 (cB B)), (.xl (yw) (W.length) 1 (cI W))] 26))]⟩) (e := .normal) (ps := []) [.go] (by kernel_rfl) (by kernel_rfl) trivial rfl) (oxc4_6 ya yl yf yw A L B W yx X hq4_1 v eb ec)

set_option maxHeartbeats 2000000 in
theorem oxc4_2 (ya : Value) (yl : Value) (yf : Value) (yw : Value) (A : List Int) (L : List (Int × Int)) (B : List Bool) (W : List Int) (yx : Value) (X : List Int) (hq4_1 : (eqI (tE (cI A) A.length (cR L) L.length (cB B) B.length (cI W) W.length (cI X) X.length) 0) = true) (v : BaseW) (eb : Nat → Option Nat) (ec : Nat → Nat) : Goes Try.prog 25 oxc4K1 (⟨[(0, (.agg [(.xl (ya) (A.length) 1 (cI A)), (.xl (yl) (L.length) 2 (cR L)), (.xl (yf) (B.length) 1 (cB B)), (.xl (yw) (W.length) 1 (cI W))])), (1, (.fn (.func 47) [] [(.ptr 1 0)]))], [], 2, [(1, (.cells [(.xl (yx) (X.length) 1 (cI X))] 22))]⟩) (bw v 2 eb ec) (BackQ 25 (fun _ : Unit => ⟨[(4, (.v (.int .i64 (sumP (cI W) (cI X) W.length))))], [], 2, []⟩) (fun _ : Unit => True) (bw v 2 eb ec)) := by
  have hcl_A := cI_len A
  have hcl_L := cR_len L
  have hcl_B := cB_len B
  have hcl_W := cI_len W
  have hcl_X := cI_len X
  have ghq4_1 := eqI_true hq4_1
  have ht := ghq4_1
  obtain ⟨hbX, hbW, hW91, hXW⟩ := true_bd ht
  exact goes_spine (T' := ⟨[(1, (.fn (.func 47) [] [(.ptr 1 0)])), (2, (.ptr 2 0))], [], 3, [(1, (.cells [(.xl (yx) (X.length) 1 (cI X))] 22)), (2, (.cells [(.xl (ya) (A.length) 1 (cI A)), (.xl (yl) (L.length) 2 (cR L)), (.xl (yf) (B.length) 1 (cB B)), (.xl (yw) (W.length) 1 (cI W))] 26))]⟩) (by kernel_rfl) (goes_told Try.checked.mixed (known_otc) 200 (T' := ⟨[(1, (.fn (.func 47) [] [(.ptr 1 0)])), (2, (.ptr 2 0))], [], 3, [(1, (.cells [(.xl (yx) (X.length) 1 (cI X))] 22)), (2, (.cells [(.xl (ya) (A.length) 1 (cI A)), (.xl (yl) (L.length) 2 (cR L)), (.xl (yf) (B.length) 1 (cB B)), (.xl (yw) (W.length) 1 (cI W))] 26))]⟩) (e := .normal) (ps := []) [.go, .go] (by kernel_rfl) (by kernel_rfl) trivial rfl) (oxc4_4 ya yl yf yw A L B W yx X hq4_1 v eb ec)

noncomputable def oxK7 : Code := tlC oxK5

set_option maxHeartbeats 2000000 in
theorem ox_8 (ya : Value) (yl : Value) (yf : Value) (yw : Value) (A : List Int) (L : List (Int × Int)) (B : List Bool) (W : List Int) (yx : Value) (X : List Int) (hq4_1 : (eqI (tE (cI A) A.length (cR L) L.length (cB B) B.length (cI W) W.length (cI X) X.length) 0) = true) (w : World) : Goes Try.prog 16 oxK7 (⟨[(4, (.v (.int .i64 (sumP (cI W) (cI X) W.length)))), (5, (.v (.int .i64 (.ofNat 0))))], [], 2, []⟩) w (OutR Try.prog Try.f17 16 (.tuple #[.int .i64 (fxE (cI A) A.length (cR L) L.length (cB B) B.length (cI W) W.length (cI X) X.length), .int .i64 (tE (cI A) A.length (cR L) L.length (cB B) B.length (cI W) W.length (cI X) X.length)]) w) := by
  have hcl_A := cI_len A
  have hcl_L := cR_len L
  have hcl_B := cB_len B
  have hcl_W := cI_len W
  have hcl_X := cI_len X
  have ghq4_1 := eqI_true hq4_1
  have ht := ghq4_1
  obtain ⟨hbX, hbW, hW91, hXW⟩ := true_bd ht
  exact goes_eqR (r := .tuple #[(.int .i64 (sumP (cI W) (cI X) W.length)), (.int .i64 0)]) (by unfold fxE; rw [if_pos ht, ht]) (goes_out Try.checked.mixed (known_otc) 200 (v := (.tup [(.v (.int .i64 (sumP (cI W) (cI X) W.length))), (.v (.int .i64 (.ofNat 0)))])) (ps := []) [] (by kernel_rfl) (by kernel_rfl) trivial rfl)

set_option maxHeartbeats 4000000 in
theorem ox_6 (ya : Value) (yl : Value) (yf : Value) (yw : Value) (A : List Int) (L : List (Int × Int)) (B : List Bool) (W : List Int) (yx : Value) (X : List Int) (hq4_1 : (eqI (tE (cI A) A.length (cR L) L.length (cB B) B.length (cI W) W.length (cI X) X.length) 0) = true) (w : World) : Goes Try.prog 16 oxK5 (⟨[(2, (.ptr 0 0)), (3, (.ptr 1 0))], [], 2, [(0, (.cells [(.xl (ya) (A.length) 1 (cI A)), (.xl (yl) (L.length) 2 (cR L)), (.xl (yf) (B.length) 1 (cB B)), (.xl (yw) (W.length) 1 (cI W))] 26)), (1, (.cells [(.xl (yx) (X.length) 1 (cI X))] 22))]⟩) w (OutR Try.prog Try.f17 16 (.tuple #[.int .i64 (fxE (cI A) A.length (cR L) L.length (cB B) B.length (cI W) W.length (cI X) X.length), .int .i64 (tE (cI A) A.length (cR L) L.length (cB B) B.length (cI W) W.length (cI X) X.length)]) w) := by
  have hcl_A := cI_len A
  have hcl_L := cR_len L
  have hcl_B := cB_len B
  have hcl_W := cI_len W
  have hcl_X := cI_len X
  have ghq4_1 := eqI_true hq4_1
  have ht := ghq4_1
  obtain ⟨hbX, hbW, hW91, hXW⟩ := true_bd ht
  refine goes_spineQ (ι := Unit) (T := fun _ : Unit => ⟨[(4, (.v (.int .i64 (sumP (cI W) (cI X) W.length)))), (5, (.v (.int .i64 (.ofNat 0))))], [], 2, []⟩) (R := fun _ : Unit => True) (by kernel_rfl) (goes_rg (by kernel_rfl) (goesL_toldC Try.checked.mixed (known_otc) 200 2 (T1 := ⟨[(13, (.agg [(.xl (ya) (A.length) 1 (cI A)), (.xl (yl) (L.length) 2 (cR L)), (.xl (yf) (B.length) 1 (cB B)), (.xl (yw) (W.length) 1 (cI W))])), (14, (.fn (.func 47) [] [(.ptr 1 0)]))], [], 2, [(1, (.cells [(.xl (yx) (X.length) 1 (cI X))] 22))]⟩) (e := .normal) (ps := []) [.go, .go] (by kernel_rfl) (by kernel_rfl) (by kernel_rfl) trivial (goesL_callT (ι := Unit) (T1 := ⟨[(0, (.agg [(.xl (ya) (A.length) 1 (cI A)), (.xl (yl) (L.length) 2 (cR L)), (.xl (yf) (B.length) 1 (cB B)), (.xl (yw) (W.length) 1 (cI W))])), (1, (.fn (.func 47) [] [(.ptr 1 0)]))], [], 2, [(1, (.cells [(.xl (yx) (X.length) 1 (cI X))] 22))]⟩) (T2 := (fun _ : Unit => ⟨[(4, (.v (.int .i64 (sumP (cI W) (cI X) W.length))))], [], 2, []⟩)) (T3 := fun _ : Unit => ⟨[(15, (.v (.int .i64 (sumP (cI W) (cI X) W.length))))], [], 2, []⟩) (R := (fun _ : Unit => True)) (k := 46) (szk := 25) (by kernel_rfl) Try.func46 (by kernel_rfl) (by kernel_rfl) (by kernel_rfl) (by kernel_rfl) (fun v eb ec => oxc4_2 ya yl yf yw A L B W yx X hq4_1 v eb ec) (fun _ _ => by kernel_rfl) (fun _ hR => goesL_toldC Try.checked.mixed (known_otc) 200 2 (T1 := ⟨[(4, (.v (.int .i64 (sumP (cI W) (cI X) W.length)))), (5, (.v (.int .i64 (.ofNat 0))))], [], 2, []⟩) (e := .normal) (ps := []) [.go, .go] (by kernel_rfl) (by kernel_rfl) (by kernel_rfl) trivial (goesL_endQ () hR (by kernel_rfl) (holds_view (by kernel_rfl) (by kernel_rfl) (by kernel_rfl) (by kernel_rfl))))))) (fun _ hxR => ox_8 ya yl yf yw A L B W yx X hq4_1  w)

set_option maxHeartbeats 2000000 in
theorem ox_4 (ya : Value) (yl : Value) (yf : Value) (yw : Value) (A : List Int) (L : List (Int × Int)) (B : List Bool) (W : List Int) (yx : Value) (X : List Int) (w : World) : Goes Try.prog 16 oxK3 (⟨[(2, (.ptr 0 0)), (3, (.ptr 1 0))], [], 2, [(0, (.cells [(.xl (ya) (A.length) 1 (cI A)), (.xl (yl) (L.length) 2 (cR L)), (.xl (yf) (B.length) 1 (cB B)), (.xl (yw) (W.length) 1 (cI W))] 26)), (1, (.cells [(.xl (yx) (X.length) 1 (cI X))] 22))]⟩) w (OutR Try.prog Try.f17 16 (.tuple #[.int .i64 (fxE (cI A) A.length (cR L) L.length (cB B) B.length (cI W) W.length (cI X) X.length), .int .i64 (tE (cI A) A.length (cR L) L.length (cB B) B.length (cI W) W.length (cI X) X.length)]) w) := by
  have hcl_A := cI_len A
  have hcl_L := cR_len L
  have hcl_B := cB_len B
  have hcl_W := cI_len W
  have hcl_X := cI_len X
  cases hq4_1 : (eqI (tE (cI A) A.length (cR L) L.length (cB B) B.length (cI W) W.length (cI X) X.length) 0) with
  | true =>
    have ghq4_1 := eqI_true hq4_1
    have ht := ghq4_1
    obtain ⟨hbX, hbW, hW91, hXW⟩ := true_bd ht
    exact goes_spine (T' := ⟨[(2, (.ptr 0 0)), (3, (.ptr 1 0))], [], 2, [(0, (.cells [(.xl (ya) (A.length) 1 (cI A)), (.xl (yl) (L.length) 2 (cR L)), (.xl (yf) (B.length) 1 (cB B)), (.xl (yw) (W.length) 1 (cI W))] 26)), (1, (.cells [(.xl (yx) (X.length) 1 (cI X))] 22))]⟩) (by kernel_rfl) (goes_told Try.checked.mixed (known_otc) 200 (T' := ⟨[(2, (.ptr 0 0)), (3, (.ptr 1 0))], [], 2, [(0, (.cells [(.xl (ya) (A.length) 1 (cI A)), (.xl (yl) (L.length) 2 (cR L)), (.xl (yf) (B.length) 1 (cB B)), (.xl (yw) (W.length) 1 (cI W))] 26)), (1, (.cells [(.xl (yx) (X.length) 1 (cI X))] 22))]⟩) (e := .normal) (ps := [IsLamX 1 2 1 1 1 (cI A) A.length (cR L) L.length (cB B) B.length (cI W) W.length (cI X) X.length, (!eqI (tE (cI A) A.length (cR L) L.length (cB B) B.length (cI W) W.length (cI X) X.length) 0) = false]) [.go, .go, .go, .go, .go, .b false] (by kernel_rfl) (by kernel_rfl) ⟨⟨⟨rfl, rfl, rfl, rfl, A, L, B, W, rfl, rfl, rfl, rfl, rfl, rfl, rfl, rfl⟩, ⟨rfl, _, rfl, rfl⟩⟩, (by rw [hq4_1]; rfl), trivial⟩ rfl) (ox_6 ya yl yf yw A L B W yx X hq4_1 w)
  | false =>
    have ghq4_1 := eqI_false hq4_1
    exact goes_eqR (r := .tuple #[(.int .i64 0), (.int .i64 (tE (cI A) A.length (cR L) L.length (cB B) B.length (cI W) W.length (cI X) X.length))]) (by unfold fxE; rw [if_neg ghq4_1]) (goes_out Try.checked.mixed (known_otc) 200 (v := (.tup [(.v (.int .i64 (.ofNat 0))), (.v (.int .i64 (tE (cI A) A.length (cR L) L.length (cB B) B.length (cI W) W.length (cI X) X.length)))])) (ps := [IsLamX 1 2 1 1 1 (cI A) A.length (cR L) L.length (cB B) B.length (cI W) W.length (cI X) X.length, (!eqI (tE (cI A) A.length (cR L) L.length (cB B) B.length (cI W) W.length (cI X) X.length) 0) = true]) [.go, .go, .go, .go, .go, .b true, .go, .go, .go] (by kernel_rfl) (by kernel_rfl) ⟨⟨⟨rfl, rfl, rfl, rfl, A, L, B, W, rfl, rfl, rfl, rfl, rfl, rfl, rfl, rfl⟩, ⟨rfl, _, rfl, rfl⟩⟩, (by rw [hq4_1]; rfl), trivial⟩ rfl)

set_option maxHeartbeats 2000000 in
theorem ox_2 (ya : Value) (yl : Value) (yf : Value) (yw : Value) (A : List Int) (L : List (Int × Int)) (B : List Bool) (W : List Int) (yx : Value) (X : List Int) (w : World) : Goes Try.prog 16 oxK1 (⟨[(0, .agg [.xl ya A.length 1 (cI A), .xl yl L.length 2 (cR L), .xl yf B.length 1 (cB B), .xl yw W.length 1 (cI W)]), (1, .xl yx X.length 1 (cI X))], [], 0, []⟩) w (OutR Try.prog Try.f17 16 (.tuple #[.int .i64 (fxE (cI A) A.length (cR L) L.length (cB B) B.length (cI W) W.length (cI X) X.length), .int .i64 (tE (cI A) A.length (cR L) L.length (cB B) B.length (cI W) W.length (cI X) X.length)]) w) := by
  have hcl_A := cI_len A
  have hcl_L := cR_len L
  have hcl_B := cB_len B
  have hcl_W := cI_len W
  have hcl_X := cI_len X
  exact goes_spine (T' := ⟨[(2, (.ptr 0 0)), (3, (.ptr 1 0))], [], 2, [(0, (.cells [(.xl (ya) (A.length) 1 (cI A)), (.xl (yl) (L.length) 2 (cR L)), (.xl (yf) (B.length) 1 (cB B)), (.xl (yw) (W.length) 1 (cI W))] 26)), (1, (.cells [(.xl (yx) (X.length) 1 (cI X))] 22))]⟩) (by kernel_rfl) (goes_told Try.checked.mixed (known_otc) 200 (T' := ⟨[(2, (.ptr 0 0)), (3, (.ptr 1 0))], [], 2, [(0, (.cells [(.xl (ya) (A.length) 1 (cI A)), (.xl (yl) (L.length) 2 (cR L)), (.xl (yf) (B.length) 1 (cB B)), (.xl (yw) (W.length) 1 (cI W))] 26)), (1, (.cells [(.xl (yx) (X.length) 1 (cI X))] 22))]⟩) (e := .normal) (ps := []) [.go, .go, .go, .go] (by kernel_rfl) (by kernel_rfl) trivial rfl) (ox_4 ya yl yf yw A L B W yx X w)

theorem ox_g (ya : Value) (yl : Value) (yf : Value) (yw : Value) (A : List Int) (L : List (Int × Int)) (B : List Bool) (W : List Int) (yx : Value) (X : List Int) : GivesA Try.prog 17 [.agg [.xl ya A.length 1 (cI A), .xl yl L.length 2 (cR L), .xl yf B.length 1 (cB B), .xl yw W.length 1 (cI W)], .xl yx X.length 1 (cI X)] (.tuple #[.int .i64 (fxE (cI A) A.length (cR L) L.length (cB B) B.length (cI W) W.length (cI X) X.length), .int .i64 (tE (cI A) A.length (cR L) L.length (cB B) B.length (cI W) W.length (cI X) X.length)]) :=
  givesA_parts 16 Try.func17 (by kernel_rfl) (by kernel_rfl) (by kernel_rfl) (fun w => goes_less (by kernel_rfl) (by kernel_rfl) (by kernel_rfl) (by kernel_rfl) (ox_2 ya yl yf yw A L B W yx X w))

end
end Go.Proofs.Ytldekgkjofgacaa
