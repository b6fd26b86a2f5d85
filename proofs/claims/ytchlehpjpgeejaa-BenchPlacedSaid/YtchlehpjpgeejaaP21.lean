/- The law of places. -/
import Derived.Test.YtchlehpjpgeejaaP20
namespace Go.Proofs.Ytchlehpjpgeejaa
set_option linter.unusedVariables false
set_option linter.unusedSimpArgs false
open Go Ev
noncomputable section
theorem known_bp {S : List Vw → Option (Res1 × List Prop)} (hw : Known Try.prog (clsO wkO)) (h : Known Try.prog (clsO (avOrc 38 [2] S))) : Known Try.prog (clsO (orO ppO (avOrc 38 [2] S))) := known_or (known_pp hw) h
def bpT0 (y z : Value) (L : List (Int × Int)) (B : List Int) (q : Int) : Ev.Lit := ⟨[(0, .xl y L.length 2 (cR L)), (1, .xl z B.length 1 (cU B)), (2, .v (.int .u8 q))], [], 0, []⟩
theorem bp_head (hw : Known Try.prog (clsO wkO)) (y z : Value) (L : List (Int × Int)) (B : List Int) (q : Int) (w : World) (Q : Exit → Act → World → Prop) (h : Goes Try.prog 185 (tlC (bodyC Try.f13)) (bpT0 y z L B q) w Q) : Goes Try.prog 185 (bodyC Try.f13) (argLit [.xl y L.length 2 (cR L), .xl z B.length 1 (cU B), .v (.int .u8 q)]) w Q :=
  goes_spine (T' := bpT0 y z L B q) (by kernel_rfl) (goes_told Try.checked.mixed (known_pp hw) 200 (e := .normal) (ps := []) [.go] (by kernel_rfl) (by kernel_rfl) trivial rfl) h
theorem bp_all (hw : Known Try.prog (clsO wkO)) (y z : Value) (L : List (Int × Int)) (B : List Int) (q : Int) (hB : AllU B) (hq1 : 0 ≤ q) (hq2 : q ≤ 255) (w : World) : Goes Try.prog 185 (tlC (bodyC Try.f13)) (bpT0 y z L B q) w (OutR Try.prog Try.f13 185 (.bool true) w) := by
  by_cases h1 : 1 ≤ L.length ∧ L.length ≤ 12
  · cases h2 : okC 0 100000 (cR L) L.length with
    | true =>
      have hok := okAt_all.1 h2
      refine goes_spine (T' := bpTk0 y z L B q) (by kernel_rfl) (goes_told Try.checked.mixed (known_bp hw known_ok) 200 (e := .normal) (ps := [IsL (1 + 1) L.length (cR L), 1 ≤ L.length ∧ L.length ≤ 12, okC 0 100000 (cR L) L.length = true]) [.go, .go, .go, .go, .go, .go] (by kernel_rfl) (by kernel_rfl) ⟨isL_of rfl (by omega), h1, h2, trivial⟩ rfl) ?_
      exact bp_ok2 hw y z L B q h1 w (fun _ => bp_ok3 hw y z L B q h1.2 hok w (fun i _ => bp_ok4 hw y z L B q h1.1 h1.2 hB hq1 hq2 hok i.1 w))
    | false =>
      refine goes_spine (T' := bpTa0 y z L B q) (by kernel_rfl) (goes_told Try.checked.mixed (known_bp hw known_arg) 200 (e := .normal) (ps := [IsL (1 + 1) L.length (cR L), 1 ≤ L.length ∧ L.length ≤ 12, okC 0 100000 (cR L) L.length = false]) [.go, .go, .go, .go, .go, .go] (by kernel_rfl) (by kernel_rfl) ⟨isL_of rfl (by omega), h1, h2, trivial⟩ rfl) ?_
      refine bp_arg2 hw y z L B q h1 w (fun _ => bp_arg3 hw y z L B q h1.2 w (fun i hi => ?_))
      obtain ⟨i, hi1, hi2⟩ := i
      have : okC 0 100000 (cR L) L.length = true := okAt_all.2 (fun j hj => hi2 j (Nat.lt_of_lt_of_le hj hi))
      rw [h2] at this
      cases this
  · refine goes_spine (T' := bpTm y z L B q) (by kernel_rfl) (goes_told Try.checked.mixed (known_bp hw known_many2) 200 (e := .normal) (ps := [1 + 1 = 2 ∧ ∃ L_1, cR L = cR L_1 ∧ L.length = L_1.length, ¬(1 ≤ L.length ∧ L.length ≤ 12)]) [.go, .go, .go, .go, .go, .go] (by kernel_rfl) (by kernel_rfl) ⟨⟨rfl, L, rfl, rfl⟩, h1, trivial⟩ rfl) ?_
    exact bp_many hw y z L B q h1 w
theorem placed_g (hw : Known Try.prog (clsO wkO)) (y z : Value) (L : List (Int × Int)) (B : List Int) (q : Int) (hB : AllU B) (hq1 : 0 ≤ q) (hq2 : q ≤ 255) : GivesA Try.prog 13 [.xl y L.length 2 (cR L), .xl z B.length 1 (cU B), .v (.int .u8 q)] (.bool true) :=
  givesA_parts 185 Try.func13 (by kernel_rfl) (by kernel_rfl) (by kernel_rfl) (fun w => bp_head hw y z L B q w _ (bp_all hw y z L B q hB hq1 hq2 w))
end
end Go.Proofs.Ytchlehpjpgeejaa
