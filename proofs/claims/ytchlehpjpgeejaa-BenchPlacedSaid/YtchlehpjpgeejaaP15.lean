/- The places of lamps, the other side: errors. -/
import Derived.Test.YtchlehpjpgeejaaP14
namespace Go.Proofs.Ytchlehpjpgeejaa
set_option linter.unusedVariables false
set_option linter.unusedSimpArgs false
open Go Ev
noncomputable section

theorem rPlaces_many (y : Value) (L : List (Int × Int)) (h : ¬ (1 ≤ L.length ∧ L.length ≤ 12)) : GivesA Try.prog 39 [.xl y L.length 2 (cR L)] (.tuple #[.slice none 0 0, .int .i64 6]) := by
  by_cases h1 : L.length < 1
  · exact givesA_told (v := .tup [.v (.slice none 0 0), .v (.int .i64 6)]) (ps := [ltI (L.length : Int) 1 = true, true = true, true = true, true = true]) Try.checked.mixed known_none 200 [.go, .go, .go, .go, .go, .go, .b true, .b true, .b true, .go, .b true, .go, .go] (by kernel_rfl) ⟨ltI_lt (by omega), rfl, rfl, rfl, trivial⟩ rfl
  · exact givesA_told (v := .tup [.v (.slice none 0 0), .v (.int .i64 6)]) (ps := [ltI (L.length : Int) 1 = false, false = false, false = false, ltI 12 (L.length : Int) = true]) Try.checked.mixed known_none 200 [.go, .go, .go, .go, .go, .go, .b false, .go, .b false, .go, .b false, .go, .go, .b true, .go, .go] (by kernel_rfl) ⟨ltI_ge (by omega), rfl, rfl, ltI_lt (by omega), trivial⟩ rfl
def OkI (L : List (Int × Int)) : Type := { i : Nat // i ≤ L.length ∧ ∀ j, j < i → 0 ≤ intAt (cR L) (j * 2) ∧ intAt (cR L) (j * 2) ≤ intAt (cR L) (j * 2 + 1) ∧ intAt (cR L) (j * 2 + 1) ≤ 100000 }

set_option maxHeartbeats 4000000 in
theorem rPlaces_arg (y : Value) (L : List (Int × Int)) (h : 1 ≤ L.length ∧ L.length ≤ 12) (hk : okC 0 100000 (cR L) L.length = false) : GivesA Try.prog 39 [.xl y L.length 2 (cR L)] (.tuple #[.slice none 0 0, .int .i64 2]) := by
  refine givesA_parts 86 Try.func39 (by kernel_rfl) (by kernel_rfl) (by kernel_rfl) (fun w => ?_)
  refine goes_spine (T' := argLit [.xl y L.length 2 (cR L)]) (by kernel_rfl) (goes_told Try.checked.mixed known_none 200 (e := .normal) (ps := []) [.go, .go] (by kernel_rfl) (by kernel_rfl) trivial rfl) ?_
  refine goes_spine (T' := argLit [.xl y L.length 2 (cR L)]) (by kernel_rfl) (goes_told Try.checked.mixed known_none 200 (e := .normal) (ps := [ltI (L.length : Int) 1 = false, false = false, false = false, ltI 12 (L.length : Int) = false]) [.go, .go, .go, .go, .b false, .go, .b false, .go, .b false, .go, .go, .b false] (by kernel_rfl) (by kernel_rfl) ⟨ltI_ge (by omega), rfl, rfl, ltI_ge (by omega), trivial⟩ rfl) ?_
  refine goes_spineQ (ι := OkI L) (T := fun i => vT y L i.1) (R := fun i => L.length ≤ i.1) (by kernel_rfl)
    (goes_spine (T' := vT y L 0) (by kernel_rfl) (goes_told Try.checked.mixed known_none 200 (e := .normal) (ps := []) [.go] (by kernel_rfl) (by kernel_rfl) trivial rfl)
      (goes_blockloop (by kernel_rfl) (fun i : OkI L => vT y L i.1) (fun i => L.length - i.1) (fun i => ?_) ⟨0, Nat.zero_le _, fun j hj => by omega⟩)) (fun i hi' => ?_)
  · obtain ⟨i, hi1, hi2⟩ := i
    by_cases hlt : i < L.length
    · have hld := cR_load hlt 44 (Try.underlying44) rfl (inf := (Try.prog.info? 44).getD default) (by kernel_rfl) (by kernel_rfl)
      by_cases a1 : 0 ≤ intAt (cR L) (i * 2)
      · by_cases a2 : intAt (cR L) (i * 2) ≤ intAt (cR L) (i * 2 + 1)
        · by_cases a3 : intAt (cR L) (i * 2 + 1) ≤ 100000
          · refine .inl ⟨⟨i + 1, hlt, fun j hj => ?_⟩, by show L.length - (i + 1) < L.length - i; omega, ?_⟩
            · by_cases e : j = i
              · subst e; exact ⟨a1, a2, a3⟩
              · exact hi2 j (by omega)
            · exact goes_cut Try.checked.mixed known_none 200 (e := .normal) (m := 1) (ps := [ltI (i : Int) (L.length : Int) = true, i < L.length, loadL Try.prog (cR L) (i * 2) 44 = some (.agg [.v (.int .i64 (intAt (cR L) (i * 2))), .v (.int .i64 (intAt (cR L) (i * 2 + 1)))]), (!ltI (intAt (cR L) (i * 2)) 0) = true, true = true, true = true, true = true, true = true, (!ltI (intAt (cR L) (i * 2 + 1)) (intAt (cR L) (i * 2))) = true, true = true, true = true, true = true, (!!ltI 100000 (intAt (cR L) (i * 2 + 1))) = false, inR IntKind.i64 ((i : Int) + 1)]) [.go, .go, .go, .go, .b true, .go, .go, .sym, .sym, .go, .go, .go, .go, .go, .go, .go, .b true, .go, .b true, .go, .b true, .go, .b true, .go, .b true, .go, .go, .go, .b true, .go, .b true, .go, .b true, .go, .b true, .go, .go, .go, .go, .b false, .go, .go, .go] (by kernel_rfl) (by kernel_rfl)
                ⟨ltI_lt (by omega), hlt, hld, by rw [ltI_ge a1]; rfl, rfl, rfl, rfl, rfl, by rw [ltI_ge a2]; rfl, rfl, rfl, rfl, by rw [ltI_ge a3]; rfl, by show -9223372036854775808 ≤ _ ∧ _ ≤ 9223372036854775807; constructor <;> omega, trivial⟩ rfl (by show 0 ≤ 1; decide) (vT_ok _ _ _)
          · refine .inr (.inr ?_)
            exact goes_ret (fn := Try.f39) (sz := 86) (c := loopC (tlC (hdC (tlC (tlC (bodyC Try.f39)))))) (T := vT y L i) (w0 := w) (r := .tuple #[.slice none 0 0, .int .i64 2]) (v := .tup [.v (.slice none 0 0), .v (.int .i64 2)]) Try.checked.mixed known_none 200 (ps := [ltI (i : Int) (L.length : Int) = true, i < L.length, loadL Try.prog (cR L) (i * 2) 44 = some (.agg [.v (.int .i64 (intAt (cR L) (i * 2))), .v (.int .i64 (intAt (cR L) (i * 2 + 1)))]), (!ltI (intAt (cR L) (i * 2)) 0) = true, true = true, true = true, true = true, true = true, (!ltI (intAt (cR L) (i * 2 + 1)) (intAt (cR L) (i * 2))) = true, true = true, true = true, true = true, (!!ltI 100000 (intAt (cR L) (i * 2 + 1))) = true]) [.go, .go, .go, .go, .b true, .go, .go, .sym, .sym, .go, .go, .go, .go, .go, .go, .go, .b true, .go, .b true, .go, .b true, .go, .b true, .go, .b true, .go, .go, .go, .b true, .go, .b true, .go, .b true, .go, .b true, .go, .go, .go, .go, .b true, .go, .go] (by kernel_rfl) (by kernel_rfl) ⟨ltI_lt (by omega), hlt, hld, by rw [ltI_ge a1]; rfl, rfl, rfl, rfl, rfl, by rw [ltI_ge a2]; rfl, rfl, rfl, rfl, by rw [ltI_lt (by omega)]; rfl, trivial⟩ rfl
        · refine .inr (.inr ?_)
          exact goes_ret (fn := Try.f39) (sz := 86) (c := loopC (tlC (hdC (tlC (tlC (bodyC Try.f39)))))) (T := vT y L i) (w0 := w) (r := .tuple #[.slice none 0 0, .int .i64 2]) (v := .tup [.v (.slice none 0 0), .v (.int .i64 2)]) Try.checked.mixed known_none 200 (ps := [ltI (i : Int) (L.length : Int) = true, i < L.length, loadL Try.prog (cR L) (i * 2) 44 = some (.agg [.v (.int .i64 (intAt (cR L) (i * 2))), .v (.int .i64 (intAt (cR L) (i * 2 + 1)))]), (!ltI (intAt (cR L) (i * 2)) 0) = true, true = true, true = true, true = true, true = true, (!ltI (intAt (cR L) (i * 2 + 1)) (intAt (cR L) (i * 2))) = false, false = false, false = false, false = false, (!false) = true]) [.go, .go, .go, .go, .b true, .go, .go, .sym, .sym, .go, .go, .go, .go, .go, .go, .go, .b true, .go, .b true, .go, .b true, .go, .b true, .go, .b true, .go, .go, .go, .b false, .b false, .b false, .b false, .go, .go, .go, .b true, .go, .go] (by kernel_rfl) (by kernel_rfl) ⟨ltI_lt (by omega), hlt, hld, by rw [ltI_ge a1]; rfl, rfl, rfl, rfl, rfl, by rw [ltI_lt (by omega)]; rfl, rfl, rfl, rfl, rfl, trivial⟩ rfl
      · refine .inr (.inr ?_)
        exact goes_ret (fn := Try.f39) (sz := 86) (c := loopC (tlC (hdC (tlC (tlC (bodyC Try.f39)))))) (T := vT y L i) (w0 := w) (r := .tuple #[.slice none 0 0, .int .i64 2]) (v := .tup [.v (.slice none 0 0), .v (.int .i64 2)]) Try.checked.mixed known_none 200 (ps := [ltI (i : Int) (L.length : Int) = true, i < L.length, loadL Try.prog (cR L) (i * 2) 44 = some (.agg [.v (.int .i64 (intAt (cR L) (i * 2))), .v (.int .i64 (intAt (cR L) (i * 2 + 1)))]), (!ltI (intAt (cR L) (i * 2)) 0) = false, false = false, false = false, false = false, false = false, false = false, false = false, false = false, false = false, (!false) = true]) [.go, .go, .go, .go, .b true, .go, .go, .sym, .sym, .go, .go, .go, .go, .go, .go, .go, .b false, .b false, .b false, .b false, .b false, .go, .go, .b false, .b false, .b false, .b false, .go, .go, .go, .b true, .go, .go] (by kernel_rfl) (by kernel_rfl) ⟨ltI_lt (by omega), hlt, hld, by rw [ltI_lt (by omega)]; rfl, rfl, rfl, rfl, rfl, rfl, rfl, rfl, rfl, rfl, trivial⟩ rfl
    · exact .inr (.inl ⟨by show L.length ≤ i; omega, goes_told Try.checked.mixed known_none 200 (e := .exit 0) (ps := [ltI (i : Int) (L.length : Int) = false]) [.go, .go, .go, .go, .b false] (by kernel_rfl) (by kernel_rfl) ⟨ltI_ge (by omega), trivial⟩ (by kernel_rfl)⟩)
  · obtain ⟨i, hi1, hi2⟩ := i
    have hi3 : L.length ≤ i := hi'
    exact absurd hk (by rw [Bool.not_eq_false]; exact decide_eq_true (fun j hj => hi2 j (by omega)))

end
end Go.Proofs.Ytchlehpjpgeejaa
