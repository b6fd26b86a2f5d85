/- The place of a lamp. -/
import Derived.Test.YtchlehpjpgeejaaP9
namespace Go.Proofs.Ytchlehpjpgeejaa
set_option linter.unusedVariables false
set_option linter.unusedSimpArgs false
open Go Ev
noncomputable section

/-- How many of the first i indices are so. -/
def cntI (f : Nat → Bool) : Nat → Int
  | 0 => 0
  | i + 1 => match f i with
    | true => cntI f i + 1
    | false => cntI f i
theorem cntI_bd (f : Nat → Bool) : ∀ i : Nat, 0 ≤ cntI f i ∧ cntI f i ≤ i
  | 0 => ⟨Int.le_refl _, Int.le_refl _⟩
  | i + 1 => by
    have := cntI_bd f i
    unfold cntI
    split <;> omega
/-- Another lamp is surely, or can be, brighter. -/
def upLo (L : List (Int × Int)) (j k : Nat) : Bool := match eqI (k : Int) (j : Int) with
  | true => false
  | false => ltI (intAt (cR L) (j * 2 + 1)) (intAt (cR L) (k * 2 + 0))
def upHi (L : List (Int × Int)) (j k : Nat) : Bool := match eqI (k : Int) (j : Int) with
  | true => false
  | false => ltI (intAt (cR L) (j * 2 + 0)) (intAt (cR L) (k * 2 + 1))
def plLo (L : List (Int × Int)) (j i : Nat) : Int := cntI (upLo L j) i
def plHi (L : List (Int × Int)) (j i : Nat) : Int := cntI (upHi L j) i
theorem cR_cell {L : List (Int × Int)} {k : Nat} (h : k < (cR L).length) : (cR L)[k]? = some (.v (.int .i64 (intAt (cR L) k))) := by
  have hl := cR_len L
  have hi : k / 2 < L.length := by omega
  obtain ⟨h1, h2⟩ := cR_at L (k / 2) L[k / 2] (List.getElem?_eq_getElem hi)
  by_cases hk : k % 2 = 0
  · have e : k / 2 * 2 = k := by omega
    rw [e] at h1
    rw [intAt_of h1]; exact h1
  · have e : k / 2 * 2 + 1 = k := by omega
    rw [e] at h2
    rw [intAt_of h2]; exact h2
theorem cR_load1 {L : List (Int × Int)} {k : Nat} (h : k < (cR L).length) (t : TypeId) {d : TypeDesc} (hd : Try.prog.underlying t = some d) (ha : aggD d = false) : loadL Try.prog (cR L) k t = some (.v (.int .i64 (intAt (cR L) k))) := by
  simp only [loadL, hd, ha, getL_eq, cR_cell h]

def plTc (y : Value) (L : List (Int × Int)) (j : Nat) (c d : Int) (i : Nat) : Ev.Lit := ⟨[(0, .v (.int .i64 j)), (1, .xl y L.length 2 (cR L)), (4, .ptr 0 0), (5, .ptr 1 0), (8, .xl y L.length 2 (cR L)), (9, .v (.int .i64 L.length)), (10, .v (.int .i64 i))], [], 2, [(0, .cells [.v (.int .i64 0), .v (.int .i64 0)] 44), (1, .cells [.v (.int .i64 c), .v (.int .i64 d)] 44)]⟩

def plT (y : Value) (L : List (Int × Int)) (j i : Nat) : Ev.Lit := plTc y L j (plLo L j i) (plHi L j i) i
theorem plTc_ok (y : Value) (L : List (Int × Int)) (j : Nat) (c d : Int) (i : Nat) : CutOK (plTc y L j c d i) :=
  ⟨⟨nb_v _, nb_xl (cR_plain L), nb_ptr (by show 0 < 2; decide), nb_ptr (by show 1 < 2; decide), nb_xl (cR_plain L), nb_v _, nb_v _, trivial⟩, ⟨⟨(by show 0 < 2; decide), nbb_plain rfl⟩, ⟨(by show 1 < 2; decide), nbb_plain rfl⟩, trivial⟩, rfl⟩
theorem plT_next {y : Value} {L : List (Int × Int)} {j i : Nat} {c d : Int} (h1 : plLo L j (i + 1) = c) (h2 : plHi L j (i + 1) = d) : plT y L j (i + 1) = plTc y L j c d (i + 1) := by rw [← h1, ← h2]; rfl
def PlI (L : List (Int × Int)) : Type := { i : Nat // i ≤ L.length }

set_option maxHeartbeats 4000000 in
theorem place_g (y : Value) (L : List (Int × Int)) (hL : L.length ≤ 1000000) (j : Nat) (hj : j < L.length) : GivesA Try.prog 83 [.v (.int .i64 j), .xl y L.length 2 (cR L)] (.agg #[.int .i64 (plLo L j L.length), .int .i64 (plHi L j L.length)]) := by
  refine givesA_parts 44 Try.func83 (by kernel_rfl) (by kernel_rfl) (by kernel_rfl) (fun w => ?_)
  refine goes_spine (T' := ⟨[(0, .v (.int .i64 j)), (1, .xl y L.length 2 (cR L)), (4, .ptr 0 0)], [], 1, [(0, .cells [.v (.int .i64 0), .v (.int .i64 0)] 44)]⟩) (by kernel_rfl) (goes_told Try.checked.mixed known_none 200 (e := .normal) (ps := []) [.go] (by kernel_rfl) (by kernel_rfl) trivial rfl) ?_
  refine goes_spine (T' := ⟨[(0, .v (.int .i64 j)), (1, .xl y L.length 2 (cR L)), (4, .ptr 0 0), (5, .ptr 1 0)], [], 2, [(0, .cells [.v (.int .i64 0), .v (.int .i64 0)] 44), (1, .cells [.v (.int .i64 0), .v (.int .i64 0)] 44)]⟩) (by kernel_rfl) (goes_told Try.checked.mixed known_none 200 (e := .normal) (ps := []) [.go] (by kernel_rfl) (by kernel_rfl) trivial rfl) ?_
  refine goes_spineQ (ι := PlI L) (T := fun i => plT y L j i.1) (R := fun i => L.length ≤ i.1) (by kernel_rfl)
    (goes_spine (T' := plT y L j 0) (by kernel_rfl) (goes_told Try.checked.mixed known_none 200 (e := .normal) (ps := []) [.go, .go, .go] (by kernel_rfl) (by kernel_rfl) trivial rfl)
      (goes_blockloop (by kernel_rfl) (fun i : PlI L => plT y L j i.1) (fun i => L.length - i.1) (fun i => ?_) ⟨0, Nat.zero_le _⟩)) (fun i hi' => ?_)
  · obtain ⟨i, hi1⟩ := i
    obtain ⟨b1, b2⟩ := cntI_bd (upLo L j) i
    obtain ⟨b3, b4⟩ := cntI_bd (upHi L j) i
    have b1' : 0 ≤ plLo L j i := b1
    have b2' : plLo L j i ≤ i := b2
    have b3' : 0 ≤ plHi L j i := b3
    have b4' : plHi L j i ≤ i := b4
    have hcl := cR_len L
    have hj1 : j * 2 + 1 < (cR L).length := by omega
    have hj0 : j * 2 + 0 < (cR L).length := by omega
    have hl1 := cR_load1 hj1 2 (Try.underlying2) rfl
    have hl0 := cR_load1 hj0 2 (Try.underlying2) rfl
    cases hq1 : (ltI ↑i ↑L.length) with
    | true =>
      have hlt : i < L.length := by have := ltI_true hq1; omega
      have hld := cR_load hlt 44 (Try.underlying44) rfl (inf := (Try.prog.info? 44).getD default) (by kernel_rfl) (by kernel_rfl)
      cases hq2 : (eqI ↑i ↑j) with
      | true =>
        have hT := plT_next (y := y) (L := L) (j := j) (i := i) (c := plLo L j i) (d := plHi L j i) (by simp only [plLo, cntI, upLo, hq2]) (by simp only [plHi, cntI, upHi, hq2])
        refine .inl ⟨⟨i + 1, hlt⟩, by show L.length - (i + 1) < L.length - i; omega, ?_⟩
        show Goes _ _ _ _ _ (Land _ isN (plT y L j (i + 1)) _)
        rw [hT]
        exact goes_cut Try.checked.mixed known_none 200 (e := .normal) (m := 3) (ps := [ltI ↑i ↑L.length = true, i < L.length, loadL Try.prog (cR L) (i * 2) 44 = some (AV.agg [.v (.int .i64 (intAt (cR L) (i * 2))), AV.v (Value.int IntKind.i64 (intAt (cR L) (i * 2 + 1)))]), eqI ↑i ↑j = true, inR IntKind.i64 (↑i + 1)]) [.go, .b true, .go, .sym, .sym, .go, .go, .go, .go, .go, .go, .b true, .go, .go] (by kernel_rfl) (by kernel_rfl) ⟨hq1, hlt, hld, hq2, (by show -9223372036854775808 ≤ _ ∧ _ ≤ 9223372036854775807; constructor <;> omega), trivial⟩ rfl (by show 2 ≤ 3; decide) (plTc_ok _ _ _ _ _ _)
      | false =>
        cases hq3 : (ltI (intAt (cR L) (j * 2 + 1)) (intAt (cR L) (i * 2 + 0))) with
        | true =>
          cases hq4 : (ltI (intAt (cR L) (j * 2 + 0)) (intAt (cR L) (i * 2 + 1))) with
          | true =>
            have hT := plT_next (y := y) (L := L) (j := j) (i := i) (c := plLo L j i + 1) (d := plHi L j i + 1) (by simp only [plLo, cntI, upLo, hq2, hq3, hq4]) (by simp only [plHi, cntI, upHi, hq2, hq3, hq4])
            refine .inl ⟨⟨i + 1, hlt⟩, by show L.length - (i + 1) < L.length - i; omega, ?_⟩
            show Goes _ _ _ _ _ (Land _ isN (plT y L j (i + 1)) _)
            rw [hT]
            exact goes_cut Try.checked.mixed known_none 200 (e := .normal) (m := 3) (ps := [ltI ↑i ↑L.length = true, i < L.length, loadL Try.prog (cR L) (i * 2) 44 = some (AV.agg [.v (.int .i64 (intAt (cR L) (i * 2))), AV.v (Value.int IntKind.i64 (intAt (cR L) (i * 2 + 1)))]), eqI ↑i ↑j = false, j < L.length, j * 2 + 1 < (cR L).length, loadL Try.prog (cR L) (j * 2 + 1) 2 = some (AV.v (Value.int IntKind.i64 (intAt (cR L) (j * 2 + 1)))), ltI (intAt (cR L) (j * 2 + 1)) (intAt (cR L) (i * 2 + 0)) = true, inR IntKind.i64 (plLo L j i + 1), j < L.length, j * 2 + 0 < (cR L).length, loadL Try.prog (cR L) (j * 2 + 0) 2 = some (AV.v (Value.int IntKind.i64 (intAt (cR L) (j * 2 + 0)))), ltI (intAt (cR L) (j * 2 + 0)) (intAt (cR L) (i * 2 + 1)) = true, inR IntKind.i64 (plHi L j i + 1), inR IntKind.i64 (↑i + 1)]) [.go, .b true, .go, .sym, .sym, .go, .go, .go, .go, .go, .go, .b false, .go, .go, .go, .go, .sym, .sym, .sym, .go, .b true, .go, .go, .go, .go, .go, .go, .go, .go, .go, .sym, .sym, .sym, .go, .b true, .go, .go, .go, .go, .go, .go, .go] (by kernel_rfl) (by kernel_rfl) ⟨hq1, hlt, hld, hq2, hj, hj1, hl1, hq3, (by show -9223372036854775808 ≤ _ ∧ _ ≤ 9223372036854775807; constructor <;> omega), hj, hj0, hl0, hq4, (by show -9223372036854775808 ≤ _ ∧ _ ≤ 9223372036854775807; constructor <;> omega), (by show -9223372036854775808 ≤ _ ∧ _ ≤ 9223372036854775807; constructor <;> omega), trivial⟩ rfl (by show 2 ≤ 3; decide) (plTc_ok _ _ _ _ _ _)
          | false =>
            have hT := plT_next (y := y) (L := L) (j := j) (i := i) (c := plLo L j i + 1) (d := plHi L j i) (by simp only [plLo, cntI, upLo, hq2, hq3, hq4]) (by simp only [plHi, cntI, upHi, hq2, hq3, hq4])
            refine .inl ⟨⟨i + 1, hlt⟩, by show L.length - (i + 1) < L.length - i; omega, ?_⟩
            show Goes _ _ _ _ _ (Land _ isN (plT y L j (i + 1)) _)
            rw [hT]
            exact goes_cut Try.checked.mixed known_none 200 (e := .normal) (m := 3) (ps := [ltI ↑i ↑L.length = true, i < L.length, loadL Try.prog (cR L) (i * 2) 44 = some (AV.agg [.v (.int .i64 (intAt (cR L) (i * 2))), AV.v (Value.int IntKind.i64 (intAt (cR L) (i * 2 + 1)))]), eqI ↑i ↑j = false, j < L.length, j * 2 + 1 < (cR L).length, loadL Try.prog (cR L) (j * 2 + 1) 2 = some (AV.v (Value.int IntKind.i64 (intAt (cR L) (j * 2 + 1)))), ltI (intAt (cR L) (j * 2 + 1)) (intAt (cR L) (i * 2 + 0)) = true, inR IntKind.i64 (plLo L j i + 1), j < L.length, j * 2 + 0 < (cR L).length, loadL Try.prog (cR L) (j * 2 + 0) 2 = some (AV.v (Value.int IntKind.i64 (intAt (cR L) (j * 2 + 0)))), ltI (intAt (cR L) (j * 2 + 0)) (intAt (cR L) (i * 2 + 1)) = false, inR IntKind.i64 (↑i + 1)]) [.go, .b true, .go, .sym, .sym, .go, .go, .go, .go, .go, .go, .b false, .go, .go, .go, .go, .sym, .sym, .sym, .go, .b true, .go, .go, .go, .go, .go, .go, .go, .go, .go, .sym, .sym, .sym, .go, .b false, .go, .go] (by kernel_rfl) (by kernel_rfl) ⟨hq1, hlt, hld, hq2, hj, hj1, hl1, hq3, (by show -9223372036854775808 ≤ _ ∧ _ ≤ 9223372036854775807; constructor <;> omega), hj, hj0, hl0, hq4, (by show -9223372036854775808 ≤ _ ∧ _ ≤ 9223372036854775807; constructor <;> omega), trivial⟩ rfl (by show 2 ≤ 3; decide) (plTc_ok _ _ _ _ _ _)
        | false =>
          cases hq5 : (ltI (intAt (cR L) (j * 2 + 0)) (intAt (cR L) (i * 2 + 1))) with
          | true =>
            have hT := plT_next (y := y) (L := L) (j := j) (i := i) (c := plLo L j i) (d := plHi L j i + 1) (by simp only [plLo, cntI, upLo, hq2, hq3, hq5]) (by simp only [plHi, cntI, upHi, hq2, hq3, hq5])
            refine .inl ⟨⟨i + 1, hlt⟩, by show L.length - (i + 1) < L.length - i; omega, ?_⟩
            show Goes _ _ _ _ _ (Land _ isN (plT y L j (i + 1)) _)
            rw [hT]
            exact goes_cut Try.checked.mixed known_none 200 (e := .normal) (m := 3) (ps := [ltI ↑i ↑L.length = true, i < L.length, loadL Try.prog (cR L) (i * 2) 44 = some (AV.agg [.v (.int .i64 (intAt (cR L) (i * 2))), AV.v (Value.int IntKind.i64 (intAt (cR L) (i * 2 + 1)))]), eqI ↑i ↑j = false, j < L.length, j * 2 + 1 < (cR L).length, loadL Try.prog (cR L) (j * 2 + 1) 2 = some (AV.v (Value.int IntKind.i64 (intAt (cR L) (j * 2 + 1)))), ltI (intAt (cR L) (j * 2 + 1)) (intAt (cR L) (i * 2 + 0)) = false, j < L.length, j * 2 + 0 < (cR L).length, loadL Try.prog (cR L) (j * 2 + 0) 2 = some (AV.v (Value.int IntKind.i64 (intAt (cR L) (j * 2 + 0)))), ltI (intAt (cR L) (j * 2 + 0)) (intAt (cR L) (i * 2 + 1)) = true, inR IntKind.i64 (plHi L j i + 1), inR IntKind.i64 (↑i + 1)]) [.go, .b true, .go, .sym, .sym, .go, .go, .go, .go, .go, .go, .b false, .go, .go, .go, .go, .sym, .sym, .sym, .go, .b false, .go, .go, .go, .go, .sym, .sym, .sym, .go, .b true, .go, .go, .go, .go, .go, .go, .go] (by kernel_rfl) (by kernel_rfl) ⟨hq1, hlt, hld, hq2, hj, hj1, hl1, hq3, hj, hj0, hl0, hq5, (by show -9223372036854775808 ≤ _ ∧ _ ≤ 9223372036854775807; constructor <;> omega), (by show -9223372036854775808 ≤ _ ∧ _ ≤ 9223372036854775807; constructor <;> omega), trivial⟩ rfl (by show 2 ≤ 3; decide) (plTc_ok _ _ _ _ _ _)
          | false =>
            have hT := plT_next (y := y) (L := L) (j := j) (i := i) (c := plLo L j i) (d := plHi L j i) (by simp only [plLo, cntI, upLo, hq2, hq3, hq5]) (by simp only [plHi, cntI, upHi, hq2, hq3, hq5])
            refine .inl ⟨⟨i + 1, hlt⟩, by show L.length - (i + 1) < L.length - i; omega, ?_⟩
            show Goes _ _ _ _ _ (Land _ isN (plT y L j (i + 1)) _)
            rw [hT]
            exact goes_cut Try.checked.mixed known_none 200 (e := .normal) (m := 3) (ps := [ltI ↑i ↑L.length = true, i < L.length, loadL Try.prog (cR L) (i * 2) 44 = some (AV.agg [.v (.int .i64 (intAt (cR L) (i * 2))), AV.v (Value.int IntKind.i64 (intAt (cR L) (i * 2 + 1)))]), eqI ↑i ↑j = false, j < L.length, j * 2 + 1 < (cR L).length, loadL Try.prog (cR L) (j * 2 + 1) 2 = some (AV.v (Value.int IntKind.i64 (intAt (cR L) (j * 2 + 1)))), ltI (intAt (cR L) (j * 2 + 1)) (intAt (cR L) (i * 2 + 0)) = false, j < L.length, j * 2 + 0 < (cR L).length, loadL Try.prog (cR L) (j * 2 + 0) 2 = some (AV.v (Value.int IntKind.i64 (intAt (cR L) (j * 2 + 0)))), ltI (intAt (cR L) (j * 2 + 0)) (intAt (cR L) (i * 2 + 1)) = false, inR IntKind.i64 (↑i + 1)]) [.go, .b true, .go, .sym, .sym, .go, .go, .go, .go, .go, .go, .b false, .go, .go, .go, .go, .sym, .sym, .sym, .go, .b false, .go, .go, .go, .go, .sym, .sym, .sym, .go, .b false, .go, .go] (by kernel_rfl) (by kernel_rfl) ⟨hq1, hlt, hld, hq2, hj, hj1, hl1, hq3, hj, hj0, hl0, hq5, (by show -9223372036854775808 ≤ _ ∧ _ ≤ 9223372036854775807; constructor <;> omega), trivial⟩ rfl (by show 2 ≤ 3; decide) (plTc_ok _ _ _ _ _ _)
    | false =>
      have hle : L.length ≤ i := by have := ltI_false hq1; omega
      exact .inr (.inl ⟨hle, goes_told Try.checked.mixed known_none 200 (e := .exit 0) (ps := [ltI ↑i ↑L.length = false]) [.go, .b false] (by kernel_rfl) (by kernel_rfl) ⟨hq1, trivial⟩ rfl⟩)
  · obtain ⟨i, hi1⟩ := i
    have hi2 : L.length ≤ i := hi'
    obtain rfl : i = L.length := by omega
    exact goes_out Try.checked.mixed known_none 200 (ps := []) (v := .agg [.v (.int .i64 (plLo L j L.length)), .v (.int .i64 (plHi L j L.length))]) [.go, .go] (by kernel_rfl) (by kernel_rfl) trivial rfl

end
end Go.Proofs.Ytchlehpjpgeejaa
