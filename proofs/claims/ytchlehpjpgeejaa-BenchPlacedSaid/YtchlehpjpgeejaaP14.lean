/- The places of lamps, the other side. -/
import Derived.Test.YtchlehpjpgeejaaP13
namespace Go.Proofs.Ytchlehpjpgeejaa
set_option linter.unusedVariables false
set_option linter.unusedSimpArgs false
open Go Ev
noncomputable section

def vT (y : Value) (L : List (Int × Int)) (i : Nat) : Ev.Lit := ⟨[(0, .xl y L.length 2 (cR L)), (4, .v (.int .i64 i))], [], 0, []⟩
theorem vT_ok (y : Value) (L : List (Int × Int)) (i : Nat) : CutOK (vT y L i) := ⟨⟨nb_xl (cR_plain L), nb_v _, trivial⟩, trivial, rfl⟩
theorem okC_at {lo hi : Int} {c : List AV} {n i : Nat} (h : okC lo hi c n = true) (hi' : i < n) : lo ≤ intAt c (i * 2) ∧ intAt c (i * 2) ≤ intAt c (i * 2 + 1) ∧ intAt c (i * 2 + 1) ≤ hi := of_decide_eq_true h i hi'

theorem rout0 (y : Value) (L : List (Int × Int)) (hL : L.length ≤ 12) (hi : 0 < L.length) (w : World) : Goes Try.prog 86 loop2 (ouT y L 0) w (Land 86 isN (ouT y L 1) w) := by
  refine goes_spine (T' := ouT y L 0) (by kernel_rfl) (goes_told Try.checked.mixed known_none 200 (e := .normal) (ps := [ltI ((0 : Nat) : Int) (L.length : Int) = true]) [.go, .go, .go, .go, .b true] (by kernel_rfl) (by kernel_rfl) ⟨ltI_lt (by omega), trivial⟩ rfl) ?_
  refine goes_spine (T' := midT y L 0) (by kernel_rfl) ?_ (goes_told Try.checked.mixed known_none 200 (e := .normal) (ps := [inR IntKind.i64 (((0 : Nat) : Int) + 1)]) [.go, .go, .go] (by kernel_rfl) (by kernel_rfl) ⟨by show -9223372036854775808 ≤ _ ∧ _ ≤ 9223372036854775807; constructor <;> omega, trivial⟩ rfl)
  refine goes_blk (by kernel_rfl) ?_
  show Goes _ _ in39 _ _ _
  refine goes_spine (T' := ⟨[(0, .xl y L.length 2 (cR L)), (5, outV 0), (6, .v (.int .i64 (0 : Nat))), (7, .ptr 0 0)], [], 1, (0, .cells [.v (.int .i64 0), .v (.int .i64 0)] 44) :: outB L 0⟩) (by kernel_rfl) (goes_told Try.checked.mixed known_none 200 (e := .normal) (ps := []) [.go] (by kernel_rfl) (by kernel_rfl) trivial rfl) ?_
  refine goes_spineQ (ι := PlI L) (T := fun k => inN y L 0 k.1) (R := fun k => L.length ≤ k.1) (by kernel_rfl) (goes_spine (T' := inT y L 0 0 0 0) (by kernel_rfl) (goes_told Try.checked.mixed known_none 200 (e := .normal) (ps := []) [.go] (by kernel_rfl) (by kernel_rfl) trivial rfl) (rin0 y L hL hi w _)) (fun k hk => ?_)
  obtain ⟨k, hk1⟩ := k
  have hk2 : L.length ≤ k := hk
  obtain rfl : k = L.length := by omega
  exact goes_told Try.checked.mixed known_none 200 (e := .normal) (ps := []) [.go, .go, .go, .go, .go] (by kernel_rfl) (by kernel_rfl) trivial rfl

theorem rout1 (y : Value) (L : List (Int × Int)) (hL : L.length ≤ 12) (hi : 1 < L.length) (w : World) : Goes Try.prog 86 loop2 (ouT y L 1) w (Land 86 isN (ouT y L 2) w) := by
  refine goes_spine (T' := ouT y L 1) (by kernel_rfl) (goes_told Try.checked.mixed known_none 200 (e := .normal) (ps := [ltI ((1 : Nat) : Int) (L.length : Int) = true]) [.go, .go, .go, .go, .b true] (by kernel_rfl) (by kernel_rfl) ⟨ltI_lt (by omega), trivial⟩ rfl) ?_
  refine goes_spine (T' := midT y L 1) (by kernel_rfl) ?_ (goes_told Try.checked.mixed known_none 200 (e := .normal) (ps := [inR IntKind.i64 (((1 : Nat) : Int) + 1)]) [.go, .go, .go] (by kernel_rfl) (by kernel_rfl) ⟨by show -9223372036854775808 ≤ _ ∧ _ ≤ 9223372036854775807; constructor <;> omega, trivial⟩ rfl)
  refine goes_blk (by kernel_rfl) ?_
  show Goes _ _ in39 _ _ _
  refine goes_spine (T' := ⟨[(0, .xl y L.length 2 (cR L)), (5, outV 1), (6, .v (.int .i64 (1 : Nat))), (7, .ptr 3 0)], [], 4, (3, .cells [.v (.int .i64 0), .v (.int .i64 0)] 44) :: outB L 1⟩) (by kernel_rfl) (goes_told Try.checked.mixed known_none 200 (e := .normal) (ps := []) [.go] (by kernel_rfl) (by kernel_rfl) trivial rfl) ?_
  refine goes_spineQ (ι := PlI L) (T := fun k => inN y L 1 k.1) (R := fun k => L.length ≤ k.1) (by kernel_rfl) (goes_spine (T' := inT y L 1 0 0 0) (by kernel_rfl) (goes_told Try.checked.mixed known_none 200 (e := .normal) (ps := []) [.go] (by kernel_rfl) (by kernel_rfl) trivial rfl) (rin1 y L hL hi w _)) (fun k hk => ?_)
  obtain ⟨k, hk1⟩ := k
  have hk2 : L.length ≤ k := hk
  obtain rfl : k = L.length := by omega
  exact goes_told Try.checked.mixed known_none 200 (e := .normal) (ps := []) [.go, .go, .go, .go, .go] (by kernel_rfl) (by kernel_rfl) trivial rfl

theorem rout2 (y : Value) (L : List (Int × Int)) (hL : L.length ≤ 12) (hi : 2 < L.length) (w : World) : Goes Try.prog 86 loop2 (ouT y L 2) w (Land 86 isN (ouT y L 3) w) := by
  refine goes_spine (T' := ouT y L 2) (by kernel_rfl) (goes_told Try.checked.mixed known_none 200 (e := .normal) (ps := [ltI ((2 : Nat) : Int) (L.length : Int) = true]) [.go, .go, .go, .go, .b true] (by kernel_rfl) (by kernel_rfl) ⟨ltI_lt (by omega), trivial⟩ rfl) ?_
  refine goes_spine (T' := midT y L 2) (by kernel_rfl) ?_ (goes_told Try.checked.mixed known_none 200 (e := .normal) (ps := [inR IntKind.i64 (((2 : Nat) : Int) + 1)]) [.go, .go, .go] (by kernel_rfl) (by kernel_rfl) ⟨by show -9223372036854775808 ≤ _ ∧ _ ≤ 9223372036854775807; constructor <;> omega, trivial⟩ rfl)
  refine goes_blk (by kernel_rfl) ?_
  show Goes _ _ in39 _ _ _
  refine goes_spine (T' := ⟨[(0, .xl y L.length 2 (cR L)), (5, outV 2), (6, .v (.int .i64 (2 : Nat))), (7, .ptr 6 0)], [], 7, (6, .cells [.v (.int .i64 0), .v (.int .i64 0)] 44) :: outB L 2⟩) (by kernel_rfl) (goes_told Try.checked.mixed known_none 200 (e := .normal) (ps := []) [.go] (by kernel_rfl) (by kernel_rfl) trivial rfl) ?_
  refine goes_spineQ (ι := PlI L) (T := fun k => inN y L 2 k.1) (R := fun k => L.length ≤ k.1) (by kernel_rfl) (goes_spine (T' := inT y L 2 0 0 0) (by kernel_rfl) (goes_told Try.checked.mixed known_none 200 (e := .normal) (ps := []) [.go] (by kernel_rfl) (by kernel_rfl) trivial rfl) (rin2 y L hL hi w _)) (fun k hk => ?_)
  obtain ⟨k, hk1⟩ := k
  have hk2 : L.length ≤ k := hk
  obtain rfl : k = L.length := by omega
  exact goes_told Try.checked.mixed known_none 200 (e := .normal) (ps := []) [.go, .go, .go, .go, .go] (by kernel_rfl) (by kernel_rfl) trivial rfl

theorem rout3 (y : Value) (L : List (Int × Int)) (hL : L.length ≤ 12) (hi : 3 < L.length) (w : World) : Goes Try.prog 86 loop2 (ouT y L 3) w (Land 86 isN (ouT y L 4) w) := by
  refine goes_spine (T' := ouT y L 3) (by kernel_rfl) (goes_told Try.checked.mixed known_none 200 (e := .normal) (ps := [ltI ((3 : Nat) : Int) (L.length : Int) = true]) [.go, .go, .go, .go, .b true] (by kernel_rfl) (by kernel_rfl) ⟨ltI_lt (by omega), trivial⟩ rfl) ?_
  refine goes_spine (T' := midT y L 3) (by kernel_rfl) ?_ (goes_told Try.checked.mixed known_none 200 (e := .normal) (ps := [inR IntKind.i64 (((3 : Nat) : Int) + 1)]) [.go, .go, .go] (by kernel_rfl) (by kernel_rfl) ⟨by show -9223372036854775808 ≤ _ ∧ _ ≤ 9223372036854775807; constructor <;> omega, trivial⟩ rfl)
  refine goes_blk (by kernel_rfl) ?_
  show Goes _ _ in39 _ _ _
  refine goes_spine (T' := ⟨[(0, .xl y L.length 2 (cR L)), (5, outV 3), (6, .v (.int .i64 (3 : Nat))), (7, .ptr 9 0)], [], 10, (9, .cells [.v (.int .i64 0), .v (.int .i64 0)] 44) :: outB L 3⟩) (by kernel_rfl) (goes_told Try.checked.mixed known_none 200 (e := .normal) (ps := []) [.go] (by kernel_rfl) (by kernel_rfl) trivial rfl) ?_
  refine goes_spineQ (ι := PlI L) (T := fun k => inN y L 3 k.1) (R := fun k => L.length ≤ k.1) (by kernel_rfl) (goes_spine (T' := inT y L 3 0 0 0) (by kernel_rfl) (goes_told Try.checked.mixed known_none 200 (e := .normal) (ps := []) [.go] (by kernel_rfl) (by kernel_rfl) trivial rfl) (rin3 y L hL hi w _)) (fun k hk => ?_)
  obtain ⟨k, hk1⟩ := k
  have hk2 : L.length ≤ k := hk
  obtain rfl : k = L.length := by omega
  exact goes_told Try.checked.mixed known_none 200 (e := .normal) (ps := []) [.go, .go, .go, .go, .go] (by kernel_rfl) (by kernel_rfl) trivial rfl

theorem rout4 (y : Value) (L : List (Int × Int)) (hL : L.length ≤ 12) (hi : 4 < L.length) (w : World) : Goes Try.prog 86 loop2 (ouT y L 4) w (Land 86 isN (ouT y L 5) w) := by
  refine goes_spine (T' := ouT y L 4) (by kernel_rfl) (goes_told Try.checked.mixed known_none 200 (e := .normal) (ps := [ltI ((4 : Nat) : Int) (L.length : Int) = true]) [.go, .go, .go, .go, .b true] (by kernel_rfl) (by kernel_rfl) ⟨ltI_lt (by omega), trivial⟩ rfl) ?_
  refine goes_spine (T' := midT y L 4) (by kernel_rfl) ?_ (goes_told Try.checked.mixed known_none 200 (e := .normal) (ps := [inR IntKind.i64 (((4 : Nat) : Int) + 1)]) [.go, .go, .go] (by kernel_rfl) (by kernel_rfl) ⟨by show -9223372036854775808 ≤ _ ∧ _ ≤ 9223372036854775807; constructor <;> omega, trivial⟩ rfl)
  refine goes_blk (by kernel_rfl) ?_
  show Goes _ _ in39 _ _ _
  refine goes_spine (T' := ⟨[(0, .xl y L.length 2 (cR L)), (5, outV 4), (6, .v (.int .i64 (4 : Nat))), (7, .ptr 12 0)], [], 13, (12, .cells [.v (.int .i64 0), .v (.int .i64 0)] 44) :: outB L 4⟩) (by kernel_rfl) (goes_told Try.checked.mixed known_none 200 (e := .normal) (ps := []) [.go] (by kernel_rfl) (by kernel_rfl) trivial rfl) ?_
  refine goes_spineQ (ι := PlI L) (T := fun k => inN y L 4 k.1) (R := fun k => L.length ≤ k.1) (by kernel_rfl) (goes_spine (T' := inT y L 4 0 0 0) (by kernel_rfl) (goes_told Try.checked.mixed known_none 200 (e := .normal) (ps := []) [.go] (by kernel_rfl) (by kernel_rfl) trivial rfl) (rin4 y L hL hi w _)) (fun k hk => ?_)
  obtain ⟨k, hk1⟩ := k
  have hk2 : L.length ≤ k := hk
  obtain rfl : k = L.length := by omega
  exact goes_told Try.checked.mixed known_none 200 (e := .normal) (ps := []) [.go, .go, .go, .go, .go] (by kernel_rfl) (by kernel_rfl) trivial rfl

theorem rout5 (y : Value) (L : List (Int × Int)) (hL : L.length ≤ 12) (hi : 5 < L.length) (w : World) : Goes Try.prog 86 loop2 (ouT y L 5) w (Land 86 isN (ouT y L 6) w) := by
  refine goes_spine (T' := ouT y L 5) (by kernel_rfl) (goes_told Try.checked.mixed known_none 200 (e := .normal) (ps := [ltI ((5 : Nat) : Int) (L.length : Int) = true]) [.go, .go, .go, .go, .b true] (by kernel_rfl) (by kernel_rfl) ⟨ltI_lt (by omega), trivial⟩ rfl) ?_
  refine goes_spine (T' := midT y L 5) (by kernel_rfl) ?_ (goes_told Try.checked.mixed known_none 200 (e := .normal) (ps := [inR IntKind.i64 (((5 : Nat) : Int) + 1)]) [.go, .go, .go] (by kernel_rfl) (by kernel_rfl) ⟨by show -9223372036854775808 ≤ _ ∧ _ ≤ 9223372036854775807; constructor <;> omega, trivial⟩ rfl)
  refine goes_blk (by kernel_rfl) ?_
  show Goes _ _ in39 _ _ _
  refine goes_spine (T' := ⟨[(0, .xl y L.length 2 (cR L)), (5, outV 5), (6, .v (.int .i64 (5 : Nat))), (7, .ptr 15 0)], [], 16, (15, .cells [.v (.int .i64 0), .v (.int .i64 0)] 44) :: outB L 5⟩) (by kernel_rfl) (goes_told Try.checked.mixed known_none 200 (e := .normal) (ps := []) [.go] (by kernel_rfl) (by kernel_rfl) trivial rfl) ?_
  refine goes_spineQ (ι := PlI L) (T := fun k => inN y L 5 k.1) (R := fun k => L.length ≤ k.1) (by kernel_rfl) (goes_spine (T' := inT y L 5 0 0 0) (by kernel_rfl) (goes_told Try.checked.mixed known_none 200 (e := .normal) (ps := []) [.go] (by kernel_rfl) (by kernel_rfl) trivial rfl) (rin5 y L hL hi w _)) (fun k hk => ?_)
  obtain ⟨k, hk1⟩ := k
  have hk2 : L.length ≤ k := hk
  obtain rfl : k = L.length := by omega
  exact goes_told Try.checked.mixed known_none 200 (e := .normal) (ps := []) [.go, .go, .go, .go, .go] (by kernel_rfl) (by kernel_rfl) trivial rfl

theorem rout6 (y : Value) (L : List (Int × Int)) (hL : L.length ≤ 12) (hi : 6 < L.length) (w : World) : Goes Try.prog 86 loop2 (ouT y L 6) w (Land 86 isN (ouT y L 7) w) := by
  refine goes_spine (T' := ouT y L 6) (by kernel_rfl) (goes_told Try.checked.mixed known_none 200 (e := .normal) (ps := [ltI ((6 : Nat) : Int) (L.length : Int) = true]) [.go, .go, .go, .go, .b true] (by kernel_rfl) (by kernel_rfl) ⟨ltI_lt (by omega), trivial⟩ rfl) ?_
  refine goes_spine (T' := midT y L 6) (by kernel_rfl) ?_ (goes_told Try.checked.mixed known_none 200 (e := .normal) (ps := [inR IntKind.i64 (((6 : Nat) : Int) + 1)]) [.go, .go, .go] (by kernel_rfl) (by kernel_rfl) ⟨by show -9223372036854775808 ≤ _ ∧ _ ≤ 9223372036854775807; constructor <;> omega, trivial⟩ rfl)
  refine goes_blk (by kernel_rfl) ?_
  show Goes _ _ in39 _ _ _
  refine goes_spine (T' := ⟨[(0, .xl y L.length 2 (cR L)), (5, outV 6), (6, .v (.int .i64 (6 : Nat))), (7, .ptr 18 0)], [], 19, (18, .cells [.v (.int .i64 0), .v (.int .i64 0)] 44) :: outB L 6⟩) (by kernel_rfl) (goes_told Try.checked.mixed known_none 200 (e := .normal) (ps := []) [.go] (by kernel_rfl) (by kernel_rfl) trivial rfl) ?_
  refine goes_spineQ (ι := PlI L) (T := fun k => inN y L 6 k.1) (R := fun k => L.length ≤ k.1) (by kernel_rfl) (goes_spine (T' := inT y L 6 0 0 0) (by kernel_rfl) (goes_told Try.checked.mixed known_none 200 (e := .normal) (ps := []) [.go] (by kernel_rfl) (by kernel_rfl) trivial rfl) (rin6 y L hL hi w _)) (fun k hk => ?_)
  obtain ⟨k, hk1⟩ := k
  have hk2 : L.length ≤ k := hk
  obtain rfl : k = L.length := by omega
  exact goes_told Try.checked.mixed known_none 200 (e := .normal) (ps := []) [.go, .go, .go, .go, .go] (by kernel_rfl) (by kernel_rfl) trivial rfl

theorem rout7 (y : Value) (L : List (Int × Int)) (hL : L.length ≤ 12) (hi : 7 < L.length) (w : World) : Goes Try.prog 86 loop2 (ouT y L 7) w (Land 86 isN (ouT y L 8) w) := by
  refine goes_spine (T' := ouT y L 7) (by kernel_rfl) (goes_told Try.checked.mixed known_none 200 (e := .normal) (ps := [ltI ((7 : Nat) : Int) (L.length : Int) = true]) [.go, .go, .go, .go, .b true] (by kernel_rfl) (by kernel_rfl) ⟨ltI_lt (by omega), trivial⟩ rfl) ?_
  refine goes_spine (T' := midT y L 7) (by kernel_rfl) ?_ (goes_told Try.checked.mixed known_none 200 (e := .normal) (ps := [inR IntKind.i64 (((7 : Nat) : Int) + 1)]) [.go, .go, .go] (by kernel_rfl) (by kernel_rfl) ⟨by show -9223372036854775808 ≤ _ ∧ _ ≤ 9223372036854775807; constructor <;> omega, trivial⟩ rfl)
  refine goes_blk (by kernel_rfl) ?_
  show Goes _ _ in39 _ _ _
  refine goes_spine (T' := ⟨[(0, .xl y L.length 2 (cR L)), (5, outV 7), (6, .v (.int .i64 (7 : Nat))), (7, .ptr 21 0)], [], 22, (21, .cells [.v (.int .i64 0), .v (.int .i64 0)] 44) :: outB L 7⟩) (by kernel_rfl) (goes_told Try.checked.mixed known_none 200 (e := .normal) (ps := []) [.go] (by kernel_rfl) (by kernel_rfl) trivial rfl) ?_
  refine goes_spineQ (ι := PlI L) (T := fun k => inN y L 7 k.1) (R := fun k => L.length ≤ k.1) (by kernel_rfl) (goes_spine (T' := inT y L 7 0 0 0) (by kernel_rfl) (goes_told Try.checked.mixed known_none 200 (e := .normal) (ps := []) [.go] (by kernel_rfl) (by kernel_rfl) trivial rfl) (rin7 y L hL hi w _)) (fun k hk => ?_)
  obtain ⟨k, hk1⟩ := k
  have hk2 : L.length ≤ k := hk
  obtain rfl : k = L.length := by omega
  exact goes_told Try.checked.mixed known_none 200 (e := .normal) (ps := []) [.go, .go, .go, .go, .go] (by kernel_rfl) (by kernel_rfl) trivial rfl

theorem rout8 (y : Value) (L : List (Int × Int)) (hL : L.length ≤ 12) (hi : 8 < L.length) (w : World) : Goes Try.prog 86 loop2 (ouT y L 8) w (Land 86 isN (ouT y L 9) w) := by
  refine goes_spine (T' := ouT y L 8) (by kernel_rfl) (goes_told Try.checked.mixed known_none 200 (e := .normal) (ps := [ltI ((8 : Nat) : Int) (L.length : Int) = true]) [.go, .go, .go, .go, .b true] (by kernel_rfl) (by kernel_rfl) ⟨ltI_lt (by omega), trivial⟩ rfl) ?_
  refine goes_spine (T' := midT y L 8) (by kernel_rfl) ?_ (goes_told Try.checked.mixed known_none 200 (e := .normal) (ps := [inR IntKind.i64 (((8 : Nat) : Int) + 1)]) [.go, .go, .go] (by kernel_rfl) (by kernel_rfl) ⟨by show -9223372036854775808 ≤ _ ∧ _ ≤ 9223372036854775807; constructor <;> omega, trivial⟩ rfl)
  refine goes_blk (by kernel_rfl) ?_
  show Goes _ _ in39 _ _ _
  refine goes_spine (T' := ⟨[(0, .xl y L.length 2 (cR L)), (5, outV 8), (6, .v (.int .i64 (8 : Nat))), (7, .ptr 24 0)], [], 25, (24, .cells [.v (.int .i64 0), .v (.int .i64 0)] 44) :: outB L 8⟩) (by kernel_rfl) (goes_told Try.checked.mixed known_none 200 (e := .normal) (ps := []) [.go] (by kernel_rfl) (by kernel_rfl) trivial rfl) ?_
  refine goes_spineQ (ι := PlI L) (T := fun k => inN y L 8 k.1) (R := fun k => L.length ≤ k.1) (by kernel_rfl) (goes_spine (T' := inT y L 8 0 0 0) (by kernel_rfl) (goes_told Try.checked.mixed known_none 200 (e := .normal) (ps := []) [.go] (by kernel_rfl) (by kernel_rfl) trivial rfl) (rin8 y L hL hi w _)) (fun k hk => ?_)
  obtain ⟨k, hk1⟩ := k
  have hk2 : L.length ≤ k := hk
  obtain rfl : k = L.length := by omega
  exact goes_told Try.checked.mixed known_none 200 (e := .normal) (ps := []) [.go, .go, .go, .go, .go] (by kernel_rfl) (by kernel_rfl) trivial rfl

theorem rout9 (y : Value) (L : List (Int × Int)) (hL : L.length ≤ 12) (hi : 9 < L.length) (w : World) : Goes Try.prog 86 loop2 (ouT y L 9) w (Land 86 isN (ouT y L 10) w) := by
  refine goes_spine (T' := ouT y L 9) (by kernel_rfl) (goes_told Try.checked.mixed known_none 200 (e := .normal) (ps := [ltI ((9 : Nat) : Int) (L.length : Int) = true]) [.go, .go, .go, .go, .b true] (by kernel_rfl) (by kernel_rfl) ⟨ltI_lt (by omega), trivial⟩ rfl) ?_
  refine goes_spine (T' := midT y L 9) (by kernel_rfl) ?_ (goes_told Try.checked.mixed known_none 200 (e := .normal) (ps := [inR IntKind.i64 (((9 : Nat) : Int) + 1)]) [.go, .go, .go] (by kernel_rfl) (by kernel_rfl) ⟨by show -9223372036854775808 ≤ _ ∧ _ ≤ 9223372036854775807; constructor <;> omega, trivial⟩ rfl)
  refine goes_blk (by kernel_rfl) ?_
  show Goes _ _ in39 _ _ _
  refine goes_spine (T' := ⟨[(0, .xl y L.length 2 (cR L)), (5, outV 9), (6, .v (.int .i64 (9 : Nat))), (7, .ptr 27 0)], [], 28, (27, .cells [.v (.int .i64 0), .v (.int .i64 0)] 44) :: outB L 9⟩) (by kernel_rfl) (goes_told Try.checked.mixed known_none 200 (e := .normal) (ps := []) [.go] (by kernel_rfl) (by kernel_rfl) trivial rfl) ?_
  refine goes_spineQ (ι := PlI L) (T := fun k => inN y L 9 k.1) (R := fun k => L.length ≤ k.1) (by kernel_rfl) (goes_spine (T' := inT y L 9 0 0 0) (by kernel_rfl) (goes_told Try.checked.mixed known_none 200 (e := .normal) (ps := []) [.go] (by kernel_rfl) (by kernel_rfl) trivial rfl) (rin9 y L hL hi w _)) (fun k hk => ?_)
  obtain ⟨k, hk1⟩ := k
  have hk2 : L.length ≤ k := hk
  obtain rfl : k = L.length := by omega
  exact goes_told Try.checked.mixed known_none 200 (e := .normal) (ps := []) [.go, .go, .go, .go, .go] (by kernel_rfl) (by kernel_rfl) trivial rfl

theorem rout10 (y : Value) (L : List (Int × Int)) (hL : L.length ≤ 12) (hi : 10 < L.length) (w : World) : Goes Try.prog 86 loop2 (ouT y L 10) w (Land 86 isN (ouT y L 11) w) := by
  refine goes_spine (T' := ouT y L 10) (by kernel_rfl) (goes_told Try.checked.mixed known_none 200 (e := .normal) (ps := [ltI ((10 : Nat) : Int) (L.length : Int) = true]) [.go, .go, .go, .go, .b true] (by kernel_rfl) (by kernel_rfl) ⟨ltI_lt (by omega), trivial⟩ rfl) ?_
  refine goes_spine (T' := midT y L 10) (by kernel_rfl) ?_ (goes_told Try.checked.mixed known_none 200 (e := .normal) (ps := [inR IntKind.i64 (((10 : Nat) : Int) + 1)]) [.go, .go, .go] (by kernel_rfl) (by kernel_rfl) ⟨by show -9223372036854775808 ≤ _ ∧ _ ≤ 9223372036854775807; constructor <;> omega, trivial⟩ rfl)
  refine goes_blk (by kernel_rfl) ?_
  show Goes _ _ in39 _ _ _
  refine goes_spine (T' := ⟨[(0, .xl y L.length 2 (cR L)), (5, outV 10), (6, .v (.int .i64 (10 : Nat))), (7, .ptr 30 0)], [], 31, (30, .cells [.v (.int .i64 0), .v (.int .i64 0)] 44) :: outB L 10⟩) (by kernel_rfl) (goes_told Try.checked.mixed known_none 200 (e := .normal) (ps := []) [.go] (by kernel_rfl) (by kernel_rfl) trivial rfl) ?_
  refine goes_spineQ (ι := PlI L) (T := fun k => inN y L 10 k.1) (R := fun k => L.length ≤ k.1) (by kernel_rfl) (goes_spine (T' := inT y L 10 0 0 0) (by kernel_rfl) (goes_told Try.checked.mixed known_none 200 (e := .normal) (ps := []) [.go] (by kernel_rfl) (by kernel_rfl) trivial rfl) (rin10 y L hL hi w _)) (fun k hk => ?_)
  obtain ⟨k, hk1⟩ := k
  have hk2 : L.length ≤ k := hk
  obtain rfl : k = L.length := by omega
  exact goes_told Try.checked.mixed known_none 200 (e := .normal) (ps := []) [.go, .go, .go, .go, .go] (by kernel_rfl) (by kernel_rfl) trivial rfl

theorem rout11 (y : Value) (L : List (Int × Int)) (hL : L.length ≤ 12) (hi : 11 < L.length) (w : World) : Goes Try.prog 86 loop2 (ouT y L 11) w (Land 86 isN (ouT y L 12) w) := by
  refine goes_spine (T' := ouT y L 11) (by kernel_rfl) (goes_told Try.checked.mixed known_none 200 (e := .normal) (ps := [ltI ((11 : Nat) : Int) (L.length : Int) = true]) [.go, .go, .go, .go, .b true] (by kernel_rfl) (by kernel_rfl) ⟨ltI_lt (by omega), trivial⟩ rfl) ?_
  refine goes_spine (T' := midT y L 11) (by kernel_rfl) ?_ (goes_told Try.checked.mixed known_none 200 (e := .normal) (ps := [inR IntKind.i64 (((11 : Nat) : Int) + 1)]) [.go, .go, .go] (by kernel_rfl) (by kernel_rfl) ⟨by show -9223372036854775808 ≤ _ ∧ _ ≤ 9223372036854775807; constructor <;> omega, trivial⟩ rfl)
  refine goes_blk (by kernel_rfl) ?_
  show Goes _ _ in39 _ _ _
  refine goes_spine (T' := ⟨[(0, .xl y L.length 2 (cR L)), (5, outV 11), (6, .v (.int .i64 (11 : Nat))), (7, .ptr 33 0)], [], 34, (33, .cells [.v (.int .i64 0), .v (.int .i64 0)] 44) :: outB L 11⟩) (by kernel_rfl) (goes_told Try.checked.mixed known_none 200 (e := .normal) (ps := []) [.go] (by kernel_rfl) (by kernel_rfl) trivial rfl) ?_
  refine goes_spineQ (ι := PlI L) (T := fun k => inN y L 11 k.1) (R := fun k => L.length ≤ k.1) (by kernel_rfl) (goes_spine (T' := inT y L 11 0 0 0) (by kernel_rfl) (goes_told Try.checked.mixed known_none 200 (e := .normal) (ps := []) [.go] (by kernel_rfl) (by kernel_rfl) trivial rfl) (rin11 y L hL hi w _)) (fun k hk => ?_)
  obtain ⟨k, hk1⟩ := k
  have hk2 : L.length ≤ k := hk
  obtain rfl : k = L.length := by omega
  exact goes_told Try.checked.mixed known_none 200 (e := .normal) (ps := []) [.go, .go, .go, .go, .go] (by kernel_rfl) (by kernel_rfl) trivial rfl

theorem rend0 (y : Value) (L : List (Int × Int)) (hi : L.length ≤ 0) (w : World) : Goes Try.prog 86 loop2 (ouT y L 0) w (Land 86 (isX (blkId (tlC (hdC (tlC rest39))))) (ouT y L 0) w) :=
  goes_told Try.checked.mixed known_none 200 (e := .exit 2) (ps := [ltI ((0 : Nat) : Int) (L.length : Int) = false]) [.go, .go, .go, .go, .b false] (by kernel_rfl) (by kernel_rfl) ⟨ltI_ge (by omega), trivial⟩ (by kernel_rfl)

theorem rend1 (y : Value) (L : List (Int × Int)) (hi : L.length ≤ 1) (w : World) : Goes Try.prog 86 loop2 (ouT y L 1) w (Land 86 (isX (blkId (tlC (hdC (tlC rest39))))) (ouT y L 1) w) :=
  goes_told Try.checked.mixed known_none 200 (e := .exit 2) (ps := [ltI ((1 : Nat) : Int) (L.length : Int) = false]) [.go, .go, .go, .go, .b false] (by kernel_rfl) (by kernel_rfl) ⟨ltI_ge (by omega), trivial⟩ (by kernel_rfl)

theorem rend2 (y : Value) (L : List (Int × Int)) (hi : L.length ≤ 2) (w : World) : Goes Try.prog 86 loop2 (ouT y L 2) w (Land 86 (isX (blkId (tlC (hdC (tlC rest39))))) (ouT y L 2) w) :=
  goes_told Try.checked.mixed known_none 200 (e := .exit 2) (ps := [ltI ((2 : Nat) : Int) (L.length : Int) = false]) [.go, .go, .go, .go, .b false] (by kernel_rfl) (by kernel_rfl) ⟨ltI_ge (by omega), trivial⟩ (by kernel_rfl)

theorem rend3 (y : Value) (L : List (Int × Int)) (hi : L.length ≤ 3) (w : World) : Goes Try.prog 86 loop2 (ouT y L 3) w (Land 86 (isX (blkId (tlC (hdC (tlC rest39))))) (ouT y L 3) w) :=
  goes_told Try.checked.mixed known_none 200 (e := .exit 2) (ps := [ltI ((3 : Nat) : Int) (L.length : Int) = false]) [.go, .go, .go, .go, .b false] (by kernel_rfl) (by kernel_rfl) ⟨ltI_ge (by omega), trivial⟩ (by kernel_rfl)

theorem rend4 (y : Value) (L : List (Int × Int)) (hi : L.length ≤ 4) (w : World) : Goes Try.prog 86 loop2 (ouT y L 4) w (Land 86 (isX (blkId (tlC (hdC (tlC rest39))))) (ouT y L 4) w) :=
  goes_told Try.checked.mixed known_none 200 (e := .exit 2) (ps := [ltI ((4 : Nat) : Int) (L.length : Int) = false]) [.go, .go, .go, .go, .b false] (by kernel_rfl) (by kernel_rfl) ⟨ltI_ge (by omega), trivial⟩ (by kernel_rfl)

theorem rend5 (y : Value) (L : List (Int × Int)) (hi : L.length ≤ 5) (w : World) : Goes Try.prog 86 loop2 (ouT y L 5) w (Land 86 (isX (blkId (tlC (hdC (tlC rest39))))) (ouT y L 5) w) :=
  goes_told Try.checked.mixed known_none 200 (e := .exit 2) (ps := [ltI ((5 : Nat) : Int) (L.length : Int) = false]) [.go, .go, .go, .go, .b false] (by kernel_rfl) (by kernel_rfl) ⟨ltI_ge (by omega), trivial⟩ (by kernel_rfl)

theorem rend6 (y : Value) (L : List (Int × Int)) (hi : L.length ≤ 6) (w : World) : Goes Try.prog 86 loop2 (ouT y L 6) w (Land 86 (isX (blkId (tlC (hdC (tlC rest39))))) (ouT y L 6) w) :=
  goes_told Try.checked.mixed known_none 200 (e := .exit 2) (ps := [ltI ((6 : Nat) : Int) (L.length : Int) = false]) [.go, .go, .go, .go, .b false] (by kernel_rfl) (by kernel_rfl) ⟨ltI_ge (by omega), trivial⟩ (by kernel_rfl)

theorem rend7 (y : Value) (L : List (Int × Int)) (hi : L.length ≤ 7) (w : World) : Goes Try.prog 86 loop2 (ouT y L 7) w (Land 86 (isX (blkId (tlC (hdC (tlC rest39))))) (ouT y L 7) w) :=
  goes_told Try.checked.mixed known_none 200 (e := .exit 2) (ps := [ltI ((7 : Nat) : Int) (L.length : Int) = false]) [.go, .go, .go, .go, .b false] (by kernel_rfl) (by kernel_rfl) ⟨ltI_ge (by omega), trivial⟩ (by kernel_rfl)

theorem rend8 (y : Value) (L : List (Int × Int)) (hi : L.length ≤ 8) (w : World) : Goes Try.prog 86 loop2 (ouT y L 8) w (Land 86 (isX (blkId (tlC (hdC (tlC rest39))))) (ouT y L 8) w) :=
  goes_told Try.checked.mixed known_none 200 (e := .exit 2) (ps := [ltI ((8 : Nat) : Int) (L.length : Int) = false]) [.go, .go, .go, .go, .b false] (by kernel_rfl) (by kernel_rfl) ⟨ltI_ge (by omega), trivial⟩ (by kernel_rfl)

theorem rend9 (y : Value) (L : List (Int × Int)) (hi : L.length ≤ 9) (w : World) : Goes Try.prog 86 loop2 (ouT y L 9) w (Land 86 (isX (blkId (tlC (hdC (tlC rest39))))) (ouT y L 9) w) :=
  goes_told Try.checked.mixed known_none 200 (e := .exit 2) (ps := [ltI ((9 : Nat) : Int) (L.length : Int) = false]) [.go, .go, .go, .go, .b false] (by kernel_rfl) (by kernel_rfl) ⟨ltI_ge (by omega), trivial⟩ (by kernel_rfl)

theorem rend10 (y : Value) (L : List (Int × Int)) (hi : L.length ≤ 10) (w : World) : Goes Try.prog 86 loop2 (ouT y L 10) w (Land 86 (isX (blkId (tlC (hdC (tlC rest39))))) (ouT y L 10) w) :=
  goes_told Try.checked.mixed known_none 200 (e := .exit 2) (ps := [ltI ((10 : Nat) : Int) (L.length : Int) = false]) [.go, .go, .go, .go, .b false] (by kernel_rfl) (by kernel_rfl) ⟨ltI_ge (by omega), trivial⟩ (by kernel_rfl)

theorem rend11 (y : Value) (L : List (Int × Int)) (hi : L.length ≤ 11) (w : World) : Goes Try.prog 86 loop2 (ouT y L 11) w (Land 86 (isX (blkId (tlC (hdC (tlC rest39))))) (ouT y L 11) w) :=
  goes_told Try.checked.mixed known_none 200 (e := .exit 2) (ps := [ltI ((11 : Nat) : Int) (L.length : Int) = false]) [.go, .go, .go, .go, .b false] (by kernel_rfl) (by kernel_rfl) ⟨ltI_ge (by omega), trivial⟩ (by kernel_rfl)

theorem rend12 (y : Value) (L : List (Int × Int)) (hi : L.length ≤ 12) (w : World) : Goes Try.prog 86 loop2 (ouT y L 12) w (Land 86 (isX (blkId (tlC (hdC (tlC rest39))))) (ouT y L 12) w) :=
  goes_told Try.checked.mixed known_none 200 (e := .exit 2) (ps := [ltI ((12 : Nat) : Int) (L.length : Int) = false]) [.go, .go, .go, .go, .b false] (by kernel_rfl) (by kernel_rfl) ⟨ltI_ge (by omega), trivial⟩ (by kernel_rfl)

theorem rfin1 (y : Value) (L : List (Int × Int)) (w : World) : Goes Try.prog 86 (tlC (tlC rest39)) (ouT y L 1) w (OutB Try.prog Try.f39 86 (fun b => .tup [.slu b 0 1 0, .v (.int .i64 0)]) (.row (plUp (cR L) L.length 1) 44 2) w) :=
  goes_outB Try.checked.mixed known_none 200 (ps := []) [.go, .go, .go] 2 (by kernel_rfl) (by kernel_rfl) trivial

theorem rfin2 (y : Value) (L : List (Int × Int)) (w : World) : Goes Try.prog 86 (tlC (tlC rest39)) (ouT y L 2) w (OutB Try.prog Try.f39 86 (fun b => .tup [.slu b 0 2 0, .v (.int .i64 0)]) (.row (plUp (cR L) L.length 2) 44 2) w) :=
  goes_outB Try.checked.mixed known_none 200 (ps := []) [.go, .go, .go] 5 (by kernel_rfl) (by kernel_rfl) trivial

theorem rfin3 (y : Value) (L : List (Int × Int)) (w : World) : Goes Try.prog 86 (tlC (tlC rest39)) (ouT y L 3) w (OutB Try.prog Try.f39 86 (fun b => .tup [.slu b 0 3 0, .v (.int .i64 0)]) (.row (plUp (cR L) L.length 3) 44 2) w) :=
  goes_outB Try.checked.mixed known_none 200 (ps := []) [.go, .go, .go] 8 (by kernel_rfl) (by kernel_rfl) trivial

theorem rfin4 (y : Value) (L : List (Int × Int)) (w : World) : Goes Try.prog 86 (tlC (tlC rest39)) (ouT y L 4) w (OutB Try.prog Try.f39 86 (fun b => .tup [.slu b 0 4 0, .v (.int .i64 0)]) (.row (plUp (cR L) L.length 4) 44 2) w) :=
  goes_outB Try.checked.mixed known_none 200 (ps := []) [.go, .go, .go] 11 (by kernel_rfl) (by kernel_rfl) trivial

theorem rfin5 (y : Value) (L : List (Int × Int)) (w : World) : Goes Try.prog 86 (tlC (tlC rest39)) (ouT y L 5) w (OutB Try.prog Try.f39 86 (fun b => .tup [.slu b 0 5 0, .v (.int .i64 0)]) (.row (plUp (cR L) L.length 5) 44 2) w) :=
  goes_outB Try.checked.mixed known_none 200 (ps := []) [.go, .go, .go] 14 (by kernel_rfl) (by kernel_rfl) trivial

theorem rfin6 (y : Value) (L : List (Int × Int)) (w : World) : Goes Try.prog 86 (tlC (tlC rest39)) (ouT y L 6) w (OutB Try.prog Try.f39 86 (fun b => .tup [.slu b 0 6 0, .v (.int .i64 0)]) (.row (plUp (cR L) L.length 6) 44 2) w) :=
  goes_outB Try.checked.mixed known_none 200 (ps := []) [.go, .go, .go] 17 (by kernel_rfl) (by kernel_rfl) trivial

theorem rfin7 (y : Value) (L : List (Int × Int)) (w : World) : Goes Try.prog 86 (tlC (tlC rest39)) (ouT y L 7) w (OutB Try.prog Try.f39 86 (fun b => .tup [.slu b 0 7 0, .v (.int .i64 0)]) (.row (plUp (cR L) L.length 7) 44 2) w) :=
  goes_outB Try.checked.mixed known_none 200 (ps := []) [.go, .go, .go] 20 (by kernel_rfl) (by kernel_rfl) trivial

theorem rfin8 (y : Value) (L : List (Int × Int)) (w : World) : Goes Try.prog 86 (tlC (tlC rest39)) (ouT y L 8) w (OutB Try.prog Try.f39 86 (fun b => .tup [.slu b 0 8 0, .v (.int .i64 0)]) (.row (plUp (cR L) L.length 8) 44 2) w) :=
  goes_outB Try.checked.mixed known_none 200 (ps := []) [.go, .go, .go] 23 (by kernel_rfl) (by kernel_rfl) trivial

theorem rfin9 (y : Value) (L : List (Int × Int)) (w : World) : Goes Try.prog 86 (tlC (tlC rest39)) (ouT y L 9) w (OutB Try.prog Try.f39 86 (fun b => .tup [.slu b 0 9 0, .v (.int .i64 0)]) (.row (plUp (cR L) L.length 9) 44 2) w) :=
  goes_outB Try.checked.mixed known_none 200 (ps := []) [.go, .go, .go] 26 (by kernel_rfl) (by kernel_rfl) trivial

theorem rfin10 (y : Value) (L : List (Int × Int)) (w : World) : Goes Try.prog 86 (tlC (tlC rest39)) (ouT y L 10) w (OutB Try.prog Try.f39 86 (fun b => .tup [.slu b 0 10 0, .v (.int .i64 0)]) (.row (plUp (cR L) L.length 10) 44 2) w) :=
  goes_outB Try.checked.mixed known_none 200 (ps := []) [.go, .go, .go] 29 (by kernel_rfl) (by kernel_rfl) trivial

theorem rfin11 (y : Value) (L : List (Int × Int)) (w : World) : Goes Try.prog 86 (tlC (tlC rest39)) (ouT y L 11) w (OutB Try.prog Try.f39 86 (fun b => .tup [.slu b 0 11 0, .v (.int .i64 0)]) (.row (plUp (cR L) L.length 11) 44 2) w) :=
  goes_outB Try.checked.mixed known_none 200 (ps := []) [.go, .go, .go] 32 (by kernel_rfl) (by kernel_rfl) trivial

theorem rfin12 (y : Value) (L : List (Int × Int)) (w : World) : Goes Try.prog 86 (tlC (tlC rest39)) (ouT y L 12) w (OutB Try.prog Try.f39 86 (fun b => .tup [.slu b 0 12 0, .v (.int .i64 0)]) (.row (plUp (cR L) L.length 12) 44 2) w) :=
  goes_outB Try.checked.mixed known_none 200 (ps := []) [.go, .go, .go] 35 (by kernel_rfl) (by kernel_rfl) trivial

theorem rfin (y : Value) (L : List (Int × Int)) (m : Nat) (hm : 1 ≤ m ∧ m ≤ 12) (w : World) : Goes Try.prog 86 (tlC (tlC rest39)) (ouT y L m) w (OutB Try.prog Try.f39 86 (fun b => .tup [.slu b 0 m 0, .v (.int .i64 0)]) (.row (plUp (cR L) L.length m) 44 2) w) := by
  rcases (show m = 1 ∨ m = 2 ∨ m = 3 ∨ m = 4 ∨ m = 5 ∨ m = 6 ∨ m = 7 ∨ m = 8 ∨ m = 9 ∨ m = 10 ∨ m = 11 ∨ m = 12 by omega) with rfl | rfl | rfl | rfl | rfl | rfl | rfl | rfl | rfl | rfl | rfl | rfl
  · exact rfin1 y L w
  · exact rfin2 y L w
  · exact rfin3 y L w
  · exact rfin4 y L w
  · exact rfin5 y L w
  · exact rfin6 y L w
  · exact rfin7 y L w
  · exact rfin8 y L w
  · exact rfin9 y L w
  · exact rfin10 y L w
  · exact rfin11 y L w
  · exact rfin12 y L w
theorem rloop (y : Value) (L : List (Int × Int)) (hL : L.length ≤ 12) (m : Nat) (hm : m ≤ L.length) (w : World) :
    (∃ j : PlI L, L.length - j.1 < L.length - m ∧ Goes Try.prog 86 loop2 (ouT y L m) w (Land 86 isN (ouT y L j.1) w)) ∨ (L.length ≤ m ∧ Goes Try.prog 86 loop2 (ouT y L m) w (Land 86 (isX (blkId (tlC (hdC (tlC rest39))))) (ouT y L m) w)) := by
  by_cases hlt : m < L.length
  · refine .inl ⟨⟨m + 1, hlt⟩, by show L.length - (m + 1) < L.length - m; omega, ?_⟩
    rcases (show m = 0 ∨ m = 1 ∨ m = 2 ∨ m = 3 ∨ m = 4 ∨ m = 5 ∨ m = 6 ∨ m = 7 ∨ m = 8 ∨ m = 9 ∨ m = 10 ∨ m = 11 by omega) with rfl | rfl | rfl | rfl | rfl | rfl | rfl | rfl | rfl | rfl | rfl | rfl
    · exact rout0 y L hL hlt w
    · exact rout1 y L hL hlt w
    · exact rout2 y L hL hlt w
    · exact rout3 y L hL hlt w
    · exact rout4 y L hL hlt w
    · exact rout5 y L hL hlt w
    · exact rout6 y L hL hlt w
    · exact rout7 y L hL hlt w
    · exact rout8 y L hL hlt w
    · exact rout9 y L hL hlt w
    · exact rout10 y L hL hlt w
    · exact rout11 y L hL hlt w
  · refine .inr ⟨by omega, ?_⟩
    rcases (show m = 0 ∨ m = 1 ∨ m = 2 ∨ m = 3 ∨ m = 4 ∨ m = 5 ∨ m = 6 ∨ m = 7 ∨ m = 8 ∨ m = 9 ∨ m = 10 ∨ m = 11 ∨ m = 12 by omega) with rfl | rfl | rfl | rfl | rfl | rfl | rfl | rfl | rfl | rfl | rfl | rfl | rfl
    · exact rend0 y L (by omega) w
    · exact rend1 y L (by omega) w
    · exact rend2 y L (by omega) w
    · exact rend3 y L (by omega) w
    · exact rend4 y L (by omega) w
    · exact rend5 y L (by omega) w
    · exact rend6 y L (by omega) w
    · exact rend7 y L (by omega) w
    · exact rend8 y L (by omega) w
    · exact rend9 y L (by omega) w
    · exact rend10 y L (by omega) w
    · exact rend11 y L (by omega) w
    · exact rend12 y L (by omega) w

set_option maxHeartbeats 4000000 in
theorem rPlaces_ok (y : Value) (L : List (Int × Int)) (h : 1 ≤ L.length ∧ L.length ≤ 12) (hk : okC 0 100000 (cR L) L.length = true) : GivesB Try.prog 39 [.xl y L.length 2 (cR L)] (fun b => .tup [.slu b 0 L.length 0, .v (.int .i64 0)]) (.row (plUp (cR L) L.length L.length) 44 2) := by
  obtain ⟨vs, hv⟩ := plUp_plain (cR L) L.length L.length
  refine givesB_parts 86 Try.func39 (by kernel_rfl) (by kernel_rfl) (by kernel_rfl) (one_sluE L.length 0 hv) (fun w => ?_)
  refine goes_spine (T' := argLit [.xl y L.length 2 (cR L)]) (by kernel_rfl) (goes_told Try.checked.mixed known_none 200 (e := .normal) (ps := []) [.go, .go] (by kernel_rfl) (by kernel_rfl) trivial rfl) ?_
  refine goes_spine (T' := argLit [.xl y L.length 2 (cR L)]) (by kernel_rfl) (goes_told Try.checked.mixed known_none 200 (e := .normal) (ps := [ltI (L.length : Int) 1 = false, false = false, false = false, ltI 12 (L.length : Int) = false]) [.go, .go, .go, .go, .b false, .go, .b false, .go, .b false, .go, .go, .b false] (by kernel_rfl) (by kernel_rfl) ⟨ltI_ge (by omega), rfl, rfl, ltI_ge (by omega), trivial⟩ rfl) ?_
  refine goes_spineQ (ι := PlI L) (T := fun i => vT y L i.1) (R := fun i => L.length ≤ i.1) (by kernel_rfl)
    (goes_spine (T' := vT y L 0) (by kernel_rfl) (goes_told Try.checked.mixed known_none 200 (e := .normal) (ps := []) [.go] (by kernel_rfl) (by kernel_rfl) trivial rfl)
      (goes_blockloop (by kernel_rfl) (fun i : PlI L => vT y L i.1) (fun i => L.length - i.1) (fun i => ?_) ⟨0, Nat.zero_le _⟩)) (fun i hi' => ?_)
  · obtain ⟨i, hi1⟩ := i
    by_cases hlt : i < L.length
    · obtain ⟨a1, a2, a3⟩ := okC_at hk hlt
      have hld := cR_load hlt 44 (Try.underlying44) rfl (inf := (Try.prog.info? 44).getD default) (by kernel_rfl) (by kernel_rfl)
      refine .inl ⟨⟨i + 1, hlt⟩, by show L.length - (i + 1) < L.length - i; omega, ?_⟩
      exact goes_cut Try.checked.mixed known_none 200 (e := .normal) (m := 1) (ps := [ltI (i : Int) (L.length : Int) = true, i < L.length, loadL Try.prog (cR L) (i * 2) 44 = some (.agg [.v (.int .i64 (intAt (cR L) (i * 2))), .v (.int .i64 (intAt (cR L) (i * 2 + 1)))]), (!ltI (intAt (cR L) (i * 2)) 0) = true, true = true, true = true, true = true, true = true, (!ltI (intAt (cR L) (i * 2 + 1)) (intAt (cR L) (i * 2))) = true, true = true, true = true, true = true, (!!ltI 100000 (intAt (cR L) (i * 2 + 1))) = false, inR IntKind.i64 ((i : Int) + 1)])
        [.go, .go, .go, .go, .b true, .go, .go, .sym, .sym, .go, .go, .go, .go, .go, .go, .go, .b true, .go, .b true, .go, .b true, .go, .b true, .go, .b true, .go, .go, .go, .b true, .go, .b true, .go, .b true, .go, .b true, .go, .go, .go, .go, .b false, .go, .go, .go] (by kernel_rfl) (by kernel_rfl)
        ⟨ltI_lt (by omega), hlt, hld, by rw [ltI_ge a1]; rfl, rfl, rfl, rfl, rfl, by rw [ltI_ge a2]; rfl, rfl, rfl, rfl, by rw [ltI_ge a3]; rfl, by show -9223372036854775808 ≤ _ ∧ _ ≤ 9223372036854775807; constructor <;> omega, trivial⟩ rfl (by show 0 ≤ 1; decide) (vT_ok _ _ _)
    · exact .inr (.inl ⟨by show L.length ≤ i; omega, goes_told Try.checked.mixed known_none 200 (e := .exit 0) (ps := [ltI (i : Int) (L.length : Int) = false]) [.go, .go, .go, .go, .b false] (by kernel_rfl) (by kernel_rfl) ⟨ltI_ge (by omega), trivial⟩ (by kernel_rfl)⟩)
  · show Goes _ _ rest39 _ _ _
    refine goes_spine (T' := ⟨[(0, .xl y L.length 2 (cR L)), (5, outV 0)], [], 0, []⟩) (by kernel_rfl) (goes_told Try.checked.mixed known_none 200 (e := .normal) (ps := []) [.go] (by kernel_rfl) (by kernel_rfl) trivial rfl) ?_
    refine goes_spineQ (ι := PlI L) (T := fun i => ouT y L i.1) (R := fun i => L.length ≤ i.1) (by kernel_rfl)
      (goes_spine (T' := ouT y L 0) (by kernel_rfl) (goes_told Try.checked.mixed known_none 200 (e := .normal) (ps := []) [.go] (by kernel_rfl) (by kernel_rfl) trivial rfl)
        (goes_blockloop (by kernel_rfl) (fun i : PlI L => ouT y L i.1) (fun i => L.length - i.1) (fun i => (rloop y L h.2 i.1 i.2 w).elim .inl (fun q => .inr (.inl q))) ⟨0, Nat.zero_le _⟩)) (fun j hj' => ?_)
    obtain ⟨j, hj1⟩ := j
    have hj2 : L.length ≤ j := hj'
    obtain rfl : j = L.length := by omega
    exact rfin y L L.length h w

end
end Go.Proofs.Ytchlehpjpgeejaa
