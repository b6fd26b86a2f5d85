/- reached of the laws. -/
import Derived.Test.YtchlehpjpgeejaaP25
namespace Go.Proofs.Ytchlehpjpgeejaa
set_option linter.unusedVariables false
set_option linter.unusedSimpArgs false
open Go Ev
noncomputable section

def rcLp : Code := loopC (tlC (hdC (tlC (tlC (bodyC Try.f50)))))
def rcBd : Code := blkBody (hdC (tlC rcLp))
def rcL2 : Code := loopC (tlC (hdC (tlC rcBd)))

/-- How many of the limits a power reaches. -/
def rchB (c : List AV) (x : Int) (k : Nat) : Bool := !(ltI x ((IntKind.i64.wrap (intAt c (k * 1))).tmod 100001))
def rchA (c : List AV) (m : Nat) (x : Int) : Int := cntI (rchB c x) m
def rchF (L B : List Int) (i : Nat) : Int := rchA (cU B) B.length (intAt (cI L) (i * 1))
theorem rch_mono {c : List AV} {m : Nat} {x y : Int} (h : x ≤ y) : rchA c m x ≤ rchA c m y := cnt_le m (fun j _ hj => by
  unfold rchB at hj ⊢
  cases e : ltI x ((IntKind.i64.wrap (intAt c (j * 1))).tmod 100001) with
  | true => rw [e] at hj; cases hj
  | false =>
    have := ltI_false e
    rw [ltI_ge (by omega)]
    rfl)
def rcT (y z : Value) (L B : List Int) : Nat → Ev.Lit
  | 0 => ⟨[(0, .xl y L.length 1 (cI L)), (1, .xl z B.length 1 (cU B)), (5, .v (.slice none 0 0)), (6, .v (.int .i64 (0 : Nat)))], [], 0, []⟩
  | k + 1 => ⟨[(0, .xl y L.length 1 (cI L)), (1, .xl z B.length 1 (cU B)), (5, .slu 0 0 (k + 1) 0), (6, .v (.int .i64 ((k + 1 : Nat) : Int)))], [], 1, [(0, .row (cI (tabL (rchF L B) (k + 1))) 2 1)]⟩

set_option maxHeartbeats 2000000 in
theorem rc_inz (y z : Value) (L B : List Int) (hi : 0 < L.length) (hB : B.length ≤ 1000) (w : World) : Goes Try.prog 39 (tlC (hdC (tlC rcBd))) (⟨[(0, .xl y L.length 1 (cI L)), (1, .xl z B.length 1 (cU B)), (5, .v (.slice none 0 0)), (6, .v (.int .i64 ((0 : Nat) : Int))), (7, .v (.int .i64 (rchA (cU B) 0 (intAt (cI L) (0 * 1))))), (8, .v (.int .i64 ((0 : Nat) : Int)))], [], 0, []⟩) w (Land 39 isN (⟨[(0, .xl y L.length 1 (cI L)), (1, .xl z B.length 1 (cU B)), (5, .v (.slice none 0 0)), (6, .v (.int .i64 ((0 : Nat) : Int))), (7, .v (.int .i64 (rchA (cU B) B.length (intAt (cI L) (0 * 1))))), (8, .v (.int .i64 ((B.length : Nat) : Int)))], [], 0, []⟩) w) := by
  refine goes_loop1 (goes_blockloop (ι := CnI B.length) (by kernel_rfl) (fun i : CnI B.length => ⟨[(0, .xl y L.length 1 (cI L)), (1, .xl z B.length 1 (cU B)), (5, .v (.slice none 0 0)), (6, .v (.int .i64 ((0 : Nat) : Int))), (7, .v (.int .i64 (rchA (cU B) i.1 (intAt (cI L) (0 * 1))))), (8, .v (.int .i64 ((i.1 : Nat) : Int)))], [], 0, []⟩) (fun i => B.length - i.1) (R := fun i => B.length ≤ i.1) (Q := fun _ _ _ => False) (fun i => ?_) ⟨0, Nat.zero_le _⟩) (fun i hi => by rw [show i.1 = B.length from Nat.le_antisymm i.2 hi])
  obtain ⟨q, hi1⟩ := i
  have hb : 0 ≤ rchA (cU B) q (intAt (cI L) (0 * 1)) ∧ rchA (cU B) q (intAt (cI L) (0 * 1)) ≤ q := cntI_bd _ q
  show (∃ j : CnI B.length, B.length - j.1 < B.length - q ∧ Goes Try.prog 39 rcL2 (⟨[(0, .xl y L.length 1 (cI L)), (1, .xl z B.length 1 (cU B)), (5, .v (.slice none 0 0)), (6, .v (.int .i64 ((0 : Nat) : Int))), (7, .v (.int .i64 (rchA (cU B) q (intAt (cI L) (0 * 1))))), (8, .v (.int .i64 ((q : Nat) : Int)))], [], 0, []⟩) w (Land 39 isN (⟨[(0, .xl y L.length 1 (cI L)), (1, .xl z B.length 1 (cU B)), (5, .v (.slice none 0 0)), (6, .v (.int .i64 ((0 : Nat) : Int))), (7, .v (.int .i64 (rchA (cU B) j.1 (intAt (cI L) (0 * 1))))), (8, .v (.int .i64 ((j.1 : Nat) : Int)))], [], 0, []⟩) w)) ∨ (B.length ≤ q ∧ Goes Try.prog 39 rcL2 (⟨[(0, .xl y L.length 1 (cI L)), (1, .xl z B.length 1 (cU B)), (5, .v (.slice none 0 0)), (6, .v (.int .i64 ((0 : Nat) : Int))), (7, .v (.int .i64 (rchA (cU B) q (intAt (cI L) (0 * 1))))), (8, .v (.int .i64 ((q : Nat) : Int)))], [], 0, []⟩) w (Land 39 (isX 2) (⟨[(0, .xl y L.length 1 (cI L)), (1, .xl z B.length 1 (cU B)), (5, .v (.slice none 0 0)), (6, .v (.int .i64 ((0 : Nat) : Int))), (7, .v (.int .i64 (rchA (cU B) q (intAt (cI L) (0 * 1))))), (8, .v (.int .i64 ((q : Nat) : Int)))], [], 0, []⟩) w)) ∨ Goes Try.prog 39 rcL2 (⟨[(0, .xl y L.length 1 (cI L)), (1, .xl z B.length 1 (cU B)), (5, .v (.slice none 0 0)), (6, .v (.int .i64 ((0 : Nat) : Int))), (7, .v (.int .i64 (rchA (cU B) q (intAt (cI L) (0 * 1))))), (8, .v (.int .i64 ((q : Nat) : Int)))], [], 0, []⟩) w (fun e a w' => e = .ret ∧ False)
  cases hq1 : (ltI ↑q ↑B.length) with
  | true =>
    have ghq1 := ltI_true hq1
    cases hq2 : (ltI (intAt (cI L) (0 * 1)) ((IntKind.i64.wrap (intAt (cU B) (q * 1))).tmod 100001)) with
    | true =>
      have ghq2 := ltI_true hq2
      have e : rchA (cU B) (q + 1) (intAt (cI L) (0 * 1)) = rchA (cU B) q (intAt (cI L) (0 * 1)) := cnt_f (by unfold rchB; rw [hq2]; rfl)
      refine .inl ⟨⟨q + 1, by omega⟩, (by show B.length - (q + 1) < B.length - q; omega), ?_⟩
      show Goes _ _ _ _ _ (Land _ isN (⟨[(0, .xl y L.length 1 (cI L)), (1, .xl z B.length 1 (cU B)), (5, .v (.slice none 0 0)), (6, .v (.int .i64 ((0 : Nat) : Int))), (7, .v (.int .i64 (rchA (cU B) (q + 1) (intAt (cI L) (0 * 1))))), (8, .v (.int .i64 ((q + 1 : Nat) : Int)))], [], 0, []⟩) _)
      rw [e]
      exact goes_told Try.checked.mixed known_none 200 (e := .normal) (ps := [ltI ↑q ↑B.length = true, 0 < L.length, loadL Try.prog (cI L) (0 * 1) 2 = some (AV.v (Value.int IntKind.i64 (intAt (cI L) (0 * 1)))), q < B.length, loadL Try.prog (cU B) (q * 1) 81 = some (AV.v (Value.int IntKind.u32 (intAt (cU B) (q * 1)))), (100001 : Int) ≠ 0, (!ltI (intAt (cI L) (0 * 1)) ((IntKind.i64.wrap (intAt (cU B) (q * 1))).tmod 100001)) = false, inR IntKind.i64 (↑q + 1)]) [.go, .go, .go, .go, .b true, .go, .go, .sym, .sym, .go, .go, .sym, .sym, .go, .go, .go, .b false, .go, .go, .go] (by kernel_rfl) (by kernel_rfl) ⟨hq1, hi, (by rw [Nat.mul_one]; exact cI_load hi 2 (Try.underlying2) rfl), (by omega), (by rw [Nat.mul_one]; exact cU_load (by omega) 81 (Try.underlying81) rfl), (by decide), (by rw [hq2]; rfl), (by show -9223372036854775808 ≤ _ ∧ _ ≤ 9223372036854775807; constructor <;> omega), trivial⟩ rfl
    | false =>
      have ghq2 := ltI_false hq2
      have e : rchA (cU B) (q + 1) (intAt (cI L) (0 * 1)) = rchA (cU B) q (intAt (cI L) (0 * 1)) + 1 := cnt_t (by unfold rchB; rw [hq2]; rfl)
      refine .inl ⟨⟨q + 1, by omega⟩, (by show B.length - (q + 1) < B.length - q; omega), ?_⟩
      show Goes _ _ _ _ _ (Land _ isN (⟨[(0, .xl y L.length 1 (cI L)), (1, .xl z B.length 1 (cU B)), (5, .v (.slice none 0 0)), (6, .v (.int .i64 ((0 : Nat) : Int))), (7, .v (.int .i64 (rchA (cU B) (q + 1) (intAt (cI L) (0 * 1))))), (8, .v (.int .i64 ((q + 1 : Nat) : Int)))], [], 0, []⟩) _)
      rw [e]
      exact goes_told Try.checked.mixed known_none 200 (e := .normal) (ps := [ltI ↑q ↑B.length = true, 0 < L.length, loadL Try.prog (cI L) (0 * 1) 2 = some (AV.v (Value.int IntKind.i64 (intAt (cI L) (0 * 1)))), q < B.length, loadL Try.prog (cU B) (q * 1) 81 = some (AV.v (Value.int IntKind.u32 (intAt (cU B) (q * 1)))), (100001 : Int) ≠ 0, (!ltI (intAt (cI L) (0 * 1)) ((IntKind.i64.wrap (intAt (cU B) (q * 1))).tmod 100001)) = true, inR IntKind.i64 (rchA (cU B) q (intAt (cI L) (0 * 1)) + 1), inR IntKind.i64 (↑q + 1)]) [.go, .go, .go, .go, .b true, .go, .go, .sym, .sym, .go, .go, .sym, .sym, .go, .go, .go, .b true, .go, .go, .go, .go, .go, .go] (by kernel_rfl) (by kernel_rfl) ⟨hq1, hi, (by rw [Nat.mul_one]; exact cI_load hi 2 (Try.underlying2) rfl), (by omega), (by rw [Nat.mul_one]; exact cU_load (by omega) 81 (Try.underlying81) rfl), (by decide), (by rw [hq2]; rfl), (by show -9223372036854775808 ≤ _ ∧ _ ≤ 9223372036854775807; constructor <;> omega), (by show -9223372036854775808 ≤ _ ∧ _ ≤ 9223372036854775807; constructor <;> omega), trivial⟩ rfl
  | false =>
    have ghq1 := ltI_false hq1
    exact .inr (.inl ⟨(by show B.length ≤ q; omega), goes_told Try.checked.mixed known_none 200 (e := .exit 2) (ps := [ltI ↑q ↑B.length = false]) [.go, .go, .go, .go, .b false] (by kernel_rfl) (by kernel_rfl) ⟨hq1, trivial⟩ rfl⟩)

theorem rc_roundz (y z : Value) (L B : List Int) (hi : 0 < L.length) (hL : L.length ≤ 1000) (hB : B.length ≤ 1000) (w : World) : Goes Try.prog 39 rcLp (⟨[(0, .xl y L.length 1 (cI L)), (1, .xl z B.length 1 (cU B)), (5, .v (.slice none 0 0)), (6, .v (.int .i64 ((0 : Nat) : Int)))], [], 0, []⟩) w (Land 39 isN (⟨[(0, .xl y L.length 1 (cI L)), (1, .xl z B.length 1 (cU B)), (5, .slu 0 0 (0 + 1) 0), (6, .v (.int .i64 ((0 + 1 : Nat) : Int)))], [], 1, [(0, .row (cI (tabL (rchF L B) (0 + 1))) 2 1)]⟩) w) := by
  refine goes_spine (T' := ⟨[(0, .xl y L.length 1 (cI L)), (1, .xl z B.length 1 (cU B)), (5, .v (.slice none 0 0)), (6, .v (.int .i64 ((0 : Nat) : Int)))], [], 0, []⟩) (by kernel_rfl) (goes_told Try.checked.mixed known_none 200 (e := .normal) (ps := [ltI ((0 : Nat) : Int) (L.length : Int) = true]) [.go, .go, .go, .go, .b true] (by kernel_rfl) (by kernel_rfl) ⟨ltI_lt (by omega), trivial⟩ rfl) ?_
  refine goes_spine (T' := ⟨[(0, .xl y L.length 1 (cI L)), (1, .xl z B.length 1 (cU B)), (5, .slu 0 0 (0 + 1) 0), (6, .v (.int .i64 ((0 : Nat) : Int)))], [], 1, [(0, .row (cI (tabL (rchF L B) (0 + 1))) 2 1)]⟩) (by kernel_rfl) (goes_blk (by kernel_rfl) ?_) (goes_told Try.checked.mixed known_none 200 (e := .normal) (ps := [inR IntKind.i64 (((0 : Nat) : Int) + 1)]) [.go, .go, .go] (by kernel_rfl) (by kernel_rfl) ⟨(by show -9223372036854775808 ≤ _ ∧ _ ≤ 9223372036854775807; constructor <;> omega), trivial⟩ rfl)
  refine goes_spine (T' := ⟨[(0, .xl y L.length 1 (cI L)), (1, .xl z B.length 1 (cU B)), (5, .v (.slice none 0 0)), (6, .v (.int .i64 ((0 : Nat) : Int))), (7, .v (.int .i64 0))], [], 0, []⟩) (by kernel_rfl) (goes_told Try.checked.mixed known_none 200 (e := .normal) (ps := []) [.go] (by kernel_rfl) (by kernel_rfl) trivial rfl) ?_
  refine goes_spine (T' := ⟨[(0, .xl y L.length 1 (cI L)), (1, .xl z B.length 1 (cU B)), (5, .v (.slice none 0 0)), (6, .v (.int .i64 ((0 : Nat) : Int))), (7, .v (.int .i64 (rchA (cU B) B.length (intAt (cI L) (0 * 1))))), (8, .v (.int .i64 ((B.length : Nat) : Int)))], [], 0, []⟩) (by kernel_rfl) (goes_spine (T' := ⟨[(0, .xl y L.length 1 (cI L)), (1, .xl z B.length 1 (cU B)), (5, .v (.slice none 0 0)), (6, .v (.int .i64 ((0 : Nat) : Int))), (7, .v (.int .i64 (rchA (cU B) 0 (intAt (cI L) (0 * 1))))), (8, .v (.int .i64 ((0 : Nat) : Int)))], [], 0, []⟩) (by kernel_rfl) (goes_told Try.checked.mixed known_none 200 (e := .normal) (ps := []) [.go] (by kernel_rfl) (by kernel_rfl) trivial rfl) (rc_inz y z L B hi hB w)) ?_
  exact goes_cutR Try.checked.mixed known_none 200 (e := .normal) (m := 2) (ps := []) [.go, .go, .go, .go, .go] [1] [.xl y L.length 1 (cI L), .xl z B.length 1 (cU B), .slu 1 0 (0 + 1) 0, .v (.int .i64 ((0 : Nat) : Int))] [.row (cI (tabL (rchF L B) 0) ++ [.v (.int .i64 (rchF L B 0))]) 2 1] (by kernel_rfl) (by kernel_rfl) trivial rfl rfl (by decide) rfl ⟨nr_xl (nrl_plain (cI_plain L)), nr_xl (nrl_plain (cU_plain B)), nr_slu rfl, nr_v _, trivial⟩ ⟨⟨by show 0 < 1; decide, nrb_row (nrl_app rfl)⟩, trivial⟩

set_option maxHeartbeats 2000000 in
theorem rc_ins (y z : Value) (L B : List Int) (k : Nat) (hi : (k + 1) < L.length) (hB : B.length ≤ 1000) (w : World) : Goes Try.prog 39 (tlC (hdC (tlC rcBd))) (⟨[(0, .xl y L.length 1 (cI L)), (1, .xl z B.length 1 (cU B)), (5, .slu 0 0 (k + 1) 0), (6, .v (.int .i64 (((k + 1) : Nat) : Int))), (7, .v (.int .i64 (rchA (cU B) 0 (intAt (cI L) ((k + 1) * 1))))), (8, .v (.int .i64 ((0 : Nat) : Int)))], [], 1, [(0, .row (cI (tabL (rchF L B) (k + 1))) 2 1)]⟩) w (Land 39 isN (⟨[(0, .xl y L.length 1 (cI L)), (1, .xl z B.length 1 (cU B)), (5, .slu 0 0 (k + 1) 0), (6, .v (.int .i64 (((k + 1) : Nat) : Int))), (7, .v (.int .i64 (rchA (cU B) B.length (intAt (cI L) ((k + 1) * 1))))), (8, .v (.int .i64 ((B.length : Nat) : Int)))], [], 1, [(0, .row (cI (tabL (rchF L B) (k + 1))) 2 1)]⟩) w) := by
  refine goes_loop1 (goes_blockloop (ι := CnI B.length) (by kernel_rfl) (fun i : CnI B.length => ⟨[(0, .xl y L.length 1 (cI L)), (1, .xl z B.length 1 (cU B)), (5, .slu 0 0 (k + 1) 0), (6, .v (.int .i64 (((k + 1) : Nat) : Int))), (7, .v (.int .i64 (rchA (cU B) i.1 (intAt (cI L) ((k + 1) * 1))))), (8, .v (.int .i64 ((i.1 : Nat) : Int)))], [], 1, [(0, .row (cI (tabL (rchF L B) (k + 1))) 2 1)]⟩) (fun i => B.length - i.1) (R := fun i => B.length ≤ i.1) (Q := fun _ _ _ => False) (fun i => ?_) ⟨0, Nat.zero_le _⟩) (fun i hi => by rw [show i.1 = B.length from Nat.le_antisymm i.2 hi])
  obtain ⟨q, hi1⟩ := i
  have hb : 0 ≤ rchA (cU B) q (intAt (cI L) ((k + 1) * 1)) ∧ rchA (cU B) q (intAt (cI L) ((k + 1) * 1)) ≤ q := cntI_bd _ q
  show (∃ j : CnI B.length, B.length - j.1 < B.length - q ∧ Goes Try.prog 39 rcL2 (⟨[(0, .xl y L.length 1 (cI L)), (1, .xl z B.length 1 (cU B)), (5, .slu 0 0 (k + 1) 0), (6, .v (.int .i64 (((k + 1) : Nat) : Int))), (7, .v (.int .i64 (rchA (cU B) q (intAt (cI L) ((k + 1) * 1))))), (8, .v (.int .i64 ((q : Nat) : Int)))], [], 1, [(0, .row (cI (tabL (rchF L B) (k + 1))) 2 1)]⟩) w (Land 39 isN (⟨[(0, .xl y L.length 1 (cI L)), (1, .xl z B.length 1 (cU B)), (5, .slu 0 0 (k + 1) 0), (6, .v (.int .i64 (((k + 1) : Nat) : Int))), (7, .v (.int .i64 (rchA (cU B) j.1 (intAt (cI L) ((k + 1) * 1))))), (8, .v (.int .i64 ((j.1 : Nat) : Int)))], [], 1, [(0, .row (cI (tabL (rchF L B) (k + 1))) 2 1)]⟩) w)) ∨ (B.length ≤ q ∧ Goes Try.prog 39 rcL2 (⟨[(0, .xl y L.length 1 (cI L)), (1, .xl z B.length 1 (cU B)), (5, .slu 0 0 (k + 1) 0), (6, .v (.int .i64 (((k + 1) : Nat) : Int))), (7, .v (.int .i64 (rchA (cU B) q (intAt (cI L) ((k + 1) * 1))))), (8, .v (.int .i64 ((q : Nat) : Int)))], [], 1, [(0, .row (cI (tabL (rchF L B) (k + 1))) 2 1)]⟩) w (Land 39 (isX 2) (⟨[(0, .xl y L.length 1 (cI L)), (1, .xl z B.length 1 (cU B)), (5, .slu 0 0 (k + 1) 0), (6, .v (.int .i64 (((k + 1) : Nat) : Int))), (7, .v (.int .i64 (rchA (cU B) q (intAt (cI L) ((k + 1) * 1))))), (8, .v (.int .i64 ((q : Nat) : Int)))], [], 1, [(0, .row (cI (tabL (rchF L B) (k + 1))) 2 1)]⟩) w)) ∨ Goes Try.prog 39 rcL2 (⟨[(0, .xl y L.length 1 (cI L)), (1, .xl z B.length 1 (cU B)), (5, .slu 0 0 (k + 1) 0), (6, .v (.int .i64 (((k + 1) : Nat) : Int))), (7, .v (.int .i64 (rchA (cU B) q (intAt (cI L) ((k + 1) * 1))))), (8, .v (.int .i64 ((q : Nat) : Int)))], [], 1, [(0, .row (cI (tabL (rchF L B) (k + 1))) 2 1)]⟩) w (fun e a w' => e = .ret ∧ False)
  cases hq1 : (ltI ↑q ↑B.length) with
  | true =>
    have ghq1 := ltI_true hq1
    cases hq2 : (ltI (intAt (cI L) ((k + 1) * 1)) ((IntKind.i64.wrap (intAt (cU B) (q * 1))).tmod 100001)) with
    | true =>
      have ghq2 := ltI_true hq2
      have e : rchA (cU B) (q + 1) (intAt (cI L) ((k + 1) * 1)) = rchA (cU B) q (intAt (cI L) ((k + 1) * 1)) := cnt_f (by unfold rchB; rw [hq2]; rfl)
      refine .inl ⟨⟨q + 1, by omega⟩, (by show B.length - (q + 1) < B.length - q; omega), ?_⟩
      show Goes _ _ _ _ _ (Land _ isN (⟨[(0, .xl y L.length 1 (cI L)), (1, .xl z B.length 1 (cU B)), (5, .slu 0 0 (k + 1) 0), (6, .v (.int .i64 (((k + 1) : Nat) : Int))), (7, .v (.int .i64 (rchA (cU B) (q + 1) (intAt (cI L) ((k + 1) * 1))))), (8, .v (.int .i64 ((q + 1 : Nat) : Int)))], [], 1, [(0, .row (cI (tabL (rchF L B) (k + 1))) 2 1)]⟩) _)
      rw [e]
      exact goes_told Try.checked.mixed known_none 200 (e := .normal) (ps := [ltI ↑q ↑B.length = true, (k + 1) < L.length, loadL Try.prog (cI L) ((k + 1) * 1) 2 = some (AV.v (Value.int IntKind.i64 (intAt (cI L) ((k + 1) * 1)))), q < B.length, loadL Try.prog (cU B) (q * 1) 81 = some (AV.v (Value.int IntKind.u32 (intAt (cU B) (q * 1)))), (100001 : Int) ≠ 0, (!ltI (intAt (cI L) ((k + 1) * 1)) ((IntKind.i64.wrap (intAt (cU B) (q * 1))).tmod 100001)) = false, inR IntKind.i64 (↑q + 1)]) [.go, .go, .go, .go, .b true, .go, .go, .sym, .sym, .go, .go, .sym, .sym, .go, .go, .go, .b false, .go, .go, .go] (by kernel_rfl) (by kernel_rfl) ⟨hq1, hi, (by rw [Nat.mul_one]; exact cI_load hi 2 (Try.underlying2) rfl), (by omega), (by rw [Nat.mul_one]; exact cU_load (by omega) 81 (Try.underlying81) rfl), (by decide), (by rw [hq2]; rfl), (by show -9223372036854775808 ≤ _ ∧ _ ≤ 9223372036854775807; constructor <;> omega), trivial⟩ rfl
    | false =>
      have ghq2 := ltI_false hq2
      have e : rchA (cU B) (q + 1) (intAt (cI L) ((k + 1) * 1)) = rchA (cU B) q (intAt (cI L) ((k + 1) * 1)) + 1 := cnt_t (by unfold rchB; rw [hq2]; rfl)
      refine .inl ⟨⟨q + 1, by omega⟩, (by show B.length - (q + 1) < B.length - q; omega), ?_⟩
      show Goes _ _ _ _ _ (Land _ isN (⟨[(0, .xl y L.length 1 (cI L)), (1, .xl z B.length 1 (cU B)), (5, .slu 0 0 (k + 1) 0), (6, .v (.int .i64 (((k + 1) : Nat) : Int))), (7, .v (.int .i64 (rchA (cU B) (q + 1) (intAt (cI L) ((k + 1) * 1))))), (8, .v (.int .i64 ((q + 1 : Nat) : Int)))], [], 1, [(0, .row (cI (tabL (rchF L B) (k + 1))) 2 1)]⟩) _)
      rw [e]
      exact goes_told Try.checked.mixed known_none 200 (e := .normal) (ps := [ltI ↑q ↑B.length = true, (k + 1) < L.length, loadL Try.prog (cI L) ((k + 1) * 1) 2 = some (AV.v (Value.int IntKind.i64 (intAt (cI L) ((k + 1) * 1)))), q < B.length, loadL Try.prog (cU B) (q * 1) 81 = some (AV.v (Value.int IntKind.u32 (intAt (cU B) (q * 1)))), (100001 : Int) ≠ 0, (!ltI (intAt (cI L) ((k + 1) * 1)) ((IntKind.i64.wrap (intAt (cU B) (q * 1))).tmod 100001)) = true, inR IntKind.i64 (rchA (cU B) q (intAt (cI L) ((k + 1) * 1)) + 1), inR IntKind.i64 (↑q + 1)]) [.go, .go, .go, .go, .b true, .go, .go, .sym, .sym, .go, .go, .sym, .sym, .go, .go, .go, .b true, .go, .go, .go, .go, .go, .go] (by kernel_rfl) (by kernel_rfl) ⟨hq1, hi, (by rw [Nat.mul_one]; exact cI_load hi 2 (Try.underlying2) rfl), (by omega), (by rw [Nat.mul_one]; exact cU_load (by omega) 81 (Try.underlying81) rfl), (by decide), (by rw [hq2]; rfl), (by show -9223372036854775808 ≤ _ ∧ _ ≤ 9223372036854775807; constructor <;> omega), (by show -9223372036854775808 ≤ _ ∧ _ ≤ 9223372036854775807; constructor <;> omega), trivial⟩ rfl
  | false =>
    have ghq1 := ltI_false hq1
    exact .inr (.inl ⟨(by show B.length ≤ q; omega), goes_told Try.checked.mixed known_none 200 (e := .exit 2) (ps := [ltI ↑q ↑B.length = false]) [.go, .go, .go, .go, .b false] (by kernel_rfl) (by kernel_rfl) ⟨hq1, trivial⟩ rfl⟩)

theorem rc_rounds (y z : Value) (L B : List Int) (k : Nat) (hi : (k + 1) < L.length) (hL : L.length ≤ 1000) (hB : B.length ≤ 1000) (w : World) : Goes Try.prog 39 rcLp (⟨[(0, .xl y L.length 1 (cI L)), (1, .xl z B.length 1 (cU B)), (5, .slu 0 0 (k + 1) 0), (6, .v (.int .i64 (((k + 1) : Nat) : Int)))], [], 1, [(0, .row (cI (tabL (rchF L B) (k + 1))) 2 1)]⟩) w (Land 39 isN (⟨[(0, .xl y L.length 1 (cI L)), (1, .xl z B.length 1 (cU B)), (5, .slu 0 0 ((k + 1) + 1) 0), (6, .v (.int .i64 (((k + 1) + 1 : Nat) : Int)))], [], 1, [(0, .row (cI (tabL (rchF L B) ((k + 1) + 1))) 2 1)]⟩) w) := by
  refine goes_spine (T' := ⟨[(0, .xl y L.length 1 (cI L)), (1, .xl z B.length 1 (cU B)), (5, .slu 0 0 (k + 1) 0), (6, .v (.int .i64 (((k + 1) : Nat) : Int)))], [], 1, [(0, .row (cI (tabL (rchF L B) (k + 1))) 2 1)]⟩) (by kernel_rfl) (goes_told Try.checked.mixed known_none 200 (e := .normal) (ps := [ltI (((k + 1) : Nat) : Int) (L.length : Int) = true]) [.go, .go, .go, .go, .b true] (by kernel_rfl) (by kernel_rfl) ⟨ltI_lt (by omega), trivial⟩ rfl) ?_
  refine goes_spine (T' := ⟨[(0, .xl y L.length 1 (cI L)), (1, .xl z B.length 1 (cU B)), (5, .slu 0 0 ((k + 1) + 1) 0), (6, .v (.int .i64 (((k + 1) : Nat) : Int)))], [], 1, [(0, .row (cI (tabL (rchF L B) ((k + 1) + 1))) 2 1)]⟩) (by kernel_rfl) (goes_blk (by kernel_rfl) ?_) (goes_told Try.checked.mixed known_none 200 (e := .normal) (ps := [inR IntKind.i64 ((((k + 1) : Nat) : Int) + 1)]) [.go, .go, .go] (by kernel_rfl) (by kernel_rfl) ⟨(by show -9223372036854775808 ≤ _ ∧ _ ≤ 9223372036854775807; constructor <;> omega), trivial⟩ rfl)
  refine goes_spine (T' := ⟨[(0, .xl y L.length 1 (cI L)), (1, .xl z B.length 1 (cU B)), (5, .slu 0 0 (k + 1) 0), (6, .v (.int .i64 (((k + 1) : Nat) : Int))), (7, .v (.int .i64 0))], [], 1, [(0, .row (cI (tabL (rchF L B) (k + 1))) 2 1)]⟩) (by kernel_rfl) (goes_told Try.checked.mixed known_none 200 (e := .normal) (ps := []) [.go] (by kernel_rfl) (by kernel_rfl) trivial rfl) ?_
  refine goes_spine (T' := ⟨[(0, .xl y L.length 1 (cI L)), (1, .xl z B.length 1 (cU B)), (5, .slu 0 0 (k + 1) 0), (6, .v (.int .i64 (((k + 1) : Nat) : Int))), (7, .v (.int .i64 (rchA (cU B) B.length (intAt (cI L) ((k + 1) * 1))))), (8, .v (.int .i64 ((B.length : Nat) : Int)))], [], 1, [(0, .row (cI (tabL (rchF L B) (k + 1))) 2 1)]⟩) (by kernel_rfl) (goes_spine (T' := ⟨[(0, .xl y L.length 1 (cI L)), (1, .xl z B.length 1 (cU B)), (5, .slu 0 0 (k + 1) 0), (6, .v (.int .i64 (((k + 1) : Nat) : Int))), (7, .v (.int .i64 (rchA (cU B) 0 (intAt (cI L) ((k + 1) * 1))))), (8, .v (.int .i64 ((0 : Nat) : Int)))], [], 1, [(0, .row (cI (tabL (rchF L B) (k + 1))) 2 1)]⟩) (by kernel_rfl) (goes_told Try.checked.mixed known_none 200 (e := .normal) (ps := []) [.go] (by kernel_rfl) (by kernel_rfl) trivial rfl) (rc_ins y z L B k hi hB w)) ?_
  exact goes_cutR Try.checked.mixed known_none 200 (e := .normal) (m := 3) (ps := [(cI (tabL (rchF L B) (k + 1))).length = (k + 1) * 1, (k + 1) + 1 ≤ 1000000]) [.go, .go, .go, .sym, .go] [2] [.xl y L.length 1 (cI L), .xl z B.length 1 (cU B), .slu 2 0 ((k + 1) + 1) 0, .v (.int .i64 (((k + 1) : Nat) : Int))] [.row (cI (tabL (rchF L B) (k + 1)) ++ [.v (.int .i64 (rchF L B (k + 1)))]) 2 1] (by kernel_rfl) (by kernel_rfl) ⟨(by rw [cI_len, tabL_len]; omega), by omega, trivial⟩ rfl rfl (by decide) rfl ⟨nr_xl (nrl_plain (cI_plain L)), nr_xl (nrl_plain (cU_plain B)), nr_slu rfl, nr_v _, trivial⟩ ⟨⟨by show 0 < 1; decide, nrb_row (nrl_app rfl)⟩, trivial⟩

theorem rc_loop (y z : Value) (L B : List Int) (hL : L.length ≤ 1000) (hB : B.length ≤ 1000) (w : World) : Goes Try.prog 39 (tlC (hdC (tlC (tlC (bodyC Try.f50))))) (rcT y z L B 0) w (Land 39 isN (rcT y z L B L.length) w) := by
  refine goes_loop1 (goes_blockloop (ι := CnI L.length) (by kernel_rfl) (fun i : CnI L.length => rcT y z L B i.1) (fun i => L.length - i.1) (R := fun i => L.length ≤ i.1) (Q := fun _ _ _ => False) (fun i => ?_) ⟨0, Nat.zero_le _⟩) (fun i hi => by rw [show i.1 = L.length from Nat.le_antisymm i.2 hi])
  obtain ⟨i, hi1⟩ := i
  by_cases hi : i < L.length
  · refine .inl ⟨⟨i + 1, hi⟩, (by show L.length - (i + 1) < L.length - i; omega), ?_⟩
    cases i with
    | zero => exact rc_roundz y z L B hi hL hB w
    | succ k => exact rc_rounds y z L B k hi hL hB w
  · refine .inr (.inl ⟨(by show L.length ≤ i; omega), ?_⟩)
    cases i with
    | zero => exact goes_told Try.checked.mixed known_none 200 (e := .exit 0) (ps := [ltI ((0 : Nat) : Int) (L.length : Int) = false]) [.go, .go, .go, .go, .b false] (by kernel_rfl) (by kernel_rfl) ⟨ltI_ge (by omega), trivial⟩ rfl
    | succ k => exact goes_told Try.checked.mixed known_none 200 (e := .exit 0) (ps := [ltI ((k + 1 : Nat) : Int) (L.length : Int) = false]) [.go, .go, .go, .go, .b false] (by kernel_rfl) (by kernel_rfl) ⟨ltI_ge (by omega), trivial⟩ rfl
theorem reached_g (y z : Value) (L B : List Int) (h1 : 1 ≤ L.length) (hL : L.length ≤ 1000) (hB : B.length ≤ 1000) : GivesB Try.prog 50 [.xl y L.length 1 (cI L), .xl z B.length 1 (cU B)] (fun b => .slu b 0 L.length 0) (.row (cI (tabL (rchF L B) L.length)) 2 1) := by
  obtain ⟨k, hk⟩ : ∃ k, L.length = k + 1 := ⟨L.length - 1, by omega⟩
  refine givesB_parts 39 Try.func50 (by kernel_rfl) (by kernel_rfl) (by kernel_rfl) (one_slu _ (cI_plain _)) (fun w => ?_)
  refine goes_spine (T' := ⟨[(0, .xl y L.length 1 (cI L)), (1, .xl z B.length 1 (cU B))], [], 0, []⟩) (by kernel_rfl) (goes_told Try.checked.mixed known_none 200 (e := .normal) (ps := []) [.go] (by kernel_rfl) (by kernel_rfl) trivial rfl) ?_
  refine goes_spine (T' := ⟨[(0, .xl y L.length 1 (cI L)), (1, .xl z B.length 1 (cU B)), (5, .v (.slice none 0 0))], [], 0, []⟩) (by kernel_rfl) (goes_told Try.checked.mixed known_none 200 (e := .normal) (ps := []) [.go] (by kernel_rfl) (by kernel_rfl) trivial rfl) ?_
  refine goes_spine (T' := rcT y z L B L.length) (by kernel_rfl) (goes_spine (T' := rcT y z L B 0) (by kernel_rfl) (goes_told Try.checked.mixed known_none 200 (e := .normal) (ps := []) [.go] (by kernel_rfl) (by kernel_rfl) trivial rfl) (rc_loop y z L B hL hB w)) ?_
  have eT : rcT y z L B L.length = ⟨[(0, .xl y L.length 1 (cI L)), (1, .xl z B.length 1 (cU B)), (5, .slu 0 0 L.length 0), (6, .v (.int .i64 (L.length : Int)))], [], 1, [(0, .row (cI (tabL (rchF L B) L.length)) 2 1)]⟩ := by
    rw [hk]
    show Lit.mk _ _ _ _ = Lit.mk _ _ _ _
    rw [hk]
  rw [eT]
  exact goes_outB Try.checked.mixed known_none 200 (ps := []) [.go, .go] 0 (by kernel_rfl) (by kernel_rfl) trivial

end
end Go.Proofs.Ytchlehpjpgeejaa
