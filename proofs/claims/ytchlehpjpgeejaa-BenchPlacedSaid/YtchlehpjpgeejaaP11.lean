/- What is known of areRanges, isFrom and place. -/
import Derived.Test.YtchlehpjpgeejaaP10
namespace Go.Proofs.Ytchlehpjpgeejaa
set_option linter.unusedVariables false
set_option linter.unusedSimpArgs false
open Go Ev
noncomputable section

/-- A list of pairs, as it lies. -/
def IsL (k n : Nat) (c : List AV) : Prop := k = 2 ∧ ∃ L, c = cR L ∧ n = L.length ∧ n ≤ 1000000
def okC (lo hi : Int) (c : List AV) (n : Nat) : Bool := decide (∀ i, i < n → lo ≤ intAt c (i * 2) ∧ intAt c (i * 2) ≤ intAt c (i * 2 + 1) ∧ intAt c (i * 2 + 1) ≤ hi)
theorem okC_eq (lo hi : Int) (L : List (Int × Int)) : okC lo hi (cR L) L.length = decide (AllR lo hi L) := by
  unfold okC
  rw [Bool.eq_iff_iff, decide_eq_true_eq, decide_eq_true_eq]
  constructor
  · intro h r hr
    obtain ⟨i, hi, rfl⟩ := List.mem_iff_getElem.1 hr
    obtain ⟨e1, e2⟩ := cR_int (List.getElem?_eq_getElem hi)
    have := h i hi
    rw [e1, e2] at this
    exact this
  · intro h i hi
    obtain ⟨e1, e2⟩ := cR_int (List.getElem?_eq_getElem hi)
    rw [e1, e2]
    exact h _ (List.getElem_mem hi)
def upLoC (c : List AV) (j k : Nat) : Bool := match eqI (k : Int) (j : Int) with
  | true => false
  | false => ltI (intAt c (j * 2 + 1)) (intAt c (k * 2 + 0))
def upHiC (c : List AV) (j k : Nat) : Bool := match eqI (k : Int) (j : Int) with
  | true => false
  | false => ltI (intAt c (j * 2 + 0)) (intAt c (k * 2 + 1))
def pcLo (c : List AV) (j n : Nat) : Int := cntI (upLoC c j) n
def pcHi (c : List AV) (j n : Nat) : Int := cntI (upHiC c j) n
def arS : List Vw → Option (Res1 × List Prop) := fun vs =>
  match vs with
  | [.val a, .val b, .lst n k c] => match argI a, argI b with
    | some (false, [lo]), some (false, [hi]) => some (.val (.v (.bool (okC lo hi c n))), [IsL k n c])
    | _, _ => none
  | _ => none
def plS : List Vw → Option (Res1 × List Prop) := fun vs =>
  match vs with
  | [.val a, .lst n k c] => match argI a with
    | some (false, [x]) => match x with
      | .ofNat j => some (.val (.agg [.v (.int .i64 (pcLo c j n)), .v (.int .i64 (pcHi c j n))]), [IsL k n c, j < n])
      | .negSucc _ => none
    | _ => none
  | _ => none
def ifS : List (Bool × List Int) → Option (AV × List Prop) := fun ys =>
  match ys with
  | [(false, [n]), (false, [a]), (false, [b])] => some (.v (.bool (decide (a ≤ n ∧ n ≤ b))), [])
  | _ => none
def arO : OrcH := avOrc 82 [0, 0, 2] arS
def plO : OrcH := avOrc 83 [0, 2] plS
def ifO : OrcH := iOrc 66 ifS
theorem known_if : Known Try.prog (clsO ifO) := known_i (fun ys v ps h hp => by
  unfold ifS at h
  split at h
  · cases h
    exact ⟨_, rfl, isFrom_g _ _ _⟩
  · cases h)
theorem len3 {ys : List Value} (h : ys.length = 3) : ∃ a b c, ys = [a, b, c] := by
  match ys, h with
  | [a, b, c], _ => exact ⟨a, b, c, rfl⟩
theorem len2 {ys : List Value} (h : ys.length = 2) : ∃ a b, ys = [a, b] := by
  match ys, h with
  | [a, b], _ => exact ⟨a, b, rfl⟩
theorem known_ar : Known Try.prog (clsO arO) := known_av (fun vs r ps h hp => by
  unfold arS at h
  split at h
  · rename_i a b n k c
    split at h
    · rename_i lo hi h1 h2
      cases h
      obtain ⟨⟨rfl, L, rfl, rfl, hL⟩, -⟩ := hp
      rw [argI_eq h1, argI_eq h2]
      refine ⟨⟨⟨_, cR_plain L⟩, trivial⟩, fun ys hy => ?_⟩
      obtain ⟨y1, y2, y3, rfl⟩ := len3 hy
      refine ⟨_, rfl, ?_⟩
      rw [okC_eq]
      exact areRanges_g lo hi y3 L hL
    · cases h
  · cases h)
theorem known_pl : Known Try.prog (clsO plO) := known_av (fun vs r ps h hp => by
  unfold plS at h
  split at h
  · rename_i a n k c
    split at h
    · rename_i x h1
      split at h
      · rename_i j
        cases h
        obtain ⟨⟨rfl, L, rfl, rfl, hL⟩, hj, -⟩ := hp
        rw [argI_eq h1]
        refine ⟨⟨⟨_, cR_plain L⟩, trivial⟩, fun ys hy => ?_⟩
        obtain ⟨y1, y2, rfl⟩ := len2 hy
        exact ⟨_, rfl, place_g y2 L hL j hj⟩
      · cases h
    · cases h
  · cases h)
def psO : OrcH := orO (orO ifO arO) plO
theorem known_ps : Known Try.prog (clsO psO) := known_or (known_or known_if known_ar) known_pl
end
end Go.Proofs.Ytchlehpjpgeejaa
