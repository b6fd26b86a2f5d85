import Derived.Test.YtchlehpjpgeejaaP26
import Derived.Test.YtchlehpjpgeejaaP24
/- What is known of Powers, Run, reached, longs. -/
namespace Go.Proofs.Ytchlehpjpgeejaa
set_option linter.unusedVariables false
set_option linter.unusedSimpArgs false
open Go Ev
noncomputable section
def intsOf (c : List AV) (n : Nat) : List Int := tabL (fun i => intAt c (i * 1)) n
def pairsOf (c : List AV) : Nat → List (Int × Int)
  | 0 => []
  | n + 1 => pairsOf c n ++ [(intAt c (n * 2 + 0), intAt c (n * 2 + 1))]
theorem pairsOf_len (c : List AV) : ∀ n : Nat, (pairsOf c n).length = n
  | 0 => rfl
  | n + 1 => by simp [pairsOf, pairsOf_len c n]
theorem pairsOf_at (c : List AV) : ∀ n i : Nat, i < n → (pairsOf c n)[i]? = some (intAt c (i * 2 + 0), intAt c (i * 2 + 1))
  | 0, i, h => by omega
  | n + 1, i, h => by
    simp only [pairsOf]
    by_cases e : i < n
    · rw [List.getElem?_append_left (by rw [pairsOf_len]; exact e)]
      exact pairsOf_at c n i e
    · have : i = n := by omega
      subst this
      rw [List.getElem?_append_right (by rw [pairsOf_len]; omega), pairsOf_len]
      simp
theorem pairsOf_cR (P : List (Int × Int)) : pairsOf (cR P) P.length = P := by
  apply List.ext_getElem?
  intro i
  by_cases h : i < P.length
  · rw [pairsOf_at _ _ _ h, List.getElem?_eq_getElem h]
    obtain ⟨e1, e2⟩ := cR_int (List.getElem?_eq_getElem h)
    rw [show i * 2 + 0 = i * 2 from rfl, e1, e2]
  · rw [List.getElem?_eq_none (by rw [pairsOf_len]; omega), List.getElem?_eq_none (by omega)]
theorem intsOf_cI (L : List Int) : intsOf (cI L) L.length = L := by
  apply List.ext_getElem?
  intro i
  unfold intsOf
  by_cases h : i < L.length
  · rw [tabL_at _ _ _ h, List.getElem?_eq_getElem h, Nat.mul_one, cI_int h]
  · rw [List.getElem?_eq_none (by rw [tabL_len]; omega), List.getElem?_eq_none (by omega)]
theorem take_cI (L : List Int) : (List.take (L.length * (0 + 1)) (List.drop 0 (cI L))) = cI L := by
  rw [List.drop_zero, List.take_of_length_le (by rw [cI_len]; omega)]
def IsI (k n : Nat) (c : List AV) : Prop := k = 1 ∧ ∃ L, c = cI L ∧ n = L.length
def pwS2 : List Vw → Option (Res1 × List Prop) := fun vs =>
  match vs with
  | [.val a, .lst m k c] => match argI a with
    | some (false, [x]) => match x with
      | .ofNat n => some (.blk (fun b => .slu b 0 n 0) (.row (cI (tabL (powA c m) n)) 2 1), [IsU k m c, 1 ≤ n ∧ n ≤ 1000])
      | .negSucc _ => none
    | _ => none
  | _ => none
def runS : List Vw → Option (Res1 × List Prop) := fun vs =>
  match vs with
  | [.lst m k c, .lst n j d] => some (.blk (fun b => .tup [.sl b 0 n n, .v (.int .i64 0)]) (.cells (cI (madeK (pairsOf c m) (intsOf d n) m)) 2), [k = 2 ∧ ∃ P, c = cR P ∧ m = P.length, IsI j n d, ruE c m d n = 0])
  | _ => none
def runO : OrcH := avOrc 16 [2, 1] runS
theorem known_run : Known Try.prog (clsO runO) := known_av (fun vs r ps h hp => by
  unfold runS at h
  split at h
  · cases h
    obtain ⟨⟨rfl, P, rfl, rfl⟩, ⟨rfl, L, rfl, rfl⟩, h0, -⟩ := hp
    refine ⟨⟨⟨_, cR_plain P⟩, ⟨_, cI_plain L⟩, trivial⟩, fun ys hy => ?_⟩
    obtain ⟨y1, y2, rfl⟩ := len2 hy
    rw [pairsOf_cR, intsOf_cI]
    exact Run_ok y1 y2 P L h0
  · cases h)
def lgS : List Vw → Option (Res1 × List Prop) := fun vs =>
  match vs with
  | [.lst n k c, .lst m j d] => some (.val (.v (.bool true)), [IsI k n c, n ≤ 1000, m = n ∧ j = 1 ∧ d = c])
  | _ => none
def lgO : OrcH := avOrc 22 [1, 1] lgS
theorem known_lg : Known Try.prog (clsO lgO) := known_av (fun vs r ps h hp => by
  unfold lgS at h
  split at h
  · cases h
    obtain ⟨⟨rfl, L, rfl, rfl⟩, hn, ⟨rfl, rfl, rfl⟩, -⟩ := hp
    refine ⟨⟨⟨_, cI_plain L⟩, ⟨_, cI_plain L⟩, trivial⟩, fun ys hy => ?_⟩
    obtain ⟨y1, y2, rfl⟩ := len2 hy
    exact ⟨_, rfl, longs_g y1 y2 L hn⟩
  · cases h)
end
end Go.Proofs.Ytchlehpjpgeejaa
