import Derived.Test.YtldekgkjofgacaaZ3a
import Derived.Test.YtldekgkjofgacaaAu
/- True lanterns: what is asked of them. -/
namespace Go.Proofs.Ytldekgkjofgacaa
set_option linter.unusedVariables false
set_option linter.unusedSimpArgs false
open Go Ev
noncomputable section
def clB (p : Prop) : Bool := @decide p (Classical.propDecidable _)
theorem clB_true {p : Prop} : clB p = true ↔ p := by unfold clB; exact @decide_eq_true_iff _ (Classical.propDecidable _)
theorem clB_yes {p : Prop} (h : p) : clB p = true := clB_true.2 h
theorem clB_no {p : Prop} (h : ¬ p) : clB p = false := by
  cases e : clB p with
  | true => exact absurd (clB_true.1 e) h
  | false => rfl
theorem clB_false {p : Prop} (h : clB p = false) : ¬ p := fun k => by rw [clB_true.2 k] at h; cases h
theorem cB_at : ∀ (L : List Bool) (i : Nat) (h : i < L.length), (cB L)[i]? = some (.v (.bool (L[i])))
  | [], i, h => by simp at h
  | x :: l, 0, h => rfl
  | x :: l, i + 1, h => cB_at l i (by simpa using h)
theorem cB_ld {L : List Bool} {j : Nat} (h : j < L.length) (t : TypeId) {d : TypeDesc} (hd : Try.prog.underlying t = some d) (ha : aggD d = false) : loadL Try.prog (cB L) j t = some (.v (.bool (boolAt (cB L) j))) := by
  simp only [loadL, hd, ha, getL_eq, cB_at L j h, boolAt]
theorem cR_ld {L : List (Int × Int)} {j : Nat} (h : j < L.length * 2) (t : TypeId) {d : TypeDesc} (hd : Try.prog.underlying t = some d) (ha : aggD d = false) : loadL Try.prog (cR L) j t = some (.v (.int .i64 (intAt (cR L) j))) := by
  have hi : j / 2 < L.length := by omega
  obtain ⟨h3, h4⟩ := cR_at L (j / 2) L[j / 2] (List.getElem?_eq_getElem hi)
  have hj : j = j / 2 * 2 ∨ j = j / 2 * 2 + 1 := by omega
  rcases hj with e | e
  · rw [e]; simp only [loadL, hd, ha, getL_eq, h3, intAt]
  · rw [e]; simp only [loadL, hd, ha, getL_eq, h4, intAt]
def degA (A : List AV) (i : Nat) : Int := intAt A (i * 1) - intAt A (0 * 1)
theorem ang_up {A : List AV} {n : Nat} (h : ∀ i, i < n → angAt A i) : ∀ i j, i + j < n → intAt A (i * 1) + j ≤ intAt A ((i + j) * 1)
  | i, 0, hj => by simp
  | i, j + 1, hj => by
    have h1 := ang_up h i j (by omega)
    have h2 := h (i + j + 1) hj
    simp only [angAt, bfI] at h2
    rw [show i + (j + 1) = i + j + 1 by omega]
    omega
theorem deg_bd {A : List AV} {n nl nf nw : Nat} (hn : 2 ≤ n ∧ n ≤ 10) (ha : ∀ i, i < n → angAt A i) (he : eqP A n nl nf nw) (i : Nat) (hi : i < n) : 0 ≤ intAt A (i * 1) - intAt A (0 * 1) ∧ intAt A (i * 1) - intAt A (0 * 1) < nw ∧ nw ≤ 91 ∧ 0 ≤ intAt A (i * 1) ∧ intAt A (i * 1) ≤ 90 := by
  have h0 := ang_up ha 0 i (by omega)
  have h1 := ang_up ha i (n - 1 - i) (by omega)
  rw [Nat.zero_add] at h0
  rw [show i + (n - 1 - i) = n - 1 by omega] at h1
  have hq := he.2.2
  unfold degI at hq
  have b0 := ang_bd ha 0 (by omega)
  have b1 := ang_bd ha (n - 1) (by omega)
  have b2 := ang_bd ha i hi
  omega
section
variable {A L B W X : List AV} {n nl nf nw nx i : Nat}
end
def gapF (A : List AV) (x : Int) : Nat → Nat → Nat
  | 0, i => i
  | f + 1, i => if intAt A ((i + 1) * 1) < x then gapF A x f (i + 1) else i
theorem gapF_at {A : List AV} {x : Int} : ∀ (f i k : Nat), k < f → (∀ j, j < k → intAt A ((i + j + 1) * 1) < x) → ¬ intAt A ((i + k + 1) * 1) < x → gapF A x f i = i + k
  | 0, i, k, hk, _, _ => by omega
  | f + 1, i, 0, hk, h, h2 => if_neg h2
  | f + 1, i, k + 1, hk, h, h2 => by
    have h0 := h 0 (by omega)
    unfold gapF
    rw [if_pos h0, gapF_at f (i + 1) k (by omega) (fun j hj => by rw [show i + 1 + j + 1 = i + (j + 1) + 1 by omega]; exact h (j + 1) (by omega)) (by rw [show i + 1 + k + 1 = i + (k + 1) + 1 by omega]; exact h2)]
    omega
def IsLamp (ca : List AV) (na : Nat) (cl : List AV) (nl : Nat) (cf : List AV) (nf : Nat) (cw : List AV) (nw : Nat) : Prop := ∃ (A : List Int) (L : List (Int × Int)) (B : List Bool) (W : List Int), ca = cI A ∧ na = A.length ∧ cl = cR L ∧ nl = L.length ∧ cf = cB B ∧ nf = B.length ∧ cw = cI W ∧ nw = W.length
theorem ext_lamp {ya yl yf yw : Value} {A : List Int} {L : List (Int × Int)} {B : List Bool} {W : List Int} {a l f w : Nat} : Ext (.agg [.xl ya a 1 (cI A), .xl yl l 2 (cR L), .xl yf f 1 (cB B), .xl yw w 1 (cI W)]) :=
  ext_agg (extL_cons (ext_xl (extL_plain (cI_plain A))) (extL_cons (ext_xl (extL_plain (cR_plain L))) (extL_cons (ext_xl (extL_plain (cB_plain B))) (extL_cons (ext_xl (extL_plain (cI_plain W))) extL_nil))))
end
end Go.Proofs.Ytldekgkjofgacaa
