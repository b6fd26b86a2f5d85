/- What texts about bench share: lists of pairs and of numbers, counting, arguments of known calls. Grabbed from P8 to P20 by hand (those texts define the same names: never import both). -/
import Derived.Test.YtchlehpjpgeejaaP3
import Derived.Test.YtchlehpjpgeejaaM8
namespace Go.Proofs.Ytchlehpjpgeejaa
set_option linter.unusedVariables false
set_option linter.unusedSimpArgs false
open Go Ev
noncomputable section
/-- Numbers in a row. -/
def intsL : List Value → Option (List Int)
  | [] => some []
  | v :: l => match v with
    | .int k n => match k with
      | .i64 => match intsL l with
        | some ns => some (n :: ns)
        | none => none
      | _ => none
    | _ => none
theorem intsL_eq : ∀ {vs : List Value} {ns : List Int}, intsL vs = some ns → vs = ns.map (Value.int .i64)
  | [], ns, h => by cases h; rfl
  | v :: l, ns, h => by
    unfold intsL at h
    split at h
    · split at h
      · split at h
        · rename_i q
          cases h
          rw [intsL_eq q]
          rfl
        · cases h
      · cases h
    · cases h
/-- A number, or a struct of numbers. -/
def argI (v : Value) : Option (Bool × List Int) :=
  match v with
  | .int k n => match k with
    | .i64 => some (false, [n])
    | _ => none
  | .agg a => match intsL a.toList with
    | some ns => some (true, ns)
    | none => none
  | _ => none
def valI (x : Bool × List Int) : Value := match x with
  | (false, [n]) => .int .i64 n
  | (_, ns) => .agg (ns.map (Value.int .i64)).toArray
theorem argI_eq {v : Value} {x : Bool × List Int} (h : argI v = some x) : v = valI x := by
  unfold argI at h
  split at h
  · split at h
    · cases h; rfl
    · cases h
  · split at h
    · rename_i a _ ns q
      cases h
      have e := intsL_eq q
      show Value.agg a = Value.agg _
      rw [← e]
    · cases h
  · cases h
/-- How many of the first i indices are so. -/
def cntI (f : Nat → Bool) : Nat → Int
  | 0 => 0
  | i + 1 => match f i with
    | true => cntI f i + 1
    | false => cntI f i
theorem cntI_bd (f : Nat → Bool) : ∀ i : Nat, 0 ≤ cntI f i ∧ cntI f i ≤ i
  | 0 => ⟨Int.le_refl _, Int.le_refl _⟩
  | i + 1 => by
    have := cntI_bd f i
    unfold cntI
    split <;> omega
theorem cR_cell {L : List (Int × Int)} {k : Nat} (h : k < (cR L).length) : (cR L)[k]? = some (.v (.int .i64 (intAt (cR L) k))) := by
  have hl := cR_len L
  have hi : k / 2 < L.length := by omega
  obtain ⟨h1, h2⟩ := cR_at L (k / 2) L[k / 2] (List.getElem?_eq_getElem hi)
  by_cases hk : k % 2 = 0
  · have e : k / 2 * 2 = k := by omega
    rw [e] at h1
    rw [intAt_of h1]; exact h1
  · have e : k / 2 * 2 + 1 = k := by omega
    rw [e] at h2
    rw [intAt_of h2]; exact h2
theorem cR_load1 {L : List (Int × Int)} {k : Nat} (h : k < (cR L).length) (t : TypeId) {d : TypeDesc} (hd : Try.prog.underlying t = some d) (ha : aggD d = false) : loadL Try.prog (cR L) k t = some (.v (.int .i64 (intAt (cR L) k))) := by
  simp only [loadL, hd, ha, getL_eq, cR_cell h]

theorem len3 {ys : List Value} (h : ys.length = 3) : ∃ a b c, ys = [a, b, c] := by
  match ys, h with
  | [a, b, c], _ => exact ⟨a, b, c, rfl⟩
theorem len2 {ys : List Value} (h : ys.length = 2) : ∃ a b, ys = [a, b] := by
  match ys, h with
  | [a, b], _ => exact ⟨a, b, rfl⟩
theorem ltI_lt {a b : Int} (h : a < b) : ltI a b = true := by rw [ltI_iff]; exact decide_eq_true h
theorem ltI_ge {a b : Int} (h : b ≤ a) : ltI a b = false := by rw [ltI_iff]; exact decide_eq_false (by omega)

def blkBody (c : Code) : Code := match c with
  | .block _ b => b
  | _ => .skip
def isBk (c : Code) : Bool := match c with
  | .block _ _ => true
  | _ => false
theorem goes_blk {P : Program} {sz : Nat} {w0 : World} {c : Code} (hc : isBk c = true) {T T' : Ev.Lit} (h : Goes P sz (blkBody c) T w0 (Land sz isN T' w0)) : Goes P sz c T w0 (Land sz isN T' w0) := by
  cases c with
  | block id x =>
    refine goes_block (goes_mono h (fun e a w hp => ?_))
    obtain rfl := isN_ok hp.1
    exact hp
  | _ => cases hc

theorem len1 {ys : List Value} (h : ys.length = 1) : ∃ a, ys = [a] := by
  match ys, h with
  | [a], _ => exact ⟨a, rfl⟩
def wkO : OrcH := plainOrc 15 (fun xs => match xs with | [] => some (.v (.bool true)) | _ => none)
theorem cnt_le {f g : Nat → Bool} : ∀ (i : Nat), (∀ j, j < i → f j = true → g j = true) → cntI f i ≤ cntI g i
  | 0, _ => Int.le_refl _
  | i + 1, h => by
    have ih := cnt_le i (fun j hj => h j (by omega))
    have hi := h i (by omega)
    unfold cntI
    cases hf : f i with
    | true => rw [hi hf]; simp only; omega
    | false =>
      simp only
      split <;> omega
/-- The cells of a list of numbers of 32 bits. -/
def cU : List Int → List AV
  | [] => []
  | n :: l => .v (.int .u32 n) :: cU l
def cUv : List Int → List Value
  | [] => []
  | n :: l => .int .u32 n :: cUv l
theorem cU_plain : ∀ L : List Int, plainL (cU L) = some (cUv L)
  | [] => rfl
  | n :: l => by simp only [cU, plainL, plain, cU_plain l, cUv]
theorem cU_at : ∀ (L : List Int) (i : Nat) (h : i < L.length), (cU L)[i]? = some (.v (.int .u32 (L[i])))
  | [], i, h => by simp at h
  | x :: l, 0, h => rfl
  | x :: l, i + 1, h => cU_at l i (by simpa using h)
theorem cU_int {L : List Int} {i : Nat} (h : i < L.length) : intAt (cU L) i = L[i] := intAt_of (cU_at L i h)
theorem cU_load {L : List Int} {i : Nat} (h : i < L.length) (t : TypeId) {d : TypeDesc} (hd : Try.prog.underlying t = some d) (ha : aggD d = false) : loadL Try.prog (cU L) i t = some (.v (.int .u32 (intAt (cU L) i))) := by
  simp only [loadL, hd, ha, getL_eq, cU_at L i h, cU_int h]
/-- Numbers of 32 bits. -/
def AllU (L : List Int) : Prop := ∀ n ∈ L, 0 ≤ n ∧ n ≤ 4294967295
/-- A list of numbers of 32 bits, as it lies. -/
def IsU (k n : Nat) (c : List AV) : Prop := k = 1 ∧ ∃ B, c = cU B ∧ n = B.length
theorem cnt_t {f : Nat → Bool} {i : Nat} (h : f i = true) : cntI f (i + 1) = cntI f i + 1 := by simp only [cntI, h]
theorem cnt_f {f : Nat → Bool} {i : Nat} (h : f i = false) : cntI f (i + 1) = cntI f i := by simp only [cntI, h]
end
end Go.Proofs.Ytchlehpjpgeejaa
