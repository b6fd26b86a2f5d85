import Derived.Test.YtchlehpjpgeejaaP3
import Derived.Test.YtchlehpjpgeejaaM8
/- What texts about bench share: lists of pairs and of numbers, counting, arguments of known calls. Grabbed from P8 to P20 by hand (those texts define the same names: never import both). -/
namespace Go.Proofs.Ytchlehpjpgeejaa
set_option linter.unusedVariables false
set_option linter.unusedSimpArgs false
open Go Ev
noncomputable section
def intsL : List Value → Option (List Int)
  | [] => some []
  | v :: l => match v with
    | .int k n => match k with
      | .i64 => match intsL l with
        | some ns => some (n :: ns)
        | none => none
      | _ => none
    | _ => none
theorem intsL_eq : ∀ {vs : List Value} {ns : List Int}, intsL vs = some ns → vs = ns.map (Value.int .i64)
  | [], ns, h => by cases h; rfl
  | v :: l, ns, h => by
    unfold intsL at h
    split at h
    · split at h
      · split at h
        · rename_i q
          cases h
          rw [intsL_eq q]
          rfl
        · cases h
      · cases h
    · cases h
def argI (v : Value) : Option (Bool × List Int) :=
  match v with
  | .int k n => match k with
    | .i64 => some (false, [n])
    | _ => none
  | .agg a => match intsL a.toList with
    | some ns => some (true, ns)
    | none => none
  | _ => none
def valI (x : Bool × List Int) : Value := match x with
  | (false, [n]) => .int .i64 n
  | (_, ns) => .agg (ns.map (Value.int .i64)).toArray
theorem argI_eq {v : Value} {x : Bool × List Int} (h : argI v = some x) : v = valI x := by
  unfold argI at h
  split at h
  · split at h
    · cases h; rfl
    · cases h
  · split at h
    · rename_i a _ ns q
      cases h
      have e := intsL_eq q
      show Value.agg a = Value.agg _
      rw [← e]
    · cases h
  · cases h
theorem cR_cell {L : List (Int × Int)} {k : Nat} (h : k < (cR L).length) : (cR L)[k]? = some (.v (.int .i64 (intAt (cR L) k))) := by
  have hl := cR_len L
  have hi : k / 2 < L.length := by omega
  obtain ⟨h1, h2⟩ := cR_at L (k / 2) L[k / 2] (List.getElem?_eq_getElem hi)
  by_cases hk : k % 2 = 0
  · have e : k / 2 * 2 = k := by omega
    rw [e] at h1
    rw [intAt_of h1]; exact h1
  · have e : k / 2 * 2 + 1 = k := by omega
    rw [e] at h2
    rw [intAt_of h2]; exact h2
theorem cR_load1 {L : List (Int × Int)} {k : Nat} (h : k < (cR L).length) (t : TypeId) {d : TypeDesc} (hd : Try.prog.underlying t = some d) (ha : aggD d = false) : loadL Try.prog (cR L) k t = some (.v (.int .i64 (intAt (cR L) k))) := by
  simp only [loadL, hd, ha, getL_eq, cR_cell h]
theorem len2 {ys : List Value} (h : ys.length = 2) : ∃ a b, ys = [a, b] := by
  match ys, h with
  | [a, b], _ => exact ⟨a, b, rfl⟩
theorem ltI_ge {a b : Int} (h : b ≤ a) : ltI a b = false := by rw [ltI_iff]; exact decide_eq_false (by omega)
def wkO : OrcH := plainOrc 15 (fun xs => match xs with | [] => some (.v (.bool true)) | _ => none)
def cU : List Int → List AV
  | [] => []
  | n :: l => .v (.int .u32 n) :: cU l
def IsU (k n : Nat) (c : List AV) : Prop := k = 1 ∧ ∃ B, c = cU B ∧ n = B.length
end
end Go.Proofs.Ytchlehpjpgeejaa
