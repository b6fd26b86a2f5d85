/- Oracles of CheckPlan. -/
import Derived.Test.YtmankoikpadkpaaL3
namespace Go.Proofs.Ytmankoikpadkpaa
set_option linter.unusedVariables false
set_option linter.unusedSimpArgs false
open Go Ev
noncomputable section

/-- A list of lists of numbers, as it lies. -/
def IsR (m : Nat) (c : List AV) : Prop := ∃ R, c = cRw R ∧ m = R.length
theorem ext_rows : ∀ R : List (Value × List Int), ExtL (cRw R)
  | [] => extL_nil
  | r :: l => extL_cons (ext_xl (extL_plain (cI_plain r.2))) (ext_rows l)
theorem ext_plan (n : Int) (y : Value) (R : List (Value × List Int)) : Ext (.agg [.v (.int .i64 n), .xl y R.length 1 (cRw R)]) :=
  ext_agg (extL_cons (ext_v _) (extL_cons (ext_xl (ext_rows R)) extL_nil))
/-- A plan among arguments. -/
def planV (a : AV) : Option (Int × Value × Nat × List AV) :=
  match a with
  | .agg l => match l with
    | [x, b] => match x with
      | .v v => match numV v with
        | some n => match b with
          | .xl y m k c => match k with
            | 1 => some (n, y, m, c)
            | _ => none
          | _ => none
        | none => none
      | _ => none
    | _ => none
  | _ => none
theorem planV_eq {a : AV} {n : Int} {y : Value} {m : Nat} {c : List AV} (h : planV a = some (n, y, m, c)) : a = .agg [.v (.int .i64 n), .xl y m 1 c] := by
  unfold planV at h
  split at h
  · split at h
    · split at h
      · split at h
        · rename_i e
          split at h
          · split at h
            · cases h
              rw [numV_eq e]
            · cases h
          · cases h
        · cases h
      · cases h
    · cases h
  · cases h
def plS : List AV → Option (Res1 × List Prop) := fun args =>
  match args with
  | [a] => match planV a with
    | some (n, y, m, c) => some (.val (.v (.int .i64 (plE n c m))), [IsR m c])
    | none => none
  | _ => none
def plO : OrcH := extOrc 18 plS
def rplO : OrcH := extOrc 19 plS
theorem known_pl : Known Try.prog (clsO plO) := known_ext (fun args r ps h hp => by
  unfold plS at h
  split at h
  · split at h
    · rename_i n y m c e
      cases h
      obtain ⟨⟨R, rfl, rfl⟩, -⟩ := hp
      rw [planV_eq e]
      exact ⟨extL_cons (ext_plan n y R) extL_nil, _, rfl, pl_g n y R⟩
    · cases h
  · cases h)
theorem known_rpl : Known Try.prog (clsO rplO) := known_ext (fun args r ps h hp => by
  unfold plS at h
  split at h
  · split at h
    · rename_i n y m c e
      cases h
      obtain ⟨⟨R, rfl, rfl⟩, -⟩ := hp
      rw [planV_eq e]
      exact ⟨extL_cons (ext_plan n y R) extL_nil, _, rfl, rp_g n y R⟩
    · cases h
  · cases h)
open Classical in
/-- A plan that is too great. -/
def grB (c : List AV) (m : Nat) : Bool := if m ≤ 8 then (if ∀ i, i < m → xlN c (i * 1) ≤ 60 then false else true) else true
theorem grB_many {c : List AV} {m : Nat} (h : ¬ m ≤ 8) : grB c m = true := if_neg h
theorem grB_long {c : List AV} {m i : Nat} (h : m ≤ 8) (hi : i < m) (h2 : ¬ xlN c (i * 1) ≤ 60) : grB c m = true := by unfold grB; rw [if_pos h, if_neg (fun k => h2 (k i hi))]
theorem grB_ok {c : List AV} {m : Nat} (h : m ≤ 8) (h2 : ∀ i, i < m → xlN c (i * 1) ≤ 60) : grB c m = false := by unfold grB; rw [if_pos h, if_pos h2]

end
end Go.Proofs.Ytmankoikpadkpaa
