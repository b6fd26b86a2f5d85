/- Functions of numbers and of structs of numbers: what is known of them; the bar's. -/
import Derived.Test.YtchlehpjpgeejaaP7
namespace Go.Proofs.Ytchlehpjpgeejaa
set_option linter.unusedVariables false
set_option linter.unusedSimpArgs false
open Go Ev
noncomputable section

/-- Numbers in a row. -/
def intsL : List Value → Option (List Int)
  | [] => some []
  | v :: l => match v with
    | .int k n => match k with
      | .i64 => match intsL l with
        | some ns => some (n :: ns)
        | none => none
      | _ => none
    | _ => none
theorem intsL_eq : ∀ {vs : List Value} {ns : List Int}, intsL vs = some ns → vs = ns.map (Value.int .i64)
  | [], ns, h => by cases h; rfl
  | v :: l, ns, h => by
    unfold intsL at h
    split at h
    · split at h
      · split at h
        · rename_i q
          cases h
          rw [intsL_eq q]
          rfl
        · cases h
      · cases h
    · cases h
/-- A number, or a struct of numbers. -/
def argI (v : Value) : Option (Bool × List Int) :=
  match v with
  | .int k n => match k with
    | .i64 => some (false, [n])
    | _ => none
  | .agg a => match intsL a.toList with
    | some ns => some (true, ns)
    | none => none
  | _ => none
def valI (x : Bool × List Int) : Value := match x with
  | (false, [n]) => .int .i64 n
  | (_, ns) => .agg (ns.map (Value.int .i64)).toArray
theorem argI_eq {v : Value} {x : Bool × List Int} (h : argI v = some x) : v = valI x := by
  unfold argI at h
  split at h
  · split at h
    · cases h; rfl
    · cases h
  · split at h
    · rename_i a _ ns q
      cases h
      have e := intsL_eq q
      show Value.agg a = Value.agg _
      rw [← e]
    · cases h
  · cases h
def argsI : List Value → Option (List (Bool × List Int))
  | [] => some []
  | v :: l => match argI v with
    | some x => match argsI l with
      | some xs => some (x :: xs)
      | none => none
    | none => none
theorem argsI_eq : ∀ {vs : List Value} {xs : List (Bool × List Int)}, argsI vs = some xs → vs = xs.map valI
  | [], xs, h => by cases h; rfl
  | v :: l, xs, h => by
    unfold argsI at h
    split at h
    · rename_i x q
      split at h
      · rename_i ys q2
        cases h
        rw [argI_eq q, argsI_eq q2]
        rfl
      · cases h
    · cases h
def iOrc (f : FuncId) (S : List (Bool × List Int) → Option (AV × List Prop)) : OrcH :=
  condOrc f (fun xs => match argsI xs with
    | some ys => S ys
    | none => none)
theorem known_i {P : Program} {f : FuncId} {S : List (Bool × List Int) → Option (AV × List Prop)} (h : ∀ ys v ps, S ys = some (v, ps) → All ps → ∃ r, plain v = some r ∧ Gives P f (ys.map valI) r) : Known P (clsO (iOrc f S)) :=
  known_cond (fun xs v ps e hp => by
    split at e
    · rename_i ys q
      rw [argsI_eq q]
      exact h ys v ps e hp
    · cases e)

/-- The functions of a bar. -/
def ckS : List (Bool × List Int) → Option (AV × List Prop) := fun ys =>
  match ys with
  | [(true, [L, N, p, q, s, t, u, v])] => some (.v (.int .i64 (errB L N p q s t u v)), [])
  | _ => none
def isTS : List (Bool × List Int) → Option (AV × List Prop) := fun ys =>
  match ys with
  | [(true, [L, N, p, q, s, t, u, v]), (true, [a, b, c])] => some (.v (.bool (decide (TrueP p q s t u v a b c))), [])
  | _ => none
def isInS : List (Bool × List Int) → Option (AV × List Prop) := fun ys =>
  match ys with
  | [(false, [n]), (true, [l, h])] => some (.v (.bool (decide (l ≤ n ∧ n ≤ h))), [])
  | _ => none
def pwS : List (Bool × List Int) → Option (AV × List Prop) := fun ys =>
  match ys with
  | [(false, [L]), (true, [a, b, c])] => some (.agg [.v (.int .i64 (pwN L a b c)), .v (.int .i64 (pwD L a b c))], [PwP L a b c])
  | _ => none
def rpwS : List (Bool × List Int) → Option (AV × List Prop) := fun ys =>
  match ys with
  | [(true, [L, N, p, q, s, t, u, v]), (true, [a, b, c])] => some (.agg [.v (.int .i64 (pwN L a b c)), .v (.int .i64 (pwD L a b c))], [PwP L a b c])
  | _ => none
def ckO : OrcH := iOrc 40 ckS
def rckO : OrcH := iOrc 41 ckS
def isTO : OrcH := iOrc 80 isTS
def isInO : OrcH := iOrc 78 isInS
def pwO : OrcH := iOrc 79 pwS
def rpwO : OrcH := iOrc 81 rpwS
theorem known_ck : Known Try.prog (clsO ckO) := known_i (fun ys v ps h hp => by
  unfold ckS at h
  split at h
  · cases h
    exact ⟨_, rfl, CheckBar_g _ _ _ _ _ _ _ _⟩
  · cases h)
theorem known_rck : Known Try.prog (clsO rckO) := known_i (fun ys v ps h hp => by
  unfold ckS at h
  split at h
  · cases h
    exact ⟨_, rfl, rCheckBar_g _ _ _ _ _ _ _ _⟩
  · cases h)
theorem known_isT : Known Try.prog (clsO isTO) := known_i (fun ys v ps h hp => by
  unfold isTS at h
  split at h
  · cases h
    exact ⟨_, rfl, IsTrue_g _ _ _ _ _ _ _ _ _ _ _⟩
  · cases h)
theorem known_isIn : Known Try.prog (clsO isInO) := known_i (fun ys v ps h hp => by
  unfold isInS at h
  split at h
  · cases h
    exact ⟨_, rfl, isIn_g _ _ _⟩
  · cases h)
theorem known_pw : Known Try.prog (clsO pwO) := known_i (fun ys v ps h hp => by
  unfold pwS at h
  split at h
  · cases h
    exact ⟨_, rfl, power_g _ _ _ _ hp.1⟩
  · cases h)
theorem known_rpw : Known Try.prog (clsO rpwO) := known_i (fun ys v ps h hp => by
  unfold rpwS at h
  split at h
  · cases h
    exact ⟨_, rfl, rpower_g _ _ _ _ _ _ _ _ _ _ _ hp.1⟩
  · cases h)
def vO : OrcH := orO (orO ckO isInO) pwO
theorem known_vO : Known Try.prog (clsO vO) := known_or (known_or known_ck known_isIn) known_pw
def rvO : OrcH := orO (orO rckO isTO) rpwO
theorem known_rvO : Known Try.prog (clsO rvO) := known_or (known_or known_rck known_isT) known_rpw
/-- A bar without error; a truth of it: its power can be told. -/
theorem errB_zero {L N p q s t u v : Int} (h : errB L N p q s t u v = 0) : BarP L N p q s t u v ∧ N ≤ s ∧ N ≤ L - t := by
  unfold errB at h
  split at h
  · split at h
    · rename_i h1 h2; exact ⟨h1, h2⟩
    · cases h
  · cases h
theorem pw_of {L N p q s t u v a b c : Int} (h : errB L N p q s t u v = 0) (h1 : p ≤ a ∧ a ≤ q) (h2 : s ≤ b ∧ b ≤ t) (h3 : u ≤ c ∧ c ≤ v) : PwP L a b c := by
  obtain ⟨⟨a1, a2, a3, a4, a5, a6, a7, a8, a9, b1, b2, b3, b4⟩, b5, b6⟩ := errB_zero h
  exact ⟨by omega, by omega, by omega, by omega, by omega, by omega, by omega⟩
theorem pw_end {L N p q s t u v a b c : Int} (h : errB L N p q s t u v = 0) (h1 : a = p ∨ a = q) (h2 : b = s ∨ b = t) (h3 : c = u ∨ c = v) : PwP L a b c := by
  obtain ⟨⟨a1, a2, a3, a4, a5, a6, a7, a8, a9, b1, b2, b3, b4⟩, b5, b6⟩ := errB_zero h
  exact pw_of h (by omega) (by omega) (by omega)
/-- What Value and Span say. -/
def vlE (L N p q s t u v a b c : Int) : Int := if errB L N p q s t u v = 0 then (if TrueP p q s t u v a b c then 0 else 3) else errB L N p q s t u v
def vlN (L N p q s t u v a b c : Int) : Int := if vlE L N p q s t u v a b c = 0 then pwN L a b c else 0
def vlD (L N p q s t u v a b c : Int) : Int := if vlE L N p q s t u v a b c = 0 then pwD L a b c else 0
def spN (L N p q s t u v a b c : Int) : Int := if errB L N p q s t u v = 0 then pwN L a b c else 0
def spD (L N p q s t u v a b c : Int) : Int := if errB L N p q s t u v = 0 then pwD L a b c else 0
end
end Go.Proofs.Ytchlehpjpgeejaa
