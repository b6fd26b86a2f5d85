/- Oracles for the law AtlasPlans. -/
import Derived.Test.YtmankoikpadkpaaL6
namespace Go.Proofs.Ytmankoikpadkpaa
set_option linter.unusedVariables false
set_option linter.unusedSimpArgs false
open Go Ev
noncomputable section

def wkS : List Value → Option AV := fun xs => match xs with | [] => some (.v (.bool true)) | _ => none
def wkO : OrcH := plainOrc 15 wkS
def grS : List AV → Option (Res1 × List Prop) := fun args =>
  match args with
  | [a] => match planV a with
    | some (n, y, m, c) => some (.val (.v (.bool (grB c m))), [IsR m c])
    | none => none
  | _ => none
def grO : OrcH := extOrc 14 grS
theorem known_gr : Known Try.prog (clsO grO) := known_ext (fun args r ps h hp => by
  unfold grS at h
  split at h
  · split at h
    · rename_i n y m c e
      cases h
      obtain ⟨⟨R, rfl, rfl⟩, -⟩ := hp
      rw [planV_eq e]
      exact ⟨extL_cons (ext_plan n y R) extL_nil, _, rfl, gr_g n y R⟩
    · cases h
  · cases h)
theorem seE_bad {n : Int} {c : List AV} {m : Nat} {a b : Int} (h : ¬ seE n c m a b = 0) : (¬ plE n c m = 0 ∧ seE n c m a b = plE n c m) ∨ (plE n c m = 0 ∧ caB n a b = false ∧ seE n c m a b = .ofNat 3) := by
  unfold seE at h ⊢
  by_cases h1 : plE n c m = 0
  · rw [if_pos h1] at h ⊢
    cases h2 : caB n a b with
    | true => rw [h2] at h; exact absurd rfl h
    | false => exact .inr ⟨h1, rfl, rfl⟩
  · rw [if_neg h1] at h ⊢
    exact .inl ⟨h1, rfl⟩
theorem seE_ok {n : Int} {c : List AV} {m : Nat} {a b : Int} (h : seE n c m a b = 0) : plE n c m = 0 ∧ caB n a b = true := by
  unfold seE at h
  by_cases h1 : plE n c m = 0
  · rw [if_pos h1] at h
    cases h2 : caB n a b with
    | true => exact ⟨h1, rfl⟩
    | false => rw [h2] at h; exact absurd h (by decide)
  · rw [if_neg h1] at h
    exact absurd h h1

def seXS : List AV → Option (Res1 × List Prop) := fun args =>
  match args with
  | [p, x] => match planV p with
    | some (n, y, m, c) => match numC x with
      | some (a, b) => some (.val (.tup [.v (.slice none 0 0), .v (.int .i64 (seE n c m a b))]), [IsR m c, ¬ seE n c m a b = 0])
      | none => none
    | none => none
  | _ => none
def seXO : OrcH := extOrc 16 seXS
theorem known_seX : Known Try.prog (clsO seXO) := known_ext (fun args r ps h hp => by
  unfold seXS at h
  split at h
  · split at h
    · rename_i n y m c e
      split at h
      · rename_i a b e2
        cases h
        obtain ⟨⟨R, rfl, rfl⟩, h1, -⟩ := hp
        rw [planV_eq e, numC_eq e2]
        refine ⟨extL_cons (ext_plan n y R) (extL_cons (ext_num a b) extL_nil), _, rfl, ?_⟩
        rcases seE_bad h1 with ⟨q1, q2⟩ | ⟨q1, q2, q3⟩
        · rw [q2]; exact se_bad0 n y R a b q1
        · rw [q3]; exact se_bad1 n y R a b q1 q2
      · cases h
    · cases h
  · cases h)

def seYS0 : List AV → Option (Res1 × List Prop) := fun args =>
  match args with
  | [p, x] => match planV p with
    | some (n, y, m, c) => match numC x with
      | some (a, b) => match Nat.beq m 0 with
        | true => some (.blk (fun k => .tup [.sl k 0 0 0, .v (.int .i64 (.ofNat 0))]) (.cells [.v (.int .i64 (sv c 0 a b 0)), .v (.int .i64 (sv c 0 a b 1)), .v (.int .i64 (sv c 0 a b 2)), .v (.int .i64 (sv c 0 a b 3))] 61), [IsR m c, plE n c 0 = 0, caB n a b = true])
        | false => none
      | none => none
    | none => none
  | _ => none
def seYO0 : OrcH := extOrc 16 seYS0
theorem known_seY0 : Known Try.prog (clsO seYO0) := known_ext (fun args r ps h hp => by
  unfold seYS0 at h
  split at h
  · split at h
    · rename_i n y m c e
      split at h
      · rename_i a b e2
        split at h
        · rename_i hb
          cases h
          have hb' := Nat.eq_of_beq_eq_true hb
          subst hb'
          obtain ⟨⟨R, rfl, hm⟩, h1, h2, -⟩ := hp
          rw [planV_eq e, numC_eq e2]
          have hx : ExtL [.agg [.v (.int .i64 n), .xl y 0 1 (cRw R)], .agg [.v (.int .i64 a), .v (.int .i64 b)]] := by
            have := extL_cons (ext_plan n y R) (extL_cons (ext_num a b) extL_nil)
            rwa [← hm] at this
          exact ⟨hx, se_ok0 n y R a b hm h1 h2⟩
        · cases h
      · cases h
    · cases h
  · cases h)

def seYS1 : List AV → Option (Res1 × List Prop) := fun args =>
  match args with
  | [p, x] => match planV p with
    | some (n, y, m, c) => match numC x with
      | some (a, b) => match Nat.beq m 1 with
        | true => some (.blk (fun k => .tup [.sl k 0 1 1, .v (.int .i64 (.ofNat 0))]) (.cells [.v (.int .i64 (sv c 1 a b 0)), .v (.int .i64 (sv c 1 a b 1)), .v (.int .i64 (sv c 1 a b 2)), .v (.int .i64 (sv c 1 a b 3))] 61), [IsR m c, plE n c 1 = 0, caB n a b = true])
        | false => none
      | none => none
    | none => none
  | _ => none
def seYO1 : OrcH := extOrc 16 seYS1
theorem known_seY1 : Known Try.prog (clsO seYO1) := known_ext (fun args r ps h hp => by
  unfold seYS1 at h
  split at h
  · split at h
    · rename_i n y m c e
      split at h
      · rename_i a b e2
        split at h
        · rename_i hb
          cases h
          have hb' := Nat.eq_of_beq_eq_true hb
          subst hb'
          obtain ⟨⟨R, rfl, hm⟩, h1, h2, -⟩ := hp
          rw [planV_eq e, numC_eq e2]
          have hx : ExtL [.agg [.v (.int .i64 n), .xl y 1 1 (cRw R)], .agg [.v (.int .i64 a), .v (.int .i64 b)]] := by
            have := extL_cons (ext_plan n y R) (extL_cons (ext_num a b) extL_nil)
            rwa [← hm] at this
          exact ⟨hx, se_ok1 n y R a b hm h1 h2⟩
        · cases h
      · cases h
    · cases h
  · cases h)

def seYS2 : List AV → Option (Res1 × List Prop) := fun args =>
  match args with
  | [p, x] => match planV p with
    | some (n, y, m, c) => match numC x with
      | some (a, b) => match Nat.beq m 2 with
        | true => some (.blk (fun k => .tup [.sl k 0 2 2, .v (.int .i64 (.ofNat 0))]) (.cells [.v (.int .i64 (sv c 2 a b 0)), .v (.int .i64 (sv c 2 a b 1)), .v (.int .i64 (sv c 2 a b 2)), .v (.int .i64 (sv c 2 a b 3))] 61), [IsR m c, plE n c 2 = 0, caB n a b = true])
        | false => none
      | none => none
    | none => none
  | _ => none
def seYO2 : OrcH := extOrc 16 seYS2
theorem known_seY2 : Known Try.prog (clsO seYO2) := known_ext (fun args r ps h hp => by
  unfold seYS2 at h
  split at h
  · split at h
    · rename_i n y m c e
      split at h
      · rename_i a b e2
        split at h
        · rename_i hb
          cases h
          have hb' := Nat.eq_of_beq_eq_true hb
          subst hb'
          obtain ⟨⟨R, rfl, hm⟩, h1, h2, -⟩ := hp
          rw [planV_eq e, numC_eq e2]
          have hx : ExtL [.agg [.v (.int .i64 n), .xl y 2 1 (cRw R)], .agg [.v (.int .i64 a), .v (.int .i64 b)]] := by
            have := extL_cons (ext_plan n y R) (extL_cons (ext_num a b) extL_nil)
            rwa [← hm] at this
          exact ⟨hx, se_ok2 n y R a b hm h1 h2⟩
        · cases h
      · cases h
    · cases h
  · cases h)

def seYS3 : List AV → Option (Res1 × List Prop) := fun args =>
  match args with
  | [p, x] => match planV p with
    | some (n, y, m, c) => match numC x with
      | some (a, b) => match Nat.beq m 3 with
        | true => some (.blk (fun k => .tup [.sl k 0 3 3, .v (.int .i64 (.ofNat 0))]) (.cells [.v (.int .i64 (sv c 3 a b 0)), .v (.int .i64 (sv c 3 a b 1)), .v (.int .i64 (sv c 3 a b 2)), .v (.int .i64 (sv c 3 a b 3))] 61), [IsR m c, plE n c 3 = 0, caB n a b = true])
        | false => none
      | none => none
    | none => none
  | _ => none
def seYO3 : OrcH := extOrc 16 seYS3
theorem known_seY3 : Known Try.prog (clsO seYO3) := known_ext (fun args r ps h hp => by
  unfold seYS3 at h
  split at h
  · split at h
    · rename_i n y m c e
      split at h
      · rename_i a b e2
        split at h
        · rename_i hb
          cases h
          have hb' := Nat.eq_of_beq_eq_true hb
          subst hb'
          obtain ⟨⟨R, rfl, hm⟩, h1, h2, -⟩ := hp
          rw [planV_eq e, numC_eq e2]
          have hx : ExtL [.agg [.v (.int .i64 n), .xl y 3 1 (cRw R)], .agg [.v (.int .i64 a), .v (.int .i64 b)]] := by
            have := extL_cons (ext_plan n y R) (extL_cons (ext_num a b) extL_nil)
            rwa [← hm] at this
          exact ⟨hx, se_ok3 n y R a b hm h1 h2⟩
        · cases h
      · cases h
    · cases h
  · cases h)

def seYS4 : List AV → Option (Res1 × List Prop) := fun args =>
  match args with
  | [p, x] => match planV p with
    | some (n, y, m, c) => match numC x with
      | some (a, b) => match Nat.beq m 4 with
        | true => some (.blk (fun k => .tup [.sl k 0 4 4, .v (.int .i64 (.ofNat 0))]) (.cells [.v (.int .i64 (sv c 4 a b 0)), .v (.int .i64 (sv c 4 a b 1)), .v (.int .i64 (sv c 4 a b 2)), .v (.int .i64 (sv c 4 a b 3))] 61), [IsR m c, plE n c 4 = 0, caB n a b = true])
        | false => none
      | none => none
    | none => none
  | _ => none
def seYO4 : OrcH := extOrc 16 seYS4
theorem known_seY4 : Known Try.prog (clsO seYO4) := known_ext (fun args r ps h hp => by
  unfold seYS4 at h
  split at h
  · split at h
    · rename_i n y m c e
      split at h
      · rename_i a b e2
        split at h
        · rename_i hb
          cases h
          have hb' := Nat.eq_of_beq_eq_true hb
          subst hb'
          obtain ⟨⟨R, rfl, hm⟩, h1, h2, -⟩ := hp
          rw [planV_eq e, numC_eq e2]
          have hx : ExtL [.agg [.v (.int .i64 n), .xl y 4 1 (cRw R)], .agg [.v (.int .i64 a), .v (.int .i64 b)]] := by
            have := extL_cons (ext_plan n y R) (extL_cons (ext_num a b) extL_nil)
            rwa [← hm] at this
          exact ⟨hx, se_ok4 n y R a b hm h1 h2⟩
        · cases h
      · cases h
    · cases h
  · cases h)

def rsXS : List AV → Option (Res1 × List Prop) := fun args =>
  match args with
  | [p, x] => match planV p with
    | some (n, y, m, c) => match numC x with
      | some (a, b) => some (.val (.tup [.v (.slice none 0 0), .v (.int .i64 (seE n c m a b))]), [IsR m c, ¬ seE n c m a b = 0])
      | none => none
    | none => none
  | _ => none
def rsXO : OrcH := extOrc 17 rsXS
theorem known_rsX : Known Try.prog (clsO rsXO) := known_ext (fun args r ps h hp => by
  unfold rsXS at h
  split at h
  · split at h
    · rename_i n y m c e
      split at h
      · rename_i a b e2
        cases h
        obtain ⟨⟨R, rfl, rfl⟩, h1, -⟩ := hp
        rw [planV_eq e, numC_eq e2]
        refine ⟨extL_cons (ext_plan n y R) (extL_cons (ext_num a b) extL_nil), _, rfl, ?_⟩
        rcases seE_bad h1 with ⟨q1, q2⟩ | ⟨q1, q2, q3⟩
        · rw [q2]; exact rs_bad0 n y R a b q1
        · rw [q3]; exact rs_bad1 n y R a b q1 q2
      · cases h
    · cases h
  · cases h)

def rsYS0 : List AV → Option (Res1 × List Prop) := fun args =>
  match args with
  | [p, x] => match planV p with
    | some (n, y, m, c) => match numC x with
      | some (a, b) => match Nat.beq m 0 with
        | true => some (.val (.tup [.v (.slice none 0 0), .v (.int .i64 (.ofNat 0))]), [IsR m c, plE n c 0 = 0, caB n a b = true])
        | false => none
      | none => none
    | none => none
  | _ => none
def rsYO0 : OrcH := extOrc 17 rsYS0
theorem known_rsY0 : Known Try.prog (clsO rsYO0) := known_ext (fun args r ps h hp => by
  unfold rsYS0 at h
  split at h
  · split at h
    · rename_i n y m c e
      split at h
      · rename_i a b e2
        split at h
        · rename_i hb
          cases h
          have hb' := Nat.eq_of_beq_eq_true hb
          subst hb'
          obtain ⟨⟨R, rfl, hm⟩, h1, h2, -⟩ := hp
          rw [planV_eq e, numC_eq e2]
          have hx : ExtL [.agg [.v (.int .i64 n), .xl y 0 1 (cRw R)], .agg [.v (.int .i64 a), .v (.int .i64 b)]] := by
            have := extL_cons (ext_plan n y R) (extL_cons (ext_num a b) extL_nil)
            rwa [← hm] at this
          exact ⟨hx, _, rfl, rs_ok0 n y R a b hm h1 h2⟩
        · cases h
      · cases h
    · cases h
  · cases h)

def rsYS1 : List AV → Option (Res1 × List Prop) := fun args =>
  match args with
  | [p, x] => match planV p with
    | some (n, y, m, c) => match numC x with
      | some (a, b) => match Nat.beq m 1 with
        | true => some (.blk (fun k => .tup [.slu k 0 1 0, .v (.int .i64 (.ofNat 0))]) (.row (rvL c a b 1) 3 1), [IsR m c, plE n c 1 = 0, caB n a b = true])
        | false => none
      | none => none
    | none => none
  | _ => none
def rsYO1 : OrcH := extOrc 17 rsYS1
theorem known_rsY1 : Known Try.prog (clsO rsYO1) := known_ext (fun args r ps h hp => by
  unfold rsYS1 at h
  split at h
  · split at h
    · rename_i n y m c e
      split at h
      · rename_i a b e2
        split at h
        · rename_i hb
          cases h
          have hb' := Nat.eq_of_beq_eq_true hb
          subst hb'
          obtain ⟨⟨R, rfl, hm⟩, h1, h2, -⟩ := hp
          rw [planV_eq e, numC_eq e2]
          have hx : ExtL [.agg [.v (.int .i64 n), .xl y 1 1 (cRw R)], .agg [.v (.int .i64 a), .v (.int .i64 b)]] := by
            have := extL_cons (ext_plan n y R) (extL_cons (ext_num a b) extL_nil)
            rwa [← hm] at this
          exact ⟨hx, rs_ok1 n y R a b hm h1 h2⟩
        · cases h
      · cases h
    · cases h
  · cases h)

def rsYS2 : List AV → Option (Res1 × List Prop) := fun args =>
  match args with
  | [p, x] => match planV p with
    | some (n, y, m, c) => match numC x with
      | some (a, b) => match Nat.beq m 2 with
        | true => some (.blk (fun k => .tup [.slu k 0 2 0, .v (.int .i64 (.ofNat 0))]) (.row (rvL c a b 2) 3 1), [IsR m c, plE n c 2 = 0, caB n a b = true])
        | false => none
      | none => none
    | none => none
  | _ => none
def rsYO2 : OrcH := extOrc 17 rsYS2
theorem known_rsY2 : Known Try.prog (clsO rsYO2) := known_ext (fun args r ps h hp => by
  unfold rsYS2 at h
  split at h
  · split at h
    · rename_i n y m c e
      split at h
      · rename_i a b e2
        split at h
        · rename_i hb
          cases h
          have hb' := Nat.eq_of_beq_eq_true hb
          subst hb'
          obtain ⟨⟨R, rfl, hm⟩, h1, h2, -⟩ := hp
          rw [planV_eq e, numC_eq e2]
          have hx : ExtL [.agg [.v (.int .i64 n), .xl y 2 1 (cRw R)], .agg [.v (.int .i64 a), .v (.int .i64 b)]] := by
            have := extL_cons (ext_plan n y R) (extL_cons (ext_num a b) extL_nil)
            rwa [← hm] at this
          exact ⟨hx, rs_ok2 n y R a b hm h1 h2⟩
        · cases h
      · cases h
    · cases h
  · cases h)

def rsYS3 : List AV → Option (Res1 × List Prop) := fun args =>
  match args with
  | [p, x] => match planV p with
    | some (n, y, m, c) => match numC x with
      | some (a, b) => match Nat.beq m 3 with
        | true => some (.blk (fun k => .tup [.slu k 0 3 0, .v (.int .i64 (.ofNat 0))]) (.row (rvL c a b 3) 3 1), [IsR m c, plE n c 3 = 0, caB n a b = true])
        | false => none
      | none => none
    | none => none
  | _ => none
def rsYO3 : OrcH := extOrc 17 rsYS3
theorem known_rsY3 : Known Try.prog (clsO rsYO3) := known_ext (fun args r ps h hp => by
  unfold rsYS3 at h
  split at h
  · split at h
    · rename_i n y m c e
      split at h
      · rename_i a b e2
        split at h
        · rename_i hb
          cases h
          have hb' := Nat.eq_of_beq_eq_true hb
          subst hb'
          obtain ⟨⟨R, rfl, hm⟩, h1, h2, -⟩ := hp
          rw [planV_eq e, numC_eq e2]
          have hx : ExtL [.agg [.v (.int .i64 n), .xl y 3 1 (cRw R)], .agg [.v (.int .i64 a), .v (.int .i64 b)]] := by
            have := extL_cons (ext_plan n y R) (extL_cons (ext_num a b) extL_nil)
            rwa [← hm] at this
          exact ⟨hx, rs_ok3 n y R a b hm h1 h2⟩
        · cases h
      · cases h
    · cases h
  · cases h)

def rsYS4 : List AV → Option (Res1 × List Prop) := fun args =>
  match args with
  | [p, x] => match planV p with
    | some (n, y, m, c) => match numC x with
      | some (a, b) => match Nat.beq m 4 with
        | true => some (.blk (fun k => .tup [.slu k 0 4 0, .v (.int .i64 (.ofNat 0))]) (.row (rvL c a b 4) 3 1), [IsR m c, plE n c 4 = 0, caB n a b = true])
        | false => none
      | none => none
    | none => none
  | _ => none
def rsYO4 : OrcH := extOrc 17 rsYS4
theorem known_rsY4 : Known Try.prog (clsO rsYO4) := known_ext (fun args r ps h hp => by
  unfold rsYS4 at h
  split at h
  · split at h
    · rename_i n y m c e
      split at h
      · rename_i a b e2
        split at h
        · rename_i hb
          cases h
          have hb' := Nat.eq_of_beq_eq_true hb
          subst hb'
          obtain ⟨⟨R, rfl, hm⟩, h1, h2, -⟩ := hp
          rw [planV_eq e, numC_eq e2]
          have hx : ExtL [.agg [.v (.int .i64 n), .xl y 4 1 (cRw R)], .agg [.v (.int .i64 a), .v (.int .i64 b)]] := by
            have := extL_cons (ext_plan n y R) (extL_cons (ext_num a b) extL_nil)
            rwa [← hm] at this
          exact ⟨hx, rs_ok4 n y R a b hm h1 h2⟩
        · cases h
      · cases h
    · cases h
  · cases h)

def lpO : OrcH := orO (orO grO wkO) (orO plO rplO)
def lpX : OrcH := orO lpO (orO seXO rsXO)
theorem known_lp (hw : Known Try.prog (clsO wkO)) : Known Try.prog (clsO lpO) := known_or (known_or known_gr hw) (known_or known_pl known_rpl)
theorem known_lpX (hw : Known Try.prog (clsO wkO)) : Known Try.prog (clsO lpX) := known_or (known_lp hw) (known_or known_seX known_rsX)

def lpY0 : OrcH := orO lpO (orO seYO0 rsYO0)
theorem known_lpY0 (hw : Known Try.prog (clsO wkO)) : Known Try.prog (clsO lpY0) := known_or (known_lp hw) (known_or known_seY0 known_rsY0)

def lpY1 : OrcH := orO lpO (orO seYO1 rsYO1)
theorem known_lpY1 (hw : Known Try.prog (clsO wkO)) : Known Try.prog (clsO lpY1) := known_or (known_lp hw) (known_or known_seY1 known_rsY1)

def lpY2 : OrcH := orO lpO (orO seYO2 rsYO2)
theorem known_lpY2 (hw : Known Try.prog (clsO wkO)) : Known Try.prog (clsO lpY2) := known_or (known_lp hw) (known_or known_seY2 known_rsY2)

def lpY3 : OrcH := orO lpO (orO seYO3 rsYO3)
theorem known_lpY3 (hw : Known Try.prog (clsO wkO)) : Known Try.prog (clsO lpY3) := known_or (known_lp hw) (known_or known_seY3 known_rsY3)

def lpY4 : OrcH := orO lpO (orO seYO4 rsYO4)
theorem known_lpY4 (hw : Known Try.prog (clsO wkO)) : Known Try.prog (clsO lpY4) := known_or (known_lp hw) (known_or known_seY4 known_rsY4)

end
end Go.Proofs.Ytmankoikpadkpaa
