/- Computations in parts: states that are written out, and what a part must give. -/
import Derived.Test.YtchlehpjpgeejaaFh
namespace Go.Proofs.Ytchlehpjpgeejaa.Ev
set_option linter.unusedVariables false
set_option linter.unusedSimpArgs false
open Go
noncomputable section
variable {P : Program}

/-! ### Equality, tested -/
def eqK (k j : IntKind) : Bool := Nat.beq k.ctorIdx j.ctorIdx
theorem eqK_ok {k j : IntKind} (h : eqK k j = true) : k = j := by
  cases k <;> cases j <;> first | rfl | (revert h; decide)
def eqNil (x y : Option Addr) : Bool :=
  match x with
  | none => match y with
    | none => true
    | some _ => false
  | some _ => false
theorem eqNil_ok {x y : Option Addr} (h : eqNil x y = true) : x = y := by
  cases x <;> cases y <;> first | rfl | cases h
def andB (a b : Bool) : Bool :=
  match a with
  | true => b
  | false => false
theorem andB_eq {a b : Bool} (h : andB a b = true) : a = true ∧ b = true := by cases a <;> cases b <;> first | exact ⟨rfl, rfl⟩ | cases h
def eqBool (a b : Bool) : Bool :=
  match a with
  | true => b
  | false => match b with
    | true => false
    | false => true
theorem eqBool_ok {a b : Bool} (h : eqBool a b = true) : a = b := by cases a <;> cases b <;> first | rfl | cases h
def eqV (x y : Value) : Bool :=
  match x with
  | .bool a => match y with
    | .bool b => eqBool a b
    | _ => false
  | .int k a => match y with
    | .int j b => andB (eqK k j) (eqI a b)
    | _ => false
  | .pointer a => match y with
    | .pointer b => eqNil a b
    | _ => false
  | .slice a l c => match y with
    | .slice b m d => andB (eqNil a b) (andB (Nat.beq l m) (Nat.beq c d))
    | _ => false
  | _ => false
theorem eqV_ok {x y : Value} (h : eqV x y = true) : x = y := by
  cases x <;> cases y <;> simp only [eqV] at h <;> try (cases h; done)
  · rw [eqBool_ok h]
  · obtain ⟨h1, h2⟩ := andB_eq h
    rw [eqI_eq] at h2
    rw [eqK_ok h1, of_decide_eq_true h2]
  · rw [eqNil_ok h]
  · obtain ⟨h1, h2⟩ := andB_eq h
    obtain ⟨h2, h3⟩ := andB_eq h2
    rw [eqNil_ok h1, Nat.eq_of_beq_eq_true h2, Nat.eq_of_beq_eq_true h3]
mutual
def eqA : AV → AV → Bool
  | .v x, .v y => eqV x y
  | .ptr b o, .ptr c p => andB (Nat.beq b c) (Nat.beq o p)
  | .sl b o n c, .sl b2 o2 n2 c2 => andB (andB (Nat.beq b b2) (Nat.beq o o2)) (andB (Nat.beq n n2) (Nat.beq c c2))
  | .slu b o n c, .slu b2 o2 n2 c2 => andB (andB (Nat.beq b b2) (Nat.beq o o2)) (andB (Nat.beq n n2) (Nat.beq c c2))
  | .agg l, .agg m => eqL l m
  | .tup l, .tup m => eqL l m
  | _, _ => false
def eqL : List AV → List AV → Bool
  | [], [] => true
  | a :: l, b :: m => andB (eqA a b) (eqL l m)
  | _, _ => false
end
mutual
theorem eqA_ok : ∀ {x y : AV}, eqA x y = true → x = y
  | .v x, y, h => by
    cases y <;> simp only [eqA] at h <;> try (cases h; done)
    rw [eqV_ok h]
  | .ptr b o, y, h => by
    cases y <;> simp only [eqA] at h <;> try (cases h; done)
    obtain ⟨h1, h2⟩ := andB_eq h
    rw [Nat.eq_of_beq_eq_true h1, Nat.eq_of_beq_eq_true h2]
  | .sl b o n c, y, h => by
    cases y <;> simp only [eqA] at h <;> try (cases h; done)
    obtain ⟨h0, h3⟩ := andB_eq h
    obtain ⟨h1, h2⟩ := andB_eq h0
    obtain ⟨h3, h4⟩ := andB_eq h3
    rw [Nat.eq_of_beq_eq_true h1, Nat.eq_of_beq_eq_true h2, Nat.eq_of_beq_eq_true h3, Nat.eq_of_beq_eq_true h4]
  | .slu b o n c, y, h => by
    cases y <;> simp only [eqA] at h <;> try (cases h; done)
    obtain ⟨h0, h3⟩ := andB_eq h
    obtain ⟨h1, h2⟩ := andB_eq h0
    obtain ⟨h3, h4⟩ := andB_eq h3
    rw [Nat.eq_of_beq_eq_true h1, Nat.eq_of_beq_eq_true h2, Nat.eq_of_beq_eq_true h3, Nat.eq_of_beq_eq_true h4]
  | .agg l, y, h => by
    cases y <;> simp only [eqA] at h <;> try (cases h; done)
    rw [eqL_ok h]
  | .tup l, y, h => by
    cases y <;> simp only [eqA] at h <;> try (cases h; done)
    rw [eqL_ok h]
  | .fn f l c, y, h => by cases y <;> simp only [eqA] at h <;> cases h
  | .yld b, y, h => by cases y <;> simp only [eqA] at h <;> cases h
  | .mp b, y, h => by cases y <;> simp only [eqA] at h <;> cases h
theorem eqL_ok : ∀ {x y : List AV}, eqL x y = true → x = y
  | [], y, h => by
    cases y <;> simp only [eqL] at h <;> first | rfl | (cases h; done)
  | a :: l, y, h => by
    cases y with
    | nil => simp only [eqL] at h; cases h
    | cons b m =>
      simp only [eqL] at h
      obtain ⟨h1, h2⟩ := andB_eq h
      rw [eqA_ok h1, eqL_ok h2]
end
def eqB (x y : AB) : Bool :=
  match x with
  | .cells l t => match y with
    | .cells m u => andB (Nat.beq t u) (eqL l m)
    | _ => false
  | .row l t z => match y with
    | .row m u v => andB (andB (Nat.beq t u) (Nat.beq z v)) (eqL l m)
    | _ => false
  | .defd a => match y with
    | .defd b => eqBool a b
    | _ => false
  | _ => false
theorem eqB_ok {x y : AB} (h : eqB x y = true) : x = y := by
  cases x <;> cases y <;> simp only [eqB] at h <;> try (cases h; done)
  · obtain ⟨h1, h2⟩ := andB_eq h
    rw [Nat.eq_of_beq_eq_true h1, eqL_ok h2]
  · obtain ⟨h0, h3⟩ := andB_eq h
    obtain ⟨h1, h2⟩ := andB_eq h0
    rw [Nat.eq_of_beq_eq_true h1, Nat.eq_of_beq_eq_true h2, eqL_ok h3]
  · rw [eqBool_ok h]

/-! ### States written out -/
def mkT {α : Type} (f : Nat) : List (Nat × α) → Tr α
  | [] => .leaf
  | (t, v) :: l => Tr.set f (mkT f l) t v
theorem mkT_get {α : Type} {f : Nat} : ∀ {l : List (Nat × α)} {t : Nat} {v : α}, (mkT f l).get t = some v → (t, v) ∈ l
  | [], t, v, h => by cases h
  | (u, x) :: l, t, v, h => by
    unfold mkT at h
    by_cases e : u = t
    · subst e
      rcases Tr.get_set_or f (mkT f l) u x with q | q
      · rw [q] at h; cases h; exact List.mem_cons_self
      · rw [q] at h; exact List.mem_cons_of_mem _ (mkT_get h)
    · rw [Tr.get_set_other f _ _ _ _ e] at h
      exact List.mem_cons_of_mem _ (mkT_get h)
structure Lit where
  tms : List (Nat × AV)
  df : List Nat
  n : Nat
  bs : List (Nat × AB)
def Lit.fs (T : Lit) : FS := ⟨mkT 14 T.tms, T.df, ⟨T.n, T.n, mkT 30 T.bs⟩⟩
def okTm (tm : Tr AV) : List (Nat × AV) → Bool
  | [] => true
  | (t, v) :: l => match tm.get t with
    | some u => andB (eqA u v) (okTm tm l)
    | none => false
theorem okTm_ok {tm : Tr AV} : ∀ {l : List (Nat × AV)}, okTm tm l = true → ∀ q ∈ l, tm.get q.1 = some q.2
  | [], h, q, hq => by cases hq
  | (t, v) :: l, h, q, hq => by
    unfold okTm at h
    split at h
    · rename_i u hu
      obtain ⟨h1, h2⟩ := andB_eq h
      rcases List.mem_cons.1 hq with rfl | hq
      · rw [hu, eqA_ok h1]
      · exact okTm_ok h2 q hq
    · cases h
def okBs (H : Tr AB) : List (Nat × AB) → Bool
  | [] => true
  | (b, x) :: l => match H.get b with
    | some y => andB (eqB y x) (okBs H l)
    | none => false
theorem okBs_ok {H : Tr AB} : ∀ {l : List (Nat × AB)}, okBs H l = true → ∀ q ∈ l, H.get q.1 = some q.2
  | [], h, q, hq => by cases hq
  | (t, v) :: l, h, q, hq => by
    unfold okBs at h
    split at h
    · rename_i u hu
      obtain ⟨h1, h2⟩ := andB_eq h
      rcases List.mem_cons.1 hq with rfl | hq
      · rw [hu, eqB_ok h1]
      · exact okBs_ok h2 q hq
    · cases h
def eqNs : List Nat → List Nat → Bool
  | [], [] => true
  | a :: l, b :: m => andB (Nat.beq a b) (eqNs l m)
  | _, _ => false
theorem eqNs_ok : ∀ {l m : List Nat}, eqNs l m = true → l = m
  | [], [], _ => rfl
  | [], b :: m, h => by cases h
  | a :: l, [], h => by cases h
  | a :: l, b :: m, h => by
    unfold eqNs at h
    obtain ⟨h1, h2⟩ := andB_eq h
    rw [Nat.eq_of_beq_eq_true h1, eqNs_ok h2]
def holds (fs : FS) (T : Lit) : Bool :=
  match fs with
  | ⟨tm, df, s⟩ => match s with
    | ⟨n, _, H⟩ => andB (andB (Nat.beq n T.n) (eqNs df T.df)) (andB (okTm tm T.tms) (okBs H T.bs))
theorem holds_ok {fs : FS} {T : Lit} (h : holds fs T = true) : fs.s.n = T.n ∧ fs.df = T.df ∧ (∀ t v, T.fs.tm.get t = some v → fs.tm.get t = some v) ∧ ∀ b x, T.fs.s.H.get b = some x → fs.s.H.get b = some x := by
  obtain ⟨tm, df, n, m, H⟩ := fs
  obtain ⟨h1, h2⟩ := andB_eq h
  obtain ⟨h1, h3⟩ := andB_eq h1
  obtain ⟨h2, h4⟩ := andB_eq h2
  exact ⟨Nat.eq_of_beq_eq_true h1, eqNs_ok h3, fun t v e => okTm_ok h2 _ (mkT_get e), fun b x e => okBs_ok h4 _ (mkT_get e)⟩
/-- A computation ends so, and in a state that holds all that is written there. -/
def lands (r : Option (Exit × FS)) (e : Exit → Bool) (T : Lit) : Bool :=
  match r with
  | some (e', fs) => andB (e e') (holds fs T)
  | none => false
theorem lands_ok {r : Option (Exit × FS)} {e : Exit → Bool} {T : Lit} (h : lands r e T = true) : ∃ e' fs, r = some (e', fs) ∧ e e' = true ∧ holds fs T = true := by
  unfold lands at h
  split at h
  · rename_i e' fs
    obtain ⟨h1, h2⟩ := andB_eq h
    exact ⟨e', fs, rfl, h1, h2⟩
  · cases h
end
end Go.Proofs.Ytchlehpjpgeejaa.Ev
