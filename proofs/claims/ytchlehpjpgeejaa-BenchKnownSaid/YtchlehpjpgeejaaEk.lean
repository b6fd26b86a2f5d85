/- One operation on known values. -/
import Derived.Test.YtchlehpjpgeejaaEj
namespace Go.Proofs.Ytchlehpjpgeejaa.Ev
set_option linter.unusedVariables false
set_option linter.unusedSimpArgs false
open Go
noncomputable section
variable {σ : Env} {P : Program} {w : World} {s s' : HS}

def fin (s : HS) : Option AV → Option (AV × HS)
  | some v => some (v, s)
  | none => none
def partsA (tm : Tr AV) : List (Nat × Operand) → Option (List (Nat × AV))
  | [] => some []
  | (i, x) :: l => match opd tm x, partsA tm l with
    | some a, some r => some ((i, a) :: r)
    | _, _ => none
theorem partsA_den {tm : Tr AV} {sz : Nat} {a : Act} (h : Tm σ tm sz a.tmps) : ∀ {ps : List (Nat × Operand)} {l : List (Nat × AV)}, partsA tm ps = some l →
    l.map (·.1) = (ps.map fun (i, x) => (i, a.eval x)).map (·.1) ∧ denL σ (l.map (·.2)) = some ((ps.map fun (i, x) => (i, a.eval x)).map (·.2))
  | [], l, e => by simp [partsA] at e; subst e; exact ⟨rfl, rfl⟩
  | (i, x) :: ps, l, e => by
    simp only [partsA] at e
    cases e1 : opd tm x with
    | none => rw [e1] at e; cases e
    | some u => cases e2 : partsA tm ps with
      | none => rw [e1, e2] at e; cases e
      | some z =>
        rw [e1, e2] at e
        cases e
        obtain ⟨h1, h2⟩ := partsA_den h e2
        exact ⟨by simp only [List.map_cons, h1], by simp only [List.map_cons, denL, opd_den h e1, h2]⟩
def evBlt (P : Program) (s : HS) (b : Builtin) (ts : List TypeId) (l : List AV) : Option (AV × HS) :=
  match b with
  | .append => match ts with
    | [t0, t1] => match l with
      | [a, x] => appendA P s t0 t1 a x
      | _ => none
    | _ => none
  | .copy => match ts with
    | [t0, t1] => match l with
      | [a, x] => copyA P s t0 a x
      | _ => none
    | _ => none
  | .clear => match ts with
    | [t] => match l with
      | [x] => clearA P s t x
      | _ => none
    | _ => none
  | .len => match ts with
    | [t] => match l with
      | [x] => fin s (lenOp P t x)
      | _ => none
    | _ => none
  | .cap => match ts with
    | [t] => match l with
      | [x] => fin s (capOp P t x)
      | _ => none
    | _ => none
  | _ => none
theorem denL_two {a b : AV} {xs : List Value} (h : denL σ [a, b] = some xs) : ∃ x y, den σ a = some x ∧ den σ b = some y ∧ xs = [x, y] := by
  simp only [denL] at h
  cases e1 : den σ a with
  | none => rw [e1] at h; cases h
  | some u => cases e2 : den σ b with
    | none => rw [e1, e2] at h; cases h
    | some z => rw [e1, e2] at h; cases h; exact ⟨u, z, rfl, rfl, rfl⟩
theorem denL_one {a : AV} {xs : List Value} (h : denL σ [a] = some xs) : ∃ x, den σ a = some x ∧ xs = [x] := by
  simp only [denL] at h
  cases e1 : den σ a with
  | none => rw [e1] at h; cases h
  | some u => rw [e1] at h; cases h; exact ⟨u, rfl, rfl⟩
theorem fin_some {x : Option AV} {v : AV} (h : fin s x = some (v, s')) : x = some v ∧ s' = s := by
  cases x with
  | none => cases h
  | some u => cases h; exact ⟨rfl, rfl⟩
theorem evBlt_sound (g : Good s) (hs : Sim s.H σ w) (hf : s.n < s'.n → σ.blk s.n = none) {b : Builtin} {ts : Array TypeId} {ty : TypeId} {l : List AV} {xs : Array Value} {cn : Array Bool} {v : AV}
    (h : evBlt P s b ts.toList l = some (v, s')) (hl : denL σ l = some xs.toList) : Res P s σ w (builtin b ts ty cn xs) v s' := by
  unfold evBlt at h
  split at h
  · split at h
    · rename_i t0 t1 ht
      split at h
      · rename_i a x
        obtain ⟨u, y, h1, h2, h3⟩ := denL_two hl
        obtain rfl : ts = #[t0, t1] := by rw [← ht]
        obtain rfl : xs = #[u, y] := by rw [← h3]
        exact append_sound g hs hf h h1 h2
      · cases h
    · cases h
  · split at h
    · rename_i t0 t1 ht
      split at h
      · rename_i a x
        obtain ⟨u, y, h1, h2, h3⟩ := denL_two hl
        obtain rfl : ts = #[t0, t1] := by rw [← ht]
        obtain rfl : xs = #[u, y] := by rw [← h3]
        exact copy_sound g hs h h1 h2
      · cases h
    · cases h
  · split at h
    · rename_i t0 ht
      split at h
      · rename_i a
        obtain ⟨u, h1, h3⟩ := denL_one hl
        obtain rfl : ts = #[t0] := by rw [← ht]
        obtain rfl : xs = #[u] := by rw [← h3]
        exact clear_sound g hs h h1
      · cases h
    · cases h
  · split at h
    · rename_i t0 ht
      split at h
      · rename_i a
        obtain ⟨u, h1, h3⟩ := denL_one hl
        obtain rfl : ts = #[t0] := by rw [← ht]
        obtain rfl : xs = #[u] := by rw [← h3]
        obtain ⟨h4, rfl⟩ := fin_some h
        obtain ⟨r, h5, h6⟩ := lenOp_sound (w := w) h4 h1
        exact res_same g hs h5 h6
      · cases h
    · cases h
  · split at h
    · rename_i t0 ht
      split at h
      · rename_i a
        obtain ⟨u, h1, h3⟩ := denL_one hl
        obtain rfl : ts = #[t0] := by rw [← ht]
        obtain rfl : xs = #[u] := by rw [← h3]
        obtain ⟨h4, rfl⟩ := fin_some h
        obtain ⟨r, h5, h6⟩ := capOp_sound (w := w) h4 h1
        exact res_same g hs h5 h6
      · cases h
    · cases h
  · cases h
def orGen (x y : Option (AV × HS)) : Option (AV × HS) :=
  match x with
  | some r => some r
  | none => y
/-! ### Whole numbers -/
def forceN {α : Type} (m : Nat) (f : Nat → α) : α :=
  match m with
  | 0 => f 0
  | k + 1 => f (k + 1)
theorem forceN_eq {α : Type} (m : Nat) (f : Nat → α) : forceN m f = f m := by cases m <;> rfl
def wrapI (k : IntKind) (n : Int) : Int :=
  match k with
  | .i64 => match n with
    | .ofNat m => forceN m fun m => match Nat.ble m 9223372036854775807 with
      | true => .ofNat m
      | false => IntKind.i64.wrap (.ofNat m)
    | .negSucc m => forceN m fun m => match Nat.ble m 9223372036854775807 with
      | true => .negSucc m
      | false => IntKind.i64.wrap (.negSucc m)
  | .u64 => match n with
    | .ofNat m => forceN m fun m => match Nat.ble m 18446744073709551615 with
      | true => .ofNat m
      | false => IntKind.u64.wrap (.ofNat m)
    | .negSucc m => IntKind.u64.wrap (.negSucc m)
  | k => k.wrap n
theorem wrapI_eq (k : IntKind) (n : Int) : wrapI k n = k.wrap n := by
  unfold wrapI
  split
  · split
    · rename_i m
      rw [forceN_eq]
      split
      · rename_i h
        have := Nat.le_of_ble_eq_true h
        rw [IntWalk.i64_in _ (by first | (rw [Int.negSucc_eq]; omega) | (rw [Int.ofNat_eq_natCast]; omega))]
      · rfl
    · rename_i m
      rw [forceN_eq]
      split
      · rename_i h
        have := Nat.le_of_ble_eq_true h
        rw [IntWalk.i64_in _ (by first | (rw [Int.negSucc_eq]; omega) | (rw [Int.ofNat_eq_natCast]; omega))]
      · rfl
  · split
    · rename_i m
      rw [forceN_eq]
      split
      · rename_i h
        have := Nat.le_of_ble_eq_true h
        rw [IntWalk.u64_in _ (by rw [Int.ofNat_eq_natCast]; omega)]
      · rfl
    · rfl
  · rfl
def ltI (a b : Int) : Bool :=
  match a with
  | .ofNat x => match b with
    | .ofNat y => Nat.blt x y
    | .negSucc _ => false
  | .negSucc x => match b with
    | .ofNat _ => true
    | .negSucc y => Nat.blt y x
theorem ltI_eq (a b : Int) : ltI a b = decide (a < b) := by
  cases a <;> cases b <;> simp only [ltI]
  · rename_i x y
    rw [Bool.eq_iff_iff]
    simp
  · rename_i x y
    symm
    exact decide_eq_false (by rw [Int.ofNat_eq_natCast, Int.negSucc_eq]; omega)
  · rename_i x y
    symm
    exact decide_eq_true (by rw [Int.ofNat_eq_natCast, Int.negSucc_eq]; omega)
  · rename_i x y
    rw [Bool.eq_iff_iff]
    simp
    omega
def eqI (a b : Int) : Bool :=
  match a with
  | .ofNat x => match b with
    | .ofNat y => Nat.beq x y
    | .negSucc _ => false
  | .negSucc x => match b with
    | .ofNat _ => false
    | .negSucc y => Nat.beq x y
theorem eqI_eq (a b : Int) : eqI a b = (a == b) := by
  cases a <;> cases b <;> simp only [eqI] <;> rw [Bool.eq_iff_iff] <;> simp
  omega
def binI (op : BinOp) (k : IntKind) (a b : Int) : Option Value :=
  match op with
  | .add => some (.int k (wrapI k (Int.add a b)))
  | .sub => some (.int k (wrapI k (Int.sub a b)))
  | .mul => some (.int k (wrapI k (Int.mul a b)))
  | .eql => some (.bool (eqI a b))
  | .neq => some (.bool (not (eqI a b)))
  | .lss => some (.bool (ltI a b))
  | .leq => some (.bool (not (ltI b a)))
  | .gtr => some (.bool (ltI b a))
  | .geq => some (.bool (not (ltI a b)))
  | _ => none
def sameKind (k k' : IntKind) : Bool :=
  match k with
  | .i64 => match k' with
    | .i64 => true
    | _ => false
  | .u64 => match k' with
    | .u64 => true
    | _ => false
  | .u8 => match k' with
    | .u8 => true
    | _ => false
  | .i32 => match k' with
    | .i32 => true
    | _ => false
  | _ => false
theorem sameKind_eq {k k' : IntKind} (h : sameKind k k' = true) : k = k' := by cases k <;> cases k' <;> first | rfl | cases h
theorem binI_run {op : BinOp} {t : TypeId} {x y : Operand} {k : IntKind} {a b : Int} {r : Value} (h : binI op k a b = some r) :
    (do eqGuard op t x y (.int k a) (.int k b); binOp op t (.int k a) (.int k b) : Sem Value).run P w = .ok r w := by
  have hg : ((eqGuard op t x y (.int k a) (.int k b)).run P w) = .ok () w := by
    unfold eqGuard
    cases op <;> rfl
  rw [Sem.run_bind, hg]
  simp only [Result.andThen_ok]
  cases op <;> simp only [binI] at h <;> first
    | (cases h; done)
    | (cases h; simp only [binOp, ne_eq, not_true_eq_false, if_false, Op.intArith, Sem.run_pure, wrapI_eq]; done)
    | (cases h; simp only [binOp, ne_eq, not_true_eq_false, if_false, Op.intArith, Sem.run_pure, wrapI_eq]; rfl)
    | (cases h; simp only [binOp, ne_eq, not_true_eq_false, if_false, Op.intCmp, Sem.run_pure, eqI_eq, ltI_eq]; done)
    | (cases h; simp only [binOp, ne_eq, not_true_eq_false, if_false, Op.intCmp, Sem.run_pure, eqI_eq, ltI_eq]; congr 2; done)
    | (cases h; simp only [binOp, ne_eq, not_true_eq_false, if_false, Op.intCmp, Sem.run_pure, eqI_eq, ltI_eq]; rfl)
    | (cases h; simp only [binOp, ne_eq, not_true_eq_false, if_false, Op.intCmp, Sem.run_pure, eqI_eq, ltI_eq]; congr 2; rw [Bool.eq_iff_iff]; simp; done)
/-! ### The operations, one by one -/
abbrev EvT := Program → Tr AV → HS → Oper → Option (AV × HS)
def eMove (x : Operand) : EvT := fun _ tm s _ => fin s (opd tm x)
def ePick (c a b : Operand) : EvT := fun _ tm s _ => match opd tm c with
    | some (.v (.bool true)) => fin s (opd tm a)
    | some (.v (.bool false)) => fin s (opd tm b)
    | _ => none
def eAlloc (t : TypeId) : EvT := fun P tm s _ => match zeroOf P t with
    | some l => some (.ptr s.n 0, s.new (.cells l t))
    | none => none
def eBox (t : TypeId) (x : Operand) : EvT := fun _ tm s _ => match opd tm x with
    | some a => some (.ptr s.n 0, s.new (.cells a.cells t))
    | none => none
def eBuild (t : TypeId) (ps : Array (Nat × Operand)) : EvT := fun P tm s o => orGen (gen P tm s o) (match partsA tm ps.toList with
    | some l => fin s (buildA P t l)
    | none => none)
def eBuildSlice (t : TypeId) (len : Nat) (ps : Array (Nat × Operand)) : EvT := fun P tm s _ => match partsA tm ps.toList with
    | some l => buildSliceA P s t len l
    | none => none
def eLoad (t : TypeId) (x : Operand) : EvT := fun P tm s _ => match opd tm x with
    | some (.ptr b off) => fin s (s.load P b off t)
    | _ => none
/-- What a store writes: a block, from where on, and the cells. -/
def storeOf (P : Program) (tm : Tr AV) (t : TypeId) (x y : Operand) : Option (Nat × Nat × List AV) :=
  match opd tm x with
    | some (.ptr b off) => match opd tm y with
      | some a => match P.info? t with
        | none => none
        | some i => match Nat.beq a.cells.length i.size with
          | false => none
          | true => match allOne a.cells with
            | false => none
            | true => some (b, off, a.cells)
      | none => none
    | _ => none
def eStore (t : TypeId) (x y : Operand) : EvT := fun P tm s _ => match storeOf P tm t x y with
  | some (b, off, cs) => match s.store b off cs with
    | some s' => some (.v undef, s')
    | none => none
  | none => none
def eNil (x : Operand) : EvT := fun _ tm s _ => match opd tm x with
    | some a => match sure a with
      | true => some (a, s)
      | false => none
    | none => none
def eFunc (f : Fn) (first cap : Array Operand) : EvT := fun _ tm s _ => match opds tm first.toList, opds tm cap.toList with
    | some l, some c => some (.fn f l c, s)
    | _, _ => none
def eMakeSlice (t : TypeId) (l c : Operand) : EvT := fun P tm s _ => match opd tm l, opd tm c with
    | some a, some b => makeSliceA P s t a b
    | _, _ => none
def eSlice (t : TypeId) (x : Operand) (lo hi mx : Option Operand) : EvT := fun P tm s o => orGen (match opd tm x, opdO tm lo, opdO tm hi, opdO tm mx with
    | some a, some l, some h, some m => fin s (sliceA P t a l h m)
    | _, _, _, _ => none) (gen P tm s o)
def eFieldAddr (t : TypeId) (x : Operand) (f : Nat) : EvT := fun P tm s _ => match opd tm x with
    | some a => fin s (fieldAddrA P t a f)
    | none => none
def eIndexAddr (t : TypeId) (x ix : Operand) : EvT := fun P tm s _ => match opd tm x, opd tm ix with
    | some a, some b => fin s (indexAddrA P t a b)
    | _, _ => none
def eField (t : TypeId) (x : Operand) (f : Nat) : EvT := fun P tm s _ => match opd tm x with
    | some a => fin s (fieldA P t a f)
    | none => none
def eIndex (t : TypeId) (x ix : Operand) : EvT := fun P tm s o => orGen (match opd tm x, opd tm ix with
    | some a, some b => fin s (indexA P t a b)
    | _, _ => none) (gen P tm s o)
def eExtract (x : Operand) (i : Nat) : EvT := fun P tm s o => orGen (match opd tm x with
    | some a => fin s (extractA a i)
    | none => none) (gen P tm s o)
def eCall (c : Call) : EvT := fun P tm s o => match c.callee with
    | .builtin b => orGen (match opds tm c.args.toList with
      | some l => evBlt P s b c.argTypes.toList l
      | none => none) (gen P tm s o)
    | _ => none
def finV (s : HS) : Option Value → Option (AV × HS)
  | some v => some (.v v, s)
  | none => none
def eBin (op : BinOp) (t : TypeId) (x y : Operand) : EvT := fun P tm s o => orGen (match opd tm x with
  | some (.v (.int k a)) => match opd tm y with
    | some (.v (.int k' b)) => match sameKind k k' with
      | true => finV s (binI op k a b)
      | false => none
    | _ => none
  | _ => none) (gen P tm s o)
def eGen : EvT := fun P tm s o => gen P tm s o
def evD : Op → EvT
  | .move x => eMove x
  | .assign x => eMove x
  | .pick c a b => ePick c a b
  | .alloc t => eAlloc t
  | .box t x => eBox t x
  | .build t ps => eBuild t ps
  | .buildSlice t len ps => eBuildSlice t len ps
  | .load t x => eLoad t x
  | .store t x y => eStore t x y
  | .nilCheck x => eNil x
  | .makeFunc f first cap => eFunc f first cap
  | .makeSlice t l c => eMakeSlice t l c
  | .slice t x lo hi mx => eSlice t x lo hi mx
  | .fieldAddr t x f => eFieldAddr t x f
  | .indexAddr t x ix => eIndexAddr t x ix
  | .field t x f => eField t x f
  | .index t x ix => eIndex t x ix
  | .extract x i => eExtract x i
  | .call c => eCall c
  | .binOp op t x y _ => eBin op t x y
  | _ => eGen
/-- One operation that calls no function of the program's. -/
def evO (P : Program) (tm : Tr AV) (s : HS) (o : Oper) : Option (AV × HS) := evD o.op P tm s o
theorem orGen_some {x y : Option (AV × HS)} {r : AV × HS} (h : orGen x y = some r) : x = some r ∨ y = some r := by
  cases x with
  | none => exact .inr h
  | some u => exact .inl h
theorem exec_builtin {ρ : Operand → Value} {o : Oper} {c : Call} {b : Builtin} (ho : o.op = .call c) (hc : c.callee = .builtin b) :
    execOp ρ o = builtin b c.argTypes o.type (c.args.map fun | .const _ => true | _ => false) (c.args.map ρ) := by
  unfold execOp
  rw [ho]
  simp only [resolve, hc]
  rfl
def okNil : Value → Bool
  | .pointer a => a.isSome
  | .func f _ _ => match f with
    | .func _ => true
    | _ => false
  | _ => false
theorem exec_nil {ρ : Operand → Value} {o : Oper} {x : Operand} {r : Value} (ho : o.op = .nilCheck x) (hr : ρ x = r) (h : okNil r = true) : execOp ρ o = pure (.value r) := by
  unfold execOp
  rw [ho]
  simp only [hr]
  cases r with
  | pointer a => cases a with
    | none => cases h
    | some a => rfl
  | func f l c => cases f with
    | func f => rfl
    | _ => cases h
  | _ => cases h
theorem sure_ok {v : AV} {r : Value} (h : sure v = true) (e : den σ v = some r) : okNil r = true := by
  cases v with
  | ptr b o =>
    simp only [den, Option.map_eq_some_iff] at e
    obtain ⟨B, _, rfl⟩ := e
    rfl
  | yld b => cases h
  | fn f l c =>
    simp only [den] at e
    split at e
    · cases e
      exact h
    · cases e
  | v y =>
    simp only [den] at e
    cases e
    cases r with
    | func f l c => exact h
    | _ => cases h
  | _ => cases h
theorem res_fin (g : Good s) (hs : Sim s.H σ w) {x : Sem Value} {y : Option AV} {v : AV} (h : fin s y = some (v, s')) (k : ∀ u, y = some u → ∃ r, x.run P w = .ok r w ∧ den σ u = some r) :
    Res P s σ w (x >>= fun a => pure (Next.value a)) v s' := by
  obtain ⟨h1, rfl⟩ := fin_some h
  obtain ⟨r, h2, h3⟩ := k v h1
  exact res_same g hs h2 h3
theorem res_pure (g : Good s) (hs : Sim s.H σ w) {r : Value} {v : AV} (hv : den σ v = some r) : Res P s σ w (pure (Next.value r)) v s := ⟨σ, w, r, .inl rfl, hv, Moved.refl g hs⟩
theorem makeSlice_n {t : TypeId} {l c : AV} {v : AV} (h : makeSliceA P s t l c = some (v, s')) : s'.n = s.n + 1 := by
  unfold makeSliceA at h
  repeat' (split at h)
  all_goals first
    | (cases h; done)
    | (cases h; rfl)
theorem buildSlice_n {t : TypeId} {len : Nat} {l : List (Nat × AV)} {v : AV} (h : buildSliceA P s t len l = some (v, s')) : s'.n = s.n + 1 := by
  unfold buildSliceA at h
  repeat' (split at h)
  all_goals first
    | (cases h; done)
    | (cases h; rfl)
theorem evO_sound (g : Good s) (hs : Sim s.H σ w) (hf : s.n < s'.n → σ.blk s.n = none) {tm : Tr AV} {sz : Nat} {a : Act} (ht : Tm σ tm sz a.tmps) {o : Oper} {v : AV} (h : evO P tm s o = some (v, s')) :
    Res P s σ w (execOp a.eval o) v s' := by
  have G : gen P tm s o = some (v, s') → Res P s σ w (execOp a.eval o) v s' := fun h => gen_sound g hs ht h
  unfold evO at h
  generalize ho : o.op = op at h
  unfold evD at h
  split at h
  · rename_i x
    unfold eMove at h
    obtain ⟨h1, rfl⟩ := fin_some h
    unfold execOp
    rw [ho]
    exact res_pure g hs (opd_den ht h1)
  · rename_i x
    unfold eMove at h
    obtain ⟨h1, rfl⟩ := fin_some h
    unfold execOp
    rw [ho]
    exact res_pure g hs (opd_den ht h1)
  · rename_i c x y
    unfold ePick at h
    unfold execOp
    rw [ho]
    split at h
    · rename_i hc
      have e := opd_den ht hc
      simp only [den, Option.some.injEq] at e
      obtain ⟨h1, rfl⟩ := fin_some h
      simp only [← e, asBool]
      exact res_pure g hs (opd_den ht h1)
    · rename_i hc
      have e := opd_den ht hc
      simp only [den, Option.some.injEq] at e
      obtain ⟨h1, rfl⟩ := fin_some h
      simp only [← e, asBool]
      exact res_pure g hs (opd_den ht h1)
    · cases h
  · rename_i t
    unfold eAlloc at h
    unfold execOp
    rw [ho]
    split at h
    · rename_i l hl
      cases h
      exact alloc_sound g hs (hf (Nat.lt_succ_self _)) hl _
    · cases h
  · rename_i t x
    unfold eBox at h
    unfold execOp
    rw [ho]
    split at h
    · rename_i l hl
      cases h
      exact box_sound g hs (hf (Nat.lt_succ_self _)) (opd_den ht hl)
    · cases h
  · rename_i t ps
    unfold eBuild at h
    rcases orGen_some h with h | h
    · exact G h
    · unfold execOp
      rw [ho]
      split at h
      · rename_i l hl
        obtain ⟨h1, h2⟩ := partsA_den ht hl
        exact res_fin g hs h (fun u hu => build_sound hu (by simpa using h1) (by simpa using h2))
      · cases h
  · rename_i t len ps
    unfold eBuildSlice at h
    unfold execOp
    rw [ho]
    split at h
    · rename_i l hl
      obtain ⟨h1, h2⟩ := partsA_den ht hl
      exact buildSlice_sound g hs (hf (by rw [buildSlice_n h]; exact Nat.lt_succ_self _)) h (by simpa using h1) (by simpa using h2)
    · cases h
  · rename_i t x
    unfold eLoad at h
    unfold execOp
    rw [ho]
    split at h
    · rename_i b off hx
      have e := opd_den ht hx
      refine res_fin g hs h (fun u hu => ?_)
      obtain ⟨B, r, h1, h2, h3⟩ := load_sound hs hu
      simp only [den, h1, Option.map_some, Option.some.injEq] at e
      refine ⟨r, ?_, h3⟩
      rw [← e]
      exact h2
    · cases h
  · rename_i t x y
    unfold eStore storeOf at h
    unfold execOp
    rw [ho]
    split at h
    · rename_i b off cs hso
      split at h
      · rename_i s1 hst
        cases h
        split at hso
        · rename_i b' off' hx
          have e := opd_den ht hx
          split at hso
          · rename_i av hy
            have e2 := opd_den ht hy
            split at hso
            · cases hso
            · rename_i i hi
              split at hso
              · cases hso
              · rename_i hb
                split at hso
                · cases hso
                · rename_i hone
                  cases hso
                  have hcs := cells_den e2
                  obtain ⟨B, w', q1, q2, q3⟩ := store_sound (P := P) g hs hst hcs hone
                  simp only [den, q1, Option.map_some, Option.some.injEq] at e
                  refine ⟨σ, w', undef, .inr ⟨run_unit ?_, rfl⟩, rfl, q3⟩
                  have hsz : (a.eval y).cells.size = i.size := by
                    have l1 := denL_len hcs
                    have l2 := Nat.eq_of_beq_eq_true hb
                    simp at l1
                    omega
                  rw [← e]
                  simp only [Instr.storeAt, Instr.sureAddr, Sem.run_bind, Sem.run_pure, Result.andThen_ok, storeVar, run_sizeOf hi]
                  rw [if_neg (by rw [hsz]; simp)]
                  exact q2
          · cases hso
        · cases hso
      · cases h
    · cases h
  · rename_i x
    unfold eNil at h
    split at h
    · rename_i av hx
      have e := opd_den ht hx
      split at h
      · rename_i hsure
        cases h
        rw [exec_nil ho rfl (sure_ok hsure e)]
        exact res_pure g hs e
      · cases h
    · cases h
  · rename_i f first cap
    unfold eFunc at h
    unfold execOp
    rw [ho]
    split at h
    · rename_i l c hl hc
      cases h
      refine res_same g hs (r := .func f (first.map a.eval) (cap.map a.eval)) rfl ?_
      simp only [den, opds_den ht hl, opds_den ht hc]
      rw [Option.some.injEq, Value.func.injEq]
      exact ⟨rfl, by rw [← Array.toList_map], by rw [← Array.toList_map]⟩
    · cases h
  · rename_i t l c
    unfold eMakeSlice at h
    unfold execOp
    rw [ho]
    split at h
    · rename_i x y hx hy
      exact makeSlice_sound g hs (hf (by rw [makeSlice_n h]; exact Nat.lt_succ_self _)) h (opd_den ht hx) (opd_den ht hy)
    · cases h
  · rename_i t x lo hi mx
    unfold eSlice at h
    rcases orGen_some h with h | h
    · unfold execOp
      rw [ho]
      split at h
      · rename_i av l hh m hx h1 h2 h3
        exact res_fin g hs h (fun u hu => slice_sound hu (opd_den ht hx) (opdO_den ht h1) (opdO_den ht h2) (opdO_den ht h3))
      · cases h
    · exact G h
  · rename_i t x f
    unfold eFieldAddr at h
    unfold execOp
    rw [ho]
    split at h
    · rename_i av hx
      exact res_fin g hs h (fun u hu => fieldAddr_sound hu (opd_den ht hx))
    · cases h
  · rename_i t x ix
    unfold eIndexAddr at h
    unfold execOp
    rw [ho]
    split at h
    · rename_i av bv hx hy
      exact res_fin g hs h (fun u hu => indexAddr_sound hu (opd_den ht hx) (opd_den ht hy))
    · cases h
  · rename_i t x f
    unfold eField at h
    unfold execOp
    rw [ho]
    split at h
    · rename_i av hx
      exact res_fin g hs h (fun u hu => field_sound hu (opd_den ht hx))
    · cases h
  · rename_i t x ix
    unfold eIndex at h
    rcases orGen_some h with h | h
    · unfold execOp
      rw [ho]
      split at h
      · rename_i av bv hx hy
        exact res_fin g hs h (fun u hu => index_sound hu (opd_den ht hx) (opd_den ht hy))
      · cases h
    · exact G h
  · rename_i x i
    unfold eExtract at h
    rcases orGen_some h with h | h
    · unfold execOp
      rw [ho]
      split at h
      · rename_i av hx
        exact res_fin g hs h (fun u hu => extract_sound hu (opd_den ht hx))
      · cases h
    · exact G h
  · rename_i c
    unfold eCall at h
    split at h
    · rename_i b hc
      rcases orGen_some h with h | h
      · split at h
        · rename_i l hl
          rw [exec_builtin ho hc]
          exact evBlt_sound g hs hf h (by simpa using opds_den ht hl)
        · cases h
      · exact G h
    · cases h
  · rename_i op t x y yt
    unfold eBin at h
    rcases orGen_some h with h | h
    · split at h
      · rename_i k p hx
        split at h
        · rename_i k' q hy
          split at h
          · rename_i hk
            have := sameKind_eq hk
            subst this
            have e1 := opd_den ht hx
            have e2 := opd_den ht hy
            simp only [den, Option.some.injEq] at e1 e2
            cases hb : binI op k p q with
            | none => rw [hb] at h; cases h
            | some r =>
              rw [hb] at h
              cases h
              unfold execOp
              rw [ho]
              simp only [← e1, ← e2]
              exact res_same g hs (binI_run hb) rfl
          · cases h
        · cases h
      · cases h
    · exact G h
  · exact G h
end
end Go.Proofs.Ytchlehpjpgeejaa.Ev
