/- One operation on known values, and that a world does likewise. -/
import Derived.Test.YtchlehpjpgeejaaEi
namespace Go.Proofs.Ytchlehpjpgeejaa.Ev
set_option linter.unusedVariables false
set_option linter.unusedSimpArgs false
open Go
noncomputable section
variable {σ : Env} {P : Program} {w : World} {s s' : HS}

def copyA (P : Program) (s : HS) (t0 : TypeId) (dst src : AV) : Option (AV × HS) :=
  match P.underlying t0 with
  | some (.slice e) => match P.info? e with
    | none => none
    | some i => match lenA src, lenA dst with
      | some ls, some ld => match srcN s i.size (Nat.min ls ld) src with
        | none => none
        | some cs => match allOne cs with
          | false => none
          | true => match dst with
            | .sl b o _ _ => match s.store b o cs with
              | some s' => some (.v (.int .i64 (Nat.min ls ld)), s')
              | none => none
            | .slu b o _ _ => match s.store b o cs with
              | some s' => some (.v (.int .i64 (Nat.min ls ld)), s')
              | none => none
            | .v y => match y with
              | .slice none _ _ => some (.v (.int .i64 (Nat.min ls ld)), s)
              | _ => none
            | _ => none
      | _, _ => none
  | _ => none
theorem copy_sound (g : Good s) (hs : Sim s.H σ w) {t0 t1 ty : TypeId} {a x : AV} {av xv : Value} {v : AV}
    (h : copyA P s t0 a x = some (v, s')) (ha : den σ a = some av) (hx : den σ x = some xv) :
    Res P s σ w (Builtin.copy_ #[t0, t1] ty #[av, xv] >>= fun a => pure (Next.value a)) v s' := by
  unfold copyA at h
  split at h
  · rename_i e h0
    split at h
    · cases h
    · rename_i i hi
      split at h
      · rename_i ls ld hls hld
        obtain ⟨hlen, o', c', rfl⟩ := lenA_run (P := P) (w := w) hls hx
        obtain ⟨_, o2, c2, rfl⟩ := lenA_run (P := P) (w := w) hld ha
        split at h
        · cases h
        · rename_i cs hcs
          obtain ⟨us, hu1, hu2⟩ := srcN_run (P := P) hs hcs hx
          split at h
          · cases h
          · rename_i hone
            have key : ∀ {b o : Nat} {B : Nat}, σ.blk b = some B → o2 = some ⟨B, o, none⟩ → s.store b o cs = some s' → v = .v (.int .i64 (Nat.min ls ld)) →
                Res P s σ w (Builtin.copy_ #[t0, t1] ty #[.slice o2 ld c2, .slice o' ls c'] >>= fun a => pure (Next.value a)) v s' := by
              intro b o B hB ho hst hv
              subst ho hv
              obtain ⟨B', w', q1, q2, q3⟩ := store_sound (P := P) g hs hst hu1 hone
              rw [hB] at q1
              cases q1
              refine ⟨σ, w', _, .inl (run_val ?_), rfl, q3⟩
              unfold Builtin.copy_
              simp only [List.getElem?_toArray, List.getElem?_cons_zero, List.getElem?_cons_succ, Sem.run_bind, run_under h0, Result.andThen_ok, Sem.run_pure, hlen, run_sizeOf hi]
              rw [hu2 w rfl]
              simp only [Result.andThen_ok, Sem.run_bind, q2, Sem.run_pure, goInt]
            split at h
            · rename_i b o n c
              simp only [den, Option.map_eq_some_iff] at ha
              obtain ⟨B, hB, hq⟩ := ha
              split at h
              · rename_i s1 hst
                cases h
                cases hq
                exact key hB rfl hst rfl
              · cases h
            · rename_i b o n c
              simp only [den, Option.map_eq_some_iff] at ha
              obtain ⟨B, hB, hq⟩ := ha
              split at h
              · rename_i s1 hst
                cases h
                cases hq
                exact key hB rfl hst rfl
              · cases h
            · rename_i y
              simp only [den] at ha
              cases ha
              split at h
              · rename_i n c hq
                cases h
                cases hq
                refine ⟨σ, w, _, .inl (run_val ?_), rfl, Moved.refl g hs⟩
                unfold Builtin.copy_
                simp only [List.getElem?_toArray, List.getElem?_cons_zero, List.getElem?_cons_succ, Sem.run_bind, run_under h0, Result.andThen_ok, Sem.run_pure, hlen, run_sizeOf hi]
                rw [hu2 w rfl]
                simp only [Result.andThen_ok, Sem.run_pure, goInt]
              · cases h
            · cases h
      · cases h
  · cases h
def clearA (P : Program) (s : HS) (t : TypeId) (x : AV) : Option (AV × HS) :=
  match P.underlying t with
  | some (.slice e) => match x with
    | .sl b o n c => match n with
      | 0 => none
      | _ => match P.info? e with
        | none => none
        | some i => match zerosOf P e i.size n with
          | none => none
          | some z => match allOne z with
            | false => none
            | true => match s.store b o z with
              | some s' => some (.v (.tuple #[]), s')
              | none => none
    | _ => none
  | _ => none
theorem zeroCells_eq (z : Array Value) (k : Nat) : Builtin.zeroCells z k = (repL k z.toList).toArray := rep_range z k
theorem clear_sound (g : Good s) (hs : Sim s.H σ w) {t ty : TypeId} {x : AV} {xv : Value} {v : AV} (h : clearA P s t x = some (v, s')) (hx : den σ x = some xv) :
    Res P s σ w (Builtin.clear_ #[t] ty #[xv] >>= fun a => pure (Next.value a)) v s' := by
  unfold clearA at h
  split at h
  · rename_i e h0
    split at h
    · rename_i b o n c
      simp only [den, Option.map_eq_some_iff] at hx
      obtain ⟨B, hB, rfl⟩ := hx
      split at h
      · cases h
      · rename_i hn0
        split at h
        · cases h
        · rename_i i hi
          split at h
          · cases h
          · rename_i zl hz
            obtain ⟨z, z1, z2, rfl⟩ := zerosOf_run (w := w) hz
            split at h
            · cases h
            · rename_i hone
              split at h
              · rename_i s1 hst
                cases h
                obtain ⟨B', w', q1, q2, q3⟩ := store_sound (P := P) g hs hst (denL_v _) hone
                rw [hB] at q1
                cases q1
                refine ⟨σ, w', _, .inl (run_val ?_), rfl, q3⟩
                unfold Builtin.clear_
                simp only [List.getElem?_toArray, List.getElem?_cons_zero, Sem.run_bind, run_under h0, Result.andThen_ok]
                cases n with
                | zero => exact absurd rfl hn0
                | succ n =>
                  simp only [Sem.run_bind, z1, Result.andThen_ok, zeroCells_eq, q2, Sem.run_pure]
              · cases h
    · cases h
  · cases h
def lenOp (P : Program) (t : TypeId) (x : AV) : Option AV :=
  match P.underlying t with
  | some (.slice _) => match lenA x with
    | some n => some (.v (.int .i64 n))
    | none => none
  | some (.array n _) => some (.v (.int .i64 n))
  | some (.pointer arr) => match P.underlying arr with
    | some (.array n _) => some (.v (.int .i64 n))
    | _ => none
  | _ => none
theorem lenOp_sound {t ty : TypeId} {x : AV} {xv : Value} {v : AV} (h : lenOp P t x = some v) (hx : den σ x = some xv) :
    ∃ r, (Builtin.len_ #[t] ty #[xv]).run P w = .ok r w ∧ den σ v = some r := by
  unfold lenOp at h
  split at h
  · rename_i e h0
    split at h
    · rename_i n hn
      cases h
      obtain ⟨_, o', c', rfl⟩ := lenA_run (P := P) (w := w) hn hx
      refine ⟨_, ?_, rfl⟩
      unfold Builtin.len_
      simp only [List.getElem?_toArray, List.getElem?_cons_zero, Sem.run_bind, run_under h0, Result.andThen_ok, Sem.run_pure, goInt]
    · cases h
  · rename_i n e h0
    cases h
    refine ⟨_, ?_, rfl⟩
    unfold Builtin.len_
    simp only [List.getElem?_toArray, List.getElem?_cons_zero, Sem.run_bind, run_under h0, Result.andThen_ok, Sem.run_pure, goInt]
  · rename_i arr h0
    split at h
    · rename_i n e h1
      cases h
      refine ⟨_, ?_, rfl⟩
      unfold Builtin.len_
      simp only [List.getElem?_toArray, List.getElem?_cons_zero, Sem.run_bind, run_under h0, run_under h1, Result.andThen_ok, Sem.run_pure, goInt]
    · cases h
  · cases h
def capOp (P : Program) (t : TypeId) (x : AV) : Option AV :=
  match P.underlying t with
  | some (.slice _) => match x with
    | .sl _ _ _ c => some (.v (.int .i64 c))
    | _ => none
  | _ => none
theorem capOp_sound {t ty : TypeId} {x : AV} {xv : Value} {v : AV} (h : capOp P t x = some v) (hx : den σ x = some xv) :
    ∃ r, (Builtin.cap_ #[t] ty #[xv]).run P w = .ok r w ∧ den σ v = some r := by
  unfold capOp at h
  split at h
  · rename_i e h0
    split at h
    · cases h
      simp only [den, Option.map_eq_some_iff] at hx
      obtain ⟨B, hB, rfl⟩ := hx
      refine ⟨_, ?_, rfl⟩
      unfold Builtin.cap_
      simp only [List.getElem?_toArray, List.getElem?_cons_zero, Sem.run_bind, run_under h0, Result.andThen_ok, Sem.run_pure, goInt]
    · cases h
  · cases h
def extractA (x : AV) (i : Nat) : Option AV :=
  match x with
  | .tup l => getL l i
  | _ => none
theorem extract_sound {x : AV} {xv : Value} {i : Nat} {v : AV} (h : extractA x i = some v) (hx : den σ x = some xv) : ∃ r, (Instr.extract xv i).run P w = .ok r w ∧ den σ v = some r := by
  cases x with
  | tup l =>
    simp only [den, Option.map_eq_some_iff] at hx
    obtain ⟨vs, h1, rfl⟩ := hx
    obtain ⟨r, e1, e2⟩ := denL_getL h1 h
    refine ⟨r, ?_, e2⟩
    simp [Instr.extract, e1]
  | _ => simp [extractA] at h
/-- A pointer that is none, or a function. -/
def sure : AV → Bool
  | .ptr _ _ => true
  | .fn f _ _ => match f with
    | .func _ => true
    | _ => false
  | .v x => match x with
    | .func f _ _ => match f with
      | .func _ => true
      | _ => false
    | _ => false
  | _ => false
/-! ### Operations that ask nothing of the world -/
def allPlain (tm : Tr AV) : List Operand → Bool
  | [] => true
  | x :: l => match opd tm x with
    | none => false
    | some a => match plain a with
      | some _ => allPlain tm l
      | none => false
def ρof (tm : Tr AV) (x : Operand) : Value :=
  match opd tm x with
  | none => undef
  | some a => match plain a with
    | some v => v
    | none => undef
theorem ρof_eq {tm : Tr AV} {sz : Nat} {a : Act} (h : Tm σ tm sz a.tmps) : ∀ {l : List Operand}, allPlain tm l = true → ∀ x ∈ l, ρof tm x = a.eval x
  | y :: l, e, x, hx => by
    simp only [allPlain] at e
    split at e
    · cases e
    · rename_i u hu
      split at e
      · rename_i r hr
        rcases List.mem_cons.1 hx with rfl | hx
        · have h1 := opd_den h hu
          rw [plain_den hr] at h1
          cases h1
          simp only [ρof, hu, hr]
        · exact ρof_eq h e x hx
      · cases e
def isSelect : Op → Bool
  | .select _ _ => true
  | _ => false
def gen (P : Program) (tm : Tr AV) (s : HS) (o : Oper) : Option (AV × HS) :=
  match isSelect o.op with
  | true => none
  | false => match allPlain tm o.op.operands.toList with
    | false => none
    | true => match pureV P (execOp (ρof tm) o) with
      | some (.value v) => some (.v v, s)
      | some .skip => some (.v undef, s)
      | _ => none
theorem gen_sound (g : Good s) (hs : Sim s.H σ w) {tm : Tr AV} {sz : Nat} {a : Act} (ht : Tm σ tm sz a.tmps) {o : Oper} {v : AV} (h : gen P tm s o = some (v, s')) :
    Res P s σ w (execOp a.eval o) v s' := by
  unfold gen at h
  split at h
  · cases h
  · rename_i hsel
    split at h
    · cases h
    · rename_i hp
      have e : execOp (ρof tm) o = execOp a.eval o := execOp_congr o (fun cs b hh => by rw [hh] at hsel; cases hsel) (fun x hx => ρof_eq ht hp x (by simpa using hx))
      rw [e] at h
      split at h
      · rename_i u hu
        cases h
        exact ⟨σ, w, u, .inl (run_pureV hu w), rfl, Moved.refl g hs⟩
      · rename_i hu
        cases h
        exact ⟨σ, w, undef, .inr ⟨run_pureV hu w, rfl⟩, rfl, Moved.refl g hs⟩
      · cases h
end
end Go.Proofs.Ytchlehpjpgeejaa.Ev
