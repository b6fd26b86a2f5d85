/- Operations on known values: parts, addresses, slices, loads and stores, new blocks. -/
import Derived.Test.YtchlehpjpgeejaaEd
namespace Go.Proofs.Ytchlehpjpgeejaa.Ev
set_option linter.unusedVariables false
set_option linter.unusedSimpArgs false
open Go
noncomputable section
variable {σ : Env} {P : Program} {w : World} {s s' : HS}

/-- A piece of a run yields a known value, and the world goes on as known. -/
def Res (P : Program) (s : HS) (σ : Env) (w : World) (x : Sem Next) (v : AV) (s' : HS) : Prop :=
  ∃ σ' w' r, (x.run P w = .ok (.value r) w' ∨ (x.run P w = .ok .skip w' ∧ r = undef)) ∧ den σ' v = some r ∧ Moved s σ w s' σ' w'
theorem run_val {x : Sem Value} {r : Value} {w' : World} (h : x.run P w = .ok r w') : (x >>= fun a => pure (Next.value a) : Sem Next).run P w = .ok (.value r) w' := by
  rw [Sem.run_bind, h]; rfl
theorem run_unit {x : Sem Unit} {w' : World} (h : x.run P w = .ok () w') : (x >>= fun _ => pure Next.skip : Sem Next).run P w = .ok .skip w' := by
  rw [Sem.run_bind, h]; rfl
theorem res_same (g : Good s) (hs : Sim s.H σ w) {x : Sem Value} {r : Value} {v : AV} (h : x.run P w = .ok r w) (hv : den σ v = some r) : Res P s σ w (x >>= fun a => pure (Next.value a)) v s :=
  ⟨σ, w, r, .inl (run_val h), hv, Moved.refl g hs⟩

/-! ### Parts of values -/
def aggCells : AV → Option (List AV)
  | .agg l => some l
  | .v x => match x with
    | .agg a => some (a.toList.map .v)
    | _ => none
  | _ => none
theorem aggCells_den {a : AV} {l : List AV} {x : Value} (h : aggCells a = some l) (hx : den σ a = some x) : ∃ vs, denL σ l = some vs ∧ x = .agg vs.toArray := by
  cases a with
  | agg l' =>
    simp only [aggCells] at h
    cases h
    simp only [den, Option.map_eq_some_iff] at hx
    obtain ⟨vs, h1, rfl⟩ := hx
    exact ⟨vs, h1, rfl⟩
  | v y =>
    simp only [den] at hx
    cases hx
    cases x <;> simp only [aggCells] at h <;> first
      | (cases h; done)
      | (cases h; exact ⟨_, denL_v _, by simp⟩)
  | _ => simp [aggCells] at h
def partA (P : Program) (t : TypeId) (l : List AV) (off : Nat) : Option AV :=
  match P.underlying t with
  | none => none
  | some d => match aggD d with
    | true => match P.info? t with
      | none => none
      | some i => some (.agg ((l.drop off).take i.size))
    | false => getL l off
theorem part_sound {t : TypeId} {l : List AV} {off : Nat} {v : AV} {vs : List Value} (h : partA P t l off = some v) (hl : denL σ l = some vs) :
    ∃ r, (part t vs.toArray off).run P w = .ok r w ∧ den σ v = some r := by
  unfold partA at h
  split at h
  · cases h
  · rename_i d hd
    split at h
    · rename_i ha
      split at h
      · cases h
      · rename_i i hi
        cases h
        refine ⟨.agg ((vs.drop off).take i.size).toArray, ?_, by simp only [den, denL_take _ (denL_drop _ hl), Option.map_some]⟩
        simp only [part, Sem.run_bind, run_isAgg hd, ha, Result.andThen_ok, if_true, run_sizeOf hi]
        simp
    · rename_i ha
      obtain ⟨x, e1, e2⟩ := denL_getL hl h
      refine ⟨x, ?_, e2⟩
      simp only [part, Sem.run_bind, run_isAgg hd, ha, Result.andThen_ok, Bool.false_eq_true, if_false]
      simp [e1]
def fieldA (P : Program) (t : TypeId) (a : AV) (f : Nat) : Option AV :=
  match aggCells a with
  | none => none
  | some l => match P.underlying t with
    | some (.struct fs) => match fs[f]? with
      | some fd => partA P fd.type l fd.offset
      | none => none
    | _ => none
theorem field_sound {t : TypeId} {a : AV} {f : Nat} {v : AV} {x : Value} (h : fieldA P t a f = some v) (hx : den σ a = some x) :
    ∃ r, (Instr.field t x f).run P w = .ok r w ∧ den σ v = some r := by
  unfold fieldA at h
  split at h
  · cases h
  · rename_i l hl
    obtain ⟨vs, h1, rfl⟩ := aggCells_den hl hx
    split at h
    · rename_i fs hd
      split at h
      · rename_i fd hf
        obtain ⟨r, h2, h3⟩ := part_sound (w := w) h h1
        refine ⟨r, ?_, h3⟩
        simp only [Instr.field, Sem.run_bind, run_under hd, Result.andThen_ok, hf, asAgg, Sem.run_pure]
        exact h2
      · cases h
    · cases h
/-- A number that is not below 0. -/
def natOf : AV → Option Nat
  | .v x => match x with
    | .int _ n => match n with
      | .ofNat j => some j
      | _ => none
    | _ => none
  | _ => none
theorem natOf_den {a : AV} {j : Nat} {x : Value} (h : natOf a = some j) (hx : den σ a = some x) : ∃ k, x = .int k j := by
  cases a with
  | v y =>
    simp only [den] at hx
    cases hx
    cases x with
    | int k n =>
      simp only [natOf] at h
      cases n with
      | ofNat m => cases h; exact ⟨k, rfl⟩
      | negSucc m => cases h
    | _ => simp [natOf] at h
  | _ => simp [natOf] at h
def indexA (P : Program) (t : TypeId) (a ix : AV) : Option AV :=
  match aggCells a with
  | none => none
  | some l => match natOf ix with
    | none => none
    | some j => match P.underlying t with
      | some (.array len e) => match Nat.blt j len with
        | true => match P.info? e with
          | some i => partA P e l (j * i.size)
          | none => none
        | false => none
      | _ => none
theorem index_sound {t : TypeId} {a ix : AV} {v : AV} {x y : Value} (h : indexA P t a ix = some v) (hx : den σ a = some x) (hy : den σ ix = some y) :
    ∃ r, (Instr.index t x y).run P w = .ok r w ∧ den σ v = some r := by
  unfold indexA at h
  split at h
  · cases h
  · rename_i l hl
    obtain ⟨vs, h1, rfl⟩ := aggCells_den hl hx
    split at h
    · cases h
    · rename_i j hj
      obtain ⟨k, rfl⟩ := natOf_den hj hy
      split at h
      · rename_i len e hd
        split at h
        · rename_i hb
          have hb' : j < len := by simpa using hb
          split at h
          · rename_i i hi
            obtain ⟨r, h2, h3⟩ := part_sound (w := w) h h1
            refine ⟨r, ?_, h3⟩
            have hc : (0 : Int) ≤ (j : Int) ∧ (j : Int) < (len : Int) := by omega
            simp only [Instr.index, asIntOf, Sem.run_bind, Sem.run_pure, run_under hd, Result.andThen_ok]
            rw [if_pos hc]
            simp only [Sem.run_bind, run_sizeOf hi, Result.andThen_ok]
            exact h2
          · cases h
        · cases h
      · cases h

/-! ### Addresses and slices -/
def fieldAddrA (P : Program) (t : TypeId) (a : AV) (f : Nat) : Option AV :=
  match a with
  | .ptr b o => match P.underlying t with
    | some (.struct fs) => match fs[f]? with
      | some fd => match P.info? fd.type with
        | some i => match i.size with
          | 0 => none
          | _ => some (.ptr b (o + fd.offset))
        | none => none
      | none => none
    | _ => none
  | _ => none
theorem fieldAddr_sound {t : TypeId} {a : AV} {f : Nat} {v : AV} {x : Value} (h : fieldAddrA P t a f = some v) (hx : den σ a = some x) :
    ∃ r, (Instr.fieldAt t x f).run P w = .ok r w ∧ den σ v = some r := by
  unfold fieldAddrA at h
  split at h
  · rename_i b o
    simp only [den, Option.map_eq_some_iff] at hx
    obtain ⟨B, hB, rfl⟩ := hx
    split at h
    · rename_i fs hd
      split at h
      · rename_i fd hf
        split at h
        · rename_i i hi
          split at h
          · cases h
          · rename_i hz
            cases h
            refine ⟨.pointer (some ⟨B, o + fd.offset, none⟩), ?_, by simp only [den, hB, Option.map_some]⟩
            have hz' : ¬ i.size = 0 := hz
            simp only [Instr.fieldAt, Sem.run_bind, run_under hd, Result.andThen_ok, hf, Instr.sureAddr, Sem.run_pure, fieldPlace, run_sizeOf hi]
            rw [if_neg hz']
            simp only [Sem.run_pure, Result.andThen_ok, add_at]
        · cases h
      · cases h
    · cases h
  · cases h
def indexAddrA (P : Program) (t : TypeId) (a ix : AV) : Option AV :=
  match natOf ix with
  | none => none
  | some j => match P.underlying t with
    | some (.array len e) => match a with
      | .ptr b o => match Nat.blt j len with
        | true => match P.info? e with
          | some i => some (.ptr b (o + j * i.size))
          | none => none
        | false => none
      | _ => none
    | some (.slice e) => match P.info? e with
      | none => none
      | some i => match a with
        | .sl b o n c => match Nat.blt j n with
          | true => some (.ptr b (o + j * i.size))
          | false => none
        | .slu b o n d => match Nat.blt j n with
          | true => some (.ptr b (o + j * i.size))
          | false => none
        | _ => none
    | _ => none
theorem indexAddr_sound {t : TypeId} {a ix : AV} {v : AV} {x y : Value} (h : indexAddrA P t a ix = some v) (hx : den σ a = some x) (hy : den σ ix = some y) :
    ∃ r, (Instr.indexAt t x y).run P w = .ok r w ∧ den σ v = some r := by
  unfold indexAddrA at h
  split at h
  · cases h
  · rename_i j hj
    obtain ⟨k, rfl⟩ := natOf_den hj hy
    split at h
    · rename_i len e hd
      split at h
      · rename_i b o
        simp only [den, Option.map_eq_some_iff] at hx
        obtain ⟨B, hB, rfl⟩ := hx
        split at h
        · rename_i hb
          have hb' : j < len := by simpa using hb
          split at h
          · rename_i i hi
            cases h
            refine ⟨.pointer (some ⟨B, o + j * i.size, none⟩), ?_, by simp only [den, hB, Option.map_some]⟩
            have hc : (0 : Int) ≤ (j : Int) ∧ (j : Int) < (len : Int) := by omega
            simp only [Instr.indexAt, asIntOf, Sem.run_bind, Sem.run_pure, run_under hd, Result.andThen_ok, Instr.sureAddr]
            rw [if_pos hc]
            simp only [Sem.run_bind, run_sizeOf hi, Result.andThen_ok, add_at, Sem.run_pure, Int.toNat_natCast]
          · cases h
        · cases h
      · cases h
    · rename_i e hd
      split at h
      · cases h
      · rename_i i hi
        split at h
        · rename_i b o n c
          simp only [den, Option.map_eq_some_iff] at hx
          obtain ⟨B, hB, rfl⟩ := hx
          split at h
          · rename_i hb
            have hb' : j < n := by simpa using hb
            cases h
            refine ⟨.pointer (some ⟨B, o + j * i.size, none⟩), ?_, by simp only [den, hB, Option.map_some]⟩
            have hc : (0 : Int) ≤ (j : Int) ∧ (j : Int) < (n : Int) := by omega
            simp only [Instr.indexAt, asIntOf, Sem.run_bind, Sem.run_pure, run_under hd, Result.andThen_ok, Instr.sureAddr]
            rw [if_pos hc]
            simp only [Sem.run_bind, run_sizeOf hi, Result.andThen_ok, add_at, Sem.run_pure, Int.toNat_natCast]
          · cases h
        · rename_i b o n c
          simp only [den, Option.map_eq_some_iff] at hx
          obtain ⟨B, hB, rfl⟩ := hx
          split at h
          · rename_i hb
            have hb' : j < n := by simpa using hb
            cases h
            refine ⟨.pointer (some ⟨B, o + j * i.size, none⟩), ?_, by simp only [den, hB, Option.map_some]⟩
            have hc : (0 : Int) ≤ (j : Int) ∧ (j : Int) < (n : Int) := by omega
            simp only [Instr.indexAt, asIntOf, Sem.run_bind, Sem.run_pure, run_under hd, Result.andThen_ok, Instr.sureAddr]
            rw [if_pos hc]
            simp only [Sem.run_bind, run_sizeOf hi, Result.andThen_ok, add_at, Sem.run_pure, Int.toNat_natCast]
          · cases h
        · cases h
    · cases h
def sb1 (x : AV) (y : Nat) : Option Nat :=
  match natOf x with
  | none => none
  | some j => match Nat.ble j y with
    | true => some j
    | false => none
theorem sb1_sound {x : AV} {y j : Nat} {v : Value} {c : BoundsCode} (h : sb1 x y = some j) (hx : den σ x = some v) : (Instr.sliceBound v y c).run P w = .ok j w := by
  unfold sb1 at h
  split at h
  · cases h
  · rename_i i hi
    obtain ⟨k, rfl⟩ := natOf_den hi hx
    split at h
    · rename_i hb
      cases h
      have := Nat.le_of_ble_eq_true hb
      simp only [Instr.sliceBound, asIntOf, Sem.run_bind, Sem.run_pure, Result.andThen_ok]
      rw [if_pos (by omega)]
      simp
    · cases h
def opdO (tm : Tr AV) : Option Operand → Option (Option AV)
  | none => some none
  | some x => match opd tm x with
    | some v => some (some v)
    | none => none
/-- Both are there, and known, or neither is. -/
def denO (σ : Env) : Option AV → Option Value → Prop
  | none, none => True
  | some a, some x => den σ a = some x
  | _, _ => False
theorem opdO_den {tm : Tr AV} {sz : Nat} {a : Act} (h : Tm σ tm sz a.tmps) {x : Option Operand} {v : Option AV} (e : opdO tm x = some v) : denO σ v (x.map a.eval) := by
  cases x with
  | none => simp [opdO] at e; subst e; trivial
  | some x =>
    simp only [opdO] at e
    split at e
    · rename_i u hu
      cases e
      exact opd_den h hu
    · cases e
def sbA (len cap : Nat) (lo hi mx : Option AV) : Option (Nat × Nat × Nat) :=
  match (match mx with | none => some cap | some v => sb1 v cap) with
  | none => none
  | some m => match (match hi with | none => (match mx with | none => some len | some _ => none) | some v => sb1 v m) with
    | none => none
    | some h => match (match lo with | none => some 0 | some v => sb1 v h) with
      | none => none
      | some l => some (l, h, m)
theorem sbA_sound {isS : Bool} {len cap : Nat} {lo hi mx : Option AV} {lo' hi' mx' : Option Value} {r : Nat × Nat × Nat} (h : sbA len cap lo hi mx = some r)
    (h1 : denO σ lo lo') (h2 : denO σ hi hi') (h3 : denO σ mx mx') : (Instr.sliceBounds isS len cap lo' hi' mx').run P w = .ok r w := by
  cases lo <;> cases lo' <;> simp only [denO] at h1 <;> cases hi <;> cases hi' <;> simp only [denO] at h2 <;> cases mx <;> cases mx' <;> simp only [denO] at h3 <;> simp only [sbA] at h <;>
    first
      | (cases h; done)
      | (repeat' (split at h)
         all_goals first
           | (cases h; done)
           | (cases h
              simp only [Instr.sliceBounds, Sem.run_bind, Sem.run_pure, Result.andThen_ok]
              repeat (first
                | (rw [sb1_sound (by assumption) (by assumption)]; simp only [Result.andThen_ok])
                | rfl)))
end
end Go.Proofs.Ytchlehpjpgeejaa.Ev
