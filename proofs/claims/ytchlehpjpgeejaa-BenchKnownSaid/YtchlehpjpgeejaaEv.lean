/- A region whose order is open: the facts of each step. -/
import Derived.Test.YtchlehpjpgeejaaEu
namespace Go.Proofs.Ytchlehpjpgeejaa.Ev
set_option linter.unusedVariables false
set_option linter.unusedSimpArgs false
open Go
noncomputable section
variable {P : Program} {s s' s1 s2 : HS} {rec : Rec}

def StepOK (rec : Rec) (P : Program) (sz : Nat) (L : List Oper) (i p : Nat) (d : DS) (o : Oper) (d' : DS) : Prop :=
  ∃ k : Kd, wantedA d.tm L o = some k.on ∧ putT d.tm sz o.dst k.val = some d'.tm ∧ Fact rec P i p d o d' k
/-- The same but for what is wanted. -/
def StepIn (rec : Rec) (P : Program) (sz : Nat) (i p : Nat) (d : DS) (o : Oper) (d' : DS) : Prop :=
  ∃ k : Kd, k.on = true ∧ putT d.tm sz o.dst k.val = some d'.tm ∧ Fact rec P i p d o d' k
theorem get_if {n m : Nat} {H : Tr AB} {f : Nat → Option AB} (h : ∀ b, n ≤ b → b < m → H.get b = f b) (k : ∀ b, ¬ (n ≤ b ∧ b < m) → H.get b = s.H.get b) (b : Nat) : H.get b = if n ≤ b ∧ b < m then f b else s.H.get b := by
  split
  · rename_i q; exact h b q.1 q.2
  · rename_i q; exact k b q
theorem addNew_ok (h : addNew s s1 = some s2) : s1.n = s.n + 1 ∧ s2.n = s1.n ∧ s2.m = s.m ∧ ∀ b, s2.H.get b = if s.n ≤ b ∧ b < s1.n then s1.H.get b else s.H.get b := by
  obtain ⟨n, m, H⟩ := s
  unfold addNew at h
  simp only at h
  split at h
  · rename_i hn
    have hn' := Nat.eq_of_beq_eq_true hn
    split at h
    · rename_i x hx hb
      cases h
      have hb' := Nat.le_of_ble_eq_true hb
      refine ⟨hn', hn'.symm, rfl, fun b => ?_⟩
      show (Tr.set 30 H n x).get b = if n ≤ b ∧ b < s1.n then s1.H.get b else H.get b
      by_cases e : b = n
      · subst e
        rw [if_pos (by omega), hx]
        exact Tr.get_set_same 30 _ _ _ (by omega)
      · rw [if_neg (by omega)]
        exact Tr.get_set_other 30 _ _ _ _ (Ne.symm e)
    · cases h
  · cases h
theorem quiet_fact {sz i p : Nat} {d d' : DS} {o : Oper} (hq : isQuiet o.op = true) (h : dQuiet rec P sz i p d o = some d') : StepIn rec P sz i p d o d' := by
  obtain ⟨tm, s, base, n0, cr, imp, calls, bars, loads, stores⟩ := d
  unfold dQuiet at h
  simp only at h
  split at h
  · rename_i v s' hv
    obtain ⟨h1, h2⟩ := putD_ok h
    obtain ⟨hd, hi⟩ := quiet_ok (P := P) hq
    refine ⟨.add v .leaf ⟨s.n, s.n, .leaf⟩ false false, rfl, h1, ?_⟩
    rw [h2]
    refine ⟨⟨rfl, rfl, rfl, rfl, rfl⟩, .inr ⟨hi _ _ _ _ hv _, hd⟩, Nat.le_refl _, rfl, rfl, fun b => ?_, fun q => (by cases q), fun _ => ⟨rfl, rfl⟩, fun q => (by cases q), fun _ => ⟨rfl, rfl⟩, .inl ⟨rfl, rfl⟩⟩
    rw [if_neg (by show ¬ (s.n ≤ b ∧ b < s.n); omega)]
  · cases h
theorem load_fact {sz i p : Nat} {d d' : DS} {o : Oper} {t : TypeId} {x : Operand} (ho : o.op = .load t x) (h : dLoad t x rec P sz i p d o = some d') : StepIn rec P sz i p d o d' := by
  obtain ⟨tm, s, base, n0, cr, imp, calls, bars, loads, stores⟩ := d
  unfold dLoad at h
  simp only at h
  split at h
  · rename_i b off hx
    split at h
    · rename_i v len hv hl
      split at h
      · rename_i e1 e2 e3
        obtain ⟨h1, h2⟩ := putD_ok h
        refine ⟨.load v b off len, rfl, h1, ?_⟩
        rw [h2]
        exact ⟨rfl, rfl, rfl, rfl, rfl, rfl, rfl, rfl, rfl, e3, e1, e2, t, x, ho, hx, hv, hl⟩
      · cases h
    · cases h
  · cases h
theorem store_fact {sz i p : Nat} {d d' : DS} {o : Oper} {t : TypeId} {x y : Operand} (ho : o.op = .store t x y) (h : dStore t x y rec P sz i p d o = some d') : StepIn rec P sz i p d o d' := by
  obtain ⟨tm, s, base, n0, cr, imp, calls, bars, loads, stores⟩ := d
  unfold dStore at h
  simp only at h
  split at h
  · cases h
  · rename_i b off cs hst
    split at h
    · rename_i e1 e2 e3 e4 e5
      split at h
      · cases h
      · rename_i s1 hs1
        obtain ⟨h1, h2⟩ := putD_ok h
        refine ⟨.store b off cs, rfl, h1, ?_⟩
        rw [h2]
        exact ⟨rfl, rfl, rfl, rfl, rfl, rfl, rfl, rfl, e5, e1, e2, e3, e4, hs1, t, x, y, ho, hst⟩
    · cases h
def makes : Op → Bool
  | .alloc _ => true
  | .box _ _ => true
  | .buildSlice _ _ _ => true
  | .makeSlice _ _ _ => true
  | _ => false
theorem new_m (s : HS) (x : AB) : (s.new x).m = s.m := rfl
theorem make_m {tm : Tr AV} {o : Oper} {v : AV} (hm : makes o.op = true) (h : evO P tm s o = some (v, s')) : s'.m = s.m := by
  unfold evO at h
  cases ho : o.op with
  | alloc t =>
    rw [ho] at h
    simp only [evD, eAlloc] at h
    split at h
    · cases h; rfl
    · cases h
  | box t x =>
    rw [ho] at h
    simp only [evD, eBox] at h
    split at h
    · cases h; rfl
    · cases h
  | buildSlice t l ps =>
    rw [ho] at h
    simp only [evD, eBuildSlice, buildSliceA] at h
    repeat' (split at h)
    all_goals first
      | (cases h; done)
      | (cases h; rfl)
  | makeSlice t l c =>
    rw [ho] at h
    simp only [evD, eMakeSlice, makeSliceA] at h
    repeat' (split at h)
    all_goals first
      | (cases h; done)
      | (cases h; rfl)
  | _ => rw [ho] at hm; cases hm
theorem make_fact {sz i p : Nat} {d d' : DS} {o : Oper} (hm : makes o.op = true) (h : dMake rec P sz i p d o = some d') : StepIn rec P sz i p d o d' := by
  obtain ⟨tm, s, base, n0, cr, imp, calls, bars, loads, stores⟩ := d
  unfold dMake at h
  simp only at h
  split at h
  · cases h
  · rename_i v s1 hv
    split at h
    · rename_i s2 ha hb
      obtain ⟨h1, h2⟩ := putD_ok h
      obtain ⟨a1, a2, a3, a4⟩ := addNew_ok ha
      have hd : ∀ c, o.op ≠ .defer c := fun c q => by rw [q] at hm; cases hm
      refine ⟨.add v .leaf s1 true false, rfl, h1, ?_⟩
      rw [h2]
      exact ⟨⟨rfl, rfl, rfl, rfl, rfl⟩, .inr ⟨hv, hd⟩, Nat.le_of_eq (make_m hm hv).symm, a2, a3, a4, fun _ => ⟨hb, rfl⟩, fun q => (by cases q), fun q => (by cases q), fun _ => ⟨rfl, rfl⟩, .inr rfl⟩
    · cases h
theorem call_fact {sz i p : Nat} {d d' : DS} {o : Oper} (hr : StatC rec) (g : Good d.s) (h : dCall rec P sz i p d o = some d') : StepIn rec P sz i p d o d' := by
  obtain ⟨tm, s, base, n0, cr, imp, calls, bars, loads, stores⟩ := d
  unfold dCall at h
  simp only at h
  split at h
  · rename_i hb hst
    split at h
    · rename_i hcr
      split at h
      · cases h
      · rename_i v s1 hv
        have st : Stat ⟨s.n, s.n, s.H⟩ s1 := stat_ev1 hr hv
        split at h
        · rename_i hm
          have hm' := Nat.le_of_ble_eq_true hm
          obtain ⟨h1, h2⟩ := putD_ok h
          refine ⟨.add v s.H s1 true true, rfl, h1, ?_⟩
          rw [h2]
          have hn := st.le
          refine ⟨⟨rfl, rfl, rfl, rfl, rfl⟩, .inl hv, hm', rfl, rfl, fun b => ?_, fun _ => ⟨hb, rfl⟩, fun q => (by cases q), fun _ => ⟨rfl, hst, .inl ⟨rfl, hcr⟩, rfl⟩, fun q => (by cases q), ?_⟩
          · show s1.H.get b = if s.n ≤ b ∧ b < s1.n then s1.H.get b else s.H.get b
            split
            · rfl
            · rename_i q
              by_cases hlt : b < s.n
              · exact st.keep b hlt (Nat.lt_of_lt_of_le hlt hm')
              · have hn' : s.n ≤ s1.n := hn
                rw [(st.good (good0 g)).top b (by omega)]
                exact (g.top b (by show s.n ≤ b; omega)).symm
          · show s1.n = s.n ∧ addBit (Nat.beq s1.n s.n) cr i = cr ∨ addBit (Nat.beq s1.n s.n) cr i = Nat.lor cr (Nat.pow 2 i)
            cases hq : Nat.beq s1.n s.n with
            | true => exact .inl ⟨Nat.eq_of_beq_eq_true hq, rfl⟩
            | false => exact .inr rfl
        · split at h
          · rename_i him
            obtain ⟨h1, h2⟩ := putD_ok h
            refine ⟨.bar v s1, rfl, h1, ?_⟩
            rw [h2]
            refine ⟨.inl hv, ?_, rfl, rfl, rfl, rfl, rfl, rfl, rfl, rfl, hb, him⟩
            show lowM s.m s1 = _
            unfold lowM
            exact HS.mkLow_eq _ _ _ _
          · cases h
    · split at h
      · cases h
      · rename_i v s1 hv
        split at h
        · cases h
        · rename_i hm
          have hm' := Nat.le_of_ble_eq_true hm
          split at h
          · rename_i hn
            have hn' := Nat.eq_of_beq_eq_true hn
            obtain ⟨h1, h2⟩ := putD_ok h
            refine ⟨.add v base s1 true true, rfl, h1, ?_⟩
            rw [h2]
            refine ⟨⟨rfl, rfl, rfl, rfl, rfl⟩, .inl hv, hm', hn'.symm, rfl, fun b => ?_, fun _ => ⟨hb, rfl⟩, fun q => (by cases q), fun _ => ⟨rfl, hst, .inr rfl, rfl⟩, fun q => (by cases q), .inl ⟨hn', rfl⟩⟩
            rw [if_neg (by show ¬ (s.n ≤ b ∧ b < s1.n); omega)]
          · split at h
            · rename_i s2 ha
              obtain ⟨h1, h2⟩ := putD_ok h
              obtain ⟨a1, a2, a3, a4⟩ := addNew_ok ha
              refine ⟨.add v base s1 true true, rfl, h1, ?_⟩
              rw [h2]
              exact ⟨⟨rfl, rfl, rfl, rfl, rfl⟩, .inl hv, hm', a2, a3, a4, fun _ => ⟨hb, rfl⟩, fun q => (by cases q), fun _ => ⟨rfl, hst, .inr rfl, rfl⟩, fun q => (by cases q), .inr rfl⟩
            · cases h
  · cases h
theorem fact_of_step {sz i p : Nat} {L : List Oper} {d d' : DS} {o : Oper} (hr : StatC rec) (g : Good d.s) (h : dstep rec P sz L i p d o = some d') : StepOK rec P sz L i p d o d' := by
  have lift : wantedA d.tm L o = some true → StepIn rec P sz i p d o d' → StepOK rec P sz L i p d o d' := fun hw ⟨k, k1, k2, k3⟩ => ⟨k, by rw [k1]; exact hw, k2, k3⟩
  unfold dstep at h
  split at h
  · cases h
  · rename_i hw
    obtain ⟨h1, h2⟩ := putD_ok h
    refine ⟨.off, hw, h1, ?_⟩
    rw [h2]
    exact ⟨⟨rfl, rfl, rfl, rfl, rfl⟩, rfl, rfl, rfl, rfl⟩
  · rename_i hw
    refine lift hw ?_
    cases ho : o.op with
    | load t x => rw [ho] at h; exact load_fact ho h
    | store t x y => rw [ho] at h; exact store_fact ho h
    | alloc t => rw [ho] at h; exact make_fact (by rw [ho]; rfl) h
    | box t x => rw [ho] at h; exact make_fact (by rw [ho]; rfl) h
    | buildSlice t l ps => rw [ho] at h; exact make_fact (by rw [ho]; rfl) h
    | makeSlice t l c => rw [ho] at h; exact make_fact (by rw [ho]; rfl) h
    | call c =>
      rw [ho] at h
      simp only [dD, dCallee] at h
      cases hc : c.callee with
      | value f => rw [hc] at h; exact call_fact hr g h
      | invoke r m => rw [hc] at h; exact call_fact hr g h
      | builtin b =>
        rw [hc] at h
        cases hb : quietB b with
        | true =>
          refine quiet_fact (by rw [ho]; simp only [isQuiet, hc]; exact hb) ?_
          cases b <;> first | (cases hb; done) | exact h
        | false =>
          refine call_fact hr g ?_
          cases b <;> first | (cases hb; done) | exact h
    | _ =>
      rw [ho] at h
      first
        | exact quiet_fact (by rw [ho]; rfl) h
        | exact call_fact hr g h
end
end Go.Proofs.Ytchlehpjpgeejaa.Ev
