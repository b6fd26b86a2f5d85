/- An operation asks for the temporaries that it names, and for no other ones; what one more operation makes of the heap. -/
import Derived.Test.YtchlehpjpgeejaaEz
namespace Go.Proofs.Ytchlehpjpgeejaa.Ev
set_option linter.unusedVariables false
set_option linter.unusedSimpArgs false
open Go
noncomputable section
variable {P : Program} {rec : Rec}

/-- The operands are the same in both. -/
def Agree (tm tm2 : Tr AV) (l : List Operand) : Prop := ∀ x ∈ l, opd tm x = opd tm2 x
theorem Agree.sub {tm tm2 : Tr AV} {l m : List Operand} (h : Agree tm tm2 l) (k : ∀ x ∈ m, x ∈ l) : Agree tm tm2 m := fun x hx => h x (k x hx)
theorem opds_congr {tm tm2 : Tr AV} : ∀ {l : List Operand}, Agree tm tm2 l → opds tm l = opds tm2 l
  | [], _ => rfl
  | x :: l, h => by
    simp only [opds, h x (by simp), opds_congr (h.sub (fun y hy => List.mem_cons_of_mem _ hy))]
theorem parts_congr {tm tm2 : Tr AV} : ∀ {l : List (Nat × Operand)}, Agree tm tm2 (l.map (·.2)) → partsA tm l = partsA tm2 l
  | [], _ => rfl
  | (i, x) :: l, h => by
    simp only [partsA, h x (by simp), parts_congr (l := l) (h.sub (fun y hy => by simp only [List.map_cons]; exact List.mem_cons_of_mem _ hy))]
theorem opdO_congr {tm tm2 : Tr AV} {x : Option Operand} (h : Agree tm tm2 x.toList) : opdO tm x = opdO tm2 x := by
  cases x with
  | none => rfl
  | some x => simp only [opdO, h x (by simp)]
theorem plain_congr {tm tm2 : Tr AV} : ∀ {l : List Operand}, Agree tm tm2 l → allPlain tm l = allPlain tm2 l
  | [], _ => rfl
  | x :: l, h => by
    simp only [allPlain, h x (by simp), plain_congr (h.sub (fun y hy => List.mem_cons_of_mem _ hy))]
theorem gen_congr {tm tm2 : Tr AV} {s : HS} {o : Oper} (h : Agree tm tm2 o.op.operands.toList) : gen P tm s o = gen P tm2 s o := by
  unfold gen
  cases hs : isSelect o.op with
  | true => rfl
  | false =>
    simp only
    rw [plain_congr h]
    have e : execOp (ρof tm) o = execOp (ρof tm2) o := execOp_congr o (fun cs b q => by rw [q] at hs; cases hs) (fun x hx => by
      unfold ρof
      rw [h x (by simpa using hx)])
    rw [e]
theorem evO_congr {tm tm2 : Tr AV} {s : HS} {o : Oper} (h : Agree tm tm2 o.op.operands.toList) : evO P tm s o = evO P tm2 s o := by
  have G := gen_congr (P := P) (s := s) h
  unfold evO
  cases ho : o.op with
  | move x => rw [ho] at h; simp only [evD, eMove, h x (by simp [Op.operands])]
  | assign x => rw [ho] at h; simp only [evD, eMove, h x (by simp [Op.operands])]
  | pick c a b => rw [ho] at h; simp only [evD, ePick, h c (by simp [Op.operands]), h a (by simp [Op.operands]), h b (by simp [Op.operands])]
  | alloc t => rfl
  | box t x => rw [ho] at h; simp only [evD, eBox, h x (by simp [Op.operands])]
  | build t ps =>
    rw [ho] at h
    simp only [evD, eBuild, G]
    rw [parts_congr (h.sub (by simp [Op.operands]))]
  | buildSlice t len ps =>
    rw [ho] at h
    simp only [evD, eBuildSlice]
    rw [parts_congr (h.sub (by simp [Op.operands]))]
  | load t x => rw [ho] at h; simp only [evD, eLoad, h x (by simp [Op.operands])]
  | store t x y => rw [ho] at h; simp only [evD, eStore, storeOf, h x (by simp [Op.operands]), h y (by simp [Op.operands])]
  | nilCheck x => rw [ho] at h; simp only [evD, eNil, h x (by simp [Op.operands])]
  | makeFunc f l c =>
    rw [ho] at h
    simp only [evD, eFunc]
    rw [opds_congr (l := l.toList) (h.sub (fun x hx => by simp [Op.operands]; exact .inl (by simpa using hx))), opds_congr (l := c.toList) (h.sub (fun x hx => by simp [Op.operands]; exact .inr (by simpa using hx)))]
  | makeSlice t l c => rw [ho] at h; simp only [evD, eMakeSlice, h l (by simp [Op.operands]), h c (by simp [Op.operands])]
  | slice t x lo hi mx =>
    rw [ho] at h
    simp only [evD, eSlice, G, h x (by simp [Op.operands])]
    rw [opdO_congr (x := lo) (h.sub (fun y hy => by simp [Op.operands]; simp at hy; simp [hy])), opdO_congr (x := hi) (h.sub (fun y hy => by simp [Op.operands]; simp at hy; simp [hy])), opdO_congr (x := mx) (h.sub (fun y hy => by simp [Op.operands]; simp at hy; simp [hy]))]
  | fieldAddr t x f => rw [ho] at h; simp only [evD, eFieldAddr, h x (by simp [Op.operands])]
  | indexAddr t x ix => rw [ho] at h; simp only [evD, eIndexAddr, h x (by simp [Op.operands]), h ix (by simp [Op.operands])]
  | field t x f => rw [ho] at h; simp only [evD, eField, h x (by simp [Op.operands])]
  | index t x ix => rw [ho] at h; simp only [evD, eIndex, G, h x (by simp [Op.operands]), h ix (by simp [Op.operands])]
  | extract x i => rw [ho] at h; simp only [evD, eExtract, G, h x (by simp [Op.operands])]
  | call c =>
    rw [ho] at h
    simp only [evD, eCall, G]
    rw [opds_congr (l := c.args.toList) (h.sub (fun x hx => by simp [Op.operands, Call.operands]; exact .inr (by simpa using hx)))]
  | binOp op t x y yt => rw [ho] at h; simp only [evD, eBin, G, h x (by simp [Op.operands]), h y (by simp [Op.operands])]
  | _ => simp only [evD, eGen, G]
theorem ev1_congr {tm tm2 : Tr AV} {s : HS} {o : Oper} (h : Agree tm tm2 o.op.operands.toList) : ev1 rec P tm s o = ev1 rec P tm2 s o := by
  have E := evO_congr (P := P) (s := s) h
  unfold ev1
  cases ho : o.op with
  | call c =>
    rw [ho] at h
    simp only [e1D, e1Call, E]
    cases hc : c.callee with
    | value f =>
      simp only
      rw [opds_congr (l := c.args.toList) (h.sub (fun x hx => by simp [Op.operands, Call.operands]; exact .inr (by simpa using hx))), h f (by simp [Op.operands, Call.operands, hc])]
    | _ => rfl
  | defer c => rfl
  | go c => rfl
  | _ => simp only [e1D, e1Plain, E]
theorem storeOf_congr {tm tm2 : Tr AV} {t : TypeId} {x y : Operand} (h1 : opd tm x = opd tm2 x) (h2 : opd tm y = opd tm2 y) : storeOf P tm t x y = storeOf P tm2 t x y := by
  unfold storeOf
  rw [h1, h2]

/-! ### Some of the temporaries -/
def restr (tm : Tr AV) : List Nat → Tr AV
  | [] => .leaf
  | t :: l => match tm.get t with
    | some v => Tr.set 14 (restr tm l) t v
    | none => restr tm l
theorem restr_get {tm : Tr AV} : ∀ {l : List Nat} {t : Nat} {v : AV}, (restr tm l).get t = some v → t ∈ l ∧ tm.get t = some v
  | [], t, v, h => by cases h
  | u :: l, t, v, h => by
    unfold restr at h
    split at h
    · rename_i x hx
      by_cases e : u = t
      · subst e
        rcases Tr.get_set_or 14 (restr tm l) u x with q | q
        · rw [q] at h; cases h; exact ⟨List.mem_cons_self, hx⟩
        · rw [q] at h
          obtain ⟨h1, h2⟩ := restr_get h
          exact ⟨List.mem_cons_of_mem _ h1, h2⟩
      · rw [Tr.get_set_other 14 _ _ _ _ e] at h
        obtain ⟨h1, h2⟩ := restr_get h
        exact ⟨List.mem_cons_of_mem _ h1, h2⟩
    · obtain ⟨h1, h2⟩ := restr_get h
      exact ⟨List.mem_cons_of_mem _ h1, h2⟩
theorem restr_in {tm : Tr AV} : ∀ {l : List Nat} {t : Nat}, t ∈ l → (∀ v, tm.get t = some v → t ≤ 16000) → (restr tm l).get t = tm.get t
  | [], t, h, _ => by cases h
  | u :: l, t, h, hb => by
    unfold restr
    by_cases e : u = t
    · subst e
      cases hx : tm.get u with
      | none =>
        simp only
        cases hy : (restr tm l).get u with
        | none => rfl
        | some v => rw [(restr_get hy).2] at hx; cases hx
      | some x =>
        simp only
        have := hb x hx
        exact Tr.get_set_same 14 _ _ _ (by omega)
    · have ht : t ∈ l := by
        rcases List.mem_cons.1 h with q | q
        · exact absurd q.symm e
        · exact q
      split
      · rw [Tr.get_set_other 14 _ _ _ _ e]
        exact restr_in ht hb
      · exact restr_in ht hb
theorem mem_tmpsOf : ∀ {l : List Operand} {m : List Nat} {t : Nat}, (Operand.tmp t ∈ l ∨ t ∈ m) → t ∈ tmpsOf l m
  | [], m, t, h => by
    rcases h with h | h
    · cases h
    · exact h
  | x :: l, m, t, h => by
    unfold tmpsOf
    cases x with
    | tmp u =>
      simp only
      refine mem_tmpsOf ?_
      rcases h with h | h
      · rcases List.mem_cons.1 h with q | q
        · cases q; exact .inr List.mem_cons_self
        · exact .inl q
      · exact .inr (List.mem_cons_of_mem _ h)
    | _ =>
      simp only
      refine mem_tmpsOf ?_
      rcases h with h | h
      · rcases List.mem_cons.1 h with q | q
        · cases q
        · exact .inl q
      · exact .inr h
theorem mem_addO {x : Option Nat} {l : List Nat} {t : Nat} (h : x = some t ∨ t ∈ l) : t ∈ addO x l := by
  cases x with
  | none =>
    rcases h with h | h
    · cases h
    · exact h
  | some u =>
    rcases h with h | h
    · cases h; exact List.mem_cons_self
    · exact List.mem_cons_of_mem _ h
theorem names_operand {L : List Oper} {o : Oper} {t : Nat} (h : Operand.tmp t ∈ o.op.operands.toList) : t ∈ namesOf L o := by
  unfold namesOf
  refine mem_addO (.inr ?_)
  split
  · exact mem_addO (.inr (mem_tmpsOf (.inl h)))
  · exact mem_tmpsOf (.inl h)
theorem names_guard {L : List Oper} {o : Oper} {j : Nat} {w : Bool} {t : Nat} (hg : o.guard = some (j, w)) (h : dstAt L j = some t) : t ∈ namesOf L o := by
  unfold namesOf
  refine mem_addO (.inr ?_)
  rw [hg]
  exact mem_addO (.inl h)
theorem wanted_congr {tm tm2 : Tr AV} {L : List Oper} {o : Oper} (h : ∀ t ∈ namesOf L o, tm.get t = tm2.get t) : wantedA tm L o = wantedA tm2 L o := by
  unfold wantedA
  cases hg : o.guard with
  | none => rfl
  | some q =>
    obtain ⟨j, w⟩ := q
    simp only
    cases hd : dstAt L j with
    | none => rfl
    | some t => simp only [h t (names_guard hg hd)]
theorem agree_of_names {tm tm2 : Tr AV} {L : List Oper} {o : Oper} (h : ∀ t ∈ namesOf L o, tm.get t = tm2.get t) : Agree tm tm2 o.op.operands.toList := fun x hx => by
  cases x with
  | tmp t => exact h t (names_operand hx)
  | _ => rfl

/-! ### One more -/
variable {sz N : Nat} {ops : Array Oper} {pr : Nat → Nat} {D : Nat → DS} {kd : Nat → Kd} {op : Nat → Oper} {tm0 : Tr AV} {s0 : HS} {S : Nat → Bool} {i : Nat}
theorem put_heap (C : Chain rec P sz ops N pr D kd op tm0 s0) (R : Ready N pr S i) (hex : ∀ b off cs, kd i = .store b off cs → b < (D i).s.n) : hS D kd (put1 S i) N = tstep (kd i) (D i).s.n (hS D kd S N) := by
  have hlt := R.lt
  have hF := (C.step i R.lt).2.2
  refine hS_put R (tstep (kd i) (D i).s.n) (fun _ => rfl) (fun j h1 h2 hSj x => ?_)
  have idle : ∀ (f : Hf → Hf), (∀ x, f x = x) → tstep (kd j) (D j).s.n (f x) = f (tstep (kd j) (D j).s.n x) := fun f hf => by rw [hf, hf]
  cases hk : kd i with
  | off => rfl
  | load v b off len => rfl
  | add v K s1 rel call =>
    rw [hk] at hF
    obtain ⟨n1, n2, n3⟩ := add_n C R.lt hk
    by_cases hne : s1.n = (D i).s.n
    · refine idle _ (fun x => ?_)
      funext b
      show (if (D i).s.n ≤ b ∧ b < s1.n then _ else _) = _
      rw [if_neg (by omega)]
    · have hrel : rel = true := by
        cases hr : rel with
        | true => rfl
        | false => exact absurd (hF.2.2.2.2.2.2.2.1 hr).2 hne
      have hr : isRel (kd i) = true := by rw [hk]; exact hrel
      have hi : isBar (kd i) = false := by rw [hk]; rfl
      have hnj : s1.n ≤ (D j).s.n := by rw [← n1]; exact C.nle (by omega) (by omega)
      cases hkj : kd j with
      | off => rfl
      | load v b off len => rfl
      | bar v2 s2 => rw [bars_out C R hr h1 h2 (by rw [hkj]; rfl)] at hSj; cases hSj
      | add v2 K2 s2 rel2 call2 =>
        funext b
        show (if (D j).s.n ≤ b ∧ b < s2.n then s2.H.get b else if (D i).s.n ≤ b ∧ b < s1.n then s1.H.get b else x b) = (if (D i).s.n ≤ b ∧ b < s1.n then s1.H.get b else if (D j).s.n ≤ b ∧ b < s2.n then s2.H.get b else x b)
        by_cases e1 : (D j).s.n ≤ b ∧ b < s2.n
        · rw [if_pos e1, if_neg (by omega), if_pos e1]
        · rw [if_neg e1, if_neg e1]
      | store b' off cs =>
        have hout : ¬ ((D i).s.n ≤ b' ∧ b' < s1.n) := by
          intro q
          have hl := lb_low C R hr hi h1 h2 hSj (by rw [hkj]; rfl)
          have ht := told_at C hl h1 (Nat.le_of_lt h2)
          rw [hk] at ht
          rcases new_known (store_fact_of C h2 hkj).2.2.2 with k | k
          · rw [(C.inv j (Nat.le_of_lt h2)).n0] at k
            have := C.nle (i := lb kd j) (j := i) hl (by omega)
            omega
          · have := k i (ht.1 hne)
            rw [R.not h2 this] at hSj
            cases hSj
        funext c
        show (if c = b' then spB (if (D i).s.n ≤ b' ∧ b' < s1.n then s1.H.get b' else x b') off cs else if (D i).s.n ≤ c ∧ c < s1.n then s1.H.get c else x c) = (if (D i).s.n ≤ c ∧ c < s1.n then s1.H.get c else if c = b' then spB (x b') off cs else x c)
        rw [if_neg hout]
        by_cases e : c = b'
        · subst e
          rw [if_pos rfl, if_neg hout, if_pos rfl]
        · rw [if_neg e, if_neg e]
  | store b off cs =>
    have hr : isRel (kd i) = true := by rw [hk]; rfl
    have hi : isBar (kd i) = false := by rw [hk]; rfl
    have hbn := hex b off cs hk
    have hnj : (D i).s.n ≤ (D j).s.n := C.nle (by omega) (by omega)
    cases hkj : kd j with
    | off => rfl
    | load v b off len => rfl
    | bar v2 s2 => rw [bars_out C R hr h1 h2 (by rw [hkj]; rfl)] at hSj; cases hSj
    | add v2 K2 s2 rel2 call2 =>
      funext c
      show (if (D j).s.n ≤ c ∧ c < s2.n then s2.H.get c else if c = b then spB (x b) off cs else x c) = (if c = b then spB (if (D j).s.n ≤ b ∧ b < s2.n then s2.H.get b else x b) off cs else if (D j).s.n ≤ c ∧ c < s2.n then s2.H.get c else x c)
      by_cases e : c = b
      · subst e
        rw [if_neg (by omega), if_pos rfl, if_pos rfl, if_neg (by omega)]
      · rw [if_neg e, if_neg e]
    | store b' off' cs' =>
      have hl := lb_low C R hr hi h1 h2 hSj (by rw [hkj]; rfl)
      have ht := told_at C hl h1 (Nat.le_of_lt h2)
      rw [hk] at ht
      funext c
      show (if c = b' then spB (if b' = b then spB (x b) off cs else x b') off' cs' else if c = b then spB (x b) off cs else x c) = (if c = b then spB (if b = b' then spB (x b') off' cs' else x b) off cs else if c = b' then spB (x b') off' cs' else x c)
      by_cases e : b' = b
      · subst e
        rw [if_pos rfl, if_pos rfl]
        by_cases e2 : c = b'
        · rw [if_pos e2, if_pos e2]
          refine spB_comm _ ?_
          rcases besides_ok (store_fact_of C h2 hkj).1 _ ht with k | k | k | k
          · rw [R.not h2 k] at hSj; cases hSj
          · exact absurd rfl k
          · simp only at k; exact .inr k
          · simp only at k; exact .inl k
        · rw [if_neg e2, if_neg e2, if_neg e2, if_neg e2]
      · rw [if_neg e, if_neg (Ne.symm e)]
        by_cases e2 : c = b'
        · rw [if_pos e2, if_neg (by omega), if_pos e2]
        · rw [if_neg e2, if_neg e2]
  | bar v s1 =>
    have hr : isRel (kd i) = true := by rw [hk]; rfl
    have hn : isRel (kd j) = false := by
      cases hq : isRel (kd j) with
      | false => rfl
      | true =>
        have := within_bits (fact_bars (C.step j h2).2.2 hq) ((C.inv j (Nat.le_of_lt h2)).bars i h1 (by rw [hk]; rfl))
        rw [R.not h2 this] at hSj
        cases hSj
    have idj : ∀ y, tstep (kd j) (D j).s.n y = y := fun y => by
      cases hkj : kd j with
      | off => rfl
      | add v2 K2 s2 rel2 call2 =>
        rw [hkj] at hn
        have hFj := (C.step j h2).2.2
        rw [hkj] at hFj
        have hn' : rel2 = false := hn
        have e := (hFj.2.2.2.2.2.2.2.1 hn').2
        funext b
        show (if (D j).s.n ≤ b ∧ b < s2.n then _ else _) = _
        rw [if_neg (by omega)]
      | _ => rw [hkj] at hn; cases hn
    rw [idj, idj]
end
end Go.Proofs.Ytchlehpjpgeejaa.Ev
