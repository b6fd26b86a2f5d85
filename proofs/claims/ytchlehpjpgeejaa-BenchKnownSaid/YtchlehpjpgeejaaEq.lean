/- Straight code on known values. -/
import Derived.Test.YtchlehpjpgeejaaEp
import Derived.TacticsIn
namespace Go.Proofs.Ytchlehpjpgeejaa.Ev
set_option linter.unusedVariables false
set_option linter.unusedSimpArgs false
open Go
noncomputable section
variable {σ : Env} {P : Program} {w : World} {s s' : HS} {F : Fence} {n : Nat} {rec : Rec}

theorem opOK_call (hW : Wide F) {o : Oper} {a : Act} {v : AV} {k : FuncId} {args : Array Value} (hd : ∀ c, o.op ≠ .defer c) (he : (execOp a.eval o).run P w = .ok (.enter k args) w)
    (h : ∀ n, CallsIn F n P k args w (Ret σ w s v s')) : OpOK F n P o a σ w s v s' := by
  intro K Q hK
  refine ⟨fun f _ => hW.fn f, ?_⟩
  rw [Oper.semAt_plain F _ _ hd, he]
  refine ⟨hW.le, CallsIn.mono (h _) (fun e w' he => ?_)⟩
  obtain ⟨r, σ', rfl, h1, h2⟩ := he
  exact hK r σ' w' h1 h2
theorem opOK_round (hW : Wide F) {o : Oper} {a : Act} {v : AV} {l : Nat} {f : FuncId} {tmps : Array Value} {assign body : Code} (hd : ∀ c, o.op ≠ .defer c)
    (he : (execOp a.eval o).run P w = .ok (.round l f tmps assign body) w) (h : ∀ n, RoundIn F n P l f tmps assign body w (Ret σ w s v s')) : OpOK F n P o a σ w s v s' := by
  intro K Q hK
  refine ⟨fun f _ => hW.fn f, ?_⟩
  rw [Oper.semAt_plain F _ _ hd, he]
  refine ⟨hW.le, RoundIn.mono (h _) (fun e w' he => ?_)⟩
  obtain ⟨r, σ', rfl, h1, h2⟩ := he
  exact hK r σ' w' h1 h2
theorem ev1_sound (hr : SoundC P rec) {tm : Tr AV} {o : Oper} {v : AV} (h : ev1 rec P tm s o = some (v, s')) :
    s.n ≤ s'.n ∧ ∀ (F : Fence) (n : Nat) (σ : Env) (a : Act) (w : World) (sz : Nat), Wide F → Good s → Sim s.H σ w → Free σ s.n s'.n → Tm σ tm sz a.tmps → OpOK F n P o a σ w s v s' := by
  have plain : (∀ c, o.op ≠ .defer c) → evO P tm s o = some (v, s') → s.n ≤ s'.n ∧ ∀ (F : Fence) (n : Nat) (σ : Env) (a : Act) (w : World) (sz : Nat), Wide F → Good s → Sim s.H σ w → Free σ s.n s'.n → Tm σ tm sz a.tmps → OpOK F n P o a σ w s v s' :=
    fun hd h => ⟨evO_n h, fun F n σ a w sz hW g hs hf ht => evO_sound' h (evO_n h) hd hW g hs hf ht⟩
  unfold ev1 at h
  cases ho : o.op with
  | call c =>
    have hd : ∀ c, o.op ≠ .defer c := fun c q => by rw [ho] at q; cases q
    rw [ho] at h
    simp only [e1D, e1Call] at h
    cases hc : c.callee with
    | builtin b => rw [hc] at h; exact plain hd h
    | invoke r m => rw [hc] at h; cases h
    | value f =>
      rw [hc] at h
      simp only [e1Go] at h
      split at h
      · cases h
      · rename_i x l hl
        split at h
        · cases h
        · rename_i y g hg
          split at h
          · rename_i b
            obtain ⟨h1, h2⟩ := rndF_sound hr h
            refine ⟨h1, fun F n σ a w sz hW gd hs hf ht => ?_⟩
            have eg := opd_den ht hg
            simp only [den, Option.map_eq_some_iff] at eg
            obtain ⟨B, hB, eg⟩ := eg
            have el : denL σ l = some (c.args.map a.eval).toList := by simpa using opds_den ht hl
            obtain ⟨L, q1, q2, _⟩ := h2 F 0 σ w _ B hW gd hs hf el hB
            refine opOK_round hW hd (exec_yield ho hc eg.symm q1 (by simpa using q2)) (fun n => ?_)
            obtain ⟨L', q1', _, q3⟩ := h2 F n σ w _ B hW gd hs hf el hB
            rw [q1] at q1'
            cases q1'
            exact q3
          · rename_i hny
            split at h
            · rename_i k first cap ht'
              obtain ⟨h1, h2⟩ := callO_sound hr h
              obtain ⟨fn, cd, hf1, hf2, hf3⟩ := callO_some hr h
              refine ⟨h1, fun F n σ a w sz hW gd hs hf ht => ?_⟩
              obtain ⟨ls, cs, eg, e1, e2⟩ := target_ok ht' (opd_den ht hg)
              have el := opds_den ht hl
              refine opOK_call hW hd (exec_call ho hc eg hf1 hf2 hf3) (fun n => ?_)
              have := h2 F n σ w (ls ++ c.args.toList.map a.eval ++ cs) hW gd hs hf (denL_append (denL_append e1 el) e2)
              have ea : (ls ++ c.args.toList.map a.eval ++ cs).toArray = ls.toArray ++ c.args.map a.eval ++ cs.toArray := by
                apply Array.ext'
                simp
              rw [ea] at this
              exact this
            · cases h
  | defer c => rw [ho] at h; cases h
  | go c => rw [ho] at h; cases h
  | _ =>
    rw [ho] at h
    exact plain (fun c q => by rw [ho] at q; cases q) h
/-- Operations in the text's order. -/
theorem evOps_sound (hr : SoundC P rec) {sz : Nat} {ops : Array Oper} (hsz : sz ≤ 16000) : ∀ {l : List Oper} {tm tm' : Tr AV} {s s' : HS}, evOps rec P sz ops.toList l tm s = some (tm', s') →
    s.n ≤ s'.n ∧ ∀ (F : Fence) (n : Nat) (σ : Env) (a : Act) (w : World) (Q : Exit → Act → World → Prop), Wide F → Good s → Sim s.H σ w → Free σ s.n s'.n → Tm σ tm sz a.tmps →
      (∀ σ' a' w', Moved s σ w s' σ' w' → Tm σ' tm' sz a'.tmps → a'.defers = a.defers → Q .normal a' w') → wpListIn F n P ops Q l a w
  | [], tm, tm', s, s', h => by
    simp only [evOps] at h
    cases h
    exact ⟨Nat.le_refl _, fun F n σ a w Q hW g hs hf ht k => k σ a w (Moved.refl g hs) ht rfl⟩
  | o :: l, tm, tm', s, s', h => by
    unfold evOps at h
    split at h
    · cases h
    · rename_i hw
      split at h
      · rename_i tm1 hp
        obtain ⟨h1, h2⟩ := evOps_sound hr hsz h
        refine ⟨h1, fun F n σ a w Q hW g hs hf ht k => ?_⟩
        have hw' := wanted_ok hw ht
        unfold wpListIn
        rw [if_neg (by rw [hw']; simp)]
        refine ⟨fun f _ => hW.fn f, h2 F n σ _ w Q hW g hs hf (putT_ok hp hsz ht rfl) (fun σ' a' w' m t d => k σ' a' w' m t (by rw [d, put_defers]))⟩
      · cases h
    · rename_i hw
      split at h
      · cases h
      · rename_i v s1 h1
        split at h
        · rename_i tm1 hp
          obtain ⟨l1, c1⟩ := ev1_sound hr h1
          obtain ⟨l2, c2⟩ := evOps_sound hr hsz h
          refine ⟨Nat.le_trans l1 l2, fun F n σ a w Q hW g hs hf ht k => ?_⟩
          have hw' := wanted_ok hw ht
          have hf1 : Free σ s.n s1.n := hf.sub (Nat.le_refl _) l2
          unfold wpListIn
          rw [if_pos hw']
          refine c1 F n σ a w sz hW g hs hf1 ht _ _ (fun r σ1 w1 hd m1 => ?_)
          refine c2 F n σ1 _ w1 Q hW (m1.good g) m1.sim (m1.free hf) (putT_ok hp hsz (ht.le (m1.env_le hf1)) hd) (fun σ' a' w' m t d => ?_)
          exact k σ' a' w' (m1.trans g m) t (by rw [d, put_defers])
        · cases h

/-! ### Codes -/
theorem stepR_scope {b : Frame} {a : Act} {k : List Item} {cs : List Frame} {c : Code} : step P (lone (b.atR a (.code (.scope c) :: k)) cs w) = .next (lone (b.atR a (.code c :: .inScope c :: k)) cs w) :=
  step_lone_go (by simp [stepG, stepG.exec, Frame.atR])
theorem stepR_inScope {b : Frame} {a : Act} {k : List Item} {cs : List Frame} {c : Code} : step P (lone (b.atR a (.inScope c :: k)) cs w) = .next (lone (b.atR a k) cs w) :=
  step_lone_go (by simp [stepG, stepG.exec, Frame.atR])
theorem wpIn_scope {Q : Exit → Act → World → Prop} {a : Act} {c : Code} (h : c.wpIn F n P (fun e a w => (∀ l, e ≠ .goto l) ∧ Q e a w) a w) : (Code.scope c).wpIn F n P Q a w := by
  intro b k cs hro hb hr
  have h0 : (lone (b.atR a (.code (.scope c) :: k)) cs w).fenced P F := fenced_calm hb hr rfl
  obtain ⟨e, a₁, w₁, hq, harr⟩ := h b (.inScope c :: k) cs hro hb hr
  cases e with
  | normal => exact ⟨.normal, a₁, w₁, hq.2, .head h0 stepR_scope (StepsIn.trans harr (.one (fenced_calm hb hr rfl) stepR_inScope))⟩
  | exit id =>
    have hx : exitTo id (.inScope c :: k) = exitTo id k := by simp [exitTo]
    exact ⟨_, a₁, w₁, hq.2, fun k' hk => .head h0 stepR_scope (harr.1 k' (by rw [hx]; exact hk)),
      fun hr' hk => let ⟨k₁, h1, h2⟩ := harr.2 hr' (by rw [hx]; exact hk); ⟨k₁, h1, .head h0 stepR_scope h2⟩⟩
  | goto l => exact absurd rfl (hq.1 l)
  | ret => exact ⟨_, a₁, w₁, hq.2, .of_steps (.one h0 stepR_scope) harr⟩
  | panic ch => exact ⟨_, a₁, w₁, hq.2, .of_steps (.one h0 stepR_scope) harr⟩
  | outgrown => exact ⟨_, a₁, w₁, hq.2, .of_steps (.one h0 stepR_scope) harr⟩
/-- A region whose order is open does what the computation says. -/
def DrawOK (P : Program) (rec : Rec) : Prop := ∀ (sz : Nat) (id : Nat) (ops : Array Oper) (tm tm' : Tr AV) (s s' : HS), evDraw rec P sz ops tm s = some (tm', s') → sz ≤ 16000 →
  s.n ≤ s'.n ∧ ∀ (F : Fence) (n : Nat) (σ : Env) (a : Act) (w : World) (Q : Exit → Act → World → Prop), Wide F → Good s → Sim s.H σ w → Free σ s.n s'.n → Tm σ tm sz a.tmps →
    (∀ σ' a' w', Moved s σ w s' σ' w' → Tm σ' tm' sz a'.tmps → a'.defers = a.defers → Q .normal a' w') → (Code.region id ops true).wpIn F n P Q a w
/-- A piece of code, computed so, is run so. -/
def Ok1 (P : Program) (rd : Option Nat) (sz : Nat) (c : Code) (fs : FS) (e : Exit) (fs' : FS) : Prop :=
  fs.s.n ≤ fs'.s.n ∧ ∀ (F : Fence) (n : Nat) (σ : Env) (a : Act) (w : World), Wide F → RdOK rd F σ → St σ sz fs a w → Free σ fs.s.n fs'.s.n → c.wpIn F n P (Post σ sz fs w e fs') a w
theorem post_same {sz : Nat} {fs : FS} {e : Exit} {a : Act} (st : St σ sz fs a w) : Post σ sz fs w e fs e a w := ⟨rfl, σ, Moved.refl st.good st.sim, st.tm, st.df⟩
theorem post_trans {sz : Nat} {fs f1 fs' : FS} {e e' : Exit} {σ1 : Env} {a' : Act} {w1 w' : World} (g : Good fs.s) (m : Moved fs.s σ w f1.s σ1 w1) (h : Post σ1 sz f1 w1 e fs' e' a' w') : Post σ sz fs w e fs' e' a' w' := by
  obtain ⟨h1, σ', h2, h3, h4⟩ := h
  exact ⟨h1, σ', m.trans g h2, h3, h4⟩
theorem ok_seq {rd : Option Nat} {sz : Nat} {x y : Code} {fs f1 fs' : FS} {e : Exit} (h1 : Ok1 P rd sz x fs .normal f1) (h2 : Ok1 P rd sz y f1 e fs') : Ok1 P rd sz (.seq x y) fs e fs' := by
  refine ⟨Nat.le_trans h1.1 h2.1, fun F n σ a w hW hro st hf => wpIn_seq ?_⟩
  have hf1 : Free σ fs.s.n f1.s.n := hf.sub (Nat.le_refl _) h2.1
  refine wpIn_mono (h1.2 F n σ a w hW hro st hf1) (fun e' a' w' hp => ?_)
  obtain ⟨σ1, rfl, m1, st1⟩ := hp.st st.good
  refine wpIn_mono (h2.2 F n σ1 a' w' hW (hro.le (m1.env_le hf1)) st1 (m1.free hf)) (fun e2 a2 w2 hp2 => post_trans st.good m1 hp2)
theorem ok_seq_out {rd : Option Nat} {sz : Nat} {x y : Code} {fs fs' : FS} {e : Exit} (h1 : Ok1 P rd sz x fs e fs') (he : e ≠ .normal) : Ok1 P rd sz (.seq x y) fs e fs' := by
  refine ⟨h1.1, fun F n σ a w hW hro st hf => wpIn_seq ?_⟩
  refine wpIn_mono (h1.2 F n σ a w hW hro st hf) (fun e' a' w' hp => ?_)
  have := hp.1
  subst this
  cases e' <;> first | exact absurd rfl he | exact hp
theorem ok_block {rd : Option Nat} {sz id : Nat} {x : Code} {fs fs' : FS} {e e' : Exit} (h1 : Ok1 P rd sz x fs e fs') (he : outOf id (some (e, fs')) = some (e', fs')) : Ok1 P rd sz (.block id x) fs e' fs' := by
  refine ⟨h1.1, fun F n σ a w hW hro st hf => wpIn_block ?_⟩
  refine wpIn_mono (h1.2 F n σ a w hW hro st hf) (fun e2 a2 w2 hp => ?_)
  obtain ⟨rfl, σ', m, t, d⟩ := hp
  cases e2 with
  | exit i =>
    simp only [outOf] at he
    cases hb : Nat.beq i id with
    | true =>
      rw [hb] at he
      cases he
      simp only [Exit.inBlock, Nat.eq_of_beq_eq_true hb, if_true]
      exact ⟨rfl, σ', m, t, d⟩
    | false =>
      rw [hb] at he
      cases he
      have : i ≠ id := fun q => by rw [q, Nat.beq_refl] at hb; cases hb
      simp only [Exit.inBlock, this, if_false]
      exact ⟨rfl, σ', m, t, d⟩
  | _ =>
    simp only [outOf] at he
    cases he
    exact ⟨rfl, σ', m, t, d⟩
theorem ok_scope {rd : Option Nat} {sz : Nat} {x : Code} {fs fs' : FS} {e : Exit} (h1 : Ok1 P rd sz x fs e fs') (he : ∀ l, e ≠ .goto l) : Ok1 P rd sz (.scope x) fs e fs' := by
  refine ⟨h1.1, fun F n σ a w hW hro st hf => wpIn_scope ?_⟩
  refine wpIn_mono (h1.2 F n σ a w hW hro st hf) (fun e2 a2 w2 hp => ?_)
  have := hp.1
  subst this
  exact ⟨he, hp⟩
theorem loop_ok {rd : Option Nat} {sz : Nat} {x : Code} {body : FS → Option (Exit × FS)} (hb : ∀ fs e fs', body fs = some (e, fs') → Ok1 P rd sz x fs e fs') : ∀ {k : Nat} {fs fs' : FS} {e : Exit}, evLoop body k fs = some (e, fs') →
    fs.s.n ≤ fs'.s.n ∧ ∀ (F : Fence) (n : Nat) (σ : Env) (a : Act) (w : World), Wide F → RdOK rd F σ → St σ sz fs a w → Free σ fs.s.n fs'.s.n → Code.roundsIn F n P x (Post σ sz fs w e fs') k a w
  | 0, fs, fs', e, h => by cases h
  | k + 1, fs, fs', e, h => by
    unfold evLoop at h
    split at h
    · rename_i f1 h1
      have o1 := hb _ _ _ h1
      obtain ⟨l2, c2⟩ := loop_ok hb h
      refine ⟨Nat.le_trans o1.1 l2, fun F n σ a w hW hro st hf => ?_⟩
      have hf1 : Free σ fs.s.n f1.s.n := hf.sub (Nat.le_refl _) l2
      rw [roundsIn_succ]
      refine wpIn_mono (o1.2 F n σ a w hW hro st hf1) (fun e' a' w' hp => ?_)
      obtain ⟨σ1, rfl, m1, st1⟩ := hp.st st.good
      have hrec := c2 F n σ1 a' w' hW (hro.le (m1.env_le hf1)) st1 (m1.free hf)
      show Code.roundsIn F n P x (Post σ sz fs w e fs') k a' w'
      have mono : ∀ {k : Nat} {Q Q' : Exit → Act → World → Prop}, (∀ e a w, Q e a w → Q' e a w) → ∀ {a : Act} {w : World}, Code.roundsIn F n P x Q k a w → Code.roundsIn F n P x Q' k a w := by
        intro k
        induction k with
        | zero => intro Q Q' hq a w h; exact h.elim
        | succ k ih =>
          intro Q Q' hq a w h
          rw [roundsIn_succ] at h ⊢
          refine wpIn_mono h (fun e a w hh => ?_)
          cases e with
          | normal => exact ih hq hh
          | _ => exact hq _ _ _ hh
      exact mono (fun e2 a2 w2 hp2 => post_trans st.good m1 hp2) hrec
    · rename_i hnot
      have o1 := hb _ _ _ h
      refine ⟨o1.1, fun F n σ a w hW hro st hf => ?_⟩
      rw [roundsIn_succ]
      refine wpIn_mono (o1.2 F n σ a w hW hro st hf) (fun e' a' w' hp => ?_)
      have := hp.1
      subst this
      cases e' with
      | normal => exact absurd h (hnot fs')
      | _ => exact hp
end
end Go.Proofs.Ytchlehpjpgeejaa.Ev
