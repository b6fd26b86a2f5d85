/- Loops over functions, and all code, on known values. -/
import Derived.Test.YtchlehpjpgeejaaEq
namespace Go.Proofs.Ytchlehpjpgeejaa.Ev
set_option linter.unusedVariables false
set_option linter.unusedSimpArgs false
open Go
noncomputable section
variable {σ : Env} {P : Program} {w : World} {s s' : HS} {F : Fence} {n : Nat} {rec : Rec}

theorem run_endLoop {B : Nat} {L : Loop} (h : w.heap[B]? = some (.loop L)) (hr : L.state ≠ .busy) : (Instr.endLoop B).run P w = .ok L.pending (setBlock w B (.loop { L with state := .exhausted })) := by
  unfold Instr.endLoop
  rw [Sem.run_bind, run_getLoop h]
  have hb : (L.state == LoopState.busy) = false := by cases hs : L.state <;> first | rfl | exact absurd hs hr
  simp only [Result.andThen_ok, hb, Bool.false_eq_true, if_false, Sem.run_bind, run_setObj h, Sem.run_pure]
theorem endRange_n {tm : Tr AV} {df mark : List Nat} {l : Nat} {s2 : HS} {e : Exit} {fs' : FS} (h : endRange tm df l mark s2 = some (e, fs')) : fs'.s.n = s2.n := by
  unfold endRange at h
  repeat' (split at h)
  all_goals first
    | (cases h; done)
    | (cases h; show (HS.upd _ _ _).n = _; rw [HS.upd_eq])
theorem endRange_ok {tm : Tr AV} {df mark : List Nat} {l B : Nat} {s2 : HS} {e : Exit} {fs' : FS} {a : Act} {Q : Exit → Act → World → Prop} (h : endRange tm df l mark s2 = some (e, fs')) (g : Good s2) (hs : Sim s2.H σ w)
    (hl : σ.blk l = some B) (k : ∀ w', Moved s2 σ w fs'.s σ w' → fs'.tm = tm → fs'.df = mark ++ df → Q e a w') :
    ∃ jump w4, (Instr.endLoop B).run P w = .ok jump w4 ∧ (match jump with
       | none => Q .normal a w4
       | some c => c.wpIn F n P Q a w4) := by
  unfold endRange at h
  split at h
  · rename_i st pend tm2 sz2 params2 assign2 body2 df2 hg
    obtain ⟨B', o, q1, q2, q3⟩ := hs.1 l _ hg
    rw [hl] at q1
    cases q1
    obtain ⟨fn, tmps, D, r1, r2, rfl⟩ := q3
    have hm := moved_upd g hs (b := l) (by rw [hg]; simp) hl (.loop .exhausted pend tm2 sz2 params2 assign2 body2 df2)
      (.loop { state := .exhausted, pending := pend, fn := fn, tmps := tmps, params := params2, assign := assign2, body := body2, defers := D }) ⟨fn, tmps, D, r1, r2, rfl⟩
    split at h
    · cases h
    · rename_i hst
      have he := run_endLoop (P := P) q2 (by simpa using hst)
      split at h
      · cases h; exact ⟨_, _, he, k _ hm rfl rfl⟩
      · cases h; exact ⟨_, _, he, wpIn_ret (k _ hm rfl rfl)⟩
      · cases h; exact ⟨_, _, he, wpIn_exit (k _ hm rfl rfl)⟩
      · cases h
  · cases h
theorem enterA_n {rd : Option Nat} {params : Array Tmp} {assign body : Code} {sz : Nat} {fs : FS} {l : Nat} {mark : List Nat} {s1 : HS} (h : enterA rd params assign body sz fs = some (l, mark, s1)) : fs.s.n ≤ s1.n := by
  obtain ⟨tm, df, s⟩ := fs
  unfold enterA at h
  split at h
  · simp only at h
    cases h
    exact Nat.le_trans (Nat.le_succ _) (Nat.le_succ _)
  · simp only at h
    split at h
    · cases h
      exact Nat.le_succ _
    · cases h
theorem enterA_ok {rd : Option Nat} {params : Array Tmp} {assign body : Code} {sz : Nat} {fs : FS} {l : Nat} {mark : List Nat} {s1 : HS} {a : Act} {fn : FuncId} (h : enterA rd params assign body sz fs = some (l, mark, s1)) (hro : RdOK rd F σ) (st : St σ sz fs a w) (hf : Free σ fs.s.n s1.n) :
    ∃ L mk w1 σ1, (Instr.enterLoop fn a.tmps params assign body F.round).run P w = .ok (L, mk) w1 ∧ σ1.blk l = some L ∧ Df σ1 mark mk ∧ Moved fs.s σ w s1 σ1 w1 := by
  obtain ⟨tm, df, s⟩ := fs
  have g := st.good
  have hs := st.sim
  unfold enterA at h
  split at h
  · simp only at h
    cases h
    have hro' : F.round = none := hro
    have f0 : σ.blk s.n = none := hf s.n (Nat.le_refl _) (by show s.n < s.n + 1 + 1; omega)
    have m1 := moved_new g hs f0 (.defd true) (.deferred (some [])) 0 rfl
    have g1 := m1.good g
    have f1 : (σ.put s.n w.heap.size 0).blk (s.n + 1) = none := by
      rw [(Env.put_ne σ w.heap.size 0 (by omega)).1]
      exact hf (s.n + 1) (by show s.n ≤ s.n + 1; omega) (by show s.n + 1 < s.n + 1 + 1; omega)
    have le1 : (σ.put s.n w.heap.size 0).le ((σ.put s.n w.heap.size 0).put (s.n + 1) (w.alloc (.deferred (some []))).heap.size 0) := Env.put_le f1
    have m2 := moved_new g1 m1.sim f1 (.loop .ready none tm sz params assign body s.n)
      (.loop { state := .ready, pending := none, fn := fn, tmps := a.tmps, params := params, assign := assign, body := body, defers := w.heap.size }) 0
      ⟨fn, a.tmps, w.heap.size, (st.tm.le (Env.put_le f0)).le le1, (le1 _ _ (Env.put_at _ _ _ _)).1, rfl⟩
    refine ⟨_, [{ target := .collected w.heap.size, args := #[] }], _, _, ?_, Env.put_at _ _ _ _, ⟨⟨w.heap.size, (le1 _ _ (Env.put_at _ _ _ _)).1, rfl⟩, trivial⟩, m1.trans g m2⟩
    rw [hro']
    unfold Instr.enterLoop
    simp only [Sem.run_bind, run_newObj, Result.andThen_ok, Sem.run_pure]
    rfl
  · rename_i b
    simp only at h
    split at h
    · rename_i st' pend tm2 sz2 params2 assign2 body2 df2 hg
      cases h
      obtain ⟨B, hB1, hB2⟩ := hro
      obtain ⟨B', o, q1, q2, q3⟩ := hs.1 b _ hg
      rw [hB2] at q1
      cases q1
      obtain ⟨fn2, tmps2, D, r1, r2, rfl⟩ := q3
      have f0 : σ.blk s.n = none := hf s.n (Nat.le_refl _) (Nat.lt_succ_self _)
      have le1 : σ.le (σ.put s.n w.heap.size 0) := Env.put_le f0
      have m1 := moved_new g hs f0 (.loop .ready none tm sz params assign body df2)
        (.loop { state := .ready, pending := none, fn := fn, tmps := a.tmps, params := params, assign := assign, body := body, defers := D }) 0
        ⟨fn, a.tmps, D, st.tm.le le1, (le1 _ _ r2).1, rfl⟩
      refine ⟨_, [], _, _, ?_, Env.put_at _ _ _ _, trivial, m1⟩
      rw [hB1]
      unfold Instr.enterLoop
      simp only [Sem.run_bind, run_getLoop q2, Sem.run_pure, run_newObj, Result.andThen_ok]
      rfl
    · cases h
theorem range_ok (hr : SoundC P rec) {rd : Option Nat} {sz : Nat} {gx : Operand} {params : Array Tmp} {assign body : Code} {fs fs' : FS} {e : Exit} (h : cRange gx params assign body rec P rd sz fs = some (e, fs')) :
    Ok1 P rd sz (.rangeFunc gx params assign body) fs e fs' := by
  obtain ⟨tm, df, s⟩ := fs
  unfold cRange at h
  simp only at h
  split at h
  · cases h
  · rename_i gv hgv
    split at h
    · cases h
    · rename_i k first cap ht
      split at h
      · cases h
      · rename_i l mark s1 he
        split at h
        · cases h
        · rename_i v s2 hc
          have n1 : s.n ≤ s1.n := enterA_n he
          obtain ⟨n2, hcall⟩ := callO_sound hr hc
          obtain ⟨fn, cd, hf1, hf2, hf3⟩ := callO_some hr hc
          have n3 := endRange_n h
          refine ⟨by show s.n ≤ fs'.s.n; omega, fun F n σ a w hW hro st hf => ?_⟩
          have hfa : Free σ s.n s1.n := hf.sub (Nat.le_refl _) (by omega)
          have hgv' := opd_den st.tm hgv
          obtain ⟨ls, cs, eg, e1, e2⟩ := target_ok ht hgv'
          refine wpIn_rangeFunc (fun fid hfid => ?_)
          obtain ⟨L, mk, w1, σ1, x1, x2, x3, m1⟩ := enterA_ok (P := P) (fn := fid) he hro st hfa
          have le1 := m1.env_le hfa
          have g1 := m1.good st.good
          have fr1 : Free σ1 s1.n s2.n := by
            have q := m1.free (b := s2.n) (hf.sub (Nat.le_refl _) (by omega))
            exact q
          have hx : denL σ1 (first ++ [.yld l] ++ cap) = some (ls ++ [Value.func (.yield L) #[] #[]] ++ cs) :=
            denL_append (denL_append (denL_le le1 _ _ e1) (by simp only [denL, den, x2, Option.map_some])) (denL_le le1 _ _ e2)
          have hcs := hcall F (n - 1) σ1 w1 _ hW g1 m1.sim fr1 hx
          refine ⟨L, mk, w1, { target := .fn (.func k) cs.toArray, args := ls.toArray ++ #[Value.func (.yield L) #[] #[]] }, w1, k, (ls ++ [Value.func (.yield L) #[] #[]] ++ cs).toArray, w1, x1, ?_, fun f' _ => hW.fn f', ?_, hW.le, ?_⟩
          · simp only [resolve, rangeCall, eg, Deferred.ofValue]
            show (pure _ : Sem Deferred).run P w1 = _
            simp only [Sem.run_pure, List.map_toArray, List.map_cons, List.map_nil, Act.eval]
          · show (callFunc k (ls.toArray ++ #[Value.func (.yield L) #[] #[]] ++ cs.toArray)).run P w1 = _
            rw [run_callFunc hf1 hf2 hf3]
            congr 2
            apply Array.ext'
            simp
          · refine CallsIn.mono hcs (fun e' w' hret => ?_)
            obtain ⟨r, σ2, rfl, hd, m2⟩ := hret
            have le2 := m2.env_le fr1
            refine endRange_ok (σ := σ2) h (m2.good g1) m2.sim (le2 l L x2).1 (fun w4 m3 t3 d3 => ?_)
            refine ⟨rfl, σ2, (m1.trans st.good m2).trans st.good m3, ?_, ?_⟩
            · rw [t3]
              exact (st.tm.le le1).le le2
            · rw [d3]
              exact ((x3.le le2).append ((st.df.le le1).le le2))
theorem step_ok (hr : SoundC P rec) (hdr : DrawOK P rec) : SoundC P (stepC rec P) := by
  refine ⟨?_, hr.orc⟩
  intro rd sz c fs e fs' h hsz
  have R : ∀ {c : Code} {fs : FS} {e : Exit} {fs' : FS}, rec rd sz c fs = some (e, fs') → Ok1 P rd sz c fs e fs' := fun h => hr.code _ _ _ _ _ _ h hsz
  have trivialEnd : ∀ {c : Code} {e : Exit}, (∀ {F : Fence} {n : Nat} {Q : Exit → Act → World → Prop} {a : Act} {w : World}, Q e a w → c.wpIn F n P Q a w) → Ok1 P rd sz c fs e fs :=
    fun hq => ⟨Nat.le_refl _, fun F n σ a w hW hro st hf => hq (post_same st)⟩
  unfold stepC at h
  cases c with
  | skip => cases h; exact trivialEnd wpIn_skip
  | label l => cases h; exact trivialEnd wpIn_label
  | exit id => cases h; exact trivialEnd wpIn_exit
  | ret => cases h; exact trivialEnd wpIn_ret
  | goto l => cases h
  | refuse y => cases h
  | seq x y =>
    simp only [cD, cSeq] at h
    split at h
    · rename_i f1 h1
      exact ok_seq (R h1) (R h)
    · rename_i hnot
      exact ok_seq_out (R h) (fun q => by subst q; exact hnot _ h)
  | cond x y z =>
    simp only [cD, cCond] at h
    split at h
    · rename_i hx
      have o1 := R h
      refine ⟨o1.1, fun F n σ a w hW hro st hf => wpIn_cond_true ?_ (o1.2 F n σ a w hW hro st hf)⟩
      have := opd_den st.tm hx
      simpa [den] using this.symm
    · rename_i hx
      have o1 := R h
      refine ⟨o1.1, fun F n σ a w hW hro st hf => wpIn_cond_false ?_ (o1.2 F n σ a w hW hro st hf)⟩
      have := opd_den st.tm hx
      simpa [den] using this.symm
    · cases h
  | block id x =>
    simp only [cD, cBlock] at h
    cases hx : rec rd sz x fs with
    | none => rw [hx] at h; cases h
    | some q =>
      obtain ⟨e1, f1⟩ := q
      rw [hx] at h
      have hf1 : fs' = f1 := by
        unfold outOf at h
        split at h
        · rename_i heq
          cases heq
          split at h
          · cases h; rfl
          · cases h; rfl
        · cases h; rfl
      subst hf1
      exact ok_block (R hx) h
  | loop x =>
    simp only [cD, cLoop] at h
    obtain ⟨l1, c1⟩ := loop_ok (fun fs e fs' h => R h) h
    exact ⟨l1, fun F n σ a w hW hro st hf => wpIn_loop_rounds _ (c1 F n σ a w hW hro st hf)⟩
  | scope x =>
    simp only [cD, cScope] at h
    split at h
    · cases h
    · rename_i hnot
      exact ok_scope (R h) (fun l q => by subst q; exact hnot _ _ h)
  | rangeFunc gx ps x y =>
    exact range_ok hr h
  | region id ops draw =>
    obtain ⟨tm, df, s⟩ := fs
    simp only [cD, cRegion] at h
    cases draw with
    | false =>
      simp only at h
      cases hx : evOps rec P sz ops.toList ops.toList tm s with
      | none => rw [hx] at h; cases h
      | some q =>
        obtain ⟨tm1, s1⟩ := q
        rw [hx] at h
        cases h
        obtain ⟨l1, c1⟩ := evOps_sound hr hsz hx
        refine ⟨l1, fun F n σ a w hW hro st hf => wpIn_region_list ?_⟩
        refine c1 F n σ a w _ hW st.good st.sim hf st.tm (fun σ' a' w' m t d => ⟨rfl, σ', m, t, ?_⟩)
        rw [d]
        exact st.df.le (m.env_le hf)
    | true =>
      simp only at h
      cases hx : evDraw rec P sz ops tm s with
      | none => rw [hx] at h; cases h
      | some q =>
        obtain ⟨tm1, s1⟩ := q
        rw [hx] at h
        cases h
        obtain ⟨l1, c1⟩ := hdr sz id ops tm tm1 s s1 hx hsz
        refine ⟨l1, fun F n σ a w hW hro st hf => ?_⟩
        refine c1 F n σ a w _ hW st.good st.sim hf st.tm (fun σ' a' w' m t d => ⟨rfl, σ', m, t, ?_⟩)
        rw [d]
        exact st.df.le (m.env_le hf)
end
end Go.Proofs.Ytchlehpjpgeejaa.Ev
