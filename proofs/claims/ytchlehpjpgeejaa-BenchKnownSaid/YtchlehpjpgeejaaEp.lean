/- Rounds of loops over functions, single operations with calls, regions in the text's order. -/
import Derived.Test.YtchlehpjpgeejaaEo
namespace Go.Proofs.Ytchlehpjpgeejaa.Ev
set_option linter.unusedVariables false
set_option linter.unusedSimpArgs false
open Go
noncomputable section
variable {σ : Env} {P : Program} {w : World} {s s' : HS} {F : Fence} {n : Nat} {rec : Rec}

theorem setParams_ok : ∀ {ps : List Nat} {args : List AV} {xs : List Value} {sz : Nat} {tm tm' : Tr AV} {tmps : Array Value}, setParams ps args sz tm = some tm' → sz ≤ 16000 → denL σ args = some xs → Tm σ tm sz tmps →
    ps.length = args.length ∧ Tm σ tm' sz ((ps.zip xs).foldl (fun tmps (t, a) => tmps.setIfInBounds t a) tmps)
  | [], [], xs, sz, tm, tm', tmps, h, hs, hx, ht => by
    simp only [setParams] at h
    cases h
    exact ⟨rfl, ht⟩
  | [], _ :: _, xs, sz, tm, tm', tmps, h, hs, hx, ht => by cases h
  | _ :: _, [], xs, sz, tm, tm', tmps, h, hs, hx, ht => by cases h
  | p :: ps, a :: l, xs, sz, tm, tm', tmps, h, hs, hx, ht => by
    simp only [denL] at hx
    cases e1 : den σ a with
    | none => rw [e1] at hx; cases hx
    | some x => cases e2 : denL σ l with
      | none => rw [e1, e2] at hx; cases hx
      | some z =>
        rw [e1, e2] at hx
        cases hx
        simp only [setParams] at h
        split at h
        · rename_i hb
          have hput : putT tm sz (some p) a = some (Tr.set 14 tm p a) := by simp only [putT, hb]
          have ht2 := putT_ok (a := { tmps := tmps, defers := [] }) hput hs ht e1
          obtain ⟨h3, h4⟩ := setParams_ok h hs e2 ht2
          exact ⟨by simp [h3], h4⟩
        · cases h
theorem setParams_arr {ps : Array Nat} {args : List AV} {xs : Array Value} {sz : Nat} {tm tm' : Tr AV} {tmps : Array Value} (h : setParams ps.toList args sz tm = some tm') (hs : sz ≤ 16000) (hx : denL σ args = some xs.toList) (ht : Tm σ tm sz tmps) :
    xs.size = ps.size ∧ Tm σ tm' sz ((ps.zip xs).foldl (fun tmps (t, a) => tmps.setIfInBounds t a) tmps) := by
  obtain ⟨h1, h2⟩ := setParams_ok h hs hx ht
  refine ⟨?_, ?_⟩
  · have := denL_len hx
    simp at this h1
    omega
  · rw [← Array.foldl_toList, Array.toList_zip]
    exact h2
theorem run_setObj {B : Nat} {L : Loop} {o : Obj} (h : w.heap[B]? = some (.loop L)) : (setObj B o).run P w = .ok () (setBlock w B o) := by
  simp only [setObj, Sem.run, h]
  rfl
theorem run_beginRound {B : Nat} {L : Loop} (h : w.heap[B]? = some (.loop L)) (hr : L.state = .ready) : (Instr.beginRound B).run P w = .ok () (setBlock w B (.loop { L with state := .busy })) := by
  unfold Instr.beginRound
  rw [Sem.run_bind, run_getLoop h]
  simp only [Result.andThen_ok, Sem.run_bind, run_setObj h, hr]
  rfl
theorem run_endRound {B : Nat} {L : Loop} {j : Option Code} (h : w.heap[B]? = some (.loop L)) :
    (Instr.endRound B j).run P w = .ok (.bool j.isNone) (setBlock w B (.loop { L with state := if j.isNone then .ready else .done, pending := j })) := by
  unfold Instr.endRound
  rw [Sem.run_bind, run_getLoop h]
  simp only [Result.andThen_ok, Sem.run_bind, run_setObj h]
  rfl
theorem endRnd_n {b : Nat} {e : Exit} {fs : FS} {v : AV} (h : endRnd b (some (e, fs)) = some (v, s')) : s'.n = fs.s.n := by
  obtain ⟨tm, df, s⟩ := fs
  unfold endRnd at h
  simp only at h
  split at h
  · cases h
    rw [HS.upd_eq]
  · cases h
theorem endRnd_ok {sz b B : Nat} {e : Exit} {fs : FS} {v : AV} {a : Act} {R : Ending → World → Prop} (h : endRnd b (some (e, fs)) = some (v, s')) (st : St σ sz fs a w) (hb : σ.blk b = some B)
    (k : ∀ r w', den σ v = some r → Moved fs.s σ w s' σ w' → R (.returned r) w') : roundPost P B R e a w := by
  obtain ⟨tm, df, s⟩ := fs
  unfold endRnd at h
  simp only at h
  split at h
  · rename_i j st2 pend2 tm2 sz2 params2 assign2 body2 df2 hj hg
    cases h
    obtain ⟨B', o, q1, q2, q3⟩ := st.sim.1 b _ hg
    rw [hb] at q1
    cases q1
    obtain ⟨fn, tmps, D, r1, r2, rfl⟩ := q3
    have hst : (match j.isNone with | true => LoopState.ready | false => LoopState.done) = (if j.isNone then LoopState.ready else LoopState.done) := by cases j.isNone <;> rfl
    have hm := moved_upd st.good st.sim (by rw [hg]; simp) hb (.loop (match j.isNone with | true => .ready | false => .done) j tm2 sz2 params2 assign2 body2 df2)
      (.loop { state := if j.isNone then .ready else .done, pending := j, fn := fn, tmps := tmps, params := params2, assign := assign2, body := body2, defers := D }) ⟨fn, tmps, D, r1, r2, by rw [hst]⟩
    have hk := k (.bool j.isNone) _ rfl hm
    have he := run_endRound (P := P) (j := j) q2
    cases e with
    | normal => simp only [jumpOf] at hj; cases hj; exact ⟨_, _, he, hk⟩
    | ret => simp only [jumpOf] at hj; cases hj; exact ⟨_, _, he, hk⟩
    | exit id => simp only [jumpOf] at hj; cases hj; exact ⟨_, _, he, hk⟩
    | _ => simp [jumpOf] at hj
  · cases h
theorem rndF_sound (hr : SoundC P rec) {b : Nat} {args : List AV} {v : AV} (h : rndF rec b args s = some (v, s')) :
    s.n ≤ s'.n ∧ ∀ (F : Fence) (n : Nat) (σ : Env) (w : World) (xs : Array Value) (B : Nat), Wide F → Good s → Sim s.H σ w → Free σ s.n s'.n → denL σ args = some xs.toList → σ.blk b = some B →
      ∃ L, w.heap[B]? = some (.loop L) ∧ xs.size = L.params.size ∧ RoundIn F n P B L.fn ((L.params.zip xs).foldl (fun tmps (t, a) => tmps.setIfInBounds t a) L.tmps) L.assign L.body w (Ret σ w s v s') := by
  unfold rndF at h
  split at h
  · rename_i st pend tm sz params assign body df hg
    split at h
    · rename_i tm' hp hsz
      have hsz' := Nat.le_of_ble_eq_true hsz
      split at h
      · rename_i tmy dfy sy hy
        split at h
        · rename_i pend1 tm1 sz1 params1 assign1 body1 df1 hg1
          obtain ⟨l1, c1⟩ := hr.code _ _ _ _ _ _ hy hsz'
          cases hz : rec (some b) sz body ⟨tmy, dfy, sy.upd b (.loop .busy pend1 tm1 sz1 params1 assign1 body1 df1)⟩ with
          | none => rw [hz] at h; cases h
          | some q =>
            obtain ⟨e, fz⟩ := q
            rw [hz] at h
            obtain ⟨l2, c2⟩ := hr.code _ _ _ _ _ _ hz hsz'
            have l3 := endRnd_n h
            have l1' : s.n ≤ sy.n := l1
            have l2' : sy.n ≤ fz.s.n := by rw [HS.upd_eq] at l2; exact l2
            refine ⟨by rw [l3]; omega, fun F n σ w xs B hW g hs hfree hx hb => ?_⟩
            obtain ⟨B', o, q1, q2, q3⟩ := hs.1 b _ hg
            rw [hb] at q1
            cases q1
            obtain ⟨fn, tmps, D, r1, r2, rfl⟩ := q3
            obtain ⟨x1, x2⟩ := setParams_arr hp hsz' hx r1
            refine ⟨_, q2, x1, roundIn_of_wpIn (hW.fn _) ?_⟩
            have hW' := hW.inRound B
            have st0 : St σ sz ⟨tm', [], s⟩ { tmps := (params.zip xs).foldl (fun tmps (t, a) => tmps.setIfInBounds t a) tmps, defers := [] } w := ⟨g, hs, x2, trivial⟩
            refine wpIn_mono (c1 (F.inRound B) n σ _ w hW' ⟨B, rfl, hb⟩ st0 (hfree.sub (Nat.le_refl _) (by rw [l3]; omega))) (fun e' a1 w1 hp1 => ?_)
            obtain ⟨σ1, rfl, m1, st1⟩ := hp1.st g
            have hle1 := m1.env_le (hfree.sub (Nat.le_refl _) (by rw [l3]; omega))
            have hb1 := (hle1 b B hb).1
            obtain ⟨B', o, q1, q2, q3⟩ := m1.sim.1 b _ hg1
            rw [hb1] at q1
            cases q1
            obtain ⟨fn1, tmps1, D1, y1, y2, rfl⟩ := q3
            have mu := moved_upd st1.good st1.sim (b := b) (by rw [hg1]; simp) hb1 (.loop .busy pend1 tm1 sz1 params1 assign1 body1 df1)
              (.loop { state := .busy, pending := pend1, fn := fn1, tmps := tmps1, params := params1, assign := assign1, body := body1, defers := D1 }) ⟨fn1, tmps1, D1, y1, y2, rfl⟩
            have m2 := m1.trans g mu
            refine ⟨_, run_beginRound q2 rfl, ?_⟩
            have st2 : St σ1 sz ⟨tmy, dfy, sy.upd b (.loop .busy pend1 tm1 sz1 params1 assign1 body1 df1)⟩ a1 (setBlock w1 B (.loop { state := .busy, pending := pend1, fn := fn1, tmps := tmps1, params := params1, assign := assign1, body := body1, defers := D1 })) :=
              ⟨m2.good g, m2.sim, st1.tm, st1.df⟩
            have fr1 : Free σ1 sy.n fz.s.n := by
              have q := m1.free (b := fz.s.n) (hfree.sub (Nat.le_refl _) (by rw [l3]; omega))
              exact q
            refine wpIn_mono (c2 (F.inRound B) n σ1 _ _ hW' ⟨B, rfl, hb1⟩ st2 (by rw [HS.upd_eq]; exact fr1)) (fun e2 a2 w2 hp2 => ?_)
            obtain ⟨σ2, rfl, m3, st3⟩ := hp2.st (m2.good g)
            have hle2 := m3.env_le (by rw [HS.upd_eq]; exact fr1)
            have hb2 := (hle2 b B hb1).1
            refine endRnd_ok h st3 hb2 (fun r w3 hd hm3 => ?_)
            exact ⟨r, σ2, rfl, hd, (m2.trans g m3).trans g hm3⟩
        · cases h
      · cases h
    · cases h
  · cases h

/-! ### One operation -/
/-- An operation is carried out, and its value laid. -/
def OpOK (F : Fence) (n : Nat) (P : Program) (o : Oper) (a : Act) (σ : Env) (w : World) (s : HS) (v : AV) (s' : HS) : Prop :=
  ∀ (K : Act → World → Prop) (Q : Exit → Act → World → Prop), (∀ r σ' w', den σ' v = some r → Moved s σ w s' σ' w' → K (a.put o.dst r) w') → o.wpIn F n P a w K Q
theorem opOK_of_res (hW : Wide F) {o : Oper} {a : Act} {v : AV} (hd : ∀ c, o.op ≠ .defer c) (h : Res P s σ w (execOp a.eval o) v s') : OpOK F n P o a σ w s v s' := by
  intro K Q hK
  obtain ⟨σ', w', r, h1, h2, h3⟩ := h
  refine ⟨fun f _ => hW.fn f, ?_⟩
  rw [Oper.semAt_plain F _ _ hd]
  rcases h1 with h1 | ⟨h1, rfl⟩
  · rw [h1]
    exact hK r σ' w' h2 h3
  · rw [h1]
    exact hK undef σ' w' h2 h3
theorem evO_sound' {tm : Tr AV} {o : Oper} {v : AV} (h : evO P tm s o = some (v, s')) (hn : s.n ≤ s'.n) (hd : ∀ c, o.op ≠ .defer c) (hW : Wide F) {sz : Nat} {a : Act} (g : Good s) (hs : Sim s.H σ w) (hf : Free σ s.n s'.n) (ht : Tm σ tm sz a.tmps) : OpOK F n P o a σ w s v s' :=
  opOK_of_res hW hd (evO_sound g hs (fun q => hf s.n (Nat.le_refl _) q) ht h)
theorem store_n {b off : Nat} {cs : List AV} (h : s.store b off cs = some s') : s'.n = s.n := by
  unfold HS.store at h
  split at h
  · split at h
    · cases h; rw [HS.upd_eq]
    · cases h
  · split at h
    · cases h; rw [HS.upd_eq]
    · cases h
  · cases h
theorem grow_n {e : TypeId} {n k c : Nat} {old new : List AV} {v : AV} (h : growA P s e n k c old new = some (v, s')) : s'.n = s.n + 1 := by
  unfold growA at h
  repeat' (split at h)
  all_goals first
    | (cases h; done)
    | (cases h; rfl)
theorem append_n {t0 t1 : TypeId} {a x : AV} {v : AV} (h : appendA P s t0 t1 a x = some (v, s')) : s.n ≤ s'.n := by
  unfold appendA at h
  repeat' (split at h)
  all_goals first
    | (cases h; done)
    | (rw [grow_n h]; omega)
    | (cases h; exact Nat.le_refl _)
    | (cases h; exact Nat.le_of_eq (store_n ‹_›).symm)
    | (cases h; rw [HS.swap_eq]; exact Nat.le_succ _)
theorem copy_n {t0 : TypeId} {a x : AV} {v : AV} (h : copyA P s t0 a x = some (v, s')) : s.n ≤ s'.n := by
  unfold copyA at h
  repeat' (split at h)
  all_goals first
    | (cases h; done)
    | (cases h; exact Nat.le_refl _)
    | (cases h; exact Nat.le_of_eq (store_n ‹_›).symm)
theorem clear_n {t0 : TypeId} {x : AV} {v : AV} (h : clearA P s t0 x = some (v, s')) : s.n ≤ s'.n := by
  unfold clearA at h
  repeat' (split at h)
  all_goals first
    | (cases h; done)
    | (cases h; exact Nat.le_of_eq (store_n ‹_›).symm)
theorem fin_n {x : Option AV} {v : AV} (h : fin s x = some (v, s')) : s.n ≤ s'.n := by rw [(fin_some h).2]; exact Nat.le_refl _
theorem blt_n {b : Builtin} {ts : List TypeId} {l : List AV} {v : AV} (h : evBlt P s b ts l = some (v, s')) : s.n ≤ s'.n := by
  unfold evBlt at h
  repeat' (split at h)
  all_goals first
    | (cases h; done)
    | exact append_n h
    | exact copy_n h
    | exact clear_n h
    | exact fin_n h
theorem gen_n {tm : Tr AV} {o : Oper} {v : AV} (h : gen P tm s o = some (v, s')) : s.n ≤ s'.n := by
  unfold gen at h
  repeat' (split at h)
  all_goals first
    | (cases h; done)
    | (cases h; exact Nat.le_refl _)
theorem evO_n {tm : Tr AV} {o : Oper} {v : AV} (h : evO P tm s o = some (v, s')) : s.n ≤ s'.n := by
  unfold evO at h
  generalize o.op = op at h
  unfold evD at h
  split at h
  · exact fin_n h
  · exact fin_n h
  · unfold ePick at h
    repeat' (split at h)
    all_goals first
      | (cases h; done)
      | exact fin_n h
  · unfold eAlloc at h
    split at h
    · cases h; exact Nat.le_succ _
    · cases h
  · unfold eBox at h
    split at h
    · cases h; exact Nat.le_succ _
    · cases h
  · unfold eBuild at h
    rcases orGen_some h with h | h
    · exact gen_n h
    · split at h
      · exact fin_n h
      · cases h
  · unfold eBuildSlice at h
    split at h
    · rw [buildSlice_n h]; exact Nat.le_succ _
    · cases h
  · unfold eLoad at h
    split at h
    · exact fin_n h
    · cases h
  · unfold eStore at h
    split at h
    · split at h
      · cases h; exact Nat.le_of_eq (store_n ‹_›).symm
      · cases h
    · cases h
  · unfold eNil at h
    repeat' (split at h)
    all_goals first
      | (cases h; done)
      | (cases h; exact Nat.le_refl _)
  · unfold eFunc at h
    repeat' (split at h)
    all_goals first
      | (cases h; done)
      | (cases h; exact Nat.le_refl _)
  · unfold eMakeSlice at h
    split at h
    · rw [makeSlice_n h]; exact Nat.le_succ _
    · cases h
  · unfold eSlice at h
    rcases orGen_some h with h | h
    · split at h
      · exact fin_n h
      · cases h
    · exact gen_n h
  · unfold eFieldAddr at h
    split at h
    · exact fin_n h
    · cases h
  · unfold eIndexAddr at h
    split at h
    · exact fin_n h
    · cases h
  · unfold eField at h
    split at h
    · exact fin_n h
    · cases h
  · unfold eIndex at h
    rcases orGen_some h with h | h
    · split at h
      · exact fin_n h
      · cases h
    · exact gen_n h
  · unfold eExtract at h
    rcases orGen_some h with h | h
    · split at h
      · exact fin_n h
      · cases h
    · exact gen_n h
  · unfold eCall at h
    split at h
    · rcases orGen_some h with h | h
      · split at h
        · exact blt_n h
        · cases h
      · exact gen_n h
    · cases h
  · unfold eBin at h
    rcases orGen_some h with h | h
    · repeat' (split at h)
      all_goals first
        | (cases h; done)
        | (unfold finV at h
           split at h
           · cases h; exact Nat.le_refl _
           · cases h)
    · exact gen_n h
  · exact gen_n h
end
end Go.Proofs.Ytchlehpjpgeejaa.Ev
