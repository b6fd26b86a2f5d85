/- Calls and rounds on known values. -/
import Derived.Test.YtchlehpjpgeejaaEn
namespace Go.Proofs.Ytchlehpjpgeejaa.Ev
set_option linter.unusedVariables false
set_option linter.unusedSimpArgs false
open Go
noncomputable section
variable {σ : Env} {P : Program} {w : World} {s s' : HS} {F : Fence} {n : Nat} {rec : Rec}

theorem Wide.plain (h : Wide F) : Wide F.plain := ⟨h.fn, h.depth⟩
theorem Wide.inRound (h : Wide F) (l : Nat) : Wide (F.inRound l) := ⟨h.fn, h.depth⟩
theorem leaveF_n {fn : Func} {fs : FS} {v : AV} (h : leaveF P fn fs = some (v, s')) : s'.n = fs.s.n := by
  unfold leaveF at h
  obtain ⟨tm, df, s⟩ := fs
  simp only at h
  split at h
  · rename_i s2 h1
    split at h
    · cases h
      exact leaveMarks_n h1
    · cases h
  · cases h
theorem leaveF_ok {sz : Nat} {fn : Func} {fs : FS} {v : AV} {a : Act} {R : Ending → World → Prop} (h : leaveF P fn fs = some (v, s')) (st : St σ sz fs a w)
    (k : ∀ r w', den σ v = some r → Moved fs.s σ w s' σ w' → R (.returned r) w') : LeavesInM F n P fn a.tmps R a.defers .returning w := by
  unfold leaveF at h
  obtain ⟨tm, df, s⟩ := fs
  simp only at h
  split at h
  · rename_i s2 h1
    split at h
    · rename_i l hl
      cases h
      refine leaveMarks_ok h1 st.good st.sim st.df (fun w2 m2 => ?_)
      obtain ⟨r, e1, e2⟩ := results_ok (P := P) (fn := fn) m2.sim st.tm hl
      exact ⟨r, e1, k r w2 e2 m2⟩
    · cases h
  · cases h
theorem callF_some {f : FuncId} {args : List AV} {v : AV} (h : callF rec P f args s = some (v, s')) :
    ∃ fn c e fs v1 s1, P.funcs[f]? = some fn ∧ fn.body = some c ∧ (fn.name == "runtime.NumGoroutine") = false ∧ args.length + fn.ntmps ≤ 16000 ∧
      rec none (args.length + (fn.ntmps - args.length)) c ⟨initT 0 args .leaf, [], ⟨s.n, s.n, s.H⟩⟩ = some (e, fs) ∧ (e = .normal ∨ e = .ret) ∧ leaveF P fn fs = some (v1, s1) ∧ collapse s (some (v1, s1)) = some (v, s') := by
  unfold callF at h
  split at h
  · cases h
  · rename_i fn hf
    split at h
    · cases h
    · rename_i c hc
      split at h
      · cases h
      · rename_i hn
        split at h
        · cases h
        · rename_i hb
          have hb' := Nat.le_of_ble_eq_true hb
          obtain ⟨nn, mm, HH⟩ := s
          simp only at h
          obtain ⟨v1, s1, h1, _⟩ := collapse_some h
          rw [h1] at h
          unfold exitF at h1
          split at h1
          · cases h1
          · rename_i e fs he
            split at h1
            · exact ⟨fn, c, _, fs, v1, s1, hf, hc, hn, hb', he, .inl rfl, h1, h⟩
            · exact ⟨fn, c, _, fs, v1, s1, hf, hc, hn, hb', he, .inr rfl, h1, h⟩
            · cases h1
theorem callF_sound (hr : SoundC P rec) {f : FuncId} {args : List AV} {v : AV} (h : callF rec P f args s = some (v, s')) :
    s.n ≤ s'.n ∧ ∀ (F : Fence) (n : Nat) (σ : Env) (w : World) (xs : List Value), Wide F → Good s → Sim s.H σ w → Free σ s.n s'.n → denL σ args = some xs →
      CallsIn F n P f xs.toArray w (Ret σ w s v s') := by
  obtain ⟨fn, c, e, fs, v1, s1, hf, hc, hn, hb, he, hE, hl, hco⟩ := callF_some h
  obtain ⟨hle, hbody⟩ := hr.code _ _ _ _ _ _ he (by omega)
  obtain ⟨v2, s2, q1, q2⟩ := collapse_some hco
  cases q1
  have hn1 := leaveF_n hl
  refine ⟨by rw [q2, hn1]; exact hle, fun F n σ w xs hW g hs hfree hx => ?_⟩
  have hlen := denL_len hx
  show CallsIn F.plain n P f xs.toArray w (Ret σ w s v s')
  refine callsIn_of_wp_marks hf hc (hW.plain.fn f) ?_
  have st0 : St σ (args.length + (fn.ntmps - args.length)) ⟨initT 0 args .leaf, [], ⟨s.n, s.n, s.H⟩⟩ { tmps := xs.toArray ++ Array.replicate (fn.ntmps - xs.toArray.size) undef, defers := [] } w :=
    ⟨good0 g, hs, enter_tm hx, trivial⟩
  have hw := hbody F.plain n σ _ w hW.plain rfl st0 (fun k k1 k2 => hfree k k1 (by rw [q2, hn1]; exact k2))
  refine wpIn_mono hw (fun e' a' w' hp => ?_)
  obtain ⟨σ', rfl, hm, st'⟩ := hp.st (good0 g)
  have fin : LeavesInM F.plain n P fn a'.tmps (Ret σ w s v s') a'.defers .returning w' := by
    refine leaveF_ok hl st' (fun r w2 hd hm2 => ?_)
    have hm3 := hm.trans (good0 g) hm2
    obtain ⟨rfl, hm4⟩ := collapse_ok g hm3 hco
    exact ⟨r, σ', rfl, hd, hm4⟩
  rcases hE with rfl | rfl
  · exact fin
  · exact fin

theorem callO_some {f : FuncId} {args : List AV} {v : AV} (hr : SoundC P rec) (h : callO rec P f args s = some (v, s')) :
    ∃ fn c, P.funcs[f]? = some fn ∧ fn.body = some c ∧ (fn.name == "runtime.NumGoroutine") = false := by
  unfold callO at h
  split at h
  · rename_i r hr'
    cases h
    exact (hr.orc _ _ _ _ _ hr').1
  · obtain ⟨fn, cd, _, _, _, _, hf1, hf2, hf3, _⟩ := callF_some h
    exact ⟨fn, cd, hf1, hf2, hf3⟩
theorem callO_sound (hr : SoundC P rec) {f : FuncId} {args : List AV} {v : AV} (h : callO rec P f args s = some (v, s')) :
    s.n ≤ s'.n ∧ ∀ (F : Fence) (n : Nat) (σ : Env) (w : World) (xs : List Value), Wide F → Good s → Sim s.H σ w → Free σ s.n s'.n → denL σ args = some xs →
      CallsIn F n P f xs.toArray w (Ret σ w s v s') := by
  unfold callO at h
  split at h
  · rename_i r hr'
    cases h
    exact (hr.orc _ _ _ _ _ hr').2
  · exact callF_sound hr h

/-! ### The call's operation -/
theorem target_ok {g : AV} {k : FuncId} {l c : List AV} {x : Value} (h : targetOf g = some (k, l, c)) (hx : den σ g = some x) :
    ∃ ls cs, x = .func (.func k) ls.toArray cs.toArray ∧ denL σ l = some ls ∧ denL σ c = some cs := by
  cases g with
  | fn f a b =>
    cases f with
    | func k' =>
      simp only [targetOf] at h
      cases h
      simp only [den] at hx
      split at hx
      · rename_i u z h1 h2
        cases hx
        exact ⟨u, z, rfl, h1, h2⟩
      · cases hx
    | _ => simp [targetOf] at h
  | v y =>
    simp only [den] at hx
    cases hx
    cases x with
    | func f a b =>
      cases f with
      | func k' =>
        simp only [targetOf] at h
        cases h
        exact ⟨a.toList, b.toList, by simp, denL_v _, denL_v _⟩
      | _ => simp [targetOf] at h
    | _ => simp [targetOf] at h
  | _ => simp [targetOf] at h
theorem run_callFunc {f : FuncId} {fn : Func} {c : Code} {args : Array Value} (hf : P.funcs[f]? = some fn) (hb : fn.body = some c) (hn : (fn.name == "runtime.NumGoroutine") = false) :
    (callFunc f args).run P w = .ok (.enter f args) w := by
  unfold callFunc
  rw [Sem.run_bind, run_program]
  simp only [Result.andThen_ok, hf]
  rw [if_neg (by rw [hn]; simp), if_neg (by rw [hb]; simp)]
  rfl
theorem exec_call {ρ : Operand → Value} {o : Oper} {c : Call} {g : Operand} {k : FuncId} {ls cs : Array Value} {fn : Func} {cd : Code} (ho : o.op = .call c) (hc : c.callee = .value g)
    (hg : ρ g = .func (.func k) ls cs) (hf : P.funcs[k]? = some fn) (hb : fn.body = some cd) (hn : (fn.name == "runtime.NumGoroutine") = false) :
    (execOp ρ o).run P w = .ok (.enter k (ls ++ c.args.map ρ ++ cs)) w := by
  unfold execOp
  rw [ho]
  simp only [resolve, hc, hg, Deferred.ofValue]
  show (callFunc k (ls ++ c.args.map ρ ++ cs)).run P w = _
  exact run_callFunc hf hb hn
theorem run_getLoop {B : Nat} {L : Loop} (h : w.heap[B]? = some (.loop L)) : (Instr.getLoop B).run P w = .ok L w := by
  simp only [Instr.getLoop, Sem.run_bind, getObj, Sem.run, h, Result.andThen_ok]
  rfl
theorem exec_yield {ρ : Operand → Value} {o : Oper} {c : Call} {g : Operand} {B : Nat} {L : Loop} (ho : o.op = .call c) (hc : c.callee = .value g)
    (hg : ρ g = .func (.yield B) #[] #[]) (hL : w.heap[B]? = some (.loop L)) (hsz : c.args.size = L.params.size) :
    (execOp ρ o).run P w = .ok (.round B L.fn ((L.params.zip (c.args.map ρ)).foldl (fun tmps (t, a) => tmps.setIfInBounds t a) L.tmps) L.assign L.body) w := by
  unfold execOp
  rw [ho]
  simp only [resolve, hc, hg, Deferred.ofValue]
  show (Instr.yield B (#[] ++ c.args.map ρ)).run P w = _
  unfold Instr.yield
  rw [Sem.run_bind, run_getLoop hL]
  simp only [Result.andThen_ok, Array.empty_append]
  rw [if_neg (by simp [hsz])]
  rfl
end
end Go.Proofs.Ytchlehpjpgeejaa.Ev
