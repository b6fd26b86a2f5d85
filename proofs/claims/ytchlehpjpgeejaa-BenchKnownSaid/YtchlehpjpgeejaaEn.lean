/- Calls on known values: what a world does likewise. -/
import Derived.Test.YtchlehpjpgeejaaEm
namespace Go.Proofs.Ytchlehpjpgeejaa.Ev
set_option linter.unusedVariables false
set_option linter.unusedSimpArgs false
open Go
noncomputable section
variable {σ : Env} {P : Program} {w : World} {s s' : HS} {F : Fence} {n : Nat} {rec : Rec}

theorem Moved.reset {s1 : HS} {σ' : Env} {w' : World} (g : Good s) (h : Moved ⟨s.n, s.n, s.H⟩ σ w s1 σ' w') : Moved s σ w ⟨s1.n, HS.low s.m s1.m, s1.H⟩ σ' w' := by
  have hl := HS.low_le s.m s1.m
  refine { le := h.le, mono := hl.1, env := h.env, sim := h.sim, top := h.top, keep := fun b h1 h2 => h.keep b h1 (Nat.lt_of_lt_of_le h2 hl.2), dom := h.dom, frame := fun B hB hn => h.frame B hB (fun b hb => hn b (Nat.le_trans hl.2 hb)), size := h.size, fresh := ?_, os := h.os, tape := h.tape, output := h.output }
  intro b B h1 h2 h3 h4
  by_cases hb : s1.m ≤ b
  · obtain ⟨c, c1, c2, c3⟩ := h.fresh b B h1 hb h3 h4
    exact ⟨c, Nat.le_trans hl.2 c1, c2, c3⟩
  · have hm := h.mono
    have hb' : b < s.n := by
      have : s1.m ≤ s.n := hm
      omega
    refine ⟨b, h2, ?_, ?_⟩
    · exact h.dom b hb' h1
    · have := h.env b (fun q => absurd q.1 (by show ¬ s.n ≤ b; omega))
      rw [← this.1]
      exact h3
theorem good0 (g : Good s) : Good ⟨s.n, s.n, s.H⟩ := ⟨g.top, Nat.le_refl _⟩
theorem low_eq {m b : Nat} (h : m ≤ b) : HS.low m b = m := by
  unfold HS.low
  rw [Nat.ble_eq_true_of_le h]
theorem collapse_ok (g : Good s) {v v' : AV} {s1 : HS} {σ' : Env} {w' : World} (h : Moved ⟨s.n, s.n, s.H⟩ σ w s1 σ' w') (hc : collapse s (some (v, s1)) = some (v', s')) : v' = v ∧ Moved s σ w s' σ' w' := by
  have hr := h.reset g
  unfold collapse at hc
  simp only at hc
  split at hc
  · rename_i hb
    have hb' := Nat.le_of_ble_eq_true hb
    have hlow := g.low
    rw [low_eq (Nat.le_trans hlow hb')] at hr
    split at hc
    · cases hc
      refine ⟨rfl, hr.forget g rfl (Nat.le_refl _) (fun d => ?_) (fun d hd => ?_)⟩
      · by_cases hd : d < s.n
        · exact .inl (h.keep d hd (Nat.lt_of_lt_of_le hd hb')).symm
        · exact .inr (g.top d (by omega))
      · have hd' : d < s.m := hd
        exact (h.keep d (by show d < s.n; omega) (by omega)).symm
    · cases hc
      exact ⟨rfl, hr⟩
  · cases hc
    rw [HS.mkLow_eq]
    exact ⟨rfl, hr⟩
theorem collapse_some {v' : AV} {r : Option (AV × HS)} (hc : collapse s r = some (v', s')) : ∃ v s1, r = some (v, s1) ∧ s'.n = s1.n := by
  unfold collapse at hc
  cases r with
  | none => cases hc
  | some q =>
    obtain ⟨v, s1⟩ := q
    refine ⟨v, s1, rfl, ?_⟩
    simp only at hc
    split at hc
    · split at hc
      · cases hc; rfl
      · cases hc; rfl
    · cases hc
      rw [HS.mkLow_eq]

/-! ### Entering -/
theorem initT_get : ∀ (l : List AV) (i : Nat) (t : Tr AV) (u : Nat) (a : AV), (initT i l t).get u = some a → t.get u = some a ∨ ∃ j, u = i + j ∧ l[j]? = some a
  | [], i, t, u, a, h => .inl h
  | x :: l, i, t, u, a, h => by
    rcases initT_get l (i + 1) _ u a h with k | ⟨j, h1, h2⟩
    · by_cases e : i = u
      · subst e
        rcases Tr.get_set_or 14 t i x with q | q
        · rw [q] at k
          cases k
          exact .inr ⟨0, rfl, rfl⟩
        · rw [q] at k
          exact .inl k
      · rw [Tr.get_set_other 14 _ _ _ _ e] at k
        exact .inl k
    · exact .inr ⟨j + 1, by omega, by simpa using h2⟩
theorem enter_tm {args : List AV} {xs : List Value} {m : Nat} (h : denL σ args = some xs) : Tm σ (initT 0 args .leaf) (args.length + (m - args.length)) (xs.toArray ++ Array.replicate (m - xs.toArray.size) undef) := by
  have hl := denL_len h
  refine ⟨by simp [hl], fun t a e => ?_⟩
  rcases initT_get args 0 .leaf t a e with k | ⟨j, h1, h2⟩
  · cases k
  · obtain ⟨x, e1, e2⟩ := denL_get h h2
    have hj : j < args.length := (List.getElem?_eq_some_iff.1 h2).1
    obtain rfl : t = j := by omega
    refine ⟨x, e2, by omega, ?_⟩
    rw [Array.getD_eq_getD_getElem?, Array.getElem?_append_left (by simpa [hl] using hj)]
    simp [e1]

/-! ### Leaving -/
theorem run_take {R : Nat} (h : w.heap[R]? = some (.deferred (some []))) : (Instr.takeDeferred R).run P w = .ok [] (setBlock w R (.deferred none)) := by
  simp only [Instr.takeDeferred, Sem.run_bind, getObj, Sem.run, h, Result.andThen_ok, setObj]
  rfl
theorem leaveMarks_n : ∀ {df : List Nat} {s s2 : HS}, leaveMarks df s = some s2 → s2.n = s.n
  | [], s, s2, h => by simp [leaveMarks] at h; rw [h]
  | r :: l, s, s2, h => by
    unfold leaveMarks at h
    split at h
    · rw [leaveMarks_n h, HS.upd_eq]
    · cases h
theorem leaveMarks_ok {fn : Func} {tmps : Array Value} {R : Ending → World → Prop} : ∀ {df : List Nat} {ds : List Deferred} {s s2 : HS} {w : World}, leaveMarks df s = some s2 → Good s → Sim s.H σ w → Df σ df ds →
    (∀ w2, Moved s σ w s2 σ w2 → LeavesInM F n P fn tmps R [] .returning w2) → LeavesInM F n P fn tmps R ds .returning w
  | [], [], s, s2, w, h, g, hs, hd, k => by
    simp [leaveMarks] at h
    subst h
    exact k w (Moved.refl g hs)
  | [], _ :: _, s, s2, w, h, g, hs, hd, k => hd.elim
  | _ :: _, [], s, s2, w, h, g, hs, hd, k => hd.elim
  | r :: l, d :: ds, s, s2, w, h, g, hs, hd, k => by
    obtain ⟨⟨R', h1, h2⟩, h3⟩ := hd
    unfold leaveMarks at h
    split at h
    · rename_i hr
      obtain ⟨B, o, q1, q2, q3⟩ := hs.1 r _ hr
      rw [h1] at q1
      cases q1
      have q3' : o = .deferred (some []) := q3
      subst q3'
      have hm := moved_upd g hs (by rw [hr]; simp) h1 (.defd false) (.deferred none) rfl
      refine ⟨by simp, .inl ⟨R', _, by rw [h2], run_take q2, ?_⟩⟩
      exact leaveMarks_ok h (hm.good g) hm.sim h3 (fun w2 m2 => k w2 (hm.trans g m2))
    · cases h
def resF (tmps : Array Value) (x : ResultVar) : Sem Value :=
  match x with
  | .tmp t => pure (tmps.getD t undef)
  | .cell b t => do loadVar t (← asAddr (tmps.getD b undef))
theorem resV_ok {tm : Tr AV} {sz : Nat} {a : Act} (hs : Sim s.H σ w) (ht : Tm σ tm sz a.tmps) {x : ResultVar} {v : AV} (h : resV P tm s x = some v) :
    ∃ r, (resF a.tmps x).run P w = .ok r w ∧ den σ v = some r := by
  cases x with
  | tmp t =>
    obtain ⟨r, h1, h2, h3⟩ := ht.2 t v h
    exact ⟨r, by simp only [resF, Sem.run_pure, h3], h1⟩
  | cell b t =>
    simp only [resV] at h
    split at h
    · rename_i b' o hb
      obtain ⟨y, h1, h2, h3⟩ := ht.2 b _ hb
      obtain ⟨B, r, q1, q2, q3⟩ := load_sound (P := P) hs h
      simp only [den, q1, Option.map_some, Option.some.injEq] at h1
      refine ⟨r, ?_, q3⟩
      simp only [resF, h3, ← h1, asAddr, Sem.run_bind, Sem.run_pure, Result.andThen_ok]
      exact q2
    · cases h
theorem resL_ok {tm : Tr AV} {sz : Nat} {a : Act} (hs : Sim s.H σ w) (ht : Tm σ tm sz a.tmps) : ∀ {xs : List ResultVar} {l : List AV}, resL P tm s xs = some l →
    ∃ rs, (xs.mapM (resF a.tmps)).run P w = .ok rs w ∧ denL σ l = some rs
  | [], l, h => by simp [resL] at h; subst h; exact ⟨[], rfl, rfl⟩
  | x :: xs, l, h => by
    unfold resL at h
    split at h
    · rename_i v r h1 h2
      cases h
      obtain ⟨y, e1, e2⟩ := resV_ok hs ht h1
      obtain ⟨ys, e3, e4⟩ := resL_ok hs ht h2
      refine ⟨y :: ys, ?_, by simp only [denL, e2, e4]⟩
      rw [List.mapM_cons, Sem.run_bind, e1]
      simp only [Result.andThen_ok, Sem.run_bind, e3, Sem.run_pure]
    · cases h
theorem tup_ok {l : List AV} {rs : List Value} (h : denL σ l = some rs) : den σ (tupOf l) = some (if h : rs.toArray.size = 1 then rs.toArray[0] else .tuple rs.toArray) := by
  match l, rs, h with
  | [], rs, h => simp [denL] at h; subst h; rfl
  | [a], rs, h =>
    obtain ⟨x, h1, rfl⟩ := denL_one h
    exact h1
  | a :: b :: l, rs, h =>
    have hl := denL_len h
    have : ¬ rs.toArray.size = 1 := by simp [hl]
    rw [dif_neg this]
    show den σ (.tup (a :: b :: l)) = _
    simp only [den, h, Option.map_some]
theorem results_ok {tm : Tr AV} {sz : Nat} {a : Act} {fn : Func} {l : List AV} (hs : Sim s.H σ w) (ht : Tm σ tm sz a.tmps) (h : resL P tm s fn.results.toList = some l) :
    ∃ r, (results fn a.tmps).run P w = .ok r w ∧ den σ (tupOf l) = some r := by
  obtain ⟨rs, h1, h2⟩ := resL_ok hs ht h
  refine ⟨_, ?_, tup_ok h2⟩
  unfold results
  rw [Sem.run_bind, Array.mapM_eq_mapM_toList, Sem.run_map]
  show (((Sem.run P (List.mapM (resF a.tmps) fn.results.toList) w).andThen _).andThen _) = _
  rw [h1]
  rfl
end
end Go.Proofs.Ytchlehpjpgeejaa.Ev
