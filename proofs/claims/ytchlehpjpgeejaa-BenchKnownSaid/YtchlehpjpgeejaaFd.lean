/- A region whose order is open: what the steps of the computation leave of the heap; from them, the chain. -/
import Derived.Test.YtchlehpjpgeejaaFc
namespace Go.Proofs.Ytchlehpjpgeejaa.Ev
set_option linter.unusedVariables false
set_option linter.unusedSimpArgs false
open Go
noncomputable section
variable {P : Program} {rec : Rec} {s s1 s2 : HS}

theorem fact_stat (hr : StatC rec) {i p : Nat} {d d' : DS} {o : Oper} {k : Kd} (h : Fact rec P i p d o d' k) : Stat d.s d'.s := by
  cases k with
  | off => obtain ⟨_, h1, _⟩ := h; rw [h1]; exact Stat.refl _
  | load v b off len => obtain ⟨_, _, _, _, h1, _⟩ := h; rw [h1]; exact Stat.refl _
  | store b off cs =>
    obtain ⟨_, _, _, _, _, _, _, _, _, _, _, _, _, h1, _⟩ := h
    exact stat_store h1
  | bar v s1 =>
    obtain ⟨h0, h1, _⟩ := h
    rw [h1]
    exact stat_low (ev1_stat hr h0)
  | add v K s1 rel call =>
    obtain ⟨_, h0, h1, h2, h3, h4, _⟩ := h
    have st := ev1_stat hr h0
    have hn : d.s.n ≤ s1.n := st.le
    refine ⟨by rw [h2]; exact hn, by rw [h3]; exact Nat.le_refl _, fun b b1 b2 => ?_, fun b b1 b2 => ?_, fun g => ⟨fun b hb => ?_, by rw [h2, h3]; exact Nat.le_trans g.low hn⟩⟩
    · rw [h4, if_neg (by omega)]
    · rwa [h4, if_neg (by omega)] at b2
    · rw [h2] at hb
      rw [h4, if_neg (by omega)]
      exact g.top b (by omega)
theorem stat_addNew (h : addNew s s1 = some s2) : Stat s s2 := by
  obtain ⟨a1, a2, a3, a4⟩ := addNew_ok h
  refine ⟨by omega, by omega, fun b b1 b2 => ?_, fun b b1 b2 => ?_, fun g => ⟨fun b hb => ?_, ?_⟩⟩
  · rw [a4, if_neg (by omega)]
  · rwa [a4, if_neg (by omega)] at b2
  · rw [a4, if_neg (by omega)]
    exact g.top b (by omega)
  · have := g.low
    omega
theorem call_stat {sz i p : Nat} {d d' : DS} {o : Oper} (hr : StatC rec) (h : dCall rec P sz i p d o = some d') : Stat d.s d'.s := by
  obtain ⟨tm, s, base, n0, cr, imp, calls, bars, loads, stores⟩ := d
  unfold dCall at h
  simp only at h
  split at h
  · split at h
    · split at h
      · cases h
      · rename_i v s1 hv
        have st : Stat ⟨s.n, s.n, s.H⟩ s1 := stat_ev1 hr hv
        split at h
        · rename_i hm
          have hm' := Nat.le_of_ble_eq_true hm
          obtain ⟨h1, h2⟩ := putD_ok h
          rw [h2]
          show Stat s (backM s.m s1)
          exact ⟨st.le, Nat.le_refl _, fun b b1 b2 => st.keep b b1 (Nat.lt_of_lt_of_le b1 hm'), st.dom, fun g => ⟨(st.good (good0 g)).top, Nat.le_trans g.low st.le⟩⟩
        · split at h
          · obtain ⟨h1, h2⟩ := putD_ok h
            rw [h2]
            show Stat s (lowM s.m s1)
            have e : lowM s.m s1 = ⟨s1.n, HS.low s.m s1.m, s1.H⟩ := by
              unfold lowM
              exact HS.mkLow_eq _ _ _ _
            rw [e]
            exact stat_low st
          · cases h
    · split at h
      · cases h
      · rename_i v s1 hv
        split at h
        · cases h
        · split at h
          · obtain ⟨h1, h2⟩ := putD_ok h
            rw [h2]
            exact Stat.refl s
          · split at h
            · rename_i s2 ha
              obtain ⟨h1, h2⟩ := putD_ok h
              rw [h2]
              exact stat_addNew ha
            · cases h
  · cases h
theorem dstep_stat {sz i p : Nat} {L : List Oper} {d d' : DS} {o : Oper} (hr : StatC rec) (h : dstep rec P sz L i p d o = some d') : Stat d.s d'.s := by
  have lift : StepIn rec P sz i p d o d' → Stat d.s d'.s := fun ⟨k, k1, k2, k3⟩ => fact_stat hr k3
  unfold dstep at h
  split at h
  · cases h
  · obtain ⟨h1, h2⟩ := putD_ok h
    rw [h2]
    exact Stat.refl d.s
  · cases ho : o.op with
    | load t x => rw [ho] at h; exact lift (load_fact ho h)
    | store t x y => rw [ho] at h; exact lift (store_fact ho h)
    | alloc t => rw [ho] at h; exact lift (make_fact (by rw [ho]; rfl) h)
    | box t x => rw [ho] at h; exact lift (make_fact (by rw [ho]; rfl) h)
    | buildSlice t l ps => rw [ho] at h; exact lift (make_fact (by rw [ho]; rfl) h)
    | makeSlice t l c => rw [ho] at h; exact lift (make_fact (by rw [ho]; rfl) h)
    | call c =>
      rw [ho] at h
      simp only [dD, dCallee] at h
      cases hc : c.callee with
      | value f => rw [hc] at h; exact call_stat hr h
      | invoke r m => rw [hc] at h; exact call_stat hr h
      | builtin b =>
        rw [hc] at h
        cases hb : quietB b with
        | true =>
          refine lift (quiet_fact (by rw [ho]; simp only [isQuiet, hc]; exact hb) ?_)
          cases b <;> first | (cases hb; done) | exact h
        | false =>
          refine call_stat (P := P) (sz := sz) (i := i) (p := p) (o := o) hr ?_
          cases b <;> first | (cases hb; done) | exact h
    | _ =>
      rw [ho] at h
      first
        | exact lift (quiet_fact (by rw [ho]; rfl) h)
        | exact call_stat hr h
theorem dsteps_stat {sz : Nat} {L : List Oper} (hr : StatC rec) : ∀ {rest : List Oper} {ps : List Nat} {i : Nat} {d d' : DS}, dsteps rec P sz L i ps rest d = some d' → Stat d.s d'.s
  | [], ps, i, d, d', h => by
    unfold dsteps at h
    cases h
    exact Stat.refl _
  | o :: rest, [], i, d, d', h => by cases h
  | o :: rest, p :: ps, i, d, d', h => by
    unfold dsteps at h
    split at h
    · rename_i d1 h1
      exact (dstep_stat hr h1).trans (dsteps_stat hr h)
    · cases h
theorem evDraw_some {sz : Nat} {ops : Array Oper} {tm tm' : Tr AV} {s s' : HS} (h : evDraw rec P sz ops tm s = some (tm', s')) :
    cleanAll ops.toList (Region.before ops).toList 0 (Region.before ops).toList ops.toList = true ∧ ∃ d, dsteps rec P sz ops.toList 0 (Region.before ops).toList ops.toList ⟨tm, s, s.H, s.n, 0, 0, 0, 0, [], []⟩ = some d ∧ d.tm = tm' ∧ d.s = s' := by
  unfold evDraw at h
  split at h
  · cases h
  · rename_i hc
    split at h
    · rename_i d hd
      cases h
      exact ⟨hc, d, hd, rfl, rfl⟩
    · cases h
theorem evDraw_stat {sz : Nat} {ops : Array Oper} {tm tm' : Tr AV} {s s' : HS} (hr : StatC rec) (h : evDraw rec P sz ops tm s = some (tm', s')) : Stat s s' := by
  obtain ⟨_, d, h1, h2, h3⟩ := evDraw_some h
  rw [← h3]
  exact dsteps_stat hr h1
/-- What stands behind each operation, in the text's order. -/
theorem chain_of {sz : Nat} {L : List Oper} (hr : StatC rec) : ∀ {rest : List Oper} {ps : List Nat} {i : Nat} {d d' : DS}, Good d.s → dsteps rec P sz L i ps rest d = some d' →
    ∃ (D : Nat → DS) (kd : Nat → Kd), D 0 = d ∧ D rest.length = d' ∧ ∀ k o, rest[k]? = some o → wantedA (D k).tm L o = some (kd k).on ∧ putT (D k).tm sz o.dst (kd k).val = some (D (k + 1)).tm ∧ Fact rec P (i + k) (ps.getD k 0) (D k) o (D (k + 1)) (kd k)
  | [], ps, i, d, d', g, h => by
    unfold dsteps at h
    cases h
    exact ⟨fun _ => d, fun _ => .off, rfl, rfl, fun k o q => by cases q⟩
  | o :: rest, [], i, d, d', g, h => by cases h
  | o :: rest, p :: ps, i, d, d', g, h => by
    unfold dsteps at h
    split at h
    · rename_i d1 h1
      obtain ⟨k0, f1, f2, f3⟩ := fact_of_step hr g h1
      obtain ⟨D, kd, e1, e2, e3⟩ := chain_of hr ((dstep_stat hr h1).good g) h
      refine ⟨fun k => match k with | 0 => d | k + 1 => D k, fun k => match k with | 0 => k0 | k + 1 => kd k, rfl, e2, fun k o' q => ?_⟩
      cases k with
      | zero =>
        cases q
        show wantedA d.tm L o = some k0.on ∧ putT d.tm sz o.dst k0.val = some (D 0).tm ∧ Fact rec P (i + 0) p d o (D 0) k0
        rw [e1]
        exact ⟨f1, f2, f3⟩
      | succ k =>
        have q' : rest[k]? = some o' := by simpa using q
        obtain ⟨g1, g2, g3⟩ := e3 k o' q'
        refine ⟨g1, g2, ?_⟩
        rw [show i + (k + 1) = i + 1 + k by omega]
        simpa using g3
    · cases h
end
end Go.Proofs.Ytchlehpjpgeejaa.Ev
