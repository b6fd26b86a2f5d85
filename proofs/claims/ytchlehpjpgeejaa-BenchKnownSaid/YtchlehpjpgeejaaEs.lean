/- What computing leaves of the names that were there: no world is spoken of. -/
import Derived.Test.YtchlehpjpgeejaaEr
namespace Go.Proofs.Ytchlehpjpgeejaa.Ev
set_option linter.unusedVariables false
set_option linter.unusedSimpArgs false
open Go
noncomputable section
variable {P : Program} {s s' s1 s2 : HS} {rec : Rec}

structure Stat (s s' : HS) : Prop where
  le : s.n ≤ s'.n
  mono : s'.m ≤ s.m
  keep : ∀ b, b < s.n → b < s'.m → s'.H.get b = s.H.get b
  dom : ∀ b, b < s.n → s'.H.get b ≠ none → s.H.get b ≠ none
  good : Good s → Good s'
theorem Stat.refl (s : HS) : Stat s s := ⟨Nat.le_refl _, Nat.le_refl _, fun _ _ _ => rfl, fun _ _ h => h, fun h => h⟩
theorem Stat.trans (h : Stat s s1) (k : Stat s1 s2) : Stat s s2 := by
  have hl := h.le
  have km := k.mono
  exact ⟨Nat.le_trans h.le k.le, Nat.le_trans k.mono h.mono, fun b h1 h2 => by rw [k.keep b (by omega) h2, h.keep b h1 (by omega)], fun b h1 h2 => h.dom b h1 (k.dom b (by omega) h2), fun g => k.good (h.good g)⟩
theorem stat_new (s : HS) (x : AB) : Stat s (s.new x) := by
  have hg : ∀ b, b ≠ s.n → (s.new x).H.get b = s.H.get b := fun b hb => Tr.get_set_other 30 _ _ _ _ (Ne.symm hb)
  refine ⟨Nat.le_succ _, Nat.le_refl _, fun b h1 _ => hg b (by omega), fun b h1 h2 => by rwa [hg b (by omega)] at h2, fun g => ⟨fun b hb => ?_, Nat.le_trans g.low (Nat.le_succ _)⟩⟩
  have hb' : s.n + 1 ≤ b := hb
  rw [hg b (by omega)]
  exact g.top b (by omega)
theorem upd_dom {H : Tr AB} {b d : Nat} {x : Option AB} (h : (H.upd b x).get d ≠ none) (hx : H.get b ≠ none ∨ d ≠ b) : H.get d ≠ none := by
  by_cases e : d = b
  · subst e
    rcases hx with q | q
    · exact q
    · exact absurd rfl q
  · rwa [Tr.get_upd_other _ _ _ _ (Ne.symm e)] at h
theorem upd_none : ∀ {H : Tr AB} {b : Nat} {x : Option AB}, H.get b = none → x = none ∨ True → ∀ d, d ≠ b → (H.upd b x).get d = H.get d := fun _ _ d hd => Tr.get_upd_other _ _ _ _ (Ne.symm hd)
theorem stat_upd {b : Nat} {x : AB} (hb : s.H.get b ≠ none) : Stat s (s.upd b x) := by
  rw [HS.upd_eq]
  have hl := HS.low_le s.m b
  refine ⟨Nat.le_refl _, hl.1, fun d h1 h2 => ?_, fun d h1 h2 => upd_dom h2 (.inl hb), fun g => ⟨fun d hd => ?_, Nat.le_trans hl.1 g.low⟩⟩
  · have h2' : d < HS.low s.m b := h2
    exact Tr.get_upd_other _ _ _ _ (by omega)
  · have hd' : s.n ≤ d := hd
    have hne : d ≠ b := fun e => hb (by rw [← e]; exact g.top d hd')
    show (s.H.upd b (some x)).get d = none
    rw [Tr.get_upd_other _ _ _ _ (Ne.symm hne)]
    exact g.top d hd'
theorem stat_swap {b : Nat} {x : AB} (hb : s.H.get b ≠ none) : Stat s (s.swap b x) := by
  rw [HS.swap_eq]
  have hl := HS.low_le s.m b
  have hg : ∀ d, d ≠ s.n → d ≠ b → (Tr.set 30 (s.H.upd b none) s.n x).get d = s.H.get d := fun d h1 h2 => by
    rw [Tr.get_set_other 30 _ _ _ _ (Ne.symm h1), Tr.get_upd_other _ _ _ _ (Ne.symm h2)]
  refine ⟨Nat.le_succ _, hl.1, fun d h1 h2 => ?_, fun d h1 h2 => ?_, fun g => ⟨fun d hd => ?_, Nat.le_trans hl.1 (Nat.le_trans g.low (Nat.le_succ _))⟩⟩
  · have h2' : d < HS.low s.m b := h2
    exact hg d (by omega) (by omega)
  · by_cases e : d = b
    · rw [e]; exact hb
    · have h2' : (Tr.set 30 (s.H.upd b none) s.n x).get d ≠ none := h2
      rwa [hg d (by omega) e] at h2'
  · have hd' : s.n + 1 ≤ d := hd
    have hne : d ≠ b := fun e => hb (by rw [← e]; exact g.top d (by omega))
    show (Tr.set 30 (s.H.upd b none) s.n x).get d = none
    rw [hg d (by omega) hne]
    exact g.top d (by omega)
theorem stat_store {b off : Nat} {cs : List AV} (h : s.store b off cs = some s') : Stat s s' := by
  unfold HS.store at h
  split at h
  · rename_i hg
    split at h
    · cases h; exact stat_upd (by rw [hg]; simp)
    · cases h
  · rename_i hg
    split at h
    · cases h; exact stat_upd (by rw [hg]; simp)
    · cases h
  · cases h
theorem stat_fin {x : Option AV} {v : AV} (h : fin s x = some (v, s')) : Stat s s' := by rw [(fin_some h).2]; exact Stat.refl s
theorem stat_gen {tm : Tr AV} {o : Oper} {v : AV} (h : gen P tm s o = some (v, s')) : Stat s s' := by
  unfold gen at h
  repeat' (split at h)
  all_goals first
    | (cases h; done)
    | (cases h; exact Stat.refl s)
theorem stat_grow {e : TypeId} {n k c : Nat} {old new : List AV} {v : AV} (h : growA P s e n k c old new = some (v, s')) : Stat s s' := by
  unfold growA at h
  repeat' (split at h)
  all_goals first
    | (cases h; done)
    | (cases h; exact stat_new _ _)
theorem stat_append {t0 t1 : TypeId} {a x : AV} {v : AV} (h : appendA P s t0 t1 a x = some (v, s')) : Stat s s' := by
  unfold appendA at h
  repeat' (split at h)
  all_goals first
    | (cases h; done)
    | exact stat_grow h
    | (cases h; exact Stat.refl s)
    | (cases h; exact stat_store ‹_›)
    | (cases h; exact stat_swap (by rw [‹s.H.get _ = _›]; simp))
theorem stat_copy {t0 : TypeId} {a x : AV} {v : AV} (h : copyA P s t0 a x = some (v, s')) : Stat s s' := by
  unfold copyA at h
  repeat' (split at h)
  all_goals first
    | (cases h; done)
    | (cases h; exact Stat.refl s)
    | (cases h; exact stat_store ‹_›)
theorem stat_clear {t0 : TypeId} {x : AV} {v : AV} (h : clearA P s t0 x = some (v, s')) : Stat s s' := by
  unfold clearA at h
  repeat' (split at h)
  all_goals first
    | (cases h; done)
    | (cases h; exact stat_store ‹_›)
theorem stat_blt {b : Builtin} {ts : List TypeId} {l : List AV} {v : AV} (h : evBlt P s b ts l = some (v, s')) : Stat s s' := by
  unfold evBlt at h
  repeat' (split at h)
  all_goals first
    | (cases h; done)
    | exact stat_append h
    | exact stat_copy h
    | exact stat_clear h
    | exact stat_fin h
theorem stat_makeSlice {t : TypeId} {l c : AV} {v : AV} (h : makeSliceA P s t l c = some (v, s')) : Stat s s' := by
  unfold makeSliceA at h
  repeat' (split at h)
  all_goals first
    | (cases h; done)
    | (cases h; exact stat_new _ _)
theorem stat_buildSlice {t : TypeId} {len : Nat} {l : List (Nat × AV)} {v : AV} (h : buildSliceA P s t len l = some (v, s')) : Stat s s' := by
  unfold buildSliceA at h
  repeat' (split at h)
  all_goals first
    | (cases h; done)
    | (cases h; exact stat_new _ _)
theorem stat_evO {tm : Tr AV} {o : Oper} {v : AV} (h : evO P tm s o = some (v, s')) : Stat s s' := by
  unfold evO at h
  generalize o.op = op at h
  unfold evD at h
  split at h
  · exact stat_fin h
  · exact stat_fin h
  · unfold ePick at h
    repeat' (split at h)
    all_goals first
      | (cases h; done)
      | exact stat_fin h
  · unfold eAlloc at h
    split at h
    · cases h; exact stat_new _ _
    · cases h
  · unfold eBox at h
    split at h
    · cases h; exact stat_new _ _
    · cases h
  · unfold eBuild at h
    rcases orGen_some h with h | h
    · exact stat_gen h
    · split at h
      · exact stat_fin h
      · cases h
  · unfold eBuildSlice at h
    split at h
    · exact stat_buildSlice h
    · cases h
  · unfold eLoad at h
    split at h
    · exact stat_fin h
    · cases h
  · unfold eStore at h
    split at h
    · split at h
      · cases h; exact stat_store ‹_›
      · cases h
    · cases h
  · unfold eNil at h
    repeat' (split at h)
    all_goals first
      | (cases h; done)
      | (cases h; exact Stat.refl s)
  · unfold eFunc at h
    repeat' (split at h)
    all_goals first
      | (cases h; done)
      | (cases h; exact Stat.refl s)
  · unfold eMakeSlice at h
    split at h
    · exact stat_makeSlice h
    · cases h
  · unfold eSlice at h
    rcases orGen_some h with h | h
    · split at h
      · exact stat_fin h
      · cases h
    · exact stat_gen h
  · unfold eFieldAddr at h
    split at h
    · exact stat_fin h
    · cases h
  · unfold eIndexAddr at h
    split at h
    · exact stat_fin h
    · cases h
  · unfold eField at h
    split at h
    · exact stat_fin h
    · cases h
  · unfold eIndex at h
    rcases orGen_some h with h | h
    · split at h
      · exact stat_fin h
      · cases h
    · exact stat_gen h
  · unfold eExtract at h
    rcases orGen_some h with h | h
    · split at h
      · exact stat_fin h
      · cases h
    · exact stat_gen h
  · unfold eCall at h
    split at h
    · rcases orGen_some h with h | h
      · split at h
        · exact stat_blt h
        · cases h
      · exact stat_gen h
    · cases h
  · unfold eBin at h
    rcases orGen_some h with h | h
    · repeat' (split at h)
      all_goals first
        | (cases h; done)
        | (unfold finV at h
           split at h
           · cases h; exact Stat.refl s
           · cases h)
    · exact stat_gen h
  · exact stat_gen h
structure StatC (rec : Rec) : Prop where
  code : ∀ (rd : Option Nat) (sz : Nat) (c : Code) (fs : FS) (e : Exit) (fs' : FS), rec rd sz c fs = some (e, fs') → Stat fs.s fs'.s
  orc : ∀ (f : FuncId) (args : List AV) (s : HS) (v : AV) (s' : HS), rec.orc f args s = some (v, s') → Stat s s'
theorem stat_marks : ∀ {df : List Nat} {s s2 : HS}, leaveMarks df s = some s2 → Stat s s2
  | [], s, s2, h => by simp [leaveMarks] at h; rw [h]; exact Stat.refl _
  | r :: l, s, s2, h => by
    unfold leaveMarks at h
    split at h
    · rename_i hg
      exact (stat_upd (by rw [hg]; simp)).trans (stat_marks h)
    · cases h
theorem stat_leaveF {fn : Func} {fs : FS} {v : AV} (h : leaveF P fn fs = some (v, s')) : Stat fs.s s' := by
  unfold leaveF at h
  obtain ⟨tm, df, s⟩ := fs
  simp only at h
  split at h
  · rename_i s2 h1
    split at h
    · cases h
      exact stat_marks h1
    · cases h
  · cases h
theorem stat_collapse {v v' : AV} (h : Stat ⟨s.n, s.n, s.H⟩ s1) (hc : collapse s (some (v, s1)) = some (v', s')) : Stat s s' := by
  have hl := h.le
  unfold collapse at hc
  simp only at hc
  split at hc
  · rename_i hb
    have hb' := Nat.le_of_ble_eq_true hb
    split at hc
    · cases hc
      exact ⟨hl, Nat.le_refl _, fun _ _ _ => rfl, fun _ _ q => q, fun g => ⟨fun b hb => g.top b (Nat.le_trans hl hb), Nat.le_trans g.low hl⟩⟩
    · cases hc
      exact ⟨hl, Nat.le_refl _, fun b h1 _ => h.keep b h1 (Nat.lt_of_lt_of_le h1 hb'), h.dom, fun g => ⟨(h.good (good0 g)).top, Nat.le_trans g.low hl⟩⟩
  · cases hc
    rw [HS.mkLow_eq]
    have hw := HS.low_le s.m s1.m
    exact ⟨hl, hw.1, fun b h1 h2 => h.keep b h1 (Nat.lt_of_lt_of_le h2 hw.2), h.dom, fun g => ⟨(h.good (good0 g)).top, Nat.le_trans hw.1 (Nat.le_trans g.low hl)⟩⟩
theorem stat_callF (hr : StatC rec) {f : FuncId} {args : List AV} {v : AV} (h : callF rec P f args s = some (v, s')) : Stat s s' := by
  obtain ⟨fn, c, e, fs, v1, s1, hf, hc, hn, hb, he, hE, hl, hco⟩ := callF_some h
  exact stat_collapse ((hr.code _ _ _ _ _ _ he).trans (stat_leaveF hl)) hco
theorem stat_callO (hr : StatC rec) {f : FuncId} {args : List AV} {v : AV} (h : callO rec P f args s = some (v, s')) : Stat s s' := by
  unfold callO at h
  split at h
  · rename_i r hr'
    cases h
    exact hr.orc _ _ _ _ _ hr'
  · exact stat_callF hr h
theorem stat_endRnd {b : Nat} {e : Exit} {fs : FS} {v : AV} (h : endRnd b (some (e, fs)) = some (v, s')) : Stat fs.s s' := by
  obtain ⟨tm, df, s⟩ := fs
  unfold endRnd at h
  simp only at h
  split at h
  · rename_i hg
    cases h
    exact stat_upd (by rw [hg]; simp)
  · cases h
theorem stat_rndF (hr : StatC rec) {b : Nat} {args : List AV} {v : AV} (h : rndF rec b args s = some (v, s')) : Stat s s' := by
  unfold rndF at h
  split at h
  · rename_i st pend tm sz params assign body df hg
    split at h
    · rename_i tm' hp hsz
      split at h
      · rename_i tmy dfy sy hy
        split at h
        · rename_i pend1 tm1 sz1 params1 assign1 body1 df1 hg1
          cases hz : rec (some b) sz body ⟨tmy, dfy, sy.upd b (.loop .busy pend1 tm1 sz1 params1 assign1 body1 df1)⟩ with
          | none => rw [hz] at h; cases h
          | some q =>
            obtain ⟨e, fz⟩ := q
            rw [hz] at h
            have a1 : Stat s sy := hr.code _ _ _ _ _ _ hy
            have a2 : Stat (sy.upd b (.loop .busy pend1 tm1 sz1 params1 assign1 body1 df1)) fz.s := hr.code _ _ _ _ _ _ hz
            exact ((a1.trans (stat_upd (by rw [hg1]; simp))).trans a2).trans (stat_endRnd h)
        · cases h
      · cases h
    · cases h
  · cases h
theorem stat_ev1 (hr : StatC rec) {tm : Tr AV} {o : Oper} {v : AV} (h : ev1 rec P tm s o = some (v, s')) : Stat s s' := by
  unfold ev1 at h
  cases ho : o.op with
  | call c =>
    rw [ho] at h
    simp only [e1D, e1Call] at h
    cases hc : c.callee with
    | builtin b => rw [hc] at h; exact stat_evO h
    | invoke r m => rw [hc] at h; cases h
    | value f =>
      rw [hc] at h
      simp only [e1Go] at h
      split at h
      · cases h
      · split at h
        · cases h
        · split at h
          · exact stat_rndF hr h
          · split at h
            · exact stat_callO hr h
            · cases h
  | defer c => rw [ho] at h; cases h
  | go c => rw [ho] at h; cases h
  | _ =>
    rw [ho] at h
    exact stat_evO h
theorem stat_evOps (hr : StatC rec) {sz : Nat} {ops : List Oper} : ∀ {l : List Oper} {tm tm' : Tr AV} {s s' : HS}, evOps rec P sz ops l tm s = some (tm', s') → Stat s s'
  | [], tm, tm', s, s', h => by
    simp only [evOps] at h
    cases h
    exact Stat.refl _
  | o :: l, tm, tm', s, s', h => by
    unfold evOps at h
    split at h
    · cases h
    · split at h
      · exact stat_evOps hr h
      · cases h
    · split at h
      · cases h
      · rename_i v s1 h1
        split at h
        · exact (stat_ev1 hr h1).trans (stat_evOps hr h)
        · cases h
end
end Go.Proofs.Ytchlehpjpgeejaa.Ev
