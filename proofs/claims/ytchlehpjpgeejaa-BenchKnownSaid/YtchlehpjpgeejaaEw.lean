/- A region whose order is open: heaps behind some of its operations. -/
import Derived.Test.YtchlehpjpgeejaaEv
namespace Go.Proofs.Ytchlehpjpgeejaa.Ev
set_option linter.unusedVariables false
set_option linter.unusedSimpArgs false
open Go
noncomputable section
variable {P : Program} {rec : Rec}

/-! ### Cells put into a block -/
theorem splice_get {α : Type} {l vs : List α} {k : Nat} (h : k + vs.length ≤ l.length) (q : Nat) : (splice l k vs)[q]? = if k ≤ q ∧ q < k + vs.length then vs[q - k]? else l[q]? := by
  unfold splice
  by_cases h1 : q < k
  · rw [if_neg (by omega), List.getElem?_append_left (by simp; omega), List.getElem?_take, if_pos h1]
  · rw [List.getElem?_append_right (by simp; omega)]
    have e : (List.take k l).length = k := by simp; omega
    rw [e]
    by_cases h2 : q < k + vs.length
    · rw [if_pos ⟨by omega, h2⟩, List.getElem?_append_left (by omega)]
    · rw [if_neg (by omega), List.getElem?_append_right (by omega), List.getElem?_drop]
      congr 1
      omega
def spL (l : List AV) (k : Nat) (vs : List AV) : List AV := if k + vs.length ≤ l.length then splice l k vs else l
theorem spL_len (l : List AV) (k : Nat) (vs : List AV) : (spL l k vs).length = l.length := by
  unfold spL
  split
  · rename_i h; exact splice_len h
  · rfl
theorem spL_get (l : List AV) (k : Nat) (vs : List AV) (q : Nat) : (spL l k vs)[q]? = if k + vs.length ≤ l.length ∧ k ≤ q ∧ q < k + vs.length then vs[q - k]? else l[q]? := by
  unfold spL
  split
  · rename_i h
    rw [splice_get h]
    by_cases h1 : k ≤ q ∧ q < k + vs.length
    · rw [if_pos h1, if_pos ⟨h, h1⟩]
    · rw [if_neg h1, if_neg (fun e => h1 e.2)]
  · rename_i h
    rw [if_neg (fun e => h e.1)]
theorem spL_comm (l : List AV) {k k' : Nat} {vs vs' : List AV} (h : k + vs.length ≤ k' ∨ k' + vs'.length ≤ k) : spL (spL l k vs) k' vs' = spL (spL l k' vs') k vs := by
  apply List.ext_getElem?
  intro q
  rw [spL_get, spL_get, spL_get, spL_get, spL_len, spL_len]
  by_cases a : k + vs.length ≤ l.length ∧ k ≤ q ∧ q < k + vs.length
  · by_cases b : k' + vs'.length ≤ l.length ∧ k' ≤ q ∧ q < k' + vs'.length
    · omega
    · rw [if_neg b, if_pos a, if_pos a]
  · by_cases b : k' + vs'.length ≤ l.length ∧ k' ≤ q ∧ q < k' + vs'.length
    · rw [if_pos b, if_neg a, if_pos b]
    · rw [if_neg b, if_neg a, if_neg a, if_neg b]
abbrev Hf := Nat → Option AB
def spB (x : Option AB) (k : Nat) (vs : List AV) : Option AB :=
  match x with
  | some (.cells l t) => some (.cells (spL l k vs) t)
  | some (.row l t sz) => some (.row (spL l k vs) t sz)
  | y => y
theorem spB_comm (x : Option AB) {k k' : Nat} {vs vs' : List AV} (h : k + vs.length ≤ k' ∨ k' + vs'.length ≤ k) : spB (spB x k vs) k' vs' = spB (spB x k' vs') k vs := by
  cases x with
  | none => rfl
  | some y => cases y <;> simp only [spB, spL_comm _ h]
def shapeB (x : Option AB) : Option (TypeId × Nat × Nat) :=
  match x with
  | some (.cells l t) => some (t, 0, l.length)
  | some (.row l t sz) => some (t, sz + 1, l.length)
  | _ => none
def listB (x : Option AB) : List AV :=
  match x with
  | some (.cells l _) => l
  | some (.row l _ _) => l
  | _ => []
theorem shape_spB (x : Option AB) (k : Nat) (vs : List AV) : shapeB (spB x k vs) = shapeB x := by
  cases x with
  | none => rfl
  | some y => cases y <;> simp only [spB, shapeB, spL_len]
theorem list_spB (x : Option AB) (k : Nat) (vs : List AV) (q : Nat) (h : ¬ (k ≤ q ∧ q < k + vs.length)) : (listB (spB x k vs))[q]? = (listB x)[q]? := by
  cases x with
  | none => rfl
  | some y =>
    cases y <;> simp only [spB, listB] <;> rw [spL_get, if_neg (fun e => h e.2)]
theorem list_spB_both {x y : Option AB} {q : Nat} (k : Nat) (vs : List AV) (h : shapeB x = shapeB y) (e : (listB x)[q]? = (listB y)[q]?) : (listB (spB x k vs))[q]? = (listB (spB y k vs))[q]? := by
  have key : ∀ (l m : List AV), l.length = m.length → l[q]? = m[q]? → (spL l k vs)[q]? = (spL m k vs)[q]? := fun l m hl he => by
    rw [spL_get, spL_get, hl, he]
  cases x with
  | none => cases y with
    | none => rfl
    | some v => cases v <;> first | (simp [shapeB] at h; done) | exact e
  | some u => cases y with
    | none => cases u <;> first | (simp [shapeB] at h; done) | exact e
    | some v =>
      cases u <;> cases v <;> first
        | (simp [shapeB] at h; done)
        | exact e
        | (simp only [shapeB, Option.some.injEq, Prod.mk.injEq] at h
           exact key _ _ h.2.2 e)

/-! ### Steps as changes of heaps -/
def tstep (k : Kd) (n : Nat) (h : Hf) : Hf :=
  match k with
  | .add _ _ s1 _ _ => fun b => if n ≤ b ∧ b < s1.n then s1.H.get b else h b
  | .store b off cs => fun c => if c = b then spB (h b) off cs else h c
  | .bar _ s1 => s1.H.get
  | _ => h
def isBar : Kd → Bool
  | .bar _ _ => true
  | _ => false
def isRel : Kd → Bool
  | .off => false
  | .add _ _ _ rel _ => rel
  | _ => true
theorem store_get {s s' : HS} {b off : Nat} {cs : List AV} (h : s.store b off cs = some s') (c : Nat) : s'.H.get c = if c = b then spB (s.H.get b) off cs else s.H.get c := by
  unfold HS.store at h
  split at h
  · rename_i l t hg
    split at h
    · rename_i hb
      cases h
      rw [HS.upd_eq]
      show (s.H.upd b _).get c = _
      by_cases e : c = b
      · subst e
        rw [if_pos rfl, Tr.get_upd_same _ _ _ (by rw [hg]; simp), hg]
        simp only [spB, spL, if_pos (Nat.le_of_ble_eq_true hb)]
      · rw [if_neg e, Tr.get_upd_other _ _ _ _ (Ne.symm e)]
    · cases h
  · rename_i l t sz hg
    split at h
    · rename_i hb
      cases h
      rw [HS.upd_eq]
      show (s.H.upd b _).get c = _
      by_cases e : c = b
      · subst e
        rw [if_pos rfl, Tr.get_upd_same _ _ _ (by rw [hg]; simp), hg]
        simp only [spB, spL, if_pos (Nat.le_of_ble_eq_true hb)]
      · rw [if_neg e, Tr.get_upd_other _ _ _ _ (Ne.symm e)]
    · cases h
  · cases h
theorem store_some {s s' : HS} {b off : Nat} {cs : List AV} (h : s.store b off cs = some s') : s.H.get b ≠ none ∧ s'.n = s.n ∧ s'.m = HS.low s.m b ∧ ∃ t k n, shapeB (s.H.get b) = some (t, k, n) ∧ off + cs.length ≤ n := by
  unfold HS.store at h
  split at h
  · rename_i l t hg
    split at h
    · rename_i hb
      cases h
      rw [HS.upd_eq]
      exact ⟨by rw [hg]; simp, rfl, rfl, t, 0, l.length, by rw [hg]; rfl, Nat.le_of_ble_eq_true hb⟩
    · cases h
  · rename_i l t sz hg
    split at h
    · rename_i hb
      cases h
      rw [HS.upd_eq]
      exact ⟨by rw [hg]; simp, rfl, rfl, t, sz + 1, l.length, by rw [hg]; rfl, Nat.le_of_ble_eq_true hb⟩
    · cases h
  · cases h
theorem stat_low {s s1 : HS} (h : Stat ⟨s.n, s.n, s.H⟩ s1) : Stat s ⟨s1.n, HS.low s.m s1.m, s1.H⟩ := by
  have hl := h.le
  have hw := HS.low_le s.m s1.m
  exact ⟨hl, hw.1, fun b h1 h2 => h.keep b h1 (Nat.lt_of_lt_of_le h2 hw.2), h.dom, fun g => ⟨(h.good (good0 g)).top, Nat.le_trans hw.1 (Nat.le_trans g.low hl)⟩⟩
theorem ev1_stat (hr : StatC rec) {tm : Tr AV} {s s1 : HS} {o : Oper} {v : AV} (h : Ev1 rec P tm s o v s1) : Stat s s1 := by
  rcases h with h | ⟨h, _⟩
  · exact stat_ev1 hr h
  · exact stat_evO h
/-- What a step makes of the heap, and of what is said of names. -/
theorem fact_heap (hr : StatC rec) {i p : Nat} {d d' : DS} {o : Oper} {k : Kd} (g : Good d.s) (h : Fact rec P i p d o d' k) : Stat d.s d'.s ∧ d'.s.H.get = tstep k d.s.n d.s.H.get := by
  cases k with
  | off => obtain ⟨_, h1, _⟩ := h; rw [h1]; exact ⟨Stat.refl _, rfl⟩
  | load v b off len => obtain ⟨_, _, _, _, h1, _⟩ := h; rw [h1]; exact ⟨Stat.refl _, rfl⟩
  | store b off cs =>
    obtain ⟨_, _, _, _, _, _, _, _, _, _, _, _, _, h1, _⟩ := h
    exact ⟨stat_store h1, funext (store_get h1)⟩
  | bar v s1 =>
    obtain ⟨h0, h1, _⟩ := h
    rw [h1]
    exact ⟨stat_low (ev1_stat hr h0), rfl⟩
  | add v K s1 rel call =>
    obtain ⟨_, h0, h1, h2, h3, h4, _⟩ := h
    have st := ev1_stat hr h0
    have hn : d.s.n ≤ s1.n := st.le
    refine ⟨⟨by rw [h2]; exact hn, by rw [h3]; exact Nat.le_refl _, fun b b1 b2 => ?_, fun b b1 b2 => ?_, fun _ => ⟨fun b hb => ?_, by rw [h2, h3]; exact Nat.le_trans g.low hn⟩⟩, funext h4⟩
    · rw [h4, if_neg (by omega)]
    · rwa [h4, if_neg (by omega)] at b2
    · rw [h2] at hb
      rw [h4, if_neg (by omega)]
      exact g.top b (by omega)
end
end Go.Proofs.Ytchlehpjpgeejaa.Ev
