/- A region whose order is open: which of its operations may be carried out, and that all of them are. -/
import Derived.Test.YtchlehpjpgeejaaFd
import Derived.CheckFast
namespace Go.Proofs.Ytchlehpjpgeejaa.Ev
set_option linter.unusedVariables false
set_option linter.unusedSimpArgs false
open Go
noncomputable section
variable {P : Program} {rec : Rec} {s s1 s2 : HS}

/-! ### Who is before whom -/
def oneB (look : Nat → Nat) (o : Oper) : Nat := o.after.foldl (fun s e => if Region.binds .any e then s ||| 2 ^ e.on ||| look e.on else s) 0
theorem before_build : ∀ (l : List Oper) (A : Array Nat), ((l.foldl (fun acc o => acc.push (oneB (fun i => acc.getD i 0) o)) A).size = A.size + l.length) ∧
    (∀ i, i < A.size → (l.foldl (fun acc o => acc.push (oneB (fun i => acc.getD i 0) o)) A).getD i 0 = A.getD i 0) ∧
    ∀ k o, l[k]? = some o → (l.foldl (fun acc o => acc.push (oneB (fun i => acc.getD i 0) o)) A).getD (A.size + k) 0 = oneB (fun j => if j < A.size + k then (l.foldl (fun acc o => acc.push (oneB (fun i => acc.getD i 0) o)) A).getD j 0 else 0) o
  | [], A => ⟨rfl, fun _ _ => rfl, fun k o q => by cases q⟩
  | x :: l, A => by
    obtain ⟨h1, h2, h3⟩ := before_build l (A.push (oneB (fun i => A.getD i 0) x))
    rw [List.foldl_cons]
    generalize hR : l.foldl (fun acc o => acc.push (oneB (fun i => acc.getD i 0) o)) (A.push (oneB (fun i => A.getD i 0) x)) = R at h1 h2 h3 ⊢
    have hs : (A.push (oneB (fun i => A.getD i 0) x)).size = A.size + 1 := by simp
    rw [hs] at h1 h2 h3
    have low : ∀ i, i < A.size → R.getD i 0 = A.getD i 0 := fun i hi => by
      rw [h2 i (by omega)]
      simp [Array.getElem?_push, Nat.ne_of_lt hi]
    refine ⟨by rw [h1]; simp; omega, low, fun k o q => ?_⟩
    cases k with
    | zero =>
      cases q
      rw [Nat.add_zero, h2 A.size (by omega)]
      have e : (fun j => if j < A.size then R.getD j 0 else 0) = fun i => A.getD i 0 := by
        funext j
        show (if j < A.size then R.getD j 0 else 0) = A.getD j 0
        by_cases hj : j < A.size
        · rw [if_pos hj]; exact low j hj
        · rw [if_neg hj]
          simp [Array.getElem?_eq_none (show A.size ≤ j by omega)]
      rw [e]
      simp
    | succ k =>
      have := h3 k o (by simpa using q)
      rw [show A.size + 1 + k = A.size + (k + 1) by omega] at this
      exact this
theorem before_eq (ops : Array Oper) : Region.before ops = ops.toList.foldl (fun acc o => acc.push (oneB (fun i => acc.getD i 0) o)) #[] := by
  unfold Region.before oneB
  rw [← Array.foldl_toList]
theorem before_get {ops : Array Oper} {i : Nat} {o : Oper} (h : ops[i]? = some o) : (Region.before ops).getD i 0 = oneB (fun j => if j < i then (Region.before ops).getD j 0 else 0) o := by
  have := (before_build ops.toList #[]).2.2 i o (by simpa using h)
  rw [← before_eq] at this
  simpa using this
theorem before_size (ops : Array Oper) : (Region.before ops).size = ops.size := by
  have := (before_build ops.toList #[]).1
  rw [← before_eq] at this
  simpa using this
theorem oneB_bits {look : Nat → Nat} {o : Oper} {k : Nat} : (oneB look o).testBit k = true ↔ ∃ e ∈ o.after, Region.binds .any e = true ∧ (e.on = k ∨ (look e.on).testBit k = true) := by
  have key : ∀ (l : List Edge) (z : Nat), (l.foldl (fun s e => if Region.binds .any e then s ||| 2 ^ e.on ||| look e.on else s) z).testBit k = true ↔ z.testBit k = true ∨ ∃ e ∈ l, Region.binds .any e = true ∧ (e.on = k ∨ (look e.on).testBit k = true) := by
    intro l
    induction l with
    | nil => intro z; simp
    | cons e l ih =>
      intro z
      rw [List.foldl_cons, ih]
      cases hb : Region.binds .any e with
      | false => simp [hb]
      | true =>
        simp only [if_true, Nat.testBit_or, Nat.testBit_two_pow, Bool.or_eq_true, decide_eq_true_eq, List.mem_cons, exists_eq_or_imp, hb, true_and]
        constructor
        · rintro (((h | h) | h) | h)
          · exact .inl h
          · exact .inr (.inl (.inl h))
          · exact .inr (.inl (.inr h))
          · exact .inr (.inr h)
        · rintro (h | (h | h) | h)
          · exact .inl (.inl (.inl h))
          · exact .inl (.inl (.inr h))
          · exact .inl (.inr h)
          · exact .inr h
  unfold oneB
  rw [← Array.foldl_toList, key]
  simp

/-! ### The tests of the computation -/
theorem memN_iff {d : Nat} : ∀ {l : List Nat}, memN d l = true ↔ d ∈ l
  | [] => by simp [memN]
  | t :: l => by
    unfold memN
    cases h : Nat.beq d t with
    | true => simp [Nat.eq_of_beq_eq_true h]
    | false =>
      simp only
      rw [memN_iff]
      have : d ≠ t := fun e => by subst e; rw [Nat.beq_refl] at h; cases h
      simp [this]
theorem clean1_ok {j p : Nat} {L : List Nat} : ∀ {qs : List Nat} {l : List Oper} {i : Nat}, clean1 j p L i qs l = true → qs.length = l.length → ∀ k o, l[k]? = some o → ∀ t, o.dst = some t → t ∈ L → i + k = j ∨ p.testBit (i + k) = true ∨ (qs.getD k 0).testBit j = true
  | [], [], i, h, hl, k, o, ho, t, hd, ht => by cases ho
  | [], o' :: l, i, h, hl, k, o, ho, t, hd, ht => by cases hl
  | q :: qs, [], i, h, hl, k, o, ho, t, hd, ht => by cases ho
  | q :: qs, o' :: l, i, h, hl, k, o, ho, t, hd, ht => by
    have rest : clean1 j p L (i + 1) qs l = true → k ≠ 0 → i + k = j ∨ p.testBit (i + k) = true ∨ ((q :: qs).getD k 0).testBit j = true := fun h' hk => by
      obtain ⟨m, rfl⟩ : ∃ m, k = m + 1 := ⟨k - 1, by omega⟩
      have := clean1_ok h' (by simpa using hl) m o (by simpa using ho) t hd ht
      rw [show i + 1 + m = i + (m + 1) by omega] at this
      simpa using this
    unfold clean1 at h
    split at h
    · rename_i hd'
      by_cases hk : k = 0
      · subst hk
        simp only [List.getElem?_cons_zero, Option.some.injEq] at ho
        subst ho
        rw [hd'] at hd
        cases hd
      · exact rest h hk
    · rename_i d hd'
      split at h
      · rename_i hm
        by_cases hk : k = 0
        · subst hk
          simp only [List.getElem?_cons_zero, Option.some.injEq] at ho
          subst ho
          rw [hd'] at hd
          cases hd
          rw [memN_iff.2 ht] at hm
          cases hm
        · exact rest h hk
      · split at h
        · rename_i hor
          by_cases hk : k = 0
          · subst hk
            rcases orB_eq.1 hor with e | e
            · exact .inl (by simpa using Nat.eq_of_beq_eq_true e)
            · rcases orB_eq.1 e with e | e
              · exact .inr (.inl (by simpa using bitAt_eq.1 e))
              · exact .inr (.inr (by simpa using bitAt_eq.1 e))
          · exact rest h hk
        · cases h
theorem cleanAll_ok {L : List Oper} {pr : List Nat} : ∀ {ps : List Nat} {l : List Oper} {j : Nat}, cleanAll L pr j ps l = true → ps.length = l.length ∧ ∀ k o, l[k]? = some o → ps.getD k 0 < 2 ^ (j + k) ∧ clean1 (j + k) (ps.getD k 0) (namesOf L o) 0 pr L = true
  | [], [], j, h => ⟨rfl, fun k o q => by cases q⟩
  | [], o :: l, j, h => by cases h
  | p :: ps, [], j, h => by cases h
  | p :: ps, o :: l, j, h => by
    unfold cleanAll at h
    split at h
    · rename_i hb
      split at h
      · rename_i hc
        obtain ⟨h1, h2⟩ := cleanAll_ok h
        refine ⟨by simp [h1], fun k o' q => ?_⟩
        cases k with
        | zero =>
          cases q
          exact ⟨by simpa using hb, hc⟩
        | succ k =>
          have := h2 k o' (by simpa using q)
          rw [show j + 1 + k = j + (k + 1) by omega] at this
          simpa using this
      · cases h
    · cases h
/-- The chain of a region. -/
theorem chain_ops {sz : Nat} {ops : Array Oper} {tm tm' : Tr AV} {s s' : HS} (hr : StatC rec) (g : Good s) (h : evDraw rec P sz ops tm s = some (tm', s')) :
    ∃ (D : Nat → DS) (kd : Nat → Kd), Chain rec P sz ops ops.size (fun i => (Region.before ops).getD i 0) D kd (fun i => ops.getD i default) tm s ∧ (D ops.size).tm = tm' ∧ (D ops.size).s = s' := by
  obtain ⟨hc, d, hd, e1, e2⟩ := evDraw_some h
  obtain ⟨hl, hcl⟩ := cleanAll_ok hc
  obtain ⟨D, kd, d0, dN, hs⟩ := chain_of hr (show Good (⟨tm, s, s.H, s.n, 0, 0, 0, 0, [], []⟩ : DS).s from g) hd
  have hget : ∀ i, i < ops.size → ops.toList[i]? = some (ops.getD i default) := fun i hi => by simp [Array.getD, hi]
  have hp : ∀ i, (Region.before ops).toList.getD i 0 = (Region.before ops).getD i 0 := fun i => by simp [List.getD_eq_getElem?_getD]
  have small : ∀ i, i < ops.size → ∀ j, ((Region.before ops).getD i 0).testBit j = true → j < i := fun i hi j hj => by
    have h1 := (hcl i _ (hget i hi)).1
    rw [hp, Nat.zero_add] at h1
    by_cases e : j < i
    · exact e
    · rw [Nat.testBit_lt_two_pow (Nat.lt_of_lt_of_le h1 (Nat.pow_le_pow_right (by omega) (by omega)))] at hj
      cases hj
  refine ⟨D, kd, ⟨d0, fun i hi => ?_, small, fun i j hi hj hne t ht hn => ?_, hr, g⟩, ?_, ?_⟩
  · have := hs i _ (hget i hi)
    rw [hp, Nat.zero_add] at this
    exact this
  · have h1 := (hcl j _ (hget j hj)).2
    rw [hp, Nat.zero_add] at h1
    have h2 := clean1_ok h1 hl i _ (hget i hi) t ht hn
    rw [hp, Nat.zero_add] at h2
    rcases h2 with q | q | q
    · exact absurd q hne
    · exact .inl q
    · exact .inr q
  · rw [← e1, ← dN]; simp
  · rw [← e2, ← dN]; simp
end
end Go.Proofs.Ytchlehpjpgeejaa.Ev
