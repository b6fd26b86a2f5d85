/- Paths and steps: what they lead to. Plain arithmetic. -/
import Derived.Test.YtbdjllgngblfoaaUm4
import Derived.Test.YtbdjllgngblfoaaUm2
namespace Go.Proofs.Ytbdjllgngblfoaa
set_option linter.unusedVariables false
set_option linter.unusedSimpArgs false

/-- The fraction of a path, from its last number on. -/
def cont : List Int → Int × Int
  | [] => (1, 0)
  | n :: l => (n * (cont l).1 + (cont l).2, (cont l).1)

theorem cont_pos : ∀ (l : List Int), (∀ x ∈ l, 1 ≤ x) → 1 ≤ (cont l).1 ∧ 0 ≤ (cont l).2 ∧ (cont l).2 ≤ (cont l).1
  | [], _ => by simp [cont]
  | n :: l, h => by
    obtain ⟨h1, h2, h3⟩ := cont_pos l (fun x hx => h x (List.mem_cons_of_mem _ hx))
    have hn := h n (List.mem_cons_self ..)
    have hm : 1 * (cont l).1 ≤ n * (cont l).1 := Int.mul_le_mul_of_nonneg_right hn (by omega)
    simp only [cont]
    omega

/-- A number of a fraction is beyond the limit. -/
def overP (p : Int × Int) : Prop := 1000000000 < p.1 ∨ 1000000000 < p.2
instance (p : Int × Int) : Decidable (overP p) := by unfold overP; infer_instance

theorem over_cons (n : Int) (l : List Int) (h : ∀ x ∈ l, 1 ≤ x) (ho : overP (cont l)) : overP (cont (n :: l)) := by
  obtain ⟨h1, h2, h3⟩ := cont_pos l h
  unfold overP at *
  simp only [cont]
  omega

theorem over_drop : ∀ (j : Nat) (l : List Int), (∀ x ∈ l.tail, 1 ≤ x) → overP (cont (l.drop j)) → overP (cont l)
  | 0, l, _, h => by simpa using h
  | j + 1, [], _, h => by simpa using h
  | j + 1, n :: l, ht, h => by
    have ht' : ∀ x ∈ l, 1 ≤ x := by simpa using ht
    exact over_cons n l ht' (over_drop j l (fun x hx => ht' x (List.mem_of_mem_tail hx)) (by simpa using h))

/-- All numbers are taken, however great they are. -/
def stN : Nat → S4 → List Int → S4
  | _, s, [] => s
  | i, s, n :: l => stN (i + 1) (stp i n s) l
/-- What a step is the fraction of, after so many numbers. -/
def resS (i : Nat) (s : S4) : Int × Int := if i % 2 = 1 then (s.1, s.2.1) else (s.2.2.1, s.2.2.2)

theorem res_stN : ∀ (l : List Int) (i : Nat) (s : S4), resS (i + l.length) (stN i s l) = if i % 2 = 0 then (s.2.2.1 * (cont l).1 + s.1 * (cont l).2, s.2.2.2 * (cont l).1 + s.2.1 * (cont l).2) else (s.1 * (cont l).1 + s.2.2.1 * (cont l).2, s.2.1 * (cont l).1 + s.2.2.2 * (cont l).2)
  | [], i, s => by
    rcases Nat.mod_two_eq_zero_or_one i with h | h <;> simp [stN, resS, cont, h]
  | n :: l, i, s => by
    have ih := res_stN l (i + 1) (stp i n s)
    have e : i + (n :: l).length = i + 1 + l.length := by simp; omega
    rw [e]
    show resS (i + 1 + l.length) (stN (i + 1) (stp i n s) l) = _
    rw [ih]
    rcases Nat.mod_two_eq_zero_or_one i with h | h
    · have h1 : (i + 1) % 2 = 1 := by omega
      simp [h, h1, stp, cont]
      constructor <;> grind
    · have h1 : (i + 1) % 2 = 0 := by omega
      simp [h, h1, stp, cont]
      constructor <;> grind

/-- A state of the steps. -/
structure Gd (s : S4) : Prop where
  a : 0 ≤ s.1
  b : 1 ≤ s.2.1
  c : 1 ≤ s.2.2.1
  d : 0 ≤ s.2.2.2
theorem Gd.start : Gd S0 := ⟨by decide, by decide, by decide, by decide⟩
/-- No number is less. -/
structure LeS (s t : S4) : Prop where
  a : s.1 ≤ t.1
  b : s.2.1 ≤ t.2.1
  c : s.2.2.1 ≤ t.2.2.1
  d : s.2.2.2 ≤ t.2.2.2
theorem LeS.trans {s t u : S4} (h : LeS s t) (k : LeS t u) : LeS s u := ⟨Int.le_trans h.a k.a, Int.le_trans h.b k.b, Int.le_trans h.c k.c, Int.le_trans h.d k.d⟩
theorem LeS.over {s t : S4} (h : LeS s t) (ho : overS s) : overS t := by
  have := h.a
  have := h.b
  have := h.c
  have := h.d
  unfold overS at *
  omega

theorem stp_le (i : Nat) {m n : Int} {s : S4} (h : Gd s) (hm : 0 ≤ m) (hmn : m ≤ n) : LeS (stp i m s) (stp i n s) ∧ LeS s (stp i m s) ∧ Gd (stp i m s) := by
  obtain ⟨ha, hb, hc, hd⟩ := h
  have e1 : m * s.1 ≤ n * s.1 := Int.mul_le_mul_of_nonneg_right hmn ha
  have e2 : m * s.2.1 ≤ n * s.2.1 := Int.mul_le_mul_of_nonneg_right hmn (by omega)
  have e3 : m * s.2.2.1 ≤ n * s.2.2.1 := Int.mul_le_mul_of_nonneg_right hmn (by omega)
  have e4 : m * s.2.2.2 ≤ n * s.2.2.2 := Int.mul_le_mul_of_nonneg_right hmn hd
  have f1 := Int.mul_nonneg hm ha
  have f2 := Int.mul_nonneg hm (show 0 ≤ s.2.1 by omega)
  have f3 := Int.mul_nonneg hm (show 0 ≤ s.2.2.1 by omega)
  have f4 := Int.mul_nonneg hm hd
  unfold stp
  split <;> refine ⟨⟨?_, ?_, ?_, ?_⟩, ⟨?_, ?_, ?_, ?_⟩, ⟨?_, ?_, ?_, ?_⟩⟩ <;> simp only <;> omega

theorem stN_le : ∀ (l : List Int) (i : Nat) (s : S4), Gd s → (∀ x ∈ l, 0 ≤ x) → LeS s (stN i s l) ∧ Gd (stN i s l)
  | [], _, s, h, _ => ⟨⟨Int.le_refl _, Int.le_refl _, Int.le_refl _, Int.le_refl _⟩, h⟩
  | n :: l, i, s, h, hx => by
    obtain ⟨_, h2, h3⟩ := stp_le i h (hx n (List.mem_cons_self ..)) (Int.le_refl n)
    obtain ⟨k1, k2⟩ := stN_le l (i + 1) (stp i n s) h3 (fun x hxx => hx x (List.mem_cons_of_mem _ hxx))
    exact ⟨h2.trans k1, k2⟩

theorem stp_big (i : Nat) {s : S4} (h : Gd s) : overS (stp i 1000000001 s) := by
  obtain ⟨ha, hb, hc, hd⟩ := h
  unfold stp overS
  split <;> simp only <;> omega

theorem steps_over : ∀ (l : List Int) (i : Nat) (s : S4), Gd s → ¬ overS s → (∀ x ∈ l, 0 ≤ x) →
    ((∃ t ∈ stepsL i s l, overS t) ↔ overS (stN i s l)) ∧ (¬ overS (stN i s l) → (stepsL i s l).getLastD s = stN i s l)
  | [], i, s, h, hs, _ => by simp [stepsL, stN, hs]
  | n :: l, i, s, h, hs, hx => by
    have hn := hx n (List.mem_cons_self ..)
    have hx' : ∀ x ∈ l, 0 ≤ x := fun x hxx => hx x (List.mem_cons_of_mem _ hxx)
    obtain ⟨t, ht⟩ : ∃ t, stp i (min n 1000000001) s = t := ⟨_, rfl⟩
    obtain ⟨q1, q2, q3⟩ := @stp_le i (min n 1000000001) n s h (by omega) (by omega)
    obtain ⟨_, _, r3⟩ := @stp_le i n n s h hn (Int.le_refl _)
    obtain ⟨k1, k2⟩ := stN_le l (i + 1) (stp i n s) r3 hx'
    rw [ht] at q1 q2 q3
    by_cases ho : overS t
    · rw [stepsL_over i s n l t ht ho]
      have hf : overS (stN i s (n :: l)) := k1.over (q1.over ho)
      exact ⟨⟨fun _ => hf, fun _ => ⟨t, by simp, ho⟩⟩, fun hh => absurd hf hh⟩
    · have hle : n ≤ 1000000000 := by
        apply Decidable.byContradiction
        intro hh
        have e : min n 1000000001 = 1000000001 := by omega
        rw [e] at ht
        exact ho (ht ▸ stp_big i h)
      have e : min n 1000000001 = n := by omega
      rw [stepsL_cons i s n l t ht ho]
      rw [e] at ht
      obtain ⟨j1, j2⟩ := steps_over l (i + 1) t q3 ho hx'
      have hN : stN i s (n :: l) = stN (i + 1) t l := by rw [← ht]; rfl
      rw [hN]
      refine ⟨?_, fun hh => ?_⟩
      · rw [← j1]
        constructor
        · rintro ⟨u, hu, hu2⟩
          rcases List.mem_cons.1 hu with rfl | hu
          · exact absurd hu2 ho
          · exact ⟨u, hu, hu2⟩
        · rintro ⟨u, hu, hu2⟩
          exact ⟨u, List.mem_cons_of_mem _ hu, hu2⟩
      · have := j2 hh
        rw [← this]
        cases stepsL (i + 1) t l <;> simp [List.getLast?_cons]

theorem stN_append : ∀ (l : List Int) (i : Nat) (s : S4) (n : Int), stN i s (l ++ [n]) = stp (i + l.length) n (stN i s l)
  | [], i, s, n => by simp [stN]
  | m :: l, i, s, n => by
    show stN (i + 1) (stp i m s) (l ++ [n]) = _
    rw [stN_append l (i + 1) (stp i m s) n]
    have e : i + 1 + l.length = i + (m :: l).length := by simp; omega
    rw [e]
    rfl

/-- A path whose last number is above 0 leads to its fraction. -/
theorem stN_res {l : List Int} {n : Int} (hl : ∀ x ∈ l, 0 ≤ x) (hn : 1 ≤ n) :
    resS (l ++ [n]).length (stN 0 S0 (l ++ [n])) = cont (l ++ [n]) ∧ (overS (stN 0 S0 (l ++ [n])) ↔ overP (cont (l ++ [n]))) ∧ stN 0 S0 (l ++ [n]) ≠ S0 := by
  have h1 := res_stN (l ++ [n]) 0 S0
  have h2 : resS (l ++ [n]).length (stN 0 S0 (l ++ [n])) = cont (l ++ [n]) := by
    rw [Nat.zero_add] at h1
    rw [h1]
    simp
  have hS : stN 0 S0 (l ++ [n]) = stp l.length n (stN 0 S0 l) := by
    have := stN_append l 0 S0 n
    rwa [Nat.zero_add] at this
  obtain ⟨_, hg⟩ := stN_le l 0 S0 Gd.start hl
  refine ⟨h2, ?_, ?_⟩
  · rw [← h2, hS]
    obtain ⟨s, hs⟩ : ∃ s, stN 0 S0 l = s := ⟨_, rfl⟩
    rw [hs] at hg ⊢
    obtain ⟨ha, hb, hc, hd⟩ := hg
    have f1 : 1 * s.1 ≤ n * s.1 := Int.mul_le_mul_of_nonneg_right hn ha
    have f2 : 1 * s.2.1 ≤ n * s.2.1 := Int.mul_le_mul_of_nonneg_right hn (by omega)
    have f3 : 1 * s.2.2.1 ≤ n * s.2.2.1 := Int.mul_le_mul_of_nonneg_right hn (by omega)
    have f4 : 1 * s.2.2.2 ≤ n * s.2.2.2 := Int.mul_le_mul_of_nonneg_right hn hd
    unfold resS stp overS overP
    have e : (l ++ [n]).length = l.length + 1 := by simp
    rw [e]
    rcases Nat.mod_two_eq_zero_or_one l.length with h | h
    · have h1 : (l.length + 1) % 2 = 1 := by omega
      simp only [h, h1, if_true]
      omega
    · have h1 : (l.length + 1) % 2 = 0 := by omega
      simp only [h, h1]
      simp
      omega
  · rw [hS]
    obtain ⟨s, hs⟩ : ∃ s, stN 0 S0 l = s := ⟨_, rfl⟩
    rw [hs] at hg ⊢
    obtain ⟨ha, hb, hc, hd⟩ := hg
    have f2 : 1 * s.2.1 ≤ n * s.2.1 := Int.mul_le_mul_of_nonneg_right hn (by omega)
    have f3 : 1 * s.2.2.1 ≤ n * s.2.2.1 := Int.mul_le_mul_of_nonneg_right hn (by omega)
    unfold stp
    intro hh
    split at hh
    · have := congrArg (fun z : S4 => z.1) hh
      simp at this
      omega
    · have := congrArg (fun z : S4 => z.2.2.2) hh
      simp at this
      omega

/-- Numbers of a path, but not 0 alone. -/
def PthR (L : List Int) : Prop := (∀ i, i < L.length → 0 ≤ L.getD i 0 ∧ (0 < i → 1 ≤ L.getD i 0)) ∧ (L.length = 1 ∨ 2 ≤ L.getD (L.length - 1) 0)
/-- What Follow is to return, by the definition. -/
def folR (L : List Int) : (Int × Int) × Int :=
  if L.length = 0 ∨ 64 < L.length then ((0, 0), 6)
  else if (∀ i, i < L.length → 0 ≤ L.getD i 0 ∧ (0 < i → 1 ≤ L.getD i 0)) ∧ (L.length = 1 ∨ 2 ≤ L.getD (L.length - 1) 0) then
    if L = [0] then ((0, 0), 2) else if overP (cont L) then ((0, 0), 4) else (cont L, 0)
  else ((0, 0), 2)

theorem getD_mem {L : List Int} {x : Int} (h : x ∈ L) : ∃ i, i < L.length ∧ L.getD i 0 = x := by
  obtain ⟨i, hi, rfl⟩ := List.getElem_of_mem h
  exact ⟨i, hi, by simp [List.getD_eq_getElem?_getD, hi]⟩

theorem fol_eq (L : List Int) : resF L = folR L := by
  unfold resF folR
  split
  · rfl
  rename_i hl
  split
  · rename_i hP
    obtain ⟨hP1, hP2⟩ := hP
    have hne : L ≠ [] := fun e => hl (by simp [e])
    by_cases h0 : L = [0]
    · subst h0
      decide +kernel
    rw [if_neg h0]
    obtain ⟨l, n, rfl⟩ : ∃ l n, L = l ++ [n] := ⟨L.dropLast, L.getLast hne, (List.dropLast_concat_getLast hne).symm⟩
    have hn : 1 ≤ n := by
      have hi := hP1 l.length (by simp)
      have hv : (l ++ [n]).getD l.length 0 = n := by simp [List.getD_eq_getElem?_getD]
      rw [hv] at hi
      by_cases hz : 0 < l.length
      · exact hi.2 hz
      · have hl0 : l = [] := List.length_eq_zero_iff.1 (by omega)
        subst hl0
        have hne0 : n ≠ 0 := fun e => h0 (by simp [e])
        omega
    have hx : ∀ x ∈ l ++ [n], 0 ≤ x := fun x hx => by
      obtain ⟨i, hi, rfl⟩ := getD_mem hx
      exact (hP1 i hi).1
    obtain ⟨r1, r2, r3⟩ := stN_res (l := l) (n := n) (fun x hxx => hx x (List.mem_append_left _ hxx)) hn
    obtain ⟨s1, s2⟩ := steps_over (l ++ [n]) 0 S0 Gd.start (by decide) hx
    unfold folL
    by_cases ho : overP (cont (l ++ [n]))
    · rw [if_pos (s1.2 (r2.2 ho)), if_pos ho]
    · have ho' : ¬ overS (stN 0 S0 (l ++ [n])) := fun h => ho (r2.1 h)
      rw [if_neg (fun h => ho' (s1.1 h)), if_neg ho, s2 ho']
      simp only
      rw [if_neg r3, ← r1]
      unfold resS
      split <;> rfl
  · rfl

end Go.Proofs.Ytbdjllgngblfoaa
