/- Paths of fractions: what they tell, how long they are. Plain arithmetic. -/
import Derived.Test.YtbdjllgngblfoaaVm
namespace Go.Proofs.Ytbdjllgngblfoaa
set_option linter.unusedVariables false
set_option linter.unusedSimpArgs false

/-- So many steps of Euclid's are enough. -/
def Dn : Nat → Int → Int → Prop
  | 0, _, y => y = 0
  | k + 1, x, y => y = 0 ∨ Dn k y (x % y)

theorem Dn.zero (k : Nat) (x : Int) : Dn k x 0 := by cases k <;> simp [Dn]
theorem Dn.mono : ∀ (k : Nat) (x y : Int), Dn k x y → Dn (k + 1) x y
  | 0, x, y, h => .inl h
  | k + 1, x, y, h => by
    rcases h with h | h
    · exact .inl h
    · exact .inr (Dn.mono k y (x % y) h)
theorem Eu.done : ∀ (n k : Nat) (x y : Int), n = 60 - k → Eu k x y → Dn n x y
  | 0, k, x, y, hn, h => by
    show y = 0
    apply Decidable.byContradiction
    intro hy
    have := h.bound hy
    omega
  | n + 1, k, x, y, hn, h => by
    by_cases hy : y = 0
    · exact .inl hy
    · exact .inr (Eu.done n (k + 1) y (x % y) (by omega) (h.step hy))
theorem dn_fr {x y : Int} (h : Wn x y) (j : Nat) : Dn (60 + j) x y := by
  induction j with
  | zero => exact Eu.done 60 0 x y rfl (Eu.start h)
  | succ j ih => exact ih.mono

theorem pathL_more : ∀ (k : Nat) (x y : Int), Dn k x y → pathL (k + 1) x y = pathL k x y
  | 0, x, y, h => by
    have h' : y = 0 := h
    subst h'
    simp [pathL]
  | k + 1, x, y, h => by
    by_cases hy : y = 0
    · subst hy; rw [pathL_zero, pathL_zero]
    · rcases h with h | h
      · exact absurd h hy
      · rw [pathL_step _ _ _ hy, pathL_step _ _ _ hy, pathL_more k _ _ h]

theorem cont_path : ∀ (k : Nat) (x y : Int), Dn k x y → 0 ≤ x → 0 ≤ y → x = ((Int.gcd x y : Nat) : Int) * (cont (pathL k x y)).1 ∧ y = ((Int.gcd x y : Nat) : Int) * (cont (pathL k x y)).2
  | k, x, y, h, hx, hy0 => by
    by_cases hy : y = 0
    · subst hy
      rw [pathL_zero]
      simp [cont]
      omega
    · cases k with
      | zero => exact absurd h hy
      | succ k =>
        rcases h with h | h
        · exact absurd h hy
        · obtain ⟨h1, h2⟩ := cont_path k y (x % y) h hy0 (Int.emod_nonneg _ hy)
          rw [gcd_step] at h1 h2
          rw [pathL_step _ _ _ hy]
          simp only [cont]
          have e := Int.emod_add_mul_ediv x y
          refine ⟨?_, h1⟩
          generalize (Int.gcd x y : Int) = g at *
          generalize cont (pathL k y (x % y)) = p at *
          grind

/-- The numbers of a path below one: all are from 1 on, the last one from 2 on. -/
theorem path_low : ∀ (k : Nat) (x y : Int), Dn k x y → 1 ≤ y → y < x → Int.gcd x y = 1 → pathL k x y ≠ [] ∧ (∀ z ∈ pathL k x y, 1 ≤ z) ∧ 2 ≤ (pathL k x y).getLastD 0
  | 0, x, y, h, h1, h2, hg => by have h' : y = 0 := h; omega
  | k + 1, x, y, h, h1, h2, hg => by
    have hy : y ≠ 0 := by omega
    rcases h with h | h
    · exact absurd h hy
    have hq : 1 ≤ x / y := by
      have := Int.le_ediv_of_mul_le (a := 1) (b := x) (c := y) (by omega) (by omega)
      exact this
    rw [pathL_step _ _ _ hy]
    by_cases hm : x % y = 0
    · rw [hm, pathL_zero]
      have hd : y ∣ x := Int.dvd_of_emod_eq_zero hm
      have hy1 : y = 1 := by
        have e : Int.gcd x y = y.natAbs := by
          rw [Int.gcd_comm]
          exact Int.gcd_eq_natAbs_left hd
        omega
      subst hy1
      simp
      omega
    · have hn := Int.emod_nonneg x hy
      have hl := Int.emod_lt_of_pos x (show 0 < y by omega)
      obtain ⟨i1, i2, i3⟩ := path_low k y (x % y) h (by omega) hl (by rw [gcd_step]; exact hg)
      refine ⟨by simp, fun z hz => ?_, ?_⟩
      · rcases List.mem_cons.1 hz with rfl | hz
        · exact hq
        · exact i2 z hz
      · cases hp : pathL k y (x % y) with
        | nil => exact absurd hp i1
        | cons u r => rw [hp] at i3; simpa [List.getLast?_cons] using i3

theorem getLastD_getD (L : List Int) : L.getLastD 0 = L.getD (L.length - 1) 0 := by
  rw [List.getLastD_eq_getLast?, List.getLast?_eq_getElem?, List.getD_eq_getElem?_getD]

theorem getD_of_mem {L : List Int} {i : Nat} (h : i < L.length) : L.getD i 0 ∈ L := by
  rw [List.getD_eq_getElem?_getD, List.getElem?_eq_getElem h]
  exact List.getElem_mem h

/-- The path of a fraction is one, and leads to it. -/
theorem path_fr {x y : Int} (h : Fr x y) : 1 ≤ (pathL 64 x y).length ∧ (pathL 64 x y).length ≤ 60 ∧ ((∀ i, i < (pathL 64 x y).length → 0 ≤ (pathL 64 x y).getD i 0 ∧ (0 < i → 1 ≤ (pathL 64 x y).getD i 0)) ∧ ((pathL 64 x y).length = 1 ∨ 2 ≤ (pathL 64 x y).getD ((pathL 64 x y).length - 1) 0)) ∧ pathL 64 x y ≠ [0] ∧ cont (pathL 64 x y) = (x, y) := by
  obtain ⟨f1, f2, f3, f4, f5⟩ := h
  have hw : Wn x y := ⟨f1, f2, f3, f4⟩
  have hd : Dn 64 x y := dn_fr hw 4
  have hy : y ≠ 0 := by omega
  obtain ⟨c1, c2⟩ := cont_path 64 x y hd (by omega) (by omega)
  rw [f5] at c1 c2
  have hc : cont (pathL 64 x y) = (x, y) := by
    refine Prod.ext ?_ ?_
    · simp at c1; exact c1.symm
    · simp at c2; exact c2.symm
  have hlen : (pathL 64 x y).length ≤ 60 := by
    rcases (Eu.start hw).len 64 with h | h
    · simpa using h
    · omega
  have hne : pathL 64 x y ≠ [0] := by
    intro e
    rw [e] at hc
    simp [cont] at hc
    omega
  refine ⟨?_, hlen, ?_, hne, hc⟩
  · rw [pathL_step _ _ _ hy]; simp
  · have hq : 0 ≤ x / y := Int.ediv_nonneg (by omega) (by omega)
    have hd' : y = 0 ∨ Dn 63 y (x % y) := hd
    rcases hd' with hd' | hd'
    · exact absurd hd' hy
    rw [pathL_step _ _ _ hy]
    by_cases hm : x % y = 0
    · rw [hm, pathL_zero]
      refine ⟨fun i hi => ?_, .inl rfl⟩
      have : i = 0 := by simpa using hi
      subst this
      exact ⟨by simpa using hq, fun h => by omega⟩
    · have hn := Int.emod_nonneg x hy
      have hl := Int.emod_lt_of_pos x (show 0 < y by omega)
      obtain ⟨i1, i2, i3⟩ := path_low 63 y (x % y) hd' (by omega) hl (by rw [gcd_step]; exact f5)
      refine ⟨fun i hi => ?_, .inr ?_⟩
      · cases i with
        | zero => exact ⟨by simpa using hq, fun h => by omega⟩
        | succ i =>
          have hi' : i < (pathL 63 y (x % y)).length := by simpa using hi
          have := i2 _ (getD_of_mem hi')
          have e : (x / y :: pathL 63 y (x % y)).getD (i + 1) 0 = (pathL 63 y (x % y)).getD i 0 := by simp [List.getD_eq_getElem?_getD]
          rw [e]
          omega
      · rw [← getLastD_getD]
        cases hp : pathL 63 y (x % y) with
        | nil => exact absurd hp i1
        | cons u r => rw [hp] at i3; simpa [List.getLast?_cons] using i3

theorem fol_path {x y : Int} (h : Fr x y) : folR (pathL 64 x y) = ((x, y), 0) := by
  obtain ⟨h1, h2, h3, h4, h5⟩ := path_fr h
  unfold folR
  rw [if_neg (by omega), if_pos h3, if_neg h4, h5, if_neg]
  unfold overP
  have := h.1
  have := h.2.1
  have := h.2.2.2.1
  simp only
  omega

/-- The path of a fraction below 1 turned over is its path without the 0. -/
theorem path_turn {x y : Int} (h : Fr x y) (hlt : x < y) : pathL 64 x y = 0 :: pathL 64 y x := by
  obtain ⟨f1, f2, f3, f4, f5⟩ := h
  have hy : y ≠ 0 := by omega
  rw [pathL_step _ _ _ hy, Int.ediv_eq_zero_of_lt (by omega) hlt, Int.emod_eq_of_lt (by omega) hlt]
  have hw : Wn y x := ⟨f3, f4, f1, f2⟩
  rw [← pathL_more 63 y x (dn_fr hw 3)]

/-- The simplest pair of a span, by inequalities alone. -/
structure LeastW (a b c d x y : Int) : Prop where
  x1 : 1 ≤ x
  y1 : 1 ≤ y
  lo : a * y ≤ x * b
  hi : x * d ≤ c * y
  min : ∀ p q, 1 ≤ p → 1 ≤ q → a * q ≤ p * b → p * d ≤ c * q → x ≤ p ∧ y ≤ q

/-- A whole part is taken away, and what is left is turned over. -/
theorem LeastW.down {a b c d x y n : Int} (h : LeastW a b c d x y) (h0 : 1 ≤ x - n * y) (hd : 0 ≤ d) (hb : 0 ≤ b) (hn : 0 ≤ n) : LeastW d (c - n * d) b (a - n * b) y (x - n * y) := by
  obtain ⟨h1, h2, h3, h4, h5⟩ := h
  refine ⟨h2, h0, by grind, by grind, fun p q hp hq g1 g2 => ?_⟩
  have e1 : y ≤ p := by
    have := h5 (n * p + q) p (by have := Int.mul_nonneg hn (show 0 ≤ p by omega); omega) hp (by grind) (by grind)
    exact this.2
  refine ⟨e1, ?_⟩
  apply Decidable.byContradiction
  intro hlt
  have h6 : q < x - n * y := by omega
  have m1 : d * q ≤ d * (x - n * y) := Int.mul_le_mul_of_nonneg_left (by omega) hd
  have k2 : b * q = b * q := rfl
  -- the pair (y, q): at least (p, q)'s lower bound, at most (y, x - n y)'s
  have := h5 (n * y + q) y (by have := Int.mul_nonneg hn (show 0 ≤ y by omega); omega) h2 (by
      -- a y ≤ (n y + q) b, that is y (a - n b) ≤ b q, as y ≤ p and p (a - n b) ≤ b q
      have t : y * (a - n * b) ≤ b * q := by
        by_cases hs : 0 ≤ a - n * b
        · have := Int.mul_le_mul_of_nonneg_right e1 hs
          omega
        · have t1 : y * (a - n * b) ≤ 0 := by
            have := Int.mul_nonneg (show 0 ≤ y by omega) (show 0 ≤ -(a - n * b) by omega)
            grind
          have t2 := Int.mul_nonneg hb (show 0 ≤ q by omega)
          omega
      grind) (by grind)
  omega

/-- No fraction of a span has a shorter path than the simplest one. -/
theorem path_short : ∀ (k : Nat) (a b c d x y p q : Int), LeastW a b c d x y → 0 ≤ a → 0 ≤ b → 0 ≤ d → 1 ≤ p → 1 ≤ q → a * q ≤ p * b → p * d ≤ c * q → (pathL k x y).length ≤ (pathL k p q).length
  | 0, a, b, c, d, x, y, p, q, _, _, _, _, _, _, _, _ => by simp [pathL]
  | k + 1, a, b, c, d, x, y, p, q, hL, ha, hb, hd, hp, hq, g1, g2 => by
    have hL' := hL
    obtain ⟨h1, h2, h3, h4, h5⟩ := hL
    have hy : y ≠ 0 := by omega
    have hq0 : q ≠ 0 := by omega
    rw [pathL_step _ _ _ hy, pathL_step _ _ _ hq0]
    by_cases hm : x % y = 0
    · rw [hm, pathL_zero]; simp
    have ex := Int.emod_add_mul_ediv x y
    have r0 := Int.emod_nonneg x hy
    have r1 := Int.emod_lt_of_pos x (show 0 < y by omega)
    have ep := Int.emod_add_mul_ediv p q
    have s0 := Int.emod_nonneg p hq0
    have s1 := Int.emod_lt_of_pos p (show 0 < q by omega)
    have hn0 : 0 ≤ x / y := Int.ediv_nonneg (by omega) (by omega)
    obtain ⟨n, hn⟩ : ∃ n, x / y = n := ⟨_, rfl⟩
    obtain ⟨m, hmm⟩ : ∃ m, p / q = m := ⟨_, rfl⟩
    rw [hn] at ex hn0
    rw [hmm] at ep
    have hy2 : 2 ≤ y := by
      apply Decidable.byContradiction
      intro hh
      have : y = 1 := by omega
      subst this
      omega
    -- no whole number is in the span
    have noint : ∀ t, 1 ≤ t → a * 1 ≤ t * b → t * d ≤ c * 1 → False := fun t ht u1 u2 => by
      have := h5 t 1 ht (by omega) u1 u2
      omega
    have hnm : m = n ∧ p % q ≠ 0 := by
      have A : n * q < p := by
        -- otherwise the whole number n is in the span
        apply Decidable.byContradiction
        intro hh
        have hle : p ≤ n * q := by omega
        have n1 : 1 ≤ n := by
          apply Decidable.byContradiction
          intro h7
          have : n = 0 := by omega
          subst this
          omega
        have u1 : a ≤ n * b := by
          have t1 : p * b ≤ n * q * b := Int.mul_le_mul_of_nonneg_right hle hb
          have t2 : a * q ≤ (n * b) * q := by grind
          exact Int.le_of_mul_le_mul_right t2 (by omega)
        have u2 : n * d ≤ c := by
          have t1 : n * y * d ≤ x * d := Int.mul_le_mul_of_nonneg_right (by grind) hd
          have t2 : (n * d) * y ≤ c * y := by grind
          exact Int.le_of_mul_le_mul_right t2 (by omega)
        exact noint n n1 (by omega) (by omega)
      have B : p < (n + 1) * q := by
        apply Decidable.byContradiction
        intro hh
        have hle : (n + 1) * q ≤ p := by omega
        have u2 : (n + 1) * d ≤ c := by
          have t1 : (n + 1) * q * d ≤ p * d := Int.mul_le_mul_of_nonneg_right hle hd
          have t2 : ((n + 1) * d) * q ≤ c * q := by grind
          exact Int.le_of_mul_le_mul_right t2 (by omega)
        have u1 : a ≤ (n + 1) * b := by
          have t1 : x * b ≤ ((n + 1) * y) * b := Int.mul_le_mul_of_nonneg_right (by grind) hb
          have t2 : a * y ≤ ((n + 1) * b) * y := by grind
          exact Int.le_of_mul_le_mul_right t2 (by omega)
        exact noint (n + 1) (by omega) (by omega) (by omega)
      have hme : m = n := by
        rw [← hmm]
        have hq1 : 0 < q := by omega
        have l1 : n ≤ p / q := Int.le_ediv_of_mul_le hq1 (by omega)
        have l2 : p / q < n + 1 := Int.ediv_lt_of_lt_mul hq1 B
        omega
      subst hme
      refine ⟨rfl, fun h0 => ?_⟩
      rw [h0] at ep
      grind
    obtain ⟨rfl, hpm⟩ := hnm
    have exn : x % y = x - m * y := by grind
    have epn : p % q = p - m * q := by grind
    have hL2 := hL'.down (n := m) (by omega) hd hb hn0
    have E1 : d * (p - m * q) = p * d - m * d * q := by grind
    have E2 : q * (c - m * d) = c * q - m * d * q := by grind
    have E3 : q * (a - m * b) = a * q - m * b * q := by grind
    have E4 : b * (p - m * q) = p * b - m * b * q := by grind
    have A8 : 0 ≤ c - m * d := by
      have t1 : m * y * d ≤ x * d := Int.mul_le_mul_of_nonneg_right (by grind) hd
      have t2 : (m * d) * y ≤ c * y := by grind
      have := Int.le_of_mul_le_mul_right t2 (show 0 < y by omega)
      omega
    have A9 : 0 ≤ a - m * b := by
      apply Decidable.byContradiction
      intro h9
      by_cases m0 : 1 ≤ m
      · exact noint m m0 (by omega) (by omega)
      · have : m = 0 := by omega
        subst this
        omega
    have := path_short k d (c - m * d) b (a - m * b) y (x - m * y) q (p - m * q) hL2 hd A8 A9 (by omega) (by omega) (by rw [E1, E2]; omega) (by rw [E3, E4]; omega)
    rw [← exn, ← epn] at this
    simpa using this

end Go.Proofs.Ytbdjllgngblfoaa
