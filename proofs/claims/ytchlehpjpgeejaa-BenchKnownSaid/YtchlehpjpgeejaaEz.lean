/- A region whose order is open: what each operation finds, and what it leaves. -/
import Derived.Test.YtchlehpjpgeejaaEy
namespace Go.Proofs.Ytchlehpjpgeejaa.Ev
set_option linter.unusedVariables false
set_option linter.unusedSimpArgs false
open Go
noncomputable section
variable {P : Program} {rec : Rec} {sz N : Nat} {ops : Array Oper} {pr : Nat → Nat} {D : Nat → DS} {kd : Nat → Kd} {op : Nat → Oper} {tm0 : Tr AV} {s0 : HS} {S : Nat → Bool} {i : Nat}

theorem add_n (C : Chain rec P sz ops N pr D kd op tm0 s0) {j : Nat} (hj : j < N) {v : AV} {K : Tr AB} {s1 : HS} {rel call : Bool} (hk : kd j = .add v K s1 rel call) : (D (j + 1)).s.n = s1.n ∧ (D j).s.n ≤ s1.m ∧ (D j).s.n ≤ s1.n := by
  have hF := (C.step j hj).2.2
  rw [hk] at hF
  exact ⟨hF.2.2.2.1, hF.2.2.1, (ev1_stat C.stat hF.2.1).le⟩
/-- Of what was told, all is known at whoever is behind. -/
theorem told_at (C : Chain rec P sz ops N pr D kd op tm0 s0) {j k : Nat} (h1 : lb kd k ≤ j) (h2 : j < k) (hk : k ≤ N) : Told (D j).s.n (D k) j (kd j) := (C.inv k hk).told j h1 h2
/-- A store that was carried out out of turn writes elsewhere. -/
theorem store_fact_of (C : Chain rec P sz ops N pr D kd op tm0 s0) {j : Nat} (hj : j < N) {b off : Nat} {cs : List AV} (hk : kd j = .store b off cs) :
    besides (pr j) b off cs.length (D j).stores = true ∧ besides (pr j) b off cs.length (D j).loads = true ∧ within (D j).calls (pr j) = true ∧ orB (Nat.blt b (D j).n0) (within (D j).cr (pr j)) = true := by
  have hF := (C.step j hj).2.2
  rw [hk] at hF
  obtain ⟨_, _, _, _, _, _, _, _, _, a, b, c, d, _⟩ := hF
  exact ⟨a, b, c, d⟩
theorem new_known {b n0 p cr : Nat} (h : orB (Nat.blt b n0) (within cr p) = true) : b < n0 ∨ ∀ j, cr.testBit j = true → p.testBit j = true := by
  rcases orB_eq.1 h with q | q
  · exact .inl (by simpa using q)
  · exact .inr (fun j hj => within_bits q hj)
/-- What a call finds: its heap. -/
theorem heap_call (C : Chain rec P sz ops N pr D kd op tm0 s0) (R : Ready N pr S i) {v : AV} {K : Tr AB} {s1 : HS} {rel call : Bool} (hk : kd i = .add v K s1 rel call) {b : Nat} {x : AB} (hx : K.get b = some x) : hS D kd S N b = some x := by
  have hlt := R.lt
  have hF := (C.step i R.lt).2.2
  rw [hk] at hF
  obtain ⟨_, _, _, _, _, _, _, _, hcall, hncall, _⟩ := hF
  cases hc : call with
  | false =>
    rw [(hncall hc).1] at hx
    cases hx
  | true =>
    obtain ⟨hrel, hst, hK, _⟩ := hcall hc
    have hr : isRel (kd i) = true := by rw [hk]; exact hrel
    have hi : isBar (kd i) = false := by rw [hk]; rfl
    have nostore : ∀ j, i < j → j < N → S j = true → ∀ b off cs, kd j ≠ .store b off cs := fun j h1 h2 h3 b off cs q => by
      have hl := lb_low C R hr hi h1 h2 h3 (by rw [q]; rfl)
      have ht := told_at C hl h1 (Nat.le_of_lt h2)
      rw [hk] at ht
      have := within_bits (store_fact_of C h2 q).2.2.1 (ht.2 hc)
      rw [R.not h2 this] at h3
      cases h3
    have instore : ∀ j, lb kd i ≤ j → j < i → S j = false → ∀ b off cs, kd j ≠ .store b off cs := fun j h1 h2 h3 b off cs q => by
      have ht := told_at C h1 h2 (Nat.le_of_lt R.lt)
      rw [q] at ht
      have := R.pred j (allIn_bits hst _ ht)
      rw [h3] at this
      cases this
    rcases hK with ⟨rfl, hcr⟩ | rfl
    · have hbn : b < (D i).s.n := by
        by_cases e : b < (D i).s.n
        · exact e
        · rw [(C.good i (Nat.le_of_lt R.lt)).top b (by omega)] at hx
          cases hx
      have T := transport C R hr (fun x y => ∀ b, b < (D i).s.n → x b = y b) (fun h b _ => rfl)
        (fun j h1 h2 x y hxy b hb => by
          have hnb := lb_nobar h1 h2
          cases hkj : kd j with
          | add v K s1 rel call =>
            show (if (D j).s.n ≤ b ∧ b < s1.n then _ else _) = (if (D j).s.n ≤ b ∧ b < s1.n then _ else _)
            rw [hxy b hb]
          | store b' off cs =>
            show (if b = b' then spB (x b') off cs else x b) = (if b = b' then spB (y b') off cs else y b)
            by_cases e : b = b'
            · subst e; rw [if_pos rfl, if_pos rfl, hxy b hb]
            · rw [if_neg e, if_neg e, hxy b hb]
          | bar v s1 => rw [hkj] at hnb; cases hnb
          | _ => exact hxy b hb)
        (fun j h1 h2 hSj x y hxy b hb => by
          have hnb := lb_nobar h1 h2
          cases hkj : kd j with
          | add v K s1 rel call =>
            show x b = (if (D j).s.n ≤ b ∧ b < s1.n then _ else _)
            rw [if_neg, hxy b hb]
            intro q
            have ht := told_at C h1 h2 (Nat.le_of_lt R.lt)
            rw [hkj] at ht
            have := R.pred j (within_bits hcr (ht.1 (by omega)))
            rw [hSj] at this
            cases this
          | store b' off cs => exact absurd hkj (instore j h1 h2 hSj b' off cs)
          | bar v s1 => rw [hkj] at hnb; cases hnb
          | _ => exact hxy b hb)
        (fun j h1 h2 hSj x y hxy b hb => by
          cases hkj : kd j with
          | add v K s1 rel call =>
            show (if (D j).s.n ≤ b ∧ b < s1.n then _ else _) = y b
            rw [if_neg, hxy b hb]
            have := C.nle (i := i) (j := j) (by omega) (by omega)
            omega
          | store b' off cs => exact absurd hkj (nostore j h1 h2 hSj b' off cs)
          | bar v s1 => rw [bars_out C R hr h1 h2 (by rw [hkj]; rfl)] at hSj; cases hSj
          | _ => exact hxy b hb)
      rw [T b hbn]
      exact hx
    · rw [(C.inv i (Nat.le_of_lt R.lt)).base b, (C.inv i (Nat.le_of_lt R.lt)).n0] at hx
      split at hx
      · rename_i hbn
        have T := transport C R hr (fun x y => ∀ b, b < (D (lb kd i)).s.n → x b = y b) (fun h b _ => rfl)
          (fun j h1 h2 x y hxy b hb => by
            have hnb := lb_nobar h1 h2
            cases hkj : kd j with
            | add v K s1 rel call =>
              show (if (D j).s.n ≤ b ∧ b < s1.n then _ else _) = (if (D j).s.n ≤ b ∧ b < s1.n then _ else _)
              rw [hxy b hb]
            | store b' off cs =>
              show (if b = b' then spB (x b') off cs else x b) = (if b = b' then spB (y b') off cs else y b)
              by_cases e : b = b'
              · subst e; rw [if_pos rfl, if_pos rfl, hxy b hb]
              · rw [if_neg e, if_neg e, hxy b hb]
            | bar v s1 => rw [hkj] at hnb; cases hnb
            | _ => exact hxy b hb)
          (fun j h1 h2 hSj x y hxy b hb => by
            have hnb := lb_nobar h1 h2
            cases hkj : kd j with
            | add v K s1 rel call =>
              show x b = (if (D j).s.n ≤ b ∧ b < s1.n then _ else _)
              rw [if_neg, hxy b hb]
              have := C.nle (i := lb kd i) (j := j) h1 (by omega)
              omega
            | store b' off cs => exact absurd hkj (instore j h1 h2 hSj b' off cs)
            | bar v s1 => rw [hkj] at hnb; cases hnb
            | _ => exact hxy b hb)
          (fun j h1 h2 hSj x y hxy b hb => by
            cases hkj : kd j with
            | add v K s1 rel call =>
              show (if (D j).s.n ≤ b ∧ b < s1.n then _ else _) = y b
              rw [if_neg, hxy b hb]
              have := C.nle (i := lb kd i) (j := j) (by have := lb_le kd i; omega) (by omega)
              omega
            | store b' off cs => exact absurd hkj (nostore j h1 h2 hSj b' off cs)
            | bar v s1 => rw [bars_out C R hr h1 h2 (by rw [hkj]; rfl)] at hSj; cases hSj
            | _ => exact hxy b hb)
        rw [T b hbn]
        exact hx
      · cases hx
/-- What a bar finds: the heap of the text. -/
theorem heap_bar (C : Chain rec P sz ops N pr D kd op tm0 s0) (R : Ready N pr S i) {v : AV} {s1 : HS} (hk : kd i = .bar v s1) : hS D kd S N = (D i).s.H.get := by
  have hlt := R.lt
  have hF := (C.step i R.lt).2.2
  rw [hk] at hF
  have himp := hF.2.2.2.2.2.2.2.2.2.2.2
  have hr : isRel (kd i) = true := by rw [hk]; rfl
  have idle : ∀ j, j < N → isRel (kd j) = false → ∀ x, tstep (kd j) (D j).s.n x = x := fun j hj hn x => by
    cases hkj : kd j with
    | off => rfl
    | add v K s1 rel call =>
      rw [hkj] at hn
      have hFj := (C.step j hj).2.2
      rw [hkj] at hFj
      have hn' : rel = false := hn
      have e := (hFj.2.2.2.2.2.2.2.1 hn').2
      funext b
      show (if (D j).s.n ≤ b ∧ b < s1.n then _ else _) = _
      rw [if_neg (by omega)]
    | _ => rw [hkj] at hn; cases hn
  refine transport C R hr (fun x y => x = y) (fun _ => rfl) (fun j h1 h2 x y e => by rw [e]) (fun j h1 h2 hSj x y e => ?_) (fun j h1 h2 hSj x y e => ?_)
  · have hn : isRel (kd j) = false := by
      cases hq : isRel (kd j) with
      | false => rfl
      | true =>
        have := R.pred j (within_bits himp ((C.inv i (Nat.le_of_lt R.lt)).imp j h2 hq))
        rw [hSj] at this
        cases this
    rw [idle j (by omega) hn, e]
  · have hn : isRel (kd j) = false := by
      cases hq : isRel (kd j) with
      | false => rfl
      | true =>
        have := within_bits (fact_bars (C.step j h2).2.2 hq) ((C.inv j (Nat.le_of_lt h2)).bars i h1 (by rw [hk]; rfl))
        rw [R.not h2 this] at hSj
        cases hSj
    rw [idle j h2 hn, e]
/-- What a load finds, and what a store. -/
theorem heap_cells (C : Chain rec P sz ops N pr D kd op tm0 s0) (R : Ready N pr S i) (hr : isRel (kd i) = true) (hi : isBar (kd i) = false) {b off len : Nat} (hb : (D i).s.H.get b ≠ none)
    (hnew : orB (Nat.blt b (D i).n0) (within (D i).cr (pr i)) = true) (hst : besides (pr i) b off len (D i).stores = true)
    (hleft : ∀ j, i < j → j < N → S j = true → ∀ off' cs, kd j = .store b off' cs → off + len ≤ off' ∨ off' + cs.length ≤ off) :
    shapeB (hS D kd S N b) = shapeB ((D i).s.H.get b) ∧ ∀ q, off ≤ q → q < off + len → (listB (hS D kd S N b))[q]? = (listB ((D i).s.H.get b))[q]? := by
  have hlt := R.lt
  have hbn : b < (D i).s.n := by
    by_cases e : b < (D i).s.n
    · exact e
    · exact absurd ((C.good i (Nat.le_of_lt R.lt)).top b (by omega)) hb
  refine transport C R hr (fun x y => shapeB (x b) = shapeB (y b) ∧ ∀ q, off ≤ q → q < off + len → (listB (x b))[q]? = (listB (y b))[q]?) (fun h => ⟨rfl, fun _ _ _ => rfl⟩)
    (fun j h1 h2 x y hxy => ?_) (fun j h1 h2 hSj x y hxy => ?_) (fun j h1 h2 hSj x y hxy => ?_)
  · have hnb := lb_nobar h1 h2
    cases hkj : kd j with
    | add v K s1 rel call =>
      show shapeB (if (D j).s.n ≤ b ∧ b < s1.n then _ else _) = shapeB (if (D j).s.n ≤ b ∧ b < s1.n then _ else _) ∧ ∀ q, off ≤ q → q < off + len → (listB (if (D j).s.n ≤ b ∧ b < s1.n then _ else _))[q]? = (listB (if (D j).s.n ≤ b ∧ b < s1.n then _ else _))[q]?
      split
      · exact ⟨rfl, fun _ _ _ => rfl⟩
      · exact hxy
    | store b' off' cs =>
      show shapeB (if b = b' then spB (x b') off' cs else x b) = shapeB (if b = b' then spB (y b') off' cs else y b) ∧ ∀ q, off ≤ q → q < off + len → (listB (if b = b' then spB (x b') off' cs else x b))[q]? = (listB (if b = b' then spB (y b') off' cs else y b))[q]?
      by_cases e : b = b'
      · subst e
        rw [if_pos rfl, if_pos rfl, shape_spB, shape_spB]
        exact ⟨hxy.1, fun q q1 q2 => list_spB_both off' cs hxy.1 (hxy.2 q q1 q2)⟩
      · rw [if_neg e, if_neg e]
        exact hxy
    | bar v s1 => rw [hkj] at hnb; cases hnb
    | _ => exact hxy
  · have hnb := lb_nobar h1 h2
    cases hkj : kd j with
    | add v K s1 rel call =>
      show shapeB (x b) = shapeB (if (D j).s.n ≤ b ∧ b < s1.n then _ else _) ∧ ∀ q, off ≤ q → q < off + len → (listB (x b))[q]? = (listB (if (D j).s.n ≤ b ∧ b < s1.n then _ else _))[q]?
      rw [if_neg]
      · exact hxy
      · intro q
        rcases new_known hnew with k | k
        · rw [(C.inv i (Nat.le_of_lt R.lt)).n0] at k
          have := C.nle (i := lb kd i) (j := j) h1 (by omega)
          omega
        · have ht := told_at C h1 h2 (Nat.le_of_lt R.lt)
          rw [hkj] at ht
          have := R.pred j (k j (ht.1 (by omega)))
          rw [hSj] at this
          cases this
    | store b' off' cs =>
      show shapeB (x b) = shapeB (if b = b' then spB (y b') off' cs else y b) ∧ ∀ q, off ≤ q → q < off + len → (listB (x b))[q]? = (listB (if b = b' then spB (y b') off' cs else y b))[q]?
      by_cases e : b = b'
      · subst e
        rw [if_pos rfl, shape_spB]
        have ht := told_at C h1 h2 (Nat.le_of_lt R.lt)
        rw [hkj] at ht
        refine ⟨hxy.1, fun q q1 q2 => ?_⟩
        rcases besides_ok hst _ ht with k | k | k | k
        · have := R.pred j k
          rw [hSj] at this
          cases this
        · exact absurd rfl k
        · rw [list_spB _ _ _ _ (by simp only at k; omega)]; exact hxy.2 q q1 q2
        · rw [list_spB _ _ _ _ (by simp only at k; omega)]; exact hxy.2 q q1 q2
      · rw [if_neg e]
        exact hxy
    | bar v s1 => rw [hkj] at hnb; cases hnb
    | _ => exact hxy
  · cases hkj : kd j with
    | add v K s1 rel call =>
      show shapeB (if (D j).s.n ≤ b ∧ b < s1.n then _ else _) = shapeB (y b) ∧ ∀ q, off ≤ q → q < off + len → (listB (if (D j).s.n ≤ b ∧ b < s1.n then _ else _))[q]? = (listB (y b))[q]?
      rw [if_neg]
      · exact hxy
      · have := C.nle (i := i) (j := j) (by omega) (by omega)
        omega
    | store b' off' cs =>
      show shapeB (if b = b' then spB (x b') off' cs else x b) = shapeB (y b) ∧ ∀ q, off ≤ q → q < off + len → (listB (if b = b' then spB (x b') off' cs else x b))[q]? = (listB (y b))[q]?
      by_cases e : b = b'
      · subst e
        rw [if_pos rfl, shape_spB]
        refine ⟨hxy.1, fun q q1 q2 => ?_⟩
        rcases hleft j h1 h2 hSj off' cs hkj with k | k
        · rw [list_spB _ _ _ _ (by omega)]; exact hxy.2 q q1 q2
        · rw [list_spB _ _ _ _ (by omega)]; exact hxy.2 q q1 q2
      · rw [if_neg e]
        exact hxy
    | bar v s1 => rw [bars_out C R hr h1 h2 (by rw [hkj]; rfl)] at hSj; cases hSj
    | _ => exact hxy
end
end Go.Proofs.Ytchlehpjpgeejaa.Ev
