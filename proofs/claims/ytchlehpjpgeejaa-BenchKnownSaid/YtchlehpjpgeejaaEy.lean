/- A region whose order is open: what is known behind some of its operations, in whatever order. -/
import Derived.Test.YtchlehpjpgeejaaEx
namespace Go.Proofs.Ytchlehpjpgeejaa.Ev
set_option linter.unusedVariables false
set_option linter.unusedSimpArgs false
open Go
noncomputable section
variable {P : Program} {rec : Rec} {sz N : Nat} {ops : Array Oper} {pr : Nat → Nat} {D : Nat → DS} {kd : Nat → Kd} {op : Nat → Oper} {tm0 : Tr AV} {s0 : HS}

/-- The heap behind those that have been carried out. -/
def hS (D : Nat → DS) (kd : Nat → Kd) (S : Nat → Bool) : Nat → Hf
  | 0 => (D 0).s.H.get
  | i + 1 => if S i then tstep (kd i) (D i).s.n (hS D kd S i) else hS D kd S i
/-- The temporaries. -/
def aS (D : Nat → DS) (kd : Nat → Kd) (op : Nat → Oper) (S : Nat → Bool) : Nat → Nat → Option AV
  | 0 => (D 0).tm.get
  | i + 1 => fun t => if S i ∧ (op i).dst = some t then some (kd i).val else aS D kd op S i t
def put1 (S : Nat → Bool) (i : Nat) : Nat → Bool := fun j => if j = i then true else S j
structure Ready (N : Nat) (pr : Nat → Nat) (S : Nat → Bool) (i : Nat) : Prop where
  closed : ∀ j, j < N → S j = true → ∀ k, (pr j).testBit k = true → S k = true
  lt : i < N
  out : S i = false
  pred : ∀ k, (pr i).testBit k = true → S k = true
variable {S : Nat → Bool} {i : Nat}
theorem Ready.not (R : Ready N pr S i) {j : Nat} (hj : j < N) (h : (pr j).testBit i = true) : S j = false := by
  cases hs : S j with
  | false => rfl
  | true => have := R.closed j hj hs i h; rw [R.out] at this; cases this

/-! ### Temporaries -/
theorem putT_get {tm tm' : Tr AV} {d : Option Nat} {v : AV} (hp : putT tm sz d v = some tm') (hsz : sz ≤ 16000) (t : Nat) : tm'.get t = if d = some t then some v else tm.get t := by
  unfold putT at hp
  cases d with
  | none =>
    simp only at hp
    cases hp
    rw [if_neg (by simp)]
  | some u =>
    simp only at hp
    split at hp
    · rename_i hb
      injection hp with hp
      have hlt : u < sz := by
        have : ¬ sz ≤ u := fun q => by rw [Nat.ble_eq_true_of_le q] at hb; cases hb
        omega
      rw [← hp]
      by_cases e : u = t
      · subst e
        rw [if_pos rfl]
        exact Tr.get_set_same 14 _ _ _ (by omega)
      · rw [if_neg (by simpa using e)]
        exact Tr.get_set_other 14 _ _ _ _ e
    · cases hp
theorem tm_step (C : Chain rec P sz ops N pr D kd op tm0 s0) (hsz : sz ≤ 16000) {i : Nat} (h : i < N) (t : Nat) : (D (i + 1)).tm.get t = if (op i).dst = some t then some (kd i).val else (D i).tm.get t :=
  putT_get (C.step i h).2.1 hsz t
theorem tm_known (C : Chain rec P sz ops N pr D kd op tm0 s0) (hsz : sz ≤ 16000) (R : Ready N pr S i) {t : Nat} (ht : t ∈ namesOf ops.toList (op i)) : aS D kd op S N t = (D i).tm.get t := by
  have low : ∀ j, j ≤ i → aS D kd op S j t = (D j).tm.get t := by
    intro j
    induction j with
    | zero => intro _; rfl
    | succ j ih =>
      intro hj
      have hlt := R.lt
      rw [tm_step C hsz (by omega)]
      show (if S j ∧ (op j).dst = some t then some (kd j).val else aS D kd op S j t) = _
      by_cases hd : (op j).dst = some t
      · have hS : S j = true := by
          rcases C.clean j i (by omega) R.lt (by omega) t hd ht with q | q
          · exact R.pred j q
          · have := C.small j (by omega) i q; omega
        rw [if_pos ⟨hS, hd⟩, if_pos hd]
      · rw [if_neg (fun q => hd q.2), if_neg hd]
        exact ih (by omega)
  have high : ∀ k, i + k ≤ N → aS D kd op S (i + k) t = aS D kd op S i t := by
    intro k
    induction k with
    | zero => intro _; rfl
    | succ k ih =>
      intro hk
      show (if S (i + k) ∧ (op (i + k)).dst = some t then some (kd (i + k)).val else aS D kd op S (i + k) t) = _
      rw [if_neg, ih (by omega)]
      rintro ⟨q1, q2⟩
      by_cases e : k = 0
      · subst e
        rw [Nat.add_zero] at q1
        rw [R.out] at q1
        cases q1
      · rcases C.clean (i + k) i (by omega) R.lt (by omega) t q2 ht with q | q
        · have := C.small i R.lt _ q; omega
        · rw [R.not (by omega) q] at q1
          cases q1
  have hlt := R.lt
  have := high (N - i) (by omega)
  rw [show i + (N - i) = N by omega] at this
  rw [this]
  exact low i (Nat.le_refl _)
theorem aS_put (C : Chain rec P sz ops N pr D kd op tm0 s0) (R : Ready N pr S i) (t : Nat) : aS D kd op (put1 S i) N t = if (op i).dst = some t then some (kd i).val else aS D kd op S N t := by
  have hlt := R.lt
  have low : ∀ j, j ≤ i → aS D kd op (put1 S i) j t = aS D kd op S j t := by
    intro j
    induction j with
    | zero => intro _; rfl
    | succ j ih =>
      intro hj
      show (if put1 S i j ∧ (op j).dst = some t then _ else _) = (if S j ∧ (op j).dst = some t then _ else _)
      have : put1 S i j = S j := by unfold put1; rw [if_neg (by omega)]
      rw [this, ih (by omega)]
  have high : ∀ k, i + 1 + k ≤ N → aS D kd op (put1 S i) (i + 1 + k) t = if (op i).dst = some t then some (kd i).val else aS D kd op S (i + 1 + k) t := by
    intro k
    induction k with
    | zero =>
      intro _
      show (if put1 S i i ∧ (op i).dst = some t then some (kd i).val else aS D kd op (put1 S i) i t) = if (op i).dst = some t then some (kd i).val else (if S i ∧ (op i).dst = some t then _ else aS D kd op S i t)
      have e1 : put1 S i i = true := by unfold put1; rw [if_pos rfl]
      rw [e1, R.out, low i (Nat.le_refl _)]
      by_cases hd : (op i).dst = some t
      · rw [if_pos ⟨rfl, hd⟩, if_pos hd]
      · rw [if_neg (fun q => hd q.2), if_neg hd, if_neg (fun q => hd q.2)]
    | succ k ih =>
      intro hk
      have e1 : put1 S i (i + 1 + k) = S (i + 1 + k) := by unfold put1; rw [if_neg (by omega)]
      show (if put1 S i (i + 1 + k) ∧ (op (i + 1 + k)).dst = some t then some (kd (i + 1 + k)).val else aS D kd op (put1 S i) (i + 1 + k) t) = if (op i).dst = some t then some (kd i).val else (if S (i + 1 + k) ∧ (op (i + 1 + k)).dst = some t then some (kd (i + 1 + k)).val else aS D kd op S (i + 1 + k) t)
      rw [e1, ih (by omega)]
      by_cases hd : (op i).dst = some t
      · rw [if_pos hd, if_pos hd, if_neg]
        rintro ⟨q1, q2⟩
        have hin : t ∈ namesOf ops.toList (op i) := by unfold namesOf; rw [hd]; exact List.mem_cons_self
        rcases C.clean (i + 1 + k) i (by omega) R.lt (by omega) t q2 hin with q | q
        · have := C.small i R.lt _ q; omega
        · rw [R.not (by omega) q] at q1
          cases q1
      · rw [if_neg hd, if_neg hd]
  have := high (N - (i + 1)) (by omega)
  rw [show i + 1 + (N - (i + 1)) = N by omega] at this
  exact this

/-! ### Heaps -/
theorem bar_rel {k : Kd} (h : isBar k = true) : isRel k = true := by cases k <;> first | rfl | cases h
theorem fact_bars {i p : Nat} {d d' : DS} {o : Oper} {k : Kd} (h : Fact rec P i p d o d' k) (hr : isRel k = true) : within d.bars p = true := by
  cases k with
  | off => cases hr
  | add v K s1 rel call => exact (h.2.2.2.2.2.2.1 hr).1
  | load v b off len => exact h.2.2.2.2.2.2.2.2.2.1
  | store b off cs => exact h.2.2.2.2.2.2.2.2.1
  | bar v s1 => exact h.2.2.2.2.2.2.2.2.2.2.1
/-- Each bar ahead has been carried out. -/
theorem bars_in (C : Chain rec P sz ops N pr D kd op tm0 s0) (R : Ready N pr S i) (hr : isRel (kd i) = true) {j : Nat} (hj : j < i) (hb : isBar (kd j) = true) : S j = true :=
  R.pred j (within_bits (fact_bars (C.step i R.lt).2.2 hr) ((C.inv i (Nat.le_of_lt R.lt)).bars j hj hb))
/-- No bar behind has. -/
theorem bars_out (C : Chain rec P sz ops N pr D kd op tm0 s0) (R : Ready N pr S i) (hr : isRel (kd i) = true) {j : Nat} (hj : i < j) (hN : j < N) (hb : isBar (kd j) = true) : S j = false := by
  refine R.not hN ?_
  have hF := (C.step j hN).2.2
  have I := C.inv j (Nat.le_of_lt hN)
  cases hk : kd j with
  | bar v s1 =>
    rw [hk] at hF
    exact within_bits hF.2.2.2.2.2.2.2.2.2.2.2 (I.imp i hj hr)
  | _ => rw [hk] at hb; cases hb
/-- Whoever is behind, matters, and has been carried out, has no bar between. -/
theorem lb_low (C : Chain rec P sz ops N pr D kd op tm0 s0) (R : Ready N pr S i) (hr : isRel (kd i) = true) (hi : isBar (kd i) = false) {j : Nat} (hj : i < j) (hN : j < N) (hS : S j = true) (hrj : isRel (kd j) = true) : lb kd j ≤ i := by
  rcases lb_bar kd j with h | ⟨q, h1, h2, h3⟩
  · omega
  · rcases Nat.lt_trichotomy q i with e | e | e
    · omega
    · subst e; rw [hi] at h2; cases h2
    · have hq := within_bits (fact_bars (C.step j hN).2.2 hrj) ((C.inv j (Nat.le_of_lt hN)).bars q h3 h2)
      have := R.closed j hN hS q hq
      rw [bars_out C R hr e (by omega) h2] at this
      cases this
theorem hS_lb (C : Chain rec P sz ops N pr D kd op tm0 s0) (R : Ready N pr S i) (hr : isRel (kd i) = true) : hS D kd S (lb kd i) = (D (lb kd i)).s.H.get := by
  have hlt := R.lt
  rcases lb_bar kd i with h | ⟨q, h1, h2, h3⟩
  · rw [h]; rfl
  · rw [h1, (C.heap (i := q) (by omega)).2]
    show (if S q then tstep (kd q) (D q).s.n (hS D kd S q) else hS D kd S q) = _
    rw [bars_in C R hr h3 h2, if_pos rfl]
    cases hk : kd q with
    | bar v s1 => rfl
    | _ => rw [hk] at h2; cases h2
/-- Two heaps side by side: those behind what has been carried out, and those of the text. -/
theorem transport (C : Chain rec P sz ops N pr D kd op tm0 s0) (R : Ready N pr S i) (hr : isRel (kd i) = true) (Q : Hf → Hf → Prop) (r0 : ∀ h, Q h h)
    (both : ∀ j, lb kd i ≤ j → j < i → ∀ x y, Q x y → Q (tstep (kd j) (D j).s.n x) (tstep (kd j) (D j).s.n y))
    (right : ∀ j, lb kd i ≤ j → j < i → S j = false → ∀ x y, Q x y → Q x (tstep (kd j) (D j).s.n y))
    (left : ∀ j, i < j → j < N → S j = true → ∀ x y, Q x y → Q (tstep (kd j) (D j).s.n x) y) : Q (hS D kd S N) (D i).s.H.get := by
  have hlt := R.lt
  have low : ∀ k, lb kd i + k ≤ i → Q (hS D kd S (lb kd i + k)) (D (lb kd i + k)).s.H.get := by
    intro k
    induction k with
    | zero => intro _; rw [Nat.add_zero, hS_lb C R hr]; exact r0 _
    | succ k ih =>
      intro hk
      have h1 := ih (by omega)
      rw [← Nat.add_assoc, (C.heap (i := lb kd i + k) (by omega)).2]
      show Q (if S (lb kd i + k) then tstep (kd (lb kd i + k)) (D (lb kd i + k)).s.n (hS D kd S (lb kd i + k)) else hS D kd S (lb kd i + k)) _
      cases hs : S (lb kd i + k) with
      | true => rw [if_pos rfl]; exact both _ (by omega) (by omega) _ _ h1
      | false => rw [if_neg (by simp)]; exact right _ (by omega) (by omega) hs _ _ h1
  have at_i := low (i - lb kd i) (by have := lb_le kd i; omega)
  rw [show lb kd i + (i - lb kd i) = i by have := lb_le kd i; omega] at at_i
  have high : ∀ k, i + k ≤ N → Q (hS D kd S (i + k)) (D i).s.H.get := by
    intro k
    induction k with
    | zero => intro _; exact at_i
    | succ k ih =>
      intro hk
      have h1 := ih (by omega)
      show Q (if S (i + k) then tstep (kd (i + k)) (D (i + k)).s.n (hS D kd S (i + k)) else hS D kd S (i + k)) _
      cases hs : S (i + k) with
      | false => rw [if_neg (by simp)]; exact h1
      | true =>
        rw [if_pos rfl]
        refine left _ ?_ (by omega) hs _ _ h1
        by_cases e : k = 0
        · subst e; rw [Nat.add_zero] at hs; rw [R.out] at hs; cases hs
        · omega
  have := high (N - i) (by omega)
  rwa [show i + (N - i) = N by omega] at this
/-- What is done to those behind, when one more has been carried out. -/
theorem hS_put (R : Ready N pr S i) (f : Hf → Hf) (h0 : ∀ x, tstep (kd i) (D i).s.n x = f x) (hc : ∀ j, i < j → j < N → S j = true → ∀ x, tstep (kd j) (D j).s.n (f x) = f (tstep (kd j) (D j).s.n x)) :
    hS D kd (put1 S i) N = f (hS D kd S N) := by
  have hlt := R.lt
  have low : ∀ j, j ≤ i → hS D kd (put1 S i) j = hS D kd S j := by
    intro j
    induction j with
    | zero => intro _; rfl
    | succ j ih =>
      intro hj
      have e : put1 S i j = S j := by unfold put1; rw [if_neg (by omega)]
      show (if put1 S i j then _ else _) = (if S j then _ else _)
      rw [e, ih (by omega)]
  have high : ∀ k, i + 1 + k ≤ N → hS D kd (put1 S i) (i + 1 + k) = f (hS D kd S (i + 1 + k)) := by
    intro k
    induction k with
    | zero =>
      intro _
      show (if put1 S i i then tstep (kd i) (D i).s.n (hS D kd (put1 S i) i) else hS D kd (put1 S i) i) = f (if S i then _ else hS D kd S i)
      have e1 : put1 S i i = true := by unfold put1; rw [if_pos rfl]
      rw [e1, if_pos rfl, R.out, if_neg (by simp), h0, low i (Nat.le_refl _)]
    | succ k ih =>
      intro hk
      have e : put1 S i (i + 1 + k) = S (i + 1 + k) := by unfold put1; rw [if_neg (by omega)]
      show (if put1 S i (i + 1 + k) then tstep (kd (i + 1 + k)) (D (i + 1 + k)).s.n (hS D kd (put1 S i) (i + 1 + k)) else hS D kd (put1 S i) (i + 1 + k)) = f (if S (i + 1 + k) then tstep (kd (i + 1 + k)) (D (i + 1 + k)).s.n (hS D kd S (i + 1 + k)) else hS D kd S (i + 1 + k))
      rw [e, ih (by omega)]
      cases hs : S (i + 1 + k) with
      | true => rw [if_pos rfl, if_pos rfl]; exact hc _ (by omega) (by omega) hs _
      | false => rw [if_neg (by simp), if_neg (by simp)]
  have := high (N - (i + 1)) (by omega)
  rwa [show i + 1 + (N - (i + 1)) = N by omega] at this
end
end Go.Proofs.Ytchlehpjpgeejaa.Ev
