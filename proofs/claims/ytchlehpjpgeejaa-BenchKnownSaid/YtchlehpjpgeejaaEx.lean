/- A region whose order is open: what the computation keeps count of. -/
import Derived.Test.YtchlehpjpgeejaaEw
namespace Go.Proofs.Ytchlehpjpgeejaa.Ev
set_option linter.unusedVariables false
set_option linter.unusedSimpArgs false
open Go
noncomputable section
variable {P : Program} {rec : Rec}

structure Chain (rec : Rec) (P : Program) (sz : Nat) (ops : Array Oper) (N : Nat) (pr : Nat → Nat) (D : Nat → DS) (kd : Nat → Kd) (op : Nat → Oper) (tm0 : Tr AV) (s0 : HS) : Prop where
  d0 : D 0 = ⟨tm0, s0, s0.H, s0.n, 0, 0, 0, 0, [], []⟩
  step : ∀ i, i < N → wantedA (D i).tm ops.toList (op i) = some (kd i).on ∧ putT (D i).tm sz (op i).dst (kd i).val = some (D (i + 1)).tm ∧ Fact rec P i (pr i) (D i) (op i) (D (i + 1)) (kd i)
  small : ∀ i, i < N → ∀ j, (pr i).testBit j = true → j < i
  clean : ∀ i j, i < N → j < N → i ≠ j → ∀ t, (op i).dst = some t → t ∈ namesOf ops.toList (op j) → (pr j).testBit i = true ∨ (pr i).testBit j = true
  stat : StatC rec
  good0 : Good s0
variable {sz N : Nat} {ops : Array Oper} {pr : Nat → Nat} {D : Nat → DS} {kd : Nat → Kd} {op : Nat → Oper} {tm0 : Tr AV} {s0 : HS}
theorem Chain.good (C : Chain rec P sz ops N pr D kd op tm0 s0) : ∀ i, i ≤ N → Good (D i).s
  | 0, _ => by rw [C.d0]; exact C.good0
  | i + 1, h => (fact_heap C.stat (C.good i (by omega)) (C.step i (by omega)).2.2).1.good (C.good i (by omega))
theorem Chain.heap (C : Chain rec P sz ops N pr D kd op tm0 s0) {i : Nat} (h : i < N) : Stat (D i).s (D (i + 1)).s ∧ (D (i + 1)).s.H.get = tstep (kd i) (D i).s.n (D i).s.H.get :=
  fact_heap C.stat (C.good i (by omega)) (C.step i h).2.2
theorem Chain.stats (C : Chain rec P sz ops N pr D kd op tm0 s0) {i : Nat} : ∀ j, i + j ≤ N → Stat (D i).s (D (i + j)).s
  | 0, _ => Stat.refl _
  | j + 1, h => (C.stats j (by omega)).trans (C.heap (i := i + j) (by omega)).1
theorem Chain.nle (C : Chain rec P sz ops N pr D kd op tm0 s0) {i j : Nat} (h : i ≤ j) (hj : j ≤ N) : (D i).s.n ≤ (D j).s.n := by
  have := (C.stats (i := i) (j - i) (by omega)).le
  rwa [show i + (j - i) = j by omega] at this
theorem Chain.mle (C : Chain rec P sz ops N pr D kd op tm0 s0) {i j : Nat} (h : i ≤ j) (hj : j ≤ N) : (D j).s.m ≤ (D i).s.m := by
  have := (C.stats (i := i) (j - i) (by omega)).mono
  rwa [show i + (j - i) = j by omega] at this
def lb (kd : Nat → Kd) : Nat → Nat
  | 0 => 0
  | i + 1 => if isBar (kd i) then i + 1 else lb kd i
theorem lb_le (kd : Nat → Kd) : ∀ i, lb kd i ≤ i
  | 0 => Nat.le_refl _
  | i + 1 => by
    unfold lb
    split
    · exact Nat.le_refl _
    · exact Nat.le_trans (lb_le kd i) (Nat.le_succ _)
theorem lb_nobar {kd : Nat → Kd} : ∀ {i j : Nat}, lb kd i ≤ j → j < i → isBar (kd j) = false
  | 0, j, h1, h2 => absurd h2 (by omega)
  | i + 1, j, h1, h2 => by
    unfold lb at h1
    split at h1
    · omega
    · rename_i hb
      by_cases e : j = i
      · subst e; simpa using hb
      · exact lb_nobar h1 (by omega)
/-- Ahead of the first one since the last bar there is a bar, or the beginning. -/
theorem lb_bar (kd : Nat → Kd) : ∀ i, lb kd i = 0 ∨ ∃ q, lb kd i = q + 1 ∧ isBar (kd q) = true ∧ q < i
  | 0 => .inl rfl
  | i + 1 => by
    unfold lb
    split
    · rename_i h; exact .inr ⟨i, rfl, h, Nat.lt_succ_self _⟩
    · rcases lb_bar kd i with h | ⟨q, h1, h2, h3⟩
      · exact .inl h
      · exact .inr ⟨q, h1, h2, by omega⟩
def Told (n : Nat) (d : DS) (j : Nat) : Kd → Prop
  | .add _ _ s1 _ call => (s1.n ≠ n → d.cr.testBit j = true) ∧ (call = true → d.calls.testBit j = true)
  | .load _ b off len => (j, b, off, len) ∈ d.loads
  | .store b off cs => (j, b, off, cs.length) ∈ d.stores
  | _ => True
structure Inv (D : Nat → DS) (kd : Nat → Kd) (i : Nat) : Prop where
  bars : ∀ j, j < i → isBar (kd j) = true → (D i).bars.testBit j = true
  imp : ∀ j, j < i → isRel (kd j) = true → (D i).imp.testBit j = true
  told : ∀ j, lb kd i ≤ j → j < i → Told (D j).s.n (D i) j (kd j)
  n0 : (D i).n0 = (D (lb kd i)).s.n
  base : ∀ b, (D i).base.get b = if b < (D i).n0 then (D i).s.H.get b else none
theorem told_mono {n : Nat} {d d' : DS} {j : Nat} {k : Kd} (h : Told n d j k) (h1 : d.cr.testBit j = true → d'.cr.testBit j = true) (h2 : d.calls.testBit j = true → d'.calls.testBit j = true)
    (h3 : ∀ q ∈ d.loads, q ∈ d'.loads) (h4 : ∀ q ∈ d.stores, q ∈ d'.stores) : Told n d' j k := by
  cases k with
  | add v K s1 rel call => exact ⟨fun q => h1 (h.1 q), fun q => h2 (h.2 q)⟩
  | load v b off len => exact h3 _ h
  | store b off cs => exact h4 _ h
  | _ => trivial
theorem lb_step {kd : Nat → Kd} {i : Nat} (h : isBar (kd i) = false) : lb kd (i + 1) = lb kd i := by
  show (if isBar (kd i) then i + 1 else lb kd i) = _
  rw [h]
  rfl
theorem baseStore_get {base : Tr AB} {n b off : Nat} {cs : List AV} {s s' : HS} {n0 : Nat} (hb : ∀ c, base.get c = if c < n0 then s.H.get c else none) (h : s.store b off cs = some s') (c : Nat) :
    (baseStore base n b off cs).get c = if c < n0 then s'.H.get c else none := by
  unfold baseStore
  by_cases e : b < n0
  · have hg : base.get b = s.H.get b := by rw [hb, if_pos e]
    have hst : ∃ s2, HS.store ⟨n, n, base⟩ b off cs = some s2 := by
      unfold HS.store at h ⊢
      simp only [hg]
      split at h
      · rename_i l t hq
        split at h
        · rename_i hle; exact ⟨_, rfl⟩
        · cases h
      · rename_i l t sz hq
        split at h
        · rename_i hle; exact ⟨_, rfl⟩
        · cases h
      · cases h
    obtain ⟨s2, hs2⟩ := hst
    rw [hs2]
    show s2.H.get c = _
    rw [store_get hs2 c, store_get h c]
    show (if c = b then spB (base.get b) off cs else base.get c) = _
    by_cases e2 : c = b
    · subst e2
      rw [if_pos rfl, if_pos e, if_pos rfl, hg]
    · rw [if_neg e2, if_neg e2, hb]
  · have hg : base.get b = none := by rw [hb, if_neg e]
    have hst : HS.store ⟨n, n, base⟩ b off cs = none := by
      unfold HS.store
      simp only [hg]
    rw [hst]
    show base.get c = _
    rw [hb, store_get h c]
    by_cases e2 : c = b
    · subst e2
      rw [if_neg e, if_neg e]
    · rw [if_neg e2]
theorem Chain.inv (C : Chain rec P sz ops N pr D kd op tm0 s0) : ∀ i, i ≤ N → Inv D kd i
  | 0, _ => by
    refine ⟨fun j h => absurd h (by omega), fun j h => absurd h (by omega), fun j _ h => absurd h (by omega), ?_, fun b => ?_⟩
    · rw [C.d0]
      show s0.n = (D 0).s.n
      rw [C.d0]
    · rw [C.d0]
      show s0.H.get b = if b < s0.n then s0.H.get b else none
      split
      · rfl
      · exact C.good0.top b (by omega)
  | i + 1, h => by
    have I := C.inv i (by omega)
    have hg := C.good i (by omega)
    obtain ⟨hst, hh⟩ := C.heap (i := i) (by omega)
    have hF := (C.step i (by omega)).2.2
    have lt_cases : ∀ {j}, j < i + 1 → j < i ∨ j = i := fun hj => by omega
    cases hk : kd i with
    | off =>
      rw [hk] at hF hh
      obtain ⟨⟨b1, b2, b3, b4, b5⟩, hs, hcr, him, hca⟩ := hF
      have hl : lb kd (i + 1) = lb kd i := lb_step (by rw [hk]; rfl)
      refine ⟨fun j hj hb => ?_, fun j hj hb => ?_, fun j h1 hj => ?_, by rw [b2, I.n0, hl], fun b => by rw [b1, b2, hs]; exact I.base b⟩
      · rw [b3]
        rcases lt_cases hj with hj | rfl
        · exact I.bars j hj hb
        · rw [hk] at hb; cases hb
      · rw [him]
        rcases lt_cases hj with hj | rfl
        · exact I.imp j hj hb
        · rw [hk] at hb; cases hb
      · rw [hl] at h1
        rcases lt_cases hj with hj | rfl
        · exact told_mono (I.told j h1 hj) (by rw [hcr]; exact id) (by rw [hca]; exact id) (by rw [b4]; exact fun _ q => q) (by rw [b5]; exact fun _ q => q)
        · rw [hk]; trivial
    | add v K s1 rel call =>
      rw [hk] at hF hh
      obtain ⟨⟨b1, b2, b3, b4, b5⟩, h0, hm, hn, hm2, hH, hrel, hnrel, hcall, hncall, hcr⟩ := hF
      have hl : lb kd (i + 1) = lb kd i := lb_step (by rw [hk]; rfl)
      have him : ∀ j, (D i).imp.testBit j = true → (D (i + 1)).imp.testBit j = true := fun j q => by
        cases hr : rel with
        | true => rw [(hrel hr).2]; exact lor_bit.2 (.inl q)
        | false => rw [(hnrel hr).1]; exact q
      have hca : ∀ j, (D i).calls.testBit j = true → (D (i + 1)).calls.testBit j = true := fun j q => by
        cases hr : call with
        | true => rw [(hcall hr).2.2.2]; exact lor_bit.2 (.inl q)
        | false => rw [(hncall hr).2]; exact q
      have hcr' : ∀ j, (D i).cr.testBit j = true → (D (i + 1)).cr.testBit j = true := fun j q => by
        rcases hcr with ⟨_, e⟩ | e
        · rw [e]; exact q
        · rw [e]; exact lor_bit.2 (.inl q)
      refine ⟨fun j hj hb => ?_, fun j hj hb => ?_, fun j h1 hj => ?_, by rw [b2, I.n0, hl], fun b => ?_⟩
      · rw [b3]
        rcases lt_cases hj with hj | rfl
        · exact I.bars j hj hb
        · rw [hk] at hb; cases hb
      · rcases lt_cases hj with hj | rfl
        · exact him j (I.imp j hj hb)
        · rw [hk] at hb
          rw [(hrel hb).2]
          exact lor_bit.2 (.inr rfl)
      · rw [hl] at h1
        rcases lt_cases hj with hj | rfl
        · exact told_mono (I.told j h1 hj) (hcr' j) (hca j) (by rw [b4]; exact fun _ q => q) (by rw [b5]; exact fun _ q => q)
        · rw [hk]
          refine ⟨fun q => ?_, fun q => by rw [(hcall q).2.2.2]; exact lor_bit.2 (.inr rfl)⟩
          rcases hcr with ⟨e, _⟩ | e
          · exact absurd e q
          · rw [e]; exact lor_bit.2 (.inr rfl)
      · rw [b1, b2, I.base b]
        split
        · rename_i hlt
          rw [hH, if_neg (fun q => ?_)]
          have : (D i).n0 ≤ (D i).s.n := by rw [I.n0]; exact C.nle (lb_le kd i) (by omega)
          omega
        · rfl
    | load v b off len =>
      rw [hk] at hF hh
      obtain ⟨b1, b2, b3, b5, hs, hcr, hca, him, b4, _⟩ := hF
      have hl : lb kd (i + 1) = lb kd i := lb_step (by rw [hk]; rfl)
      refine ⟨fun j hj hb => ?_, fun j hj hb => ?_, fun j h1 hj => ?_, by rw [b2, I.n0, hl], fun b => by rw [b1, b2, hs]; exact I.base b⟩
      · rw [b3]
        rcases lt_cases hj with hj | rfl
        · exact I.bars j hj hb
        · rw [hk] at hb; cases hb
      · rw [him]
        rcases lt_cases hj with hj | rfl
        · exact lor_bit.2 (.inl (I.imp j hj hb))
        · exact lor_bit.2 (.inr rfl)
      · rw [hl] at h1
        rcases lt_cases hj with hj | rfl
        · exact told_mono (I.told j h1 hj) (by rw [hcr]; exact id) (by rw [hca]; exact id) (by rw [b4]; exact fun _ q => List.mem_cons_of_mem _ q) (by rw [b5]; exact fun _ q => q)
        · rw [hk]
          show _ ∈ (D (j + 1)).loads
          rw [b4]
          exact List.mem_cons_self
    | store b off cs =>
      rw [hk] at hF hh
      obtain ⟨b2, b3, b4, hcr, hca, him, b5, b1, _, _, _, _, _, hs, _⟩ := hF
      have hl : lb kd (i + 1) = lb kd i := lb_step (by rw [hk]; rfl)
      refine ⟨fun j hj hb => ?_, fun j hj hb => ?_, fun j h1 hj => ?_, by rw [b2, I.n0, hl], fun b => by rw [b1, b2]; exact baseStore_get I.base hs b⟩
      · rw [b3]
        rcases lt_cases hj with hj | rfl
        · exact I.bars j hj hb
        · rw [hk] at hb; cases hb
      · rw [him]
        rcases lt_cases hj with hj | rfl
        · exact lor_bit.2 (.inl (I.imp j hj hb))
        · exact lor_bit.2 (.inr rfl)
      · rw [hl] at h1
        rcases lt_cases hj with hj | rfl
        · exact told_mono (I.told j h1 hj) (by rw [hcr]; exact id) (by rw [hca]; exact id) (by rw [b4]; exact fun _ q => q) (by rw [b5]; exact fun _ q => List.mem_cons_of_mem _ q)
        · rw [hk]
          show _ ∈ (D (j + 1)).stores
          rw [b5]
          exact List.mem_cons_self
    | bar v s1 =>
      rw [hk] at hF hh
      obtain ⟨h0, hs, b1, b2, hcr, him, hca, b3, b4, b5, _⟩ := hF
      have hl : lb kd (i + 1) = i + 1 := by
        show (if isBar (kd i) then i + 1 else lb kd i) = _
        rw [hk]
        rfl
      refine ⟨fun j hj hb => ?_, fun j hj hb => ?_, fun j h1 hj => absurd hj (by omega), by rw [hl, b2, hs], fun b => ?_⟩
      · rw [b3]
        rcases lt_cases hj with hj | rfl
        · exact lor_bit.2 (.inl (I.bars j hj hb))
        · exact lor_bit.2 (.inr rfl)
      · rw [him]
        rcases lt_cases hj with hj | rfl
        · exact lor_bit.2 (.inl (I.imp j hj hb))
        · exact lor_bit.2 (.inr rfl)
      · rw [b1, b2, hs]
        show s1.H.get b = if b < s1.n then s1.H.get b else none
        split
        · rfl
        · have := (hst.good hg).top b (by rw [hs]; show s1.n ≤ b; omega)
          rw [hs] at this
          exact this
end
end Go.Proofs.Ytchlehpjpgeejaa.Ev
