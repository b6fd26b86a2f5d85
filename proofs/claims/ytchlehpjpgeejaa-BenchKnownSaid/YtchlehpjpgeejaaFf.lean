/- A region whose order is open does what the computation says. -/
import Derived.Test.YtchlehpjpgeejaaFe
namespace Go.Proofs.Ytchlehpjpgeejaa.Ev
set_option linter.unusedVariables false
set_option linter.unusedSimpArgs false
open Go
noncomputable section
variable {P : Program} {rec : Rec} {sz N : Nat} {ops : Array Oper} {pr : Nat → Nat} {D : Nat → DS} {kd : Nat → Kd} {op : Nat → Oper} {tm0 : Tr AV} {s0 : HS} {S : Nat → Bool} {i : Nat}
variable {σ0 σ σ' : Env} {w0 w w' : World} {a : Act} {df : List Deferred} {F : Fence} {n : Nat}

/-- How many are left. -/
def cnt (S : Nat → Bool) : Nat → Nat
  | 0 => 0
  | k + 1 => cnt S k + if S k then 0 else 1
theorem cnt_put_ge (S : Nat → Bool) (i : Nat) : ∀ k, k ≤ i → cnt (put1 S i) k = cnt S k
  | 0, _ => rfl
  | k + 1, h => by
    show cnt (put1 S i) k + _ = cnt S k + _
    rw [cnt_put_ge S i k (by omega)]
    have : put1 S i k = S k := by unfold put1; rw [if_neg (by omega)]
    rw [this]
theorem cnt_put {S : Nat → Bool} {i : Nat} (h : S i = false) : ∀ k, i < k → cnt (put1 S i) k + 1 = cnt S k
  | 0, hk => by omega
  | k + 1, hk => by
    show cnt (put1 S i) k + _ + 1 = cnt S k + _
    by_cases e : k = i
    · subst e
      rw [cnt_put_ge S k k (Nat.le_refl _), h]
      have : put1 S k k = true := by unfold put1; rw [if_pos rfl]
      rw [this]
      simp
    · have : put1 S i k = S k := by unfold put1; rw [if_neg e]
      rw [this]
      have := cnt_put h k (by omega)
      omega
theorem cnt_zero {S : Nat → Bool} : ∀ (k : Nat), cnt S k = 0 → ∀ j, j < k → S j = true
  | 0, h, j, hj => by omega
  | k + 1, h, j, hj => by
    have h' : cnt S k + (if S k then 0 else 1) = 0 := h
    by_cases e : j = k
    · subst e
      cases hS : S j with
      | true => rfl
      | false => rw [hS] at h'; simp at h'
    · exact cnt_zero k (by omega) j (by omega)
theorem cnt_some {S : Nat → Bool} : ∀ {k : Nat}, cnt S k ≠ 0 → ∃ j, j < k ∧ S j = false ∧ ∀ q, q < j → S q = true
  | 0, h => absurd rfl h
  | k + 1, h => by
    by_cases e : cnt S k = 0
    · refine ⟨k, Nat.lt_succ_self _, ?_, fun q hq => cnt_zero k e q hq⟩
      cases hS : S k with
      | false => rfl
      | true =>
        refine absurd ?_ h
        show cnt S k + (if S k then 0 else 1) = 0
        rw [e, hS]
        rfl
    · obtain ⟨j, h1, h2, h3⟩ := cnt_some e
      exact ⟨j, by omega, h2, h3⟩
/-- Behind all of them there is what the computation has. -/
theorem hS_all (C : Chain rec P sz ops N pr D kd op tm0 s0) (h : ∀ j, j < N → S j = true) : ∀ i, i ≤ N → hS D kd S i = (D i).s.H.get
  | 0, _ => rfl
  | i + 1, hi => by
    show (if S i then tstep (kd i) (D i).s.n (hS D kd S i) else hS D kd S i) = _
    rw [h i (by omega), if_pos rfl, hS_all C h i (by omega)]
    exact (C.heap (i := i) (by omega)).2.symm
theorem aS_all (C : Chain rec P sz ops N pr D kd op tm0 s0) (hsz : sz ≤ 16000) (h : ∀ j, j < N → S j = true) (t : Nat) : ∀ i, i ≤ N → aS D kd op S i t = (D i).tm.get t
  | 0, _ => rfl
  | i + 1, hi => by
    rw [tm_step C hsz (by omega)]
    show (if S i ∧ (op i).dst = some t then some (kd i).val else aS D kd op S i t) = _
    rw [aS_all C hsz h t i (by omega)]
    by_cases e : (op i).dst = some t
    · rw [if_pos ⟨h i (by omega), e⟩, if_pos e]
    · rw [if_neg (fun q => e q.2), if_neg e]
theorem rs_end (C : Chain rec P sz ops N pr D kd op tm0 s0) (hsz : sz ≤ 16000) (h : RS sz N D kd op s0 σ0 w0 df S σ a w) (hall : ∀ j, j < N → S j = true) :
    Moved s0 σ0 w0 (D N).s σ w ∧ Tm σ (D N).tm sz a.tmps ∧ a.defers = df := by
  have hH := hS_all C hall N (Nat.le_refl _)
  have st := C.stats (i := 0) N (by omega)
  rw [Nat.zero_add, C.d0] at st
  have sim := h.sim
  have inj := h.inj
  have fresh := h.fresh
  rw [hH] at sim inj fresh
  exact ⟨{ le := st.le, mono := st.mono, env := h.env, sim := ⟨sim, inj⟩, top := (st.good C.good0).top, keep := st.keep, dom := st.dom, frame := h.frame, size := h.size, fresh := fresh, os := h.os, tape := h.tape, output := h.output },
    ⟨h.sztm, fun t v e => h.tm t v (by rw [aS_all C hsz hall t N (Nat.le_refl _)]; exact e)⟩, h.dfs⟩
/-- Where the region begins. -/
theorem rs_start (C : Chain rec P sz ops N pr D kd op tm0 s0) (hs : Sim s0.H σ0 w0) (hf : Free σ0 s0.n (D N).s.n) (ht : Tm σ0 tm0 sz a.tmps) (hw : w.heap = w0.heap) (ho : w.os = w0.os) (htp : w.tape = w0.tape) (hou : w.output = w0.output)
    (hall : ∀ j, j < N → S j = false) : RS sz N D kd op s0 σ0 w0 a.defers S σ0 a w := by
  have h0 : (D 0).s = s0 := by rw [C.d0]
  have hH : ∀ i, i ≤ N → hS D kd S i = s0.H.get := fun i => by
    induction i with
    | zero => intro _; show (D 0).s.H.get = _; rw [h0]
    | succ i ih =>
      intro hi
      show (if S i then _ else hS D kd S i) = _
      rw [hall i (by omega), if_neg (by simp), ih (by omega)]
  have hA : ∀ t i, i ≤ N → aS D kd op S i t = tm0.get t := fun t i => by
    induction i with
    | zero => intro _; show (D 0).tm.get t = _; rw [C.d0]
    | succ i ih =>
      intro hi
      show (if S i ∧ _ then _ else aS D kd op S i t) = _
      rw [if_neg (by rw [hall i (by omega)]; simp), ih (by omega)]
  have hn := hH N (Nat.le_refl _)
  exact { sim := by rw [hn, hw]; exact hs.1, inj := by rw [hn]; exact hs.2, sztm := ht.1, tm := fun t v e => ht.2 t v (by rw [← hA t N (Nat.le_refl _)]; exact e), env := fun _ _ => ⟨rfl, rfl⟩,
          free := fun j hj _ b b1 b2 => hf b (by have := C.nle (i := 0) (j := j) (by omega) (by omega); rw [h0] at this; omega) (by have := C.nle (i := j + 1) (j := N) (by omega) (by omega); omega),
          frame := fun B _ _ => by rw [hw], size := by rw [hw]; exact Nat.le_refl _, fresh := fun b B hb hm he _ => ⟨b, hm, by rw [← hn]; exact hb, he⟩, os := ho, tape := htp, output := hou, dfs := rfl }
theorem put_listed {listed : Array Bool} {i : Nat} (hi : i < listed.size) : (fun j => (listed.setIfInBounds i true).getD j false) = put1 (fun j => listed.getD j false) i := by
  funext j
  unfold put1
  by_cases e : j = i
  · subst e
    simp [hi]
  · rw [if_neg e]
    exact getD_set_ne false (fun q => e q.symm)
/-- All orders. -/
theorem draw_all (hr : SoundC P rec) (hsz : sz ≤ 16000) (C : Chain rec P sz ops ops.size (fun i => (Region.before ops).getD i 0) D kd (fun i => ops.getD i default) tm0 s0) (hW : Wide F) {Q : Exit → Act → World → Prop}
    (hQ : ∀ σ' a' w', Moved s0 σ0 w0 (D ops.size).s σ' w' → Tm σ' (D ops.size).tm sz a'.tmps → a'.defers = df → Q .normal a' w') :
    ∀ (fuel : Nat) (listed : Array Bool) (σ : Env) (a : Act) (w : World), listed.size = ops.size → (∀ j, j < ops.size → listed.getD j false = true → ∀ k, ((Region.before ops).getD j 0).testBit k = true → listed.getD k false = true) →
      cnt (fun j => listed.getD j false) ops.size ≤ fuel → RS sz ops.size D kd (fun i => ops.getD i default) s0 σ0 w0 df (fun j => listed.getD j false) σ a w → wpAnyIn F n P .any ops Q fuel listed a w := by
  have hget : ∀ i, i < ops.size → ops[i]? = some (ops.getD i default) := fun i hi => by simp [Array.getD, hi]
  have done : ∀ (listed : Array Bool) (σ : Env) (a : Act) (w : World), cnt (fun j => listed.getD j false) ops.size = 0 → RS sz ops.size D kd (fun i => ops.getD i default) s0 σ0 w0 df (fun j => listed.getD j false) σ a w → Q .normal a w := fun listed σ a w h0 hR => by
    obtain ⟨m, t, d⟩ := rs_end C hsz hR (fun j hj => cnt_zero _ h0 j hj)
    exact hQ σ a w m t d
  have some_ready : ∀ (listed : Array Bool), listed.size = ops.size → (∀ j, j < ops.size → listed.getD j false = true → ∀ k, ((Region.before ops).getD j 0).testBit k = true → listed.getD k false = true) →
      Region.ready .any ops listed = [] → cnt (fun j => listed.getD j false) ops.size = 0 := fun listed hls hcl hr0 => by
    by_cases e : cnt (fun j => listed.getD j false) ops.size = 0
    · exact e
    · obtain ⟨j, h1, h2, h3⟩ := cnt_some e
      have : j ∈ Region.ready .any ops listed := by
        rw [mem_ready]
        refine ⟨?_, _, hget j h1, fun ed hed hb => ?_⟩
        · have h2' : listed.getD j false = false := h2
          have hlt : j < listed.size := by omega
          simp only [Array.getD, hlt, dif_pos] at h2' ⊢
          exact h2'
        · have hbit : ((Region.before ops).getD j 0).testBit ed.on = true := by
            rw [before_get (hget j h1)]
            exact oneB_bits.2 ⟨ed, hed, hb, .inl rfl⟩
          exact h3 ed.on (C.small j h1 _ hbit)
      rw [hr0] at this
      cases this
  intro fuel
  induction fuel with
  | zero =>
    intro listed σ a w hls hcl hc hR
    have h0 : cnt (fun j => listed.getD j false) ops.size = 0 := by omega
    refine ⟨?_, done listed σ a w h0 hR⟩
    rw [List.eq_nil_iff_forall_not_mem]
    intro j hj
    rw [mem_ready] at hj
    obtain ⟨h1, o, ho, _⟩ := hj
    have hlt : j < ops.size := (Array.getElem?_eq_some_iff.1 ho).1
    have h2 : listed.getD j false = true := cnt_zero _ h0 j hlt
    have hlt' : j < listed.size := by omega
    simp only [Array.getD, hlt', dif_pos] at h1 h2
    rw [h1] at h2
    cases h2
  | succ fuel ih =>
    intro listed σ a w hls hcl hc hR
    refine ⟨fun h0 => done listed σ a w (some_ready listed hls hcl h0) hR, fun i hi => ?_⟩
    rw [mem_ready] at hi
    obtain ⟨h1, o, ho, h2⟩ := hi
    have hlt : i < ops.size := (Array.getElem?_eq_some_iff.1 ho).1
    have hlt' : i < listed.size := by omega
    have hout : listed.getD i false = false := by
      simp only [Array.getD, hlt', dif_pos] at h1 ⊢
      exact h1
    have hpred : ∀ k, ((Region.before ops).getD i 0).testBit k = true → listed.getD k false = true := fun k hk => by
      rw [before_get ho] at hk
      obtain ⟨ed, q1, q2, q3⟩ := oneB_bits.1 hk
      have hl := h2 ed q1 q2
      rcases q3 with q3 | q3
      · rw [← q3]; exact hl
      · split at q3
        · exact hcl ed.on (by omega) hl k q3
        · simp at q3
    have R : Ready ops.size (fun i => (Region.before ops).getD i 0) (fun j => listed.getD j false) i := ⟨hcl, hlt, hout, hpred⟩
    refine draw_step C hr hsz R (hget i hlt) hW hR (fun σ' a' w' hR' => ?_)
    have hput := put_listed hlt'
    refine ih (listed.setIfInBounds i true) σ' a' w' (by simpa using hls) (fun j hj hl k hk => ?_) ?_ ?_
    · have hl' : put1 (fun j => listed.getD j false) i j = true := by rw [← hput]; exact hl
      have hk' : listed.getD k false = true := by
        by_cases e : j = i
        · subst e; exact hpred k hk
        · unfold put1 at hl'
          rw [if_neg e] at hl'
          exact hcl j hj hl' k hk
      exact getD_set_true hk'
    · rw [hput]
      have := cnt_put (S := fun j => listed.getD j false) hout ops.size hlt
      omega
    · rw [hput]; exact hR'
theorem draw_ok (hm : P.follows .mixedOrders = true) (hr : SoundC P rec) (hst : StatC rec) : DrawOK P rec := by
  intro sz id ops tm tm' s s' h hsz
  refine ⟨(evDraw_stat hst h).le, fun F n σ a w Q hW g hs hf ht hQ => wpIn_region_any hm ?_⟩
  obtain ⟨D, kd, C, e1, e2⟩ := chain_ops hst g h
  have hrep : ∀ j, (Array.replicate ops.size false).getD j false = false := fun j => by simp [Array.getD]
  refine draw_all (σ0 := σ) (w0 := w) (df := a.defers) hr hsz C hW (fun σ' a' w' m t d => hQ σ' a' w' (by rw [← e2]; exact m) (by rw [← e1]; exact t) d) ops.size _ σ a _ (by simp) (fun j _ q => by rw [hrep] at q; cases q) ?_
    (rs_start C hs (by rw [e2]; exact hf) ht rfl rfl rfl rfl (fun j _ => hrep j))
  have : ∀ k, cnt (fun j => (Array.replicate ops.size false).getD j false) k ≤ k := fun k => by
    induction k with
    | zero => exact Nat.le_refl _
    | succ k ih =>
      show cnt _ k + _ ≤ k + 1
      split <;> omega
  exact this _
end
end Go.Proofs.Ytchlehpjpgeejaa.Ev
