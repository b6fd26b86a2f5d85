/- What a single operation makes of the heap of named blocks: laws of worlds. -/
import Derived.Test.YtchlehpjpgeejaaEa
namespace Go.Proofs.Ytchlehpjpgeejaa.Ev
set_option linter.unusedVariables false
set_option linter.unusedSimpArgs false
open Go
noncomputable section

def Env.put (σ : Env) (n B c : Nat) : Env := ⟨fun b => if b = n then some B else σ.blk b, fun b => if b = n then c else σ.cap b⟩
theorem Env.put_le {σ : Env} {n B c : Nat} (h : σ.blk n = none) : σ.le (σ.put n B c) := fun b B' e => by
  have hb : b ≠ n := fun q => by rw [q, h] at e; cases e
  simp [Env.put, hb, e]
theorem Env.put_at (σ : Env) (n B c : Nat) : (σ.put n B c).blk n = some B := by simp [Env.put]
theorem Env.put_cap (σ : Env) (n B c : Nat) : (σ.put n B c).cap n = c := by simp [Env.put]
theorem Env.put_ne (σ : Env) {n b : Nat} (B c : Nat) (h : b ≠ n) : (σ.put n B c).blk b = σ.blk b ∧ (σ.put n B c).cap b = σ.cap b := by simp [Env.put, h]

def HS.new (s : HS) (x : AB) : HS :=
  match s with
  | ⟨n, m, H⟩ => ⟨n + 1, m, Tr.set 30 H n x⟩
def HS.low (m b : Nat) : Nat := match Nat.ble m b with | true => m | false => b
theorem HS.low_le (m b : Nat) : HS.low m b ≤ m ∧ HS.low m b ≤ b := by
  unfold HS.low
  cases h : Nat.ble m b with
  | true => exact ⟨Nat.le_refl _, Nat.le_of_ble_eq_true h⟩
  | false =>
    have : ¬ m ≤ b := fun q => by rw [Nat.ble_eq_true_of_le q] at h; cases h
    exact ⟨by show b ≤ m; omega, Nat.le_refl _⟩
/-- Forced: no bound is kept as a term that is not yet computed. -/
def HS.mkLow (n m b : Nat) (H : Tr AB) : HS :=
  match Nat.ble m b with
  | true => ⟨n, m, H⟩
  | false => ⟨n, b, H⟩
def HS.upd (s : HS) (b : Nat) (x : AB) : HS :=
  match s with
  | ⟨n, m, H⟩ => HS.mkLow n m b (H.upd b (some x))
/-- The block b is named anew, by the next name. -/
def HS.swap (s : HS) (b : Nat) (x : AB) : HS :=
  match s with
  | ⟨n, m, H⟩ => HS.mkLow (n + 1) m b (Tr.set 30 (H.upd b none) n x)
theorem HS.mkLow_eq (n m b : Nat) (H : Tr AB) : HS.mkLow n m b H = ⟨n, HS.low m b, H⟩ := by
  unfold HS.mkLow HS.low
  cases Nat.ble m b <;> rfl
theorem HS.upd_eq (s : HS) (b : Nat) (x : AB) : s.upd b x = ⟨s.n, HS.low s.m b, s.H.upd b (some x)⟩ := HS.mkLow_eq _ _ _ _
theorem HS.swap_eq (s : HS) (b : Nat) (x : AB) : s.swap b x = ⟨s.n + 1, HS.low s.m b, Tr.set 30 (s.H.upd b none) s.n x⟩ := HS.mkLow_eq _ _ _ _
theorem heap_alloc (w : World) (o : Obj) : (w.alloc o).heap = w.heap.push o := rfl
def setBlock (w : World) (B : Nat) (o : Obj) : World := { w with heap := w.heap.setIfInBounds B o }

theorem Moved.same {s s' : HS} {σ σ' : Env} {w w' w2 : World} (h : Moved s σ w s' σ' w') (h1 : w2.heap = w'.heap) (h2 : w2.os = w'.os) (h3 : w2.tape = w'.tape) (h4 : w2.output = w'.output) : Moved s σ w s' σ' w2 :=
  { le := h.le, mono := h.mono, env := h.env, sim := ⟨fun b x e => by rw [h1]; exact h.sim.1 b x e, h.sim.2⟩, top := h.top, keep := h.keep, dom := h.dom, frame := fun B a b => by rw [h1]; exact h.frame B a b, size := by rw [h1]; exact h.size, fresh := h.fresh, os := h2.trans h.os, tape := h3.trans h.tape, output := h4.trans h.output }
theorem Moved.same0 {s s' : HS} {σ σ' : Env} {w w' w0 : World} (h : Moved s σ w s' σ' w') (h1 : w.heap = w0.heap) (h2 : w.os = w0.os) (h3 : w.tape = w0.tape) (h4 : w.output = w0.output) : Moved s σ w0 s' σ' w' :=
  { le := h.le, mono := h.mono, env := h.env, sim := h.sim, top := h.top, keep := h.keep, dom := h.dom, frame := fun B a b => by rw [← h1]; exact h.frame B (h1 ▸ a) b, size := by rw [← h1]; exact h.size, fresh := fun b B a1 a2 a3 a4 => h.fresh b B a1 a2 a3 (h1 ▸ a4), os := h.os.trans h2, tape := h.tape.trans h3, output := h.output.trans h4 }
theorem Sim.lt {H : Tr AB} {σ : Env} {w : World} (h : Sim H σ w) {b B : Nat} (hb : H.get b ≠ none) (e : σ.blk b = some B) : B < w.heap.size := by
  cases hx : H.get b with
  | none => exact absurd hx hb
  | some x =>
    obtain ⟨B', o, e1, e2, _⟩ := h.1 b x hx
    rw [e] at e1
    cases e1
    exact (Array.getElem?_eq_some_iff.1 e2).1
theorem Sim.same {H : Tr AB} {σ : Env} {w w2 : World} (h : Sim H σ w) (h1 : w2.heap = w.heap) : Sim H σ w2 := ⟨fun b x e => by rw [h1]; exact h.1 b x e, h.2⟩

/-- A new block. -/
theorem moved_new {s : HS} {σ : Env} {w : World} (g : Good s) (hs : Sim s.H σ w) (hf : σ.blk s.n = none) (x : AB) (o : Obj) (c : Nat)
    (hx : Blk (σ.put s.n w.heap.size c) s.n x o) : Moved s σ w (s.new x) (σ.put s.n w.heap.size c) (w.alloc o) := by
  have hle : σ.le (σ.put s.n w.heap.size c) := Env.put_le hf
  have hget : ∀ b, b ≠ s.n → (s.new x).H.get b = s.H.get b := fun b hb => Tr.get_set_other 30 _ _ _ _ (Ne.symm hb)
  have htop := g.top s.n (Nat.le_refl _)
  have hn : ∀ y, (s.new x).H.get s.n = some y → y = x := fun y hy => by
    rcases Tr.get_set_or 30 s.H s.n x with e | e
    · have : (s.new x).H.get s.n = some x := e
      rw [this] at hy; cases hy; rfl
    · have : (s.new x).H.get s.n = s.H.get s.n := e
      rw [this, htop] at hy; cases hy
  have hold : ∀ b, b ≠ s.n → (s.new x).H.get b ≠ none → s.H.get b ≠ none := fun b hb h => by rwa [hget b hb] at h
  have hlt : ∀ b B, b ≠ s.n → (s.new x).H.get b ≠ none → (σ.put s.n w.heap.size c).blk b = some B → B < w.heap.size := fun b B hb h e =>
    hs.lt (hold b hb h) ((Env.put_ne σ w.heap.size c hb).1 ▸ e)
  have hat : ∀ B, (σ.put s.n w.heap.size c).blk s.n = some B → B = w.heap.size := fun B e => by rw [Env.put_at] at e; cases e; rfl
  refine { le := Nat.le_succ _, mono := Nat.le_refl _, env := ?_, sim := ⟨?_, ?_⟩, top := ?_, keep := ?_, dom := ?_, frame := ?_, size := by rw [heap_alloc]; simp, fresh := ?_, os := rfl, tape := rfl, output := rfl }
  · intro b hb
    refine Env.put_ne σ _ _ (fun e => hb ⟨by omega, ?_⟩)
    show b < s.n + 1
    omega
  · intro b y hy
    by_cases hb : b = s.n
    · subst hb
      rw [hn y hy]
      exact ⟨w.heap.size, o, Env.put_at _ _ _ _, by rw [heap_alloc]; exact Array.getElem?_push_size, hx⟩
    · rw [hget b hb] at hy
      obtain ⟨B, o', h1, h2, h3⟩ := hs.1 b y hy
      refine ⟨B, o', (hle b B h1).1, ?_, h3.le hle (by rw [h1]; simp)⟩
      have hB := (Array.getElem?_eq_some_iff.1 h2).1
      rw [heap_alloc, Array.getElem?_push_lt hB]
      exact Array.getElem?_eq_getElem hB ▸ h2
  · intro b d B hb hd eb ed
    by_cases h1 : b = s.n <;> by_cases h2 : d = s.n
    · rw [h1, h2]
    · subst h1
      have := hlt d B h2 hd ed
      rw [hat B eb] at this
      omega
    · subst h2
      have := hlt b B h1 hb eb
      rw [hat B ed] at this
      omega
    · exact hs.2 b d B (hold b h1 hb) (hold d h2 hd) ((Env.put_ne σ _ _ h1).1 ▸ eb) ((Env.put_ne σ _ _ h2).1 ▸ ed)
  · intro b hb
    have hb' : s.n + 1 ≤ b := hb
    rw [hget b (by omega)]
    exact g.top b (by omega)
  · intro b hb _
    exact hget b (by omega)
  · intro b hb h
    exact hold b (by omega) h
  · intro B hB _
    rw [heap_alloc, Array.getElem?_push_lt hB, Array.getElem?_eq_getElem hB]
  · intro b B hb hm e hB
    by_cases h1 : b = s.n
    · subst h1
      rw [hat B e] at hB
      exact absurd hB (Nat.lt_irrefl _)
    · exact ⟨b, hm, hold b h1 hb, (Env.put_ne σ _ _ h1).1 ▸ e⟩
theorem get_setBlock {w : World} {B C : Nat} {o : Obj} (h : C ≠ B) : (setBlock w B o).heap[C]? = w.heap[C]? := by
  simp only [setBlock]
  rw [Array.getElem?_setIfInBounds_ne (Ne.symm h)]
theorem get_setBlock_same {w : World} {B : Nat} {o : Obj} (h : B < w.heap.size) : (setBlock w B o).heap[B]? = some o := by
  simp only [setBlock]
  rw [Array.getElem?_setIfInBounds_self_of_lt h]
/-- A block that is written. -/
theorem moved_upd {s : HS} {σ : Env} {w : World} (g : Good s) (hs : Sim s.H σ w) {b B : Nat} (hb : s.H.get b ≠ none) (hB : σ.blk b = some B) (x : AB) (o : Obj)
    (hx : Blk σ b x o) : Moved s σ w (s.upd b x) σ (setBlock w B o) := by
  rw [HS.upd_eq]
  have hBl := hs.lt hb hB
  have hlow := HS.low_le s.m b
  have hget : ∀ d, d ≠ b → (s.H.upd b (some x)).get d = s.H.get d := fun d hd => Tr.get_upd_other _ _ _ _ (Ne.symm hd)
  have hat : (s.H.upd b (some x)).get b = some x := Tr.get_upd_same _ _ _ hb
  have hold : ∀ d, (s.H.upd b (some x)).get d ≠ none → s.H.get d ≠ none := fun d h => by
    by_cases e : d = b
    · rw [e]; exact hb
    · rwa [hget d e] at h
  have hbn : b < s.n := by
    by_cases e : b < s.n
    · exact e
    · exact absurd (g.top b (by omega)) hb
  refine { le := Nat.le_refl _, mono := hlow.1, env := fun _ _ => ⟨rfl, rfl⟩, sim := ⟨?_, ?_⟩, top := ?_, keep := ?_, dom := fun d _ h => hold d h, frame := ?_, size := by simp [setBlock], fresh := ?_, os := rfl, tape := rfl, output := rfl }
  · intro d y hy
    by_cases e : d = b
    · subst e
      rw [hat] at hy
      cases hy
      exact ⟨B, o, hB, get_setBlock_same hBl, hx⟩
    · rw [hget d e] at hy
      obtain ⟨D, o', h1, h2, h3⟩ := hs.1 d y hy
      refine ⟨D, o', h1, ?_, h3⟩
      rw [get_setBlock (fun q => e (hs.2 d b D (by rw [hy]; simp) hb h1 (by rw [q]; exact hB)))]
      exact h2
  · intro d c D h1 h2 h3 h4
    exact hs.2 d c D (hold d h1) (hold c h2) h3 h4
  · intro d hd
    have hd' : s.n ≤ d := hd
    rw [hget d (by omega)]
    exact g.top d hd'
  · intro d h1 h2
    have h2' : d < HS.low s.m b := h2
    exact hget d (by omega)
  · intro C hC hn
    have : C ≠ B := fun e => hn b hlow.2 hb (e ▸ hB)
    exact get_setBlock this
  · intro d D h1 h2 h3 _
    exact ⟨d, h2, hold d h1, h3⟩
/-- A block that is written, and named anew. -/
theorem moved_swap {s : HS} {σ : Env} {w : World} (g : Good s) (hs : Sim s.H σ w) (hf : σ.blk s.n = none) {b B : Nat} (hb : s.H.get b ≠ none) (hB : σ.blk b = some B) (x : AB) (o : Obj) (c : Nat)
    (hx : Blk (σ.put s.n B c) s.n x o) : Moved s σ w (s.swap b x) (σ.put s.n B c) (setBlock w B o) := by
  rw [HS.swap_eq]
  have hle : σ.le (σ.put s.n B c) := Env.put_le hf
  have hBl := hs.lt hb hB
  have hlow := HS.low_le s.m b
  have hbn : b < s.n := by
    by_cases e : b < s.n
    · exact e
    · exact absurd (g.top b (by omega)) hb
  have hg1 : ∀ d, d ≠ s.n → (Tr.set 30 (s.H.upd b none) s.n x).get d = (s.H.upd b none).get d := fun d hd => Tr.get_set_other 30 _ _ _ _ (Ne.symm hd)
  have hg2 : (s.H.upd b none).get b = none := Tr.get_upd_same _ _ _ hb
  have hg3 : ∀ d, d ≠ b → (s.H.upd b none).get d = s.H.get d := fun d hd => Tr.get_upd_other _ _ _ _ (Ne.symm hd)
  have htop := g.top s.n (Nat.le_refl _)
  have hn : ∀ y, (Tr.set 30 (s.H.upd b none) s.n x).get s.n = some y → y = x := fun y hy => by
    rcases Tr.get_set_or 30 (s.H.upd b none) s.n x with e | e
    · have : (Tr.set 30 (s.H.upd b none) s.n x).get s.n = some x := e
      rw [this] at hy; cases hy; rfl
    · have : (Tr.set 30 (s.H.upd b none) s.n x).get s.n = (s.H.upd b none).get s.n := e
      rw [this, hg3 _ (by omega), htop] at hy; cases hy
  have hold : ∀ d, d ≠ s.n → (Tr.set 30 (s.H.upd b none) s.n x).get d ≠ none → d ≠ b ∧ s.H.get d ≠ none := fun d hd h => by
    rw [hg1 d hd] at h
    by_cases e : d = b
    · rw [e, hg2] at h; exact absurd rfl h
    · exact ⟨e, by rwa [hg3 d e] at h⟩
  have hat : ∀ C, (σ.put s.n B c).blk s.n = some C → C = B := fun C e => by rw [Env.put_at] at e; cases e; rfl
  refine { le := Nat.le_succ _, mono := hlow.1, env := ?_, sim := ⟨?_, ?_⟩, top := ?_, keep := ?_, dom := ?_, frame := ?_, size := by simp [setBlock], fresh := ?_, os := rfl, tape := rfl, output := rfl }
  · intro d hd
    refine Env.put_ne σ _ _ (fun e => hd ⟨by omega, ?_⟩)
    show d < s.n + 1
    omega
  · intro d y hy
    by_cases hd : d = s.n
    · subst hd
      rw [hn y hy]
      exact ⟨B, o, Env.put_at _ _ _ _, get_setBlock_same hBl, hx⟩
    · obtain ⟨e1, e2⟩ := hold d hd (by rw [hy]; simp)
      rw [hg1 d hd, hg3 d e1] at hy
      obtain ⟨D, o', h1, h2, h3⟩ := hs.1 d y hy
      refine ⟨D, o', (hle d D h1).1, ?_, h3.le hle (by rw [h1]; simp)⟩
      rw [get_setBlock (fun q => e1 (hs.2 d b D e2 hb h1 (by rw [q]; exact hB)))]
      exact h2
  · intro d e D h1 h2 h3 h4
    by_cases k1 : d = s.n <;> by_cases k2 : e = s.n
    · rw [k1, k2]
    · subst k1
      obtain ⟨q1, q2⟩ := hold e k2 h2
      rw [hat D h3] at h4
      exact absurd (hs.2 e b B q2 hb ((Env.put_ne σ _ _ k2).1 ▸ h4) hB) q1
    · subst k2
      obtain ⟨q1, q2⟩ := hold d k1 h1
      rw [hat D h4] at h3
      exact absurd (hs.2 d b B q2 hb ((Env.put_ne σ _ _ k1).1 ▸ h3) hB) q1
    · exact hs.2 d e D (hold d k1 h1).2 (hold e k2 h2).2 ((Env.put_ne σ _ _ k1).1 ▸ h3) ((Env.put_ne σ _ _ k2).1 ▸ h4)
  · intro d hd
    have hd' : s.n + 1 ≤ d := hd
    rw [hg1 d (by omega), hg3 d (by omega)]
    exact g.top d (by omega)
  · intro d h1 h2
    have h2' : d < HS.low s.m b := h2
    rw [hg1 d (by omega), hg3 d (by omega)]
  · intro d h1 h2
    exact (hold d (by omega) h2).2
  · intro C hC hn'
    have : C ≠ B := fun e => hn' b hlow.2 hb (e ▸ hB)
    exact get_setBlock this
  · intro d D h1 h2 h3 hD
    by_cases k : d = s.n
    · subst k
      rw [hat D h3] at hD ⊢
      exact ⟨b, hlow.2, hb, hB⟩
    · exact ⟨d, h2, (hold d k h1).2, (Env.put_ne σ _ _ k).1 ▸ h3⟩
end
end Go.Proofs.Ytchlehpjpgeejaa.Ev
