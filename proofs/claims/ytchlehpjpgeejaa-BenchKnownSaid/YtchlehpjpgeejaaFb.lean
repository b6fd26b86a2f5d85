/- A region whose order is open: world and temporaries behind some of its operations. -/
import Derived.Test.YtchlehpjpgeejaaFa
namespace Go.Proofs.Ytchlehpjpgeejaa.Ev
set_option linter.unusedVariables false
set_option linter.unusedSimpArgs false
open Go
noncomputable section
variable {P : Program} {rec : Rec} {sz N : Nat} {ops : Array Oper} {pr : Nat → Nat} {D : Nat → DS} {kd : Nat → Kd} {op : Nat → Oper} {tm0 : Tr AV} {s0 : HS} {S : Nat → Bool} {i : Nat}

structure RS (sz N : Nat) (D : Nat → DS) (kd : Nat → Kd) (op : Nat → Oper) (s0 : HS) (σ0 : Env) (w0 : World) (df : List Deferred) (S : Nat → Bool) (σ : Env) (a : Act) (w : World) : Prop where
  sim : ∀ b x, hS D kd S N b = some x → ∃ B o, σ.blk b = some B ∧ w.heap[B]? = some o ∧ Blk σ b x o
  inj : ∀ b c B, hS D kd S N b ≠ none → hS D kd S N c ≠ none → σ.blk b = some B → σ.blk c = some B → b = c
  sztm : a.tmps.size = sz
  tm : ∀ t v, aS D kd op S N t = some v → ∃ x, den σ v = some x ∧ t < sz ∧ a.tmps.getD t undef = x
  env : ∀ b, ¬ (s0.n ≤ b ∧ b < (D N).s.n) → σ.blk b = σ0.blk b ∧ σ.cap b = σ0.cap b
  free : ∀ j, j < N → S j = false → ∀ b, (D j).s.n ≤ b → b < (D (j + 1)).s.n → σ.blk b = none
  frame : ∀ B, B < w0.heap.size → (∀ b, (D N).s.m ≤ b → s0.H.get b ≠ none → σ0.blk b ≠ some B) → w.heap[B]? = w0.heap[B]?
  size : w0.heap.size ≤ w.heap.size
  fresh : ∀ b B, hS D kd S N b ≠ none → (D N).s.m ≤ b → σ.blk b = some B → B < w0.heap.size → ∃ c, (D N).s.m ≤ c ∧ s0.H.get c ≠ none ∧ σ0.blk c = some B
  os : w.os = w0.os
  tape : w.tape = w0.tape
  output : w.output = w0.output
  dfs : a.defers = df
variable {σ0 σ σ' : Env} {w0 w w' : World} {a : Act} {df : List Deferred}

theorem RS.lt (h : RS sz N D kd op s0 σ0 w0 df S σ a w) {b B : Nat} (hb : hS D kd S N b ≠ none) (e : σ.blk b = some B) : B < w.heap.size := by
  cases hx : hS D kd S N b with
  | none => exact absurd hx hb
  | some x =>
    obtain ⟨B', o, e1, e2, _⟩ := h.sim b x hx
    rw [e] at e1
    cases e1
    exact (Array.getElem?_eq_some_iff.1 e2).1
/-- The temporaries behind one more. -/
theorem RS.tm_put (C : Chain rec P sz ops N pr D kd op tm0 s0) (R : Ready N pr S i) (h : RS sz N D kd op s0 σ0 w0 df S σ a w) (hle : σ.le σ') {r : Value} (hv : den σ' (kd i).val = some r) :
    (a.put (op i).dst r).tmps.size = sz ∧ (∀ t v, aS D kd op (put1 S i) N t = some v → ∃ x, den σ' v = some x ∧ t < sz ∧ (a.put (op i).dst r).tmps.getD t undef = x) := by
  have hsz : (a.put (op i).dst r).tmps.size = sz := by
    cases hd : (op i).dst with
    | none => exact h.sztm
    | some u => simpa [Act.put] using h.sztm
  refine ⟨hsz, fun t v e => ?_⟩
  rw [aS_put C R] at e
  by_cases hd : (op i).dst = some t
  · rw [if_pos hd] at e
    cases e
    have hp := (C.step i R.lt).2.1
    rw [hd] at hp
    have hlt : t < sz := by
      unfold putT at hp
      simp only at hp
      split at hp
      · rename_i hb
        have : ¬ sz ≤ t := fun q => by rw [Nat.ble_eq_true_of_le q] at hb; cases hb
        omega
      · cases hp
    refine ⟨r, hv, hlt, ?_⟩
    rw [hd]
    have : t < a.tmps.size := by rw [h.sztm]; exact hlt
    simp [Act.put, Array.getD, this]
  · rw [if_neg hd] at e
    obtain ⟨x, h1, h2, h3⟩ := h.tm t v e
    refine ⟨x, den_le hle v x h1, h2, ?_⟩
    rw [← h3]
    cases hdd : (op i).dst with
    | none => rfl
    | some u => exact getD_put_ne (fun q => hd (by rw [hdd, q]))
theorem RS.dfs_put (h : RS sz N D kd op s0 σ0 w0 df S σ a w) (d : Option Nat) (r : Value) : (a.put d r).defers = df := by rw [put_defers]; exact h.dfs
theorem put1_false {j : Nat} (h : put1 S i j = false) : j ≠ i ∧ S j = false := by
  unfold put1 at h
  by_cases e : j = i
  · rw [if_pos e] at h; cases h
  · rw [if_neg e] at h; exact ⟨e, h⟩
/-- Names that one operation lays are its own. -/
theorem env_put (C : Chain rec P sz ops N pr D kd op tm0 s0) (R : Ready N pr S i) (h : RS sz N D kd op s0 σ0 w0 df S σ a w)
    (he : ∀ b, ¬ ((D i).s.n ≤ b ∧ b < (D (i + 1)).s.n) → σ'.blk b = σ.blk b ∧ σ'.cap b = σ.cap b) :
    (∀ b, ¬ (s0.n ≤ b ∧ b < (D N).s.n) → σ'.blk b = σ0.blk b ∧ σ'.cap b = σ0.cap b) ∧ (∀ j, j < N → put1 S i j = false → ∀ b, (D j).s.n ≤ b → b < (D (j + 1)).s.n → σ'.blk b = none) := by
  have hlt := R.lt
  have n0 : s0.n = (D 0).s.n := by rw [C.d0]
  have a1 := C.nle (i := 0) (j := i) (by omega) (by omega)
  have a2 := C.nle (i := i + 1) (j := N) (by omega) (by omega)
  refine ⟨fun b hb => ?_, fun j hj hS b b1 b2 => ?_⟩
  · have e1 := he b (by omega)
    have e2 := h.env b hb
    exact ⟨e1.1.trans e2.1, e1.2.trans e2.2⟩
  · obtain ⟨hne, hS'⟩ := put1_false hS
    have hout : ¬ ((D i).s.n ≤ b ∧ b < (D (i + 1)).s.n) := by
      rcases Nat.lt_or_gt_of_ne hne with q | q
      · have := C.nle (i := j + 1) (j := i) (by omega) (by omega)
        omega
      · have := C.nle (i := i + 1) (j := j) (by omega) (by omega)
        omega
    rw [(he b hout).1]
    exact h.free j hj hS' b b1 b2
theorem rs_same (C : Chain rec P sz ops N pr D kd op tm0 s0) (R : Ready N pr S i) (h : RS sz N D kd op s0 σ0 w0 df S σ a w) (hid : tstep (kd i) (D i).s.n = id) (hst : ∀ b off cs, kd i ≠ .store b off cs) {r : Value} (hv : den σ (kd i).val = some r) :
    RS sz N D kd op s0 σ0 w0 df (put1 S i) σ (a.put (op i).dst r) w := by
  have hh : hS D kd (put1 S i) N = hS D kd S N := by rw [put_heap C R (fun b off cs q => absurd q (hst b off cs)), hid]; rfl
  obtain ⟨t1, t2⟩ := h.tm_put C R (Env.le.refl σ) hv
  obtain ⟨e1, e2⟩ := env_put (σ' := σ) C R h (fun b _ => ⟨rfl, rfl⟩)
  exact { sim := by rw [hh]; exact h.sim, inj := by rw [hh]; exact h.inj, sztm := t1, tm := t2, env := e1, free := e2, frame := h.frame, size := h.size, fresh := by rw [hh]; exact h.fresh, os := h.os, tape := h.tape, output := h.output, dfs := h.dfs_put _ _ }
theorem rs_add (C : Chain rec P sz ops N pr D kd op tm0 s0) (R : Ready N pr S i) (h : RS sz N D kd op s0 σ0 w0 df S σ a w) {v : AV} {K : Tr AB} {s1 : HS} {rel call : Bool} (hk : kd i = .add v K s1 rel call)
    (hK : Good ⟨(D i).s.n, (D i).s.n, K⟩) (m : Moved ⟨(D i).s.n, (D i).s.n, K⟩ σ w s1 σ' w') {r : Value} (hv : den σ' v = some r) : RS sz N D kd op s0 σ0 w0 df (put1 S i) σ' (a.put (op i).dst r) w' := by
  obtain ⟨n1, n2, n3⟩ := add_n C R.lt hk
  have hle : σ.le σ' := m.env_le (fun b b1 b2 => h.free i R.lt R.out b b1 (by rw [n1]; exact b2))
  have hh : hS D kd (put1 S i) N = fun b => if (D i).s.n ≤ b ∧ b < s1.n then s1.H.get b else hS D kd S N b := by
    rw [put_heap C R (fun b off cs q => by rw [hk] at q; cases q), hk]
    rfl
  have still : ∀ B, B < w.heap.size → w'.heap[B]? = w.heap[B]? := fun B hB => m.frame B hB (fun b hb hd _ => hd (hK.top b (Nat.le_trans n2 hb)))
  have newB : ∀ b B, (D i).s.n ≤ b → s1.H.get b ≠ none → σ'.blk b = some B → w.heap.size ≤ B := fun b B hb hd he => by
    by_cases q : B < w.heap.size
    · have hm : s1.m ≤ (D i).s.n := m.mono
      obtain ⟨c, c1, c2, _⟩ := m.fresh b B hd (by omega) he q
      exact absurd (hK.top c (Nat.le_trans n2 c1)) c2
    · omega
  have old : ∀ b B, hS D kd S N b ≠ none → σ'.blk b = some B → σ.blk b = some B := fun b B hd he => by
    cases hx : hS D kd S N b with
    | none => exact absurd hx hd
    | some x =>
      obtain ⟨B', o, e1, _⟩ := h.sim b x hx
      have := (hle b B' e1).1
      rw [he] at this
      cases this
      exact e1
  obtain ⟨t1, t2⟩ := h.tm_put C R hle (by rw [hk]; exact hv)
  obtain ⟨e1, e2⟩ := env_put (σ' := σ') C R h (fun b hb => m.env b (by rw [n1] at hb; exact hb))
  refine { sim := ?_, inj := ?_, sztm := t1, tm := t2, env := e1, free := e2, frame := ?_, size := Nat.le_trans h.size m.size, fresh := ?_, os := m.os.trans h.os, tape := m.tape.trans h.tape, output := m.output.trans h.output, dfs := h.dfs_put _ _ }
  · intro b x hx
    rw [hh] at hx
    simp only at hx
    split at hx
    · exact m.sim.1 b x hx
    · obtain ⟨B, o, q1, q2, q3⟩ := h.sim b x hx
      refine ⟨B, o, (hle b B q1).1, ?_, q3.le hle (by rw [q1]; simp)⟩
      rw [still B (Array.getElem?_eq_some_iff.1 q2).1]
      exact q2
  · intro b c B hb hc eb ec
    rw [hh] at hb hc
    simp only at hb hc
    split at hb
    · rename_i qb
      split at hc
      · exact m.sim.2 b c B hb hc eb ec
      · have x1 := newB b B qb.1 hb eb
        have x2 := h.lt hc (old c B hc ec)
        omega
    · split at hc
      · rename_i qc
        have x1 := newB c B qc.1 hc ec
        have x2 := h.lt hb (old b B hb eb)
        omega
      · exact h.inj b c B hb hc (old b B hb eb) (old c B hc ec)
  · intro B hB hn
    rw [still B (Nat.lt_of_lt_of_le hB h.size)]
    exact h.frame B hB hn
  · intro b B hb hm he hB
    rw [hh] at hb
    simp only at hb
    split at hb
    · rename_i qb
      have x1 := newB b B qb.1 hb he
      have := h.size
      omega
    · exact h.fresh b B hb hm (old b B hb he) hB
theorem rs_bar (C : Chain rec P sz ops N pr D kd op tm0 s0) (R : Ready N pr S i) (h : RS sz N D kd op s0 σ0 w0 df S σ a w) {v : AV} {s1 : HS} (hk : kd i = .bar v s1)
    (m : Moved ⟨(D i).s.n, (D i).s.n, (D i).s.H⟩ σ w s1 σ' w') {r : Value} (hv : den σ' v = some r) : RS sz N D kd op s0 σ0 w0 df (put1 S i) σ' (a.put (op i).dst r) w' := by
  have hlt := R.lt
  have hF := (C.step i R.lt).2.2
  rw [hk] at hF
  have hs := hF.2.1
  have n1 : (D (i + 1)).s.n = s1.n := by rw [hs]
  have hm1 : (D N).s.m ≤ s1.m := by
    have q := C.mle (i := i + 1) (j := N) (by omega) (Nat.le_refl _)
    rw [hs] at q
    exact Nat.le_trans q (HS.low_le _ _).2
  have hK := heap_bar C R hk
  have hle : σ.le σ' := m.env_le (fun b b1 b2 => h.free i R.lt R.out b b1 (by rw [n1]; exact b2))
  have hh : hS D kd (put1 S i) N = s1.H.get := by
    rw [put_heap C R (fun b off cs q => by rw [hk] at q; cases q), hk]
    rfl
  have back : ∀ b B, s1.H.get b ≠ none → (D N).s.m ≤ b → σ'.blk b = some B → B < w.heap.size → ∃ c, (D N).s.m ≤ c ∧ hS D kd S N c ≠ none ∧ σ.blk c = some B := fun b B hd hm he hB => by
    by_cases q : s1.m ≤ b
    · obtain ⟨c, c1, c2, c3⟩ := m.fresh b B hd q he hB
      exact ⟨c, Nat.le_trans hm1 c1, by rw [hK]; exact c2, c3⟩
    · have hmm : s1.m ≤ (D i).s.n := m.mono
      have hbn : b < (D i).s.n := by omega
      refine ⟨b, hm, ?_, ?_⟩
      · rw [hK]
        exact m.dom b hbn hd
      · rw [← (m.env b (fun z => absurd z.1 (by show ¬ (D i).s.n ≤ b; omega))).1]
        exact he
  obtain ⟨t1, t2⟩ := h.tm_put C R hle (by rw [hk]; exact hv)
  obtain ⟨e1, e2⟩ := env_put (σ' := σ') C R h (fun b hb => m.env b (by rw [n1] at hb; exact hb))
  refine { sim := ?_, inj := ?_, sztm := t1, tm := t2, env := e1, free := e2, frame := ?_, size := Nat.le_trans h.size m.size, fresh := ?_, os := m.os.trans h.os, tape := m.tape.trans h.tape, output := m.output.trans h.output, dfs := h.dfs_put _ _ }
  · rw [hh]; exact m.sim.1
  · rw [hh]; exact m.sim.2
  · intro B hB hn
    have hB' := Nat.lt_of_lt_of_le hB h.size
    rw [← h.frame B hB hn]
    refine m.frame B hB' (fun b hb hd he => ?_)
    obtain ⟨c, c1, c2, c3⟩ := h.fresh b B (by rw [hK]; exact hd) (Nat.le_trans hm1 hb) he hB
    exact hn c c1 c2 c3
  · intro b B hb hm he hB
    rw [hh] at hb
    obtain ⟨c, c1, c2, c3⟩ := back b B hb hm he (Nat.lt_of_lt_of_le hB h.size)
    exact h.fresh c B c2 c1 c3 hB
theorem rs_store (C : Chain rec P sz ops N pr D kd op tm0 s0) (R : Ready N pr S i) (h : RS sz N D kd op s0 σ0 w0 df S σ a w) {b off : Nat} {cs : List AV} (hk : kd i = .store b off cs) (hbn : b < (D i).s.n) (hmb : (D N).s.m ≤ b)
    {B : Nat} {y' : AB} {o' : Obj} (hB : σ.blk b = some B) (hd : hS D kd S N b ≠ none) (hy : spB (hS D kd S N b) off cs = some y') (ho : Blk σ b y' o') :
    RS sz N D kd op s0 σ0 w0 df (put1 S i) σ (a.put (op i).dst undef) (setBlock w B o') := by
  have hBl := h.lt hd hB
  have hh : hS D kd (put1 S i) N = fun c => if c = b then spB (hS D kd S N b) off cs else hS D kd S N c := by
    rw [put_heap C R (fun b' off' cs' q => by rw [hk] at q; cases q; exact hbn), hk]
    rfl
  have old : ∀ c, hS D kd (put1 S i) N c ≠ none → hS D kd S N c ≠ none := fun c q => by
    rw [hh] at q
    simp only at q
    split at q
    · rename_i e; rw [e]; exact hd
    · exact q
  obtain ⟨t1, t2⟩ := h.tm_put C R (Env.le.refl σ) (r := undef) (by rw [hk]; rfl)
  obtain ⟨e1, e2⟩ := env_put (σ' := σ) C R h (fun b _ => ⟨rfl, rfl⟩)
  refine { sim := ?_, inj := fun x y B h1 h2 => h.inj x y B (old x h1) (old y h2), sztm := t1, tm := t2, env := e1, free := e2, frame := ?_, size := by simpa [setBlock] using h.size, fresh := fun x B h1 => h.fresh x B (old x h1), os := h.os, tape := h.tape, output := h.output, dfs := h.dfs_put _ _ }
  · intro c x hx
    rw [hh] at hx
    simp only at hx
    split at hx
    · rename_i e
      subst e
      rw [hy] at hx
      cases hx
      exact ⟨B, o', hB, get_setBlock_same hBl, ho⟩
    · rename_i e
      obtain ⟨C', o, q1, q2, q3⟩ := h.sim c x hx
      refine ⟨C', o, q1, ?_, q3⟩
      rw [get_setBlock (fun q => e (h.inj c b B (by rw [hx]; simp) hd (by rw [← q]; exact q1) hB))]
      exact q2
  · intro C' hC hn
    have : C' ≠ B := fun q => by
      subst q
      obtain ⟨c, c1, c2, c3⟩ := h.fresh b C' hd hmb hB hC
      exact hn c c1 c2 c3
    rw [get_setBlock this]
    exact h.frame C' hC hn
end
end Go.Proofs.Ytchlehpjpgeejaa.Ev
