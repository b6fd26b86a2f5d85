/- Computations in parts: the rules. -/
import Derived.Test.YtchlehpjpgeejaaFi
namespace Go.Proofs.Ytchlehpjpgeejaa.Ev
set_option linter.unusedVariables false
set_option linter.unusedSimpArgs false
open Go
noncomputable section
variable {P : Program} {σ : Env} {a : Act} {w w0 : World} {sz : Nat} {O : Orc}

/-- The state is there, and of the first world nothing has changed. -/
structure Now (sz : Nat) (fs : FS) (w0 : World) (σ : Env) (a : Act) (w : World) : Prop where
  st : St σ sz fs a w
  free : ∀ b, fs.s.n ≤ b → σ.blk b = none
  old : ∀ B, B < w0.heap.size → w.heap[B]? = w0.heap[B]?
  new : ∀ b B, fs.s.H.get b ≠ none → σ.blk b = some B → w0.heap.size ≤ B
  size : w0.heap.size ≤ w.heap.size
  os : w.os = w0.os
  tape : w.tape = w0.tape
  output : w.output = w0.output
theorem Now.move {fs fs' : FS} {σ' : Env} {a' : Act} {w' : World} (h : Now sz fs w0 σ a w) (m : Moved fs.s σ w fs'.s σ' w') (ht : Tm σ' fs'.tm sz a'.tmps) (hd : Df σ' fs'.df a'.defers) : Now sz fs' w0 σ' a' w' := by
  have hl := m.le
  refine ⟨⟨m.good h.st.good, m.sim, ht, hd⟩, fun b hb => ?_, fun B hB => ?_, fun b B hb he => ?_, Nat.le_trans h.size m.size, m.os.trans h.os, m.tape.trans h.tape, m.output.trans h.output⟩
  · rw [(m.env b (by omega)).1]
    exact h.free b (by omega)
  · rw [← h.old B hB]
    refine m.frame B (Nat.lt_of_lt_of_le hB h.size) (fun b _ q e => ?_)
    have := h.new b B q e
    omega
  · by_cases hB : B < w.heap.size
    · by_cases hm : fs'.s.m ≤ b
      · obtain ⟨c, _, c2, c3⟩ := m.fresh b B hb hm he hB
        exact h.new c B c2 c3
      · have hmm : fs'.s.m ≤ fs.s.m := m.mono
        have hg := h.st.good.low
        refine h.new b B (m.dom b (by omega) hb) ?_
        rw [← (m.env b (by omega)).1]
        exact he
    · have := h.size
      omega
theorem Now.lit {fs : FS} {T : Lit} (h : Now sz fs w0 σ a w) (k : holds fs T = true) : Now sz T.fs w0 σ a w := by
  obtain ⟨k1, k2, k3, k4⟩ := holds_ok k
  have sub : ∀ b, T.fs.s.H.get b ≠ none → fs.s.H.get b ≠ none := fun b q => by
    cases hx : T.fs.s.H.get b with
    | none => exact absurd hx q
    | some x => rw [k4 b x hx]; simp
  have hn : T.fs.s.n = fs.s.n := k1.symm
  refine ⟨⟨⟨fun b hb => ?_, Nat.le_refl _⟩, ⟨fun b x e => h.st.sim.1 b x (k4 b x e), fun b c B q1 q2 => h.st.sim.2 b c B (sub b q1) (sub c q2)⟩, ⟨h.st.tm.1, fun t v e => h.st.tm.2 t v (k3 t v e)⟩, ?_⟩, fun b hb => h.free b (by omega), h.old, fun b B q e => h.new b B (sub b q) e, h.size, h.os, h.tape, h.output⟩
  · cases hx : T.fs.s.H.get b with
    | none => rfl
    | some x =>
      have := h.st.good.top b (by omega)
      rw [k4 b x hx] at this
      cases this
  · show Df σ T.df a.defers
    rw [← k2]
    exact h.st.df
/-- From each world in which the state is there, the code goes on to that end. -/
def Goes (P : Program) (sz : Nat) (c : Code) (T : Lit) (w0 : World) (Q : Exit → Act → World → Prop) : Prop :=
  ∀ (F : Fence) (n : Nat) (σ : Env) (a : Act) (w : World), Wide F → F.round = none → Now sz T.fs w0 σ a w → c.wpIn F n P Q a w
/-- An end in a state that is written out. -/
def Land (sz : Nat) (p : Exit → Bool) (T : Lit) (w0 : World) : Exit → Act → World → Prop := fun e a w => p e = true ∧ ∃ σ, Now sz T.fs w0 σ a w
def isN (e : Exit) : Bool :=
  match e with
  | .normal => true
  | _ => false
theorem isN_ok {e : Exit} (h : isN e = true) : e = .normal := by cases e <;> first | rfl | cases h
theorem run_now (hm : P.follows .mixedOrders = true) (hO : Known P O) {k : Nat} {c : Code} {T : Lit} {e : Exit} {fs : FS} (h : evR P O k none sz c T.fs = some (e, fs)) (hsz : sz ≤ 16000) {F : Fence} {n : Nat} (hW : Wide F) (hro : F.round = none) (hN : Now sz T.fs w0 σ a w) :
    c.wpIn F n P (fun e' a' w' => e' = e ∧ ∃ σ', Now sz fs w0 σ' a' w') a w := by
  rw [evR_eq] at h
  obtain ⟨hle, hc⟩ := (evC_ok hm hO k).1.code _ _ _ _ _ _ h hsz
  refine wpIn_mono (hc F n σ a w hW hro hN.st (fun b b1 _ => hN.free b b1)) (fun e' a' w' hp => ?_)
  obtain ⟨h1, σ', m, t, d⟩ := hp
  exact ⟨h1, σ', hN.move m t d⟩
/-- A part, computed. -/
theorem goes_partO (hm : P.follows .mixedOrders = true) (hO : Known P O) {k : Nat} {c : Code} {T T' : Lit} {p : Exit → Bool} (hsz : Nat.ble sz 16000 = true) (h : lands (evR P O k none sz c T.fs) p T' = true) : Goes P sz c T w0 (Land sz p T' w0) := by
  obtain ⟨e, fs, h1, h2, h3⟩ := lands_ok h
  intro F n σ a w hW hro hN
  refine wpIn_mono (run_now hm hO h1 (Nat.le_of_ble_eq_true hsz) hW hro hN) (fun e' a' w' hp => ?_)
  obtain ⟨rfl, σ', hN'⟩ := hp
  exact ⟨h2, σ', hN'.lit h3⟩
theorem goes_part (hm : P.follows .mixedOrders = true) {k : Nat} {c : Code} {T T' : Lit} {p : Exit → Bool} (hsz : Nat.ble sz 16000 = true) (h : lands (evR P noOrc k none sz c T.fs) p T' = true) : Goes P sz c T w0 (Land sz p T' w0) :=
  goes_partO hm noKnown hsz h
theorem goes_seq {x y : Code} {T T' : Lit} {Q : Exit → Act → World → Prop} (h1 : Goes P sz x T w0 (Land sz isN T' w0)) (h2 : Goes P sz y T' w0 Q) : Goes P sz (.seq x y) T w0 Q := by
  intro F n σ a w hW hro hN
  refine wpIn_seq (wpIn_mono (h1 F n σ a w hW hro hN) (fun e' a' w' hp => ?_))
  obtain ⟨he, σ', hN'⟩ := hp
  obtain rfl := isN_ok he
  exact h2 F n σ' a' w' hW hro hN'
theorem goes_mono {c : Code} {T : Lit} {Q Q' : Exit → Act → World → Prop} (h : Goes P sz c T w0 Q) (k : ∀ e a w, Q e a w → Q' e a w) : Goes P sz c T w0 Q' :=
  fun F n σ a w hW hro hN => wpIn_mono (h F n σ a w hW hro hN) k
theorem goes_cond {x : Operand} {y z : Code} {T : Lit} {Q : Exit → Act → World → Prop} (b : Bool) (hx : opd T.fs.tm x = some (.v (.bool b))) (h : Goes P sz (if b then y else z) T w0 Q) : Goes P sz (.cond x y z) T w0 Q := by
  intro F n σ a w hW hro hN
  have := opd_den hN.st.tm hx
  have e : a.eval x = .bool b := by simpa [den] using this.symm
  cases b with
  | true => exact wpIn_cond_true e (h F n σ a w hW hro hN)
  | false => exact wpIn_cond_false e (h F n σ a w hW hro hN)
theorem goes_block {id : Nat} {x : Code} {T : Lit} {Q : Exit → Act → World → Prop} (h : Goes P sz x T w0 (Exit.inBlock id Q)) : Goes P sz (.block id x) T w0 Q :=
  fun F n σ a w hW hro hN => wpIn_block (h F n σ a w hW hro hN)
theorem goes_scope {x : Code} {T : Lit} {Q : Exit → Act → World → Prop} (h : Goes P sz x T w0 (fun e a w => (∀ l, e ≠ .goto l) ∧ Q e a w)) : Goes P sz (.scope x) T w0 Q :=
  fun F n σ a w hW hro hN => wpIn_scope (h F n σ a w hW hro hN)
/-- A loop, round by round. -/
def Rounds (P : Program) (sz : Nat) (c : Code) (T : Lit) (w0 : World) (Q : Exit → Act → World → Prop) (m : Nat) : Prop :=
  ∀ (F : Fence) (n : Nat) (σ : Env) (a : Act) (w : World), Wide F → F.round = none → Now sz T.fs w0 σ a w → Code.roundsIn F n P c Q m a w
theorem rounds_one {c : Code} {T T' : Lit} {Q : Exit → Act → World → Prop} {m : Nat} (h1 : Goes P sz c T w0 (Land sz isN T' w0)) (h2 : Rounds P sz c T' w0 Q m) : Rounds P sz c T w0 Q (m + 1) := by
  intro F n σ a w hW hro hN
  refine wpIn_mono (h1 F n σ a w hW hro hN) (fun e' a' w' hp => ?_)
  obtain ⟨he, σ', hN'⟩ := hp
  obtain rfl := isN_ok he
  exact h2 F n σ' a' w' hW hro hN'
theorem rounds_end {c : Code} {T : Lit} {Q : Exit → Act → World → Prop} {m : Nat} (h1 : Goes P sz c T w0 (fun e a w => e ≠ .normal ∧ Q e a w)) : Rounds P sz c T w0 Q (m + 1) := by
  intro F n σ a w hW hro hN
  refine wpIn_mono (h1 F n σ a w hW hro hN) (fun e' a' w' hp => ?_)
  cases e' with
  | normal => exact absurd rfl hp.1
  | _ => exact hp.2
theorem goes_loop {c : Code} {T : Lit} {Q : Exit → Act → World → Prop} (m : Nat) (h : Rounds P sz c T w0 Q m) : Goes P sz (.loop c) T w0 Q :=
  fun F n σ a w hW hro hN => wpIn_loop_rounds m (h F n σ a w hW hro hN)
/-- The function's end. -/
def Out (P : Program) (fn : Func) (sz : Nat) (v : Value) (w0 : World) : Exit → Act → World → Prop :=
  fun e a w => (e = .normal ∨ e = .ret) ∧ ∃ σ fs s', Now sz fs w0 σ a w ∧ leaveF P fn fs = some (.v v, s')
def endsV (P : Program) (fn : Func) (v : Value) (r : Option (Exit × FS)) : Bool :=
  match r with
  | some (.normal, fs) => (match leaveF P fn fs with
    | some (u, _) => eqA u (.v v)
    | none => false)
  | some (.ret, fs) => (match leaveF P fn fs with
    | some (u, _) => eqA u (.v v)
    | none => false)
  | _ => false
theorem endsV_ok {fn : Func} {v : Value} {r : Option (Exit × FS)} (h : endsV P fn v r = true) : ∃ e fs s', r = some (e, fs) ∧ (e = .normal ∨ e = .ret) ∧ leaveF P fn fs = some (.v v, s') := by
  unfold endsV at h
  split at h
  · rename_i fs
    split at h
    · rename_i u s' hu
      exact ⟨_, fs, s', rfl, .inl rfl, by rw [hu, eqA_ok h]⟩
    · cases h
  · rename_i fs
    split at h
    · rename_i u s' hu
      exact ⟨_, fs, s', rfl, .inr rfl, by rw [hu, eqA_ok h]⟩
    · cases h
  · cases h
theorem goes_endO (hm : P.follows .mixedOrders = true) (hO : Known P O) {k : Nat} {c : Code} {T : Lit} {fn : Func} {v : Value} (hsz : Nat.ble sz 16000 = true) (h : endsV P fn v (evR P O k none sz c T.fs) = true) : Goes P sz c T w0 (Out P fn sz v w0) := by
  obtain ⟨e, fs, s', h1, h2, h3⟩ := endsV_ok h
  intro F n σ a w hW hro hN
  refine wpIn_mono (run_now hm hO h1 (Nat.le_of_ble_eq_true hsz) hW hro hN) (fun e' a' w' hp => ?_)
  obtain ⟨rfl, σ', hN'⟩ := hp
  exact ⟨h2, σ', fs, s', hN', h3⟩
theorem goes_end (hm : P.follows .mixedOrders = true) {k : Nat} {c : Code} {T : Lit} {fn : Func} {v : Value} (hsz : Nat.ble sz 16000 = true) (h : endsV P fn v (evR P noOrc k none sz c T.fs) = true) : Goes P sz c T w0 (Out P fn sz v w0) :=
  goes_endO hm noKnown hsz h
/-- The whole call, in whatever fence shuts nothing in. -/
theorem callsIn_of_goes {f : FuncId} {fn : Func} {c : Code} {v : Value} (hf : P.funcs[f]? = some fn) (hc : fn.body = some c) (w : World) (h : Goes P fn.ntmps c ⟨[], [], 0, []⟩ w (Out P fn fn.ntmps v w)) {F : Fence} (n : Nat) (hW : Wide F) :
    CallsIn F n P f #[] w fun e w' => e = .returned v ∧ (∀ B, B < w.heap.size → w'.heap[B]? = w.heap[B]?) ∧ w.heap.size ≤ w'.heap.size ∧ w'.os = w.os ∧ w'.tape = w.tape ∧ w'.output = w.output := by
  show CallsIn F.plain n P f #[] w _
  refine callsIn_of_wp_marks hf hc (hW.plain.fn f) ?_
  have st0 : Now fn.ntmps (⟨[], [], 0, []⟩ : Lit).fs w ⟨fun _ => none, fun _ => 0⟩ { tmps := #[] ++ Array.replicate (fn.ntmps - (#[] : Array Value).size) undef, defers := [] } w :=
    ⟨⟨⟨fun b _ => rfl, Nat.le_refl _⟩, ⟨fun b x hx => (by cases hx), fun b c B hb => absurd rfl hb⟩, ⟨by simp, fun t x e => (by cases e)⟩, trivial⟩, fun _ _ => rfl, fun _ _ => rfl, fun b B hb => absurd rfl hb, Nat.le_refl _, rfl, rfl, rfl⟩
  refine wpIn_mono (h F.plain n _ _ w hW.plain rfl st0) (fun e' a' w' hp => ?_)
  obtain ⟨he, σ', fs, s', hN, hl⟩ := hp
  have fin : LeavesInM F.plain n P fn a'.tmps (fun e w' => e = .returned v ∧ (∀ B, B < w.heap.size → w'.heap[B]? = w.heap[B]?) ∧ w.heap.size ≤ w'.heap.size ∧ w'.os = w.os ∧ w'.tape = w.tape ∧ w'.output = w.output) a'.defers .returning w' := by
    refine leaveF_ok hl hN.st (fun r w2 hd hm2 => ?_)
    cases hd
    refine ⟨rfl, fun B hB => ?_, Nat.le_trans hN.size hm2.size, hm2.os.trans hN.os, hm2.tape.trans hN.tape, hm2.output.trans hN.output⟩
    rw [← hN.old B hB]
    refine hm2.frame B (Nat.lt_of_lt_of_le hB hN.size) (fun b _ q e => ?_)
    have := hN.new b B q e
    omega
  rcases he with rfl | rfl
  · exact fin
  · exact fin
/-- The whole call. -/
theorem calls_of_goes {f : FuncId} {fn : Func} {c : Code} {v : Value} (hf : P.funcs[f]? = some fn) (hc : fn.body = some c) (w : World) (h : Goes P fn.ntmps c ⟨[], [], 0, []⟩ w (Out P fn fn.ntmps v w)) :
    Calls P f #[] w fun e w' => e = .returned v ∧ (∀ B, B < w.heap.size → w'.heap[B]? = w.heap[B]?) ∧ w.heap.size ≤ w'.heap.size ∧ w'.os = w.os ∧ w'.tape = w.tape ∧ w'.output = w.output :=
  callsIn_wide.1 (callsIn_of_goes hf hc w h 0 ⟨fun _ => trivial, rfl⟩)

/-! ### Calls that are known beforehand -/
/-- Where all that was there stays, nothing has moved. -/
theorem moved_old {s : HS} {w' : World} (g : Good s) (hs : Sim s.H σ w) (old : ∀ B, B < w.heap.size → w'.heap[B]? = w.heap[B]?) (size : w.heap.size ≤ w'.heap.size) (ho : w'.os = w.os) (ht : w'.tape = w.tape) (hp : w'.output = w.output) : Moved s σ w s σ w' :=
  { le := Nat.le_refl _, mono := Nat.le_refl _, env := fun _ _ => ⟨rfl, rfl⟩,
    sim := ⟨fun b x e => by
      obtain ⟨B, o, h1, h2, h3⟩ := hs.1 b x e
      have hB : B < w.heap.size := by
        obtain ⟨hlt, _⟩ := Array.getElem?_eq_some_iff.1 h2
        exact hlt
      exact ⟨B, o, h1, (old B hB).trans h2, h3⟩, hs.2⟩
    top := g.top, keep := fun _ _ _ => rfl, dom := fun _ _ h => h, frame := fun B hB _ => old B hB, size := size, fresh := fun b B h1 h2 h3 _ => ⟨b, h2, h1, h3⟩, os := ho, tape := ht, output := hp }
/-- A call without arguments gives a value, and changes nothing. -/
def closedOrc (f : FuncId) (v : Value) : Orc := fun g args s => match Nat.beq g f with
  | true => match args with
    | [] => some (.v v, s)
    | _ :: _ => none
  | false => none
theorem known_closed {f : FuncId} {fn : Func} {c : Code} {v : Value} (hf : P.funcs[f]? = some fn) (hc : fn.body = some c) (hn : (fn.name == "runtime.NumGoroutine") = false) (h : ∀ w, Goes P fn.ntmps c ⟨[], [], 0, []⟩ w (Out P fn fn.ntmps v w)) : Known P (closedOrc f v) := by
  have inv : ∀ {g : FuncId} {args : List AV} {s : HS} {u : AV} {s' : HS}, closedOrc f v g args s = some (u, s') → g = f ∧ args = [] ∧ u = .v v ∧ s' = s := by
    intro g args s u s' e
    unfold closedOrc at e
    split at e
    · rename_i hb
      split at e
      · cases e
        exact ⟨Nat.eq_of_beq_eq_true hb, rfl, rfl, rfl⟩
      · cases e
    · cases e
  refine ⟨fun g args s u s' e => ?_, fun g args s u s' e => ?_⟩
  · obtain ⟨rfl, rfl, rfl, rfl⟩ := inv e
    refine ⟨⟨fn, c, hf, hc, hn⟩, Nat.le_refl _, fun F n σ w xs hW gd hs hfr hx => ?_⟩
    cases hx
    refine CallsIn.mono (callsIn_of_goes hf hc w (h w) n hW) (fun e' w' hp => ?_)
    obtain ⟨h1, h2, h3, h4, h5, h6⟩ := hp
    exact ⟨v, σ, h1, rfl, moved_old gd hs h2 h3 h4 h5 h6⟩
  · obtain ⟨rfl, rfl, rfl, rfl⟩ := inv e
    exact Stat.refl _
end
end Go.Proofs.Ytchlehpjpgeejaa.Ev
