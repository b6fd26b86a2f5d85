/- Closed calls are run by computation: texts Fp Fq Fr in one. -/
import Derived.Test.YtbhjbcldhejpaaaM6
/- Calls whose value names one new block. -/
namespace Go.Proofs.Ytbhjbcldhejpaaa.Ev
set_option linter.unusedVariables false
set_option linter.unusedSimpArgs false
open Go
noncomputable section
variable {P : Program} {O : OrcH} {w0 : BaseW} {sz : Nat}

/-- A block that is new is named; all that was there stays. -/
theorem moved_import {s : HS} {σ : Env} {w w' : World} (g : Good s) (hs : Sim s.H σ w) (hf : σ.blk s.n = none) (kp : Kept w w') {B : Nat} {o : Obj} (hB : w.heap.size ≤ B) (ho : w'.heap[B]? = some o) (x : AB) (c : Nat)
    (hx : Blk (σ.put s.n B c) s.n x o) : Moved s σ w (s.new x) (σ.put s.n B c) w' := by
  have hle : σ.le (σ.put s.n B c) := Env.put_le hf
  have hget : ∀ b, b ≠ s.n → (s.new x).H.get b = s.H.get b := fun b hb => Tr.get_set_other 30 _ _ _ _ (Ne.symm hb)
  have htop := g.top s.n (Nat.le_refl _)
  have hn : ∀ y, (s.new x).H.get s.n = some y → y = x := fun y hy => by
    rcases Tr.get_set_or 30 s.H s.n x with e | e
    · have : (s.new x).H.get s.n = some x := e
      rw [this] at hy; cases hy; rfl
    · have : (s.new x).H.get s.n = s.H.get s.n := e
      rw [this, htop] at hy; cases hy
  have hold : ∀ b, b ≠ s.n → (s.new x).H.get b ≠ none → s.H.get b ≠ none := fun b hb h => by rwa [hget b hb] at h
  have hlt : ∀ b C, b ≠ s.n → (s.new x).H.get b ≠ none → (σ.put s.n B c).blk b = some C → C < w.heap.size := fun b C hb h e =>
    hs.lt (hold b hb h) ((Env.put_ne σ B c hb).1 ▸ e)
  have hat : ∀ C, (σ.put s.n B c).blk s.n = some C → C = B := fun C e => by rw [Env.put_at] at e; cases e; rfl
  refine { le := Nat.le_succ _, mono := Nat.le_refl _, env := ?_, base := rfl, sim := ⟨?_, ?_, ⟨?_, ?_⟩, ?_⟩, top := ?_, keep := ?_, dom := ?_, frame := fun C hC _ => kp.old C hC, size := kp.size, fresh := ?_, os := kp.os, tape := kp.tape, output := kp.output }
  · intro b hb
    refine Env.put_ne σ _ _ (fun e => hb ⟨by omega, ?_⟩)
    show b < s.n + 1
    omega
  · intro b y hy
    by_cases hb : b = s.n
    · subst hb
      rw [hn y hy]
      exact ⟨B, o, Env.put_at _ _ _ _, ho, hx⟩
    · rw [hget b hb] at hy
      obtain ⟨C, o', h1, h2, h3⟩ := hs.1 b y hy
      refine ⟨C, o', (hle b C h1).1, ?_, h3.le hle (by rw [h1]; simp)⟩
      rw [kp.old C (Array.getElem?_eq_some_iff.1 h2).1]
      exact h2
  · intro b d C hb hd eb ed
    by_cases h1 : b = s.n <;> by_cases h2 : d = s.n
    · rw [h1, h2]
    · subst h1
      have := hlt d C h2 hd ed
      rw [hat C eb] at this
      omega
    · subst h2
      have := hlt b C h1 hb eb
      rw [hat C ed] at this
      omega
    · exact hs.2.1 b d C (hold b h1 hb) (hold d h2 hd) ((Env.put_ne σ _ _ h1).1 ▸ eb) ((Env.put_ne σ _ _ h2).1 ▸ ed)
  · exact Nat.le_trans hs.2.2.1.1 kp.size
  · intro C hC
    have hC' : C < σ.base.heap.size := hC
    rw [kp.old C (Nat.lt_of_lt_of_le hC' hs.2.2.1.1)]
    exact hs.2.2.1.2 C hC'
  · intro b C hb e
    by_cases h1 : b = s.n
    · subst h1
      rw [hat C e]
      exact Nat.le_trans hs.2.2.1.1 hB
    · exact hs.2.2.2 b C (hold b h1 hb) ((Env.put_ne σ _ _ h1).1 ▸ e)
  · intro b hb
    have hb' : s.n + 1 ≤ b := hb
    rw [hget b (by omega)]
    exact g.top b (by omega)
  · intro b hb _
    exact hget b (by omega)
  · intro b hb h
    exact hold b (by omega) h
  · intro b C h1 h2 h3 h4
    by_cases hb : b = s.n
    · subst hb
      rw [hat C h3] at h4
      omega
    · exact ⟨b, h2, hold b hb h1, (Env.put_ne σ _ _ hb).1 ▸ h3⟩
/-- Called with arguments as known, the function gives a value that names one new block, which is so. -/
def GivesB (P : Program) (f : FuncId) (args : List AV) (V : Nat → AV) (x : AB) : Prop :=
  fnOK P f ∧ ∀ (F : Fence) (n : Nat) (w : World) (xs : List Value), Wide F → denL (bare w) args = some xs →
    CallsIn F n P f xs.toArray w (fun e w' => Kept w w' ∧ ∃ r B o c, e = .returned r ∧ w.heap.size ≤ B ∧ w'.heap[B]? = some o ∧ ∀ (σ : Env) (N : Nat), Blk (σ.put N B c) N x o ∧ den (σ.put N B c) (V N) = some r)
/-- The same, for arguments of which something is known: a value that names nothing. -/
def GivesA (P : Program) (f : FuncId) (args : List AV) (r : Value) : Prop :=
  fnOK P f ∧ ∀ (F : Fence) (n : Nat) (w : World) (xs : List Value), Wide F → denL (bare w) args = some xs → CallsIn F n P f xs.toArray w (fun e w' => e = .returned r ∧ Kept w w')
theorem Gives.toA {f : FuncId} {xs : List Value} {args : List AV} {r : Value} (h : Gives P f xs r) (ha : plainL args = some xs) : GivesA P f args r :=
  ⟨h.1, fun F n w ys hW hy => by rw [plainL_den ha] at hy; cases hy; exact h.2 F n w hW⟩
theorem GivesA.plain {f : FuncId} {xs : List Value} {args : List AV} {r : Value} (h : GivesA P f args r) (ha : plainL args = some xs) : Gives P f xs r :=
  ⟨h.1, fun F n w hW => h.2 F n w xs hW (plainL_den ha)⟩
theorem givesA_told (hm : P.follows .mixedOrders = true) (hO : Known P (clsO O)) (k : Nat) {f : FuncId} {args : List AV} (hs : List Hint) {v : AV} {ps : List Prop} {r : Value}
    (h : viewC (callH (evH P O k) P f args ⟨0, 0, .leaf⟩ hs) = some (v, ps)) (hp : All ps) (hv : Ev.plain v = some r) : GivesA P f args r := by
  obtain ⟨h1, h2⟩ := calls_told hm hO h hp
  refine ⟨h1, fun F n w xs hW hx => CallsIn.mono (h2 F n w xs hW hx) (fun e w' hr => ?_)⟩
  obtain ⟨r', σ', s', h3, h4, _, h6⟩ := hr
  rw [plain_den hv] at h4
  cases h4
  exact ⟨h3, h6⟩
theorem givesA_parts {f : FuncId} {fn : Func} {args : List AV} {r : Value} (sz : Nat) (hf : P.funcs[f]? = some fn) (hc : hasBody fn = true) (hn : (fn.name == "runtime.NumGoroutine") = false) (hz : args.length + (fn.ntmps - args.length) = sz)
    (h : ∀ w : World, Goes P sz (bodyC fn) (argLit args) w (OutR P fn sz r w)) : GivesA P f args r :=
  ⟨⟨fn, _, hf, body_some hc, hn⟩, fun F n w xs hW hx => callsA_goes hf (body_some hc) w hx (by rw [hz]; exact h w) n hW⟩
/-- The function's end, with a value that names one block of its own. -/
def OutB (P : Program) (fn : Func) (sz : Nat) (V : Nat → AV) (x : AB) (w0 : BaseW) : Exit → Act → World → Prop :=
  fun e a w => (e = .normal ∨ e = .ret) ∧ ∃ σ fs s' b, Now sz fs w0 σ a w ∧ leaveF P fn fs = some (V b, s') ∧ s'.H.get b = some x
/-- A value that names one block at most, and a block that names none, say the same by whatever name. -/
structure OneName (V : Nat → AV) (x : AB) : Prop where
  val : ∀ (σ τ : Env) (b N B : Nat), σ.blk b = some B → ∀ r, den σ (V b) = some r → den (τ.put N B (σ.cap b)) (V N) = some r
  blk : ∀ (σ τ : Env) (b N B : Nat), σ.blk b = some B → ∀ o, Blk σ b x o → Blk (τ.put N B (σ.cap b)) N x o
theorem one_cells {l : List AV} {vs : List Value} {t : TypeId} (h : plainL l = some vs) (σ τ : Env) (b N B : Nat) (o : Obj) (k : Blk σ b (.cells l t) o) : Blk (τ.put N B (σ.cap b)) N (.cells l t) o := by
  obtain ⟨us, h1, h2⟩ := k
  rw [plainL_den h] at h1
  cases h1
  exact ⟨vs, plainL_den h, h2⟩
theorem one_row {l : List AV} {vs : List Value} {t : TypeId} {z : Nat} (h : plainL l = some vs) (σ τ : Env) (b N B : Nat) (o : Obj) (k : Blk σ b (.row l t z) o) : Blk (τ.put N B (σ.cap b)) N (.row l t z) o := by
  obtain ⟨us, rest, h1, h2, h3⟩ := k
  rw [plainL_den h] at h1
  cases h1
  exact ⟨vs, rest, plainL_den h, h2, by rw [Env.put_cap]; exact h3⟩
/-- A slice of so many cells, all its room, and an error. -/
theorem one_slE {l : List AV} {vs : List Value} {t : TypeId} (n : Nat) (e : Int) (h : plainL l = some vs) : OneName (fun b => .tup [.sl b 0 n n, .v (.int .i64 e)]) (.cells l t) := by
  refine ⟨fun σ τ b N B hb r hr => ?_, fun σ τ b N B _ o k => one_cells h σ τ b N B o k⟩
  simp only [den, denL, hb, Option.map_some, Option.some.injEq] at hr
  simp only [den, denL, Env.put_at, Option.map_some, hr]
theorem one_sluE {l : List AV} {vs : List Value} {t : TypeId} {z : Nat} (n : Nat) (e : Int) (h : plainL l = some vs) : OneName (fun b => .tup [.slu b 0 n 0, .v (.int .i64 e)]) (.row l t z) := by
  refine ⟨fun σ τ b N B hb r hr => ?_, fun σ τ b N B _ o k => one_row h σ τ b N B o k⟩
  simp only [den, denL] at hr
  split at hr
  · rename_i x y h1 h2
    simp only [hb, Option.bind_some] at h1
    split at h1
    · rename_i hc
      cases h1
      cases h2
      simp only [Option.map_some, Option.some.injEq] at hr
      simp only [den, denL, Env.put_at, Env.put_cap, Option.bind_some, if_pos hc, Option.map_some, hr]
    · cases h1
  · cases hr
theorem one_sl {l : List AV} {vs : List Value} {t : TypeId} (n : Nat) (h : plainL l = some vs) : OneName (fun b => .sl b 0 n n) (.cells l t) := by
  refine ⟨fun σ τ b N B hb r hr => ?_, fun σ τ b N B _ o k => one_cells h σ τ b N B o k⟩
  simp only [den, hb, Option.map_some, Option.some.injEq] at hr
  simp only [den, Env.put_at, Option.map_some, hr]
theorem one_slu {l : List AV} {vs : List Value} {t : TypeId} {z : Nat} (n : Nat) (h : plainL l = some vs) : OneName (fun b => .slu b 0 n 0) (.row l t z) := by
  refine ⟨fun σ τ b N B hb r hr => ?_, fun σ τ b N B _ o k => one_row h σ τ b N B o k⟩
  simp only [den, hb, Option.bind_some] at hr
  split at hr
  · rename_i hc
    cases hr
    simp only [den, Env.put_at, Env.put_cap, Option.bind_some, if_pos hc]
  · cases hr
theorem givesB_parts {f : FuncId} {fn : Func} {args : List AV} {V : Nat → AV} {x : AB} (sz : Nat) (hf : P.funcs[f]? = some fn) (hc : hasBody fn = true) (hn : (fn.name == "runtime.NumGoroutine") = false) (hz : args.length + (fn.ntmps - args.length) = sz)
    (hV : OneName V x) (h : ∀ w : World, Goes P sz (bodyC fn) (argLit args) w (OutB P fn sz V x w)) : GivesB P f args V x := by
  refine ⟨⟨fn, _, hf, body_some hc, hn⟩, fun F n w xs hW hx => ?_⟩
  show CallsIn F.plain n P f xs.toArray w _
  refine callsIn_of_wp_marks hf (body_some hc) (hW.plain.fn f) ?_
  have hg := h w
  rw [← hz] at hg
  refine wpIn_mono (hg F.plain n _ _ w hW.plain rfl (argLit_now hx)) (fun e' a' w' hp => ?_)
  obtain ⟨he, σ', fs, s', b, hN, hl, hb⟩ := hp
  have fin : LeavesInM F.plain n P fn a'.tmps (fun e w' => Kept w w' ∧ ∃ r B o c, e = .returned r ∧ w.heap.size ≤ B ∧ w'.heap[B]? = some o ∧ ∀ (σ : Env) (N : Nat), Blk (σ.put N B c) N x o ∧ den (σ.put N B c) (V N) = some r) a'.defers .returning w' := by
    refine leaveF_ok hl hN.st (fun r2 w2 hd hm2 => ?_)
    have old : ∀ B, B < w.heap.size → w2.heap[B]? = w.heap[B]? := fun B hB => by
      rw [← hN.old B hB (fun h => h)]
      refine hm2.frame B (Nat.lt_of_lt_of_le hB hN.size) (fun b _ q e => ?_)
      rcases hN.new b B q e with h1 | h1
      · have h2 : w.heap.size ≤ B := h1
        omega
      · exact h1
    refine ⟨⟨old, Nat.le_trans hN.size hm2.size, hm2.os.trans hN.os, hm2.tape.trans hN.tape, hm2.output.trans hN.output⟩, ?_⟩
    obtain ⟨B, o, q1, q2, q3⟩ := hm2.sim.1 b x hb
    have hBn : w.heap.size ≤ B := by
      have := hm2.sim.2.2.2 b B (by rw [hb]; simp) q1
      have hbase := hN.base
      rw [hbase] at this
      exact this
    exact ⟨r2, B, o, σ'.cap b, rfl, hBn, q2, fun τ N => ⟨hV.blk σ' τ b N B q1 o q3, hV.val σ' τ b N B q1 r2 hd⟩⟩
  rcases he with rfl | rfl
  · exact fin
  · exact fin
def viewB (P : Program) (fn : Func) (r : HR (Exit × FS)) (b : Nat) : Option (AV × Option AB × List Prop) :=
  match r with
  | .ok (e, fs) _ ps => match e with
    | .normal => (match leaveF P fn fs with
      | some (v, s) => some (v, s.H.get b, ps)
      | none => none)
    | .ret => (match leaveF P fn fs with
      | some (v, s) => some (v, s.H.get b, ps)
      | none => none)
    | _ => none
  | _ => none
theorem viewB_some {fn : Func} {r : HR (Exit × FS)} {v : AV} {b : Nat} {x : Option AB} {ps : List Prop} (h : viewB P fn r b = some (v, x, ps)) : ∃ e fs hs s', r = .ok (e, fs) hs ps ∧ (e = .normal ∨ e = .ret) ∧ leaveF P fn fs = some (v, s') ∧ s'.H.get b = x := by
  unfold viewB at h
  split at h
  · rename_i e fs hs ps'
    split at h
    · split at h
      · rename_i v' s' hv
        cases h
        exact ⟨_, _, _, _, rfl, .inl rfl, hv, rfl⟩
      · cases h
    · split at h
      · rename_i v' s' hv
        cases h
        exact ⟨_, _, _, _, rfl, .inr rfl, hv, rfl⟩
      · cases h
    · cases h
  · cases h
theorem goes_outB (hm : P.follows .mixedOrders = true) (hO : Known P (clsO O)) (k : Nat) {c : Code} {T : Lit} {fn : Func} (hs : List Hint) {ps : List Prop} {V : Nat → AV} {x : AB} (b : Nat) (hsz : Nat.ble sz 16000 = true)
    (h : viewB P fn (evH P O k w0.rd sz c T.fs hs) b = some (V b, some x, ps)) (hp : All ps) : Goes P sz c T w0 (OutB P fn sz V x w0) := by
  obtain ⟨e, fs, hs', s', h1, h2, h3, h4⟩ := viewB_some h
  have hc := evH_ok P O k _ _ _ _ _ _ _ _ h1 hp
  rw [← evR_eq] at hc
  intro F n σ a w hW hro hN
  refine wpIn_mono (run_now hm hO hc (Nat.le_of_ble_eq_true hsz) hW hro hN) (fun e' a' w' hq => ?_)
  obtain ⟨rfl, σ', hN'⟩ := hq
  exact ⟨h2, σ', fs, s', b, hN', h3, h4⟩
end
end Go.Proofs.Ytbhjbcldhejpaaa.Ev

/- What is known of functions of values and lists: how a caller uses it. -/
namespace Go.Proofs.Ytbhjbcldhejpaaa.Ev
set_option linter.unusedVariables false
set_option linter.unusedSimpArgs false
open Go
noncomputable section
variable {P : Program} {O : OrcH}

/-- An argument, as a caller sees it: a value, or the cells of a slice of n elements. -/
inductive Vw where
  | val (x : Value)
  | lst (n k : Nat) (c : List AV)
/-- (k: how many cells an element has; 0: no slice.) -/
def vwOf (s : HS) (k : Nat) (a : AV) : Option (Vw × List Prop) :=
  match k with
  | 0 => match plain a with
    | some x => some (.val x, [])
    | none => none
  | k + 1 => match a with
    | .xl _ n k' c => match Nat.beq k' (k + 1) with
      | true => some (.lst n (k + 1) c, [])
      | false => none
    | .sl b o n cp => match s.cells b with
      | some l => some (.lst n (k + 1) ((l.drop o).take (n * (k + 1))), [o + n * (k + 1) ≤ l.length, n ≤ cp])
      | none => none
    | .slu b o n _ => match s.cells b with
      | some l => some (.lst n (k + 1) ((l.drop o).take (n * (k + 1))), [o + n * (k + 1) ≤ l.length])
      | none => none
    | .v y => match y with
      | .slice o n c => match o with
        | none => match n with
          | 0 => some (.lst 0 (k + 1) [], [])
          | _ + 1 => none
        | some _ => none
      | _ => none
    | _ => none
def vwsOf (s : HS) : List Nat → List AV → Option (List Vw × List Prop)
  | [], [] => some ([], [])
  | k :: ks, a :: l => match vwOf s k a with
    | some (v, ps) => match vwsOf s ks l with
      | some (vs, qs) => some (v :: vs, apL ps qs)
      | none => none
    | none => none
  | _, _ => none
/-- Arguments that are so, with these slices. -/
def mkArgs : List Vw → List Value → List AV
  | .val x :: l, _ :: ys => .v x :: mkArgs l ys
  | .lst n k c :: l, y :: ys => .xl y n k c :: mkArgs l ys
  | _, _ => []
def plainVs : List Vw → Prop
  | [] => True
  | .val _ :: l => plainVs l
  | .lst _ _ c :: l => (∃ cs, plainL c = some cs) ∧ plainVs l
variable {σ : Env} {w : World} {s : HS}
theorem vwOf_den (hs : Sim s.H σ w) {k : Nat} {a : AV} {v : Vw} {ps : List Prop} {x : Value} (h : vwOf s k a = some (v, ps)) (hp : All ps) (hx : den σ a = some x) :
    (v = .val x) ∨ (∃ n k' c, v = .lst n k' c ∧ ∀ cs, plainL c = some cs → XOk w x n k' cs) := by
  have key : ∀ {b o n q : Nat} {B : Nat} {l : List AV}, σ.blk b = some B → s.cells b = some l → o + n * q ≤ l.length → ∀ cap, n ≤ cap → ∀ cs, plainL ((l.drop o).take (n * q)) = some cs → XOk w (.slice (some ⟨B, o, none⟩) n cap) n q cs := by
    intro b o n q B l hB hc hle cap hcap cs hcs
    obtain ⟨B', vs, rest, t, h1, h2, h3⟩ := cells_real hs hc
    rw [hB] at h1
    cases h1
    have hl := denL_len h2
    have e1 := denL_take (n * q) (denL_drop o h2)
    rw [plainL_den hcs] at e1
    cases e1
    have hlen : ((vs.drop o).take (n * q)).length = n * q := by simp; omega
    refine ⟨some ⟨B, o, none⟩, cap, rfl, hcap, hlen, fun _ => ⟨B, o, rfl, fun i hi => ?_⟩⟩
    rw [hlen] at hi
    have : w.cell? ⟨B, o + i, none⟩ = (vs ++ rest)[o + i]? := by simp [World.cell?, h3]
    rw [this, List.getElem?_append_left (by omega), List.getElem?_take_of_lt hi, List.getElem?_drop]
  unfold vwOf at h
  split at h
  · split at h
    · rename_i y hy
      cases h
      rw [plain_den hy] at hx
      cases hx
      exact .inl rfl
    · cases h
  · rename_i k
    split at h
    · rename_i y n k' c
      split at h
      · rename_i hb
        cases h
        have hb' := Nat.eq_of_beq_eq_true hb
        subst hb'
        obtain ⟨cs, h1, hok, rfl⟩ := den_xl hx
        refine .inr ⟨n, _, c, rfl, fun cs' h2 => ?_⟩
        rw [plainL_den h2] at h1
        cases h1
        obtain ⟨ba, cap, q1, q2, q3, q4⟩ := hok
        refine ⟨ba, cap, q1, q2, q3, fun h0 => ?_⟩
        obtain ⟨g, off, e1, e2⟩ := q4 h0
        refine ⟨g, off, e1, fun i hi => ?_⟩
        have := e2 i hi
        rw [List.getElem?_eq_getElem hi] at this ⊢
        exact hs.cell this
      · cases h
    · rename_i b o n cp
      split at h
      · rename_i l hl
        cases h
        simp only [den, Option.map_eq_some_iff] at hx
        obtain ⟨B, hB, rfl⟩ := hx
        exact .inr ⟨n, _, _, rfl, fun cs hcs => key hB hl hp.1 cp hp.2.1 cs hcs⟩
      · cases h
    · rename_i b o n d
      split at h
      · rename_i l hl
        cases h
        obtain ⟨B, hB, rfl, hcap⟩ := den_slu hx
        exact .inr ⟨n, _, _, rfl, fun cs hcs => key hB hl hp.1 _ hcap cs hcs⟩
      · cases h
    · split at h
      · split at h
        · split at h
          · cases h
            simp only [den, Option.some.injEq] at hx
            subst hx
            refine .inr ⟨0, _, [], rfl, fun cs hcs => ?_⟩
            cases hcs
            exact ⟨none, _, rfl, Nat.zero_le _, by simp, fun h0 => absurd h0 (by simp)⟩
          · cases h
        · cases h
      · cases h
    · cases h
theorem vwsOf_den (hs : Sim s.H σ w) : ∀ {ks : List Nat} {l : List AV} {vs : List Vw} {ps : List Prop} {xs : List Value}, vwsOf s ks l = some (vs, ps) → All ps → denL σ l = some xs → plainVs vs → denL (bare w) (mkArgs vs xs) = some xs
  | [], [], vs, ps, xs, h, hp, hx, hv => by
    simp only [vwsOf] at h
    cases h
    cases hx
    rfl
  | [], _ :: _, vs, ps, xs, h, hp, hx, hv => by simp [vwsOf] at h
  | _ :: _, [], vs, ps, xs, h, hp, hx, hv => by simp [vwsOf] at h
  | k :: ks, a :: l, vs, ps, xs, h, hp, hx, hv => by
    simp only [vwsOf] at h
    split at h
    · rename_i v p1 h1
      split at h
      · rename_i vs' p2 h2
        cases h
        rw [apL_eq] at hp
        obtain ⟨a1, a2⟩ := all_append hp
        simp only [denL] at hx
        cases e1 : den σ a with
        | none => rw [e1] at hx; cases hx
        | some x => cases e2 : denL σ l with
          | none => rw [e1, e2] at hx; cases hx
          | some z =>
            rw [e1, e2] at hx
            cases hx
            rcases vwOf_den hs h1 a1 e1 with rfl | ⟨n, k', c, rfl, hok⟩
            · simp only [mkArgs, denL, den, vwsOf_den hs h2 a2 e2 hv]
            · obtain ⟨⟨cs, hcs⟩, hv'⟩ := hv
              have e3 := den_xl_mk (σ := bare w) (y := x) (plainL_den hcs) (hok cs hcs)
              simp only [mkArgs, denL, e3, vwsOf_den hs h2 a2 e2 hv']
      · cases h
    · cases h
theorem vwsOf_len : ∀ {ks : List Nat} {l : List AV} {vs : List Vw} {ps : List Prop}, vwsOf s ks l = some (vs, ps) → vs.length = l.length
  | [], [], vs, ps, h => by simp only [vwsOf] at h; cases h; rfl
  | [], _ :: _, vs, ps, h => by simp [vwsOf] at h
  | _ :: _, [], vs, ps, h => by simp [vwsOf] at h
  | k :: ks, a :: l, vs, ps, h => by
    simp only [vwsOf] at h
    split at h
    · split at h
      · rename_i vs' p2 h2
        cases h
        simp only [List.length_cons, vwsOf_len h2]
      · cases h
    · cases h
/-- What a known call gives: a value, or a value that names one new block. -/
inductive Res1 where
  | val (v : AV)
  | blk (V : Nat → AV) (x : AB)
def avOrc (f : FuncId) (ks : List Nat) (S : List Vw → Option (Res1 × List Prop)) : OrcH := fun g args s =>
  match Nat.beq g f with
  | true => match vwsOf s ks args with
    | some (vs, qs) => match S vs with
      | some (r, ps) => match r with
        | .val v => some ((v, s), apL qs ps)
        | .blk V x => match Nat.ble s.n 1000000 with
          | true => some ((V s.n, s.new x), apL qs ps)
          | false => none
      | none => none
    | none => none
  | false => none
/-- For whatever slices that are so. -/
def GivesR (P : Program) (f : FuncId) (vs : List Vw) (r : Res1) : Prop :=
  ∀ ys, ys.length = vs.length → match r with
    | .val v => ∃ x, plain v = some x ∧ GivesA P f (mkArgs vs ys) x
    | .blk V x => GivesB P f (mkArgs vs ys) V x
theorem known_av {f : FuncId} {ks : List Nat} {S : List Vw → Option (Res1 × List Prop)} (h : ∀ vs r ps, S vs = some (r, ps) → All ps → plainVs vs ∧ GivesR P f vs r) : Known P (clsO (avOrc f ks S)) := by
  have inv : ∀ {g : FuncId} {args : List AV} {s : HS} {u : AV} {s' : HS}, clsO (avOrc f ks S) g args s = some (u, s') →
      g = f ∧ ∃ vs qs r ps, vwsOf s ks args = some (vs, qs) ∧ All qs ∧ S vs = some (r, ps) ∧ All ps ∧ ((∃ v, r = .val v ∧ u = v ∧ s' = s) ∨ (∃ V x, r = .blk V x ∧ u = V s.n ∧ s' = s.new x)) := by
    intro g args s u s' e
    unfold clsO at e
    split at e
    · rename_i r ps ho
      split at e
      · rename_i hall
        cases e
        unfold avOrc at ho
        split at ho
        · rename_i hb
          split at ho
          · rename_i vs qs hv
            split at ho
            · rename_i r' ps' hS
              cases r' with
              | val v =>
                simp only at ho
                cases ho
                rw [apL_eq] at hall
                obtain ⟨a1, a2⟩ := all_append hall
                exact ⟨Nat.eq_of_beq_eq_true hb, vs, qs, _, _, hv, a1, hS, a2, .inl ⟨_, rfl, rfl, rfl⟩⟩
              | blk V x =>
                simp only at ho
                split at ho
                · cases ho
                  rw [apL_eq] at hall
                  obtain ⟨a1, a2⟩ := all_append hall
                  exact ⟨Nat.eq_of_beq_eq_true hb, vs, qs, _, _, hv, a1, hS, a2, .inr ⟨V, x, rfl, rfl, rfl⟩⟩
                · cases ho
            · cases ho
          · cases ho
        · cases ho
      · cases e
    · cases e
  refine ⟨fun g args s u s' e => ?_, fun g args s u s' e => ?_⟩
  · obtain ⟨rfl, vs, qs, r, ps, hv, hq, hS, hps, hr⟩ := inv e
    obtain ⟨hpl, hg⟩ := h vs r ps hS hps
    rcases hr with ⟨v, rfl, rfl, rfl⟩ | ⟨V, x, rfl, rfl, rfl⟩
    · obtain ⟨y, hy, hA⟩ := hg (List.replicate vs.length undef) (by simp)
      refine ⟨hA.1, Nat.le_refl _, fun F n σ w xs hW gd hs hfr hx => ?_⟩
      obtain ⟨y2, hy2, hA2⟩ := hg xs (by rw [vwsOf_len hv, denL_len hx])
      rw [hy] at hy2
      cases hy2
      refine CallsIn.mono (hA2.2 F n w xs hW (vwsOf_den hs hv hq hx hpl)) (fun e' w' hp => ?_)
      obtain ⟨q1, q2⟩ := hp
      exact ⟨y, σ, q1, plain_den hy, moved_old gd hs q2.old q2.size q2.os q2.tape q2.output⟩
    · refine ⟨(hg (List.replicate vs.length undef) (by simp)).1, Nat.le_succ _, fun F n σ w xs hW gd hs hfr hx => ?_⟩
      refine CallsIn.mono ((hg xs (by rw [vwsOf_len hv, denL_len hx])).2 F n w xs hW (vwsOf_den hs hv hq hx hpl)) (fun e' w' hp => ?_)
      obtain ⟨kp, r, B, o, c, h1, h2, h3, h4⟩ := hp
      obtain ⟨h5, h6⟩ := h4 σ s.n
      exact ⟨r, _, h1, h6, moved_import gd hs (hfr s.n (Nat.le_refl _) (Nat.lt_succ_self _)) kp h2 h3 x c h5⟩
  · obtain ⟨rfl, vs, qs, r, ps, hv, hq, hS, hps, hr⟩ := inv e
    rcases hr with ⟨v, rfl, rfl, rfl⟩ | ⟨V, x, rfl, rfl, rfl⟩
    · exact Stat.refl _
    · exact stat_new _ _
end
end Go.Proofs.Ytbhjbcldhejpaaa.Ev

/- Names that are needed no more are free again. -/
namespace Go.Proofs.Ytbhjbcldhejpaaa.Ev
set_option linter.unusedVariables false
set_option linter.unusedSimpArgs false
open Go
noncomputable section
variable {P : Program} {O : OrcH} {w0 : BaseW} {sz : Nat}

def Env.cut (σ : Env) (K : Nat) : Env := ⟨fun b => if b < K then σ.blk b else none, σ.cap, σ.base⟩
/-- It names nothing from K on. -/
def NB (K : Nat) (v : AV) : Prop := ∀ σ x, den σ v = some x → den (σ.cut K) v = some x
def NBB (K : Nat) (x : AB) : Prop := ∀ σ b o, Blk σ b x o → Blk (σ.cut K) b x o
theorem nb_v {K : Nat} (x : Value) : NB K (.v x) := fun σ y h => h
theorem nb_plain {K : Nat} {v : AV} {x : Value} (h : plain v = some x) : NB K v := fun σ y e => by
  rw [plain_den h] at e
  cases e
  exact plain_den h
theorem nb_ptr {K b o : Nat} (h : b < K) : NB K (.ptr b o) := fun σ x e => by
  simp only [den, Env.cut, if_pos h] at e ⊢
  exact e
theorem nb_sl {K b o n c : Nat} (h : b < K) : NB K (.sl b o n c) := fun σ x e => by
  simp only [den, Env.cut, if_pos h] at e ⊢
  exact e
theorem nb_slu {K b o n d : Nat} (h : b < K) : NB K (.slu b o n d) := fun σ x e => by
  simp only [den, Env.cut, if_pos h] at e ⊢
  exact e
theorem nb_xl {K : Nat} {y : Value} {n k : Nat} {c : List AV} {cs : List Value} (h : plainL c = some cs) : NB K (.xl y n k c) := fun σ x e => by
  obtain ⟨cs', h1, h2, rfl⟩ := den_xl e
  rw [plainL_den h] at h1
  cases h1
  exact den_xl_mk (plainL_den h) h2
theorem nb_aggL {K : Nat} : ∀ {l : List AV}, (∀ v ∈ l, NB K v) → ∀ σ xs, denL σ l = some xs → denL (σ.cut K) l = some xs
  | [], h, σ, xs, e => e
  | a :: l, h, σ, xs, e => by
    simp only [denL] at e ⊢
    cases e1 : den σ a with
    | none => rw [e1] at e; cases e
    | some x => cases e2 : denL σ l with
      | none => rw [e1, e2] at e; cases e
      | some z =>
        rw [e1, e2] at e
        cases e
        rw [h a (by simp) σ x e1, nb_aggL (fun v hv => h v (by simp [hv])) σ z e2]
theorem nb_agg {K : Nat} {l : List AV} (h : ∀ v ∈ l, NB K v) : NB K (.agg l) := fun σ x e => by
  simp only [den, Option.map_eq_some_iff] at e ⊢
  obtain ⟨vs, e1, e2⟩ := e
  exact ⟨vs, nb_aggL h σ vs e1, e2⟩
theorem nbb_cells {K : Nat} {l : List AV} {t : TypeId} (h : ∀ v ∈ l, NB K v) : NBB K (.cells l t) := fun σ b o k => by
  obtain ⟨vs, h1, h2⟩ := k
  exact ⟨vs, nb_aggL h σ vs h1, h2⟩
theorem nbb_row {K : Nat} {l : List AV} {t : TypeId} {z : Nat} (h : ∀ v ∈ l, NB K v) : NBB K (.row l t z) := fun σ b o k => by
  obtain ⟨vs, rest, h1, h2, h3⟩ := k
  exact ⟨vs, rest, nb_aggL h σ vs h1, h2, h3⟩
theorem nb_of_plainL {K : Nat} : ∀ {l : List AV} {cs : List Value}, plainL l = some cs → ∀ v ∈ l, NB K v
  | [], cs, h, v, hv => by cases hv
  | a :: l, cs, h, v, hv => by
    simp only [plainL] at h
    cases e1 : plain a with
    | none => rw [e1] at h; cases h
    | some x => cases e2 : plainL l with
      | none => rw [e1, e2] at h; cases h
      | some z =>
        rcases List.mem_cons.1 hv with rfl | hv
        · exact nb_plain e1
        · exact nb_of_plainL e2 v hv
theorem nbb_plain {K : Nat} {l : List AV} {t : TypeId} {cs : List Value} (h : plainL l = some cs) : NBB K (.cells l t) := nbb_cells (nb_of_plainL h)
theorem nbb_rowP {K : Nat} {l : List AV} {t : TypeId} {z : Nat} {cs : List Value} (h : plainL l = some cs) : NBB K (.row l t z) := nbb_row (nb_of_plainL h)
/-- Nothing that is written there names a block from its n on. -/
structure CutOK (T : Lit) : Prop where
  tm : All (T.tms.map fun q => NB T.n q.2)
  bs : All (T.bs.map fun q => q.1 < T.n ∧ NBB T.n q.2)
  df : T.df = []
theorem all_mem {α : Type} {f : α → Prop} : ∀ {l : List α}, All (l.map f) → ∀ q ∈ l, f q
  | [], h, q, hq => by cases hq
  | x :: l, h, q, hq => by
    rcases List.mem_cons.1 hq with rfl | hq
    · exact h.1
    · exact all_mem h.2 q hq
theorem Now.cutP {fs : FS} {T : Lit} {σ : Env} {a : Act} {w : World} (h : Now sz fs w0 σ a w) (hn : T.n ≤ fs.s.n) (hdf : fs.df = T.df) (htm : ∀ t v, T.fs.tm.get t = some v → fs.tm.get t = some v) (hbs : ∀ b x, T.fs.s.H.get b = some x → fs.s.H.get b = some x) (hc : CutOK T) (hk : w0.k ≤ T.n) :
    Now sz T.fs w0 (σ.cut T.n) a w := by
  have sub : ∀ b, T.fs.s.H.get b ≠ none → fs.s.H.get b ≠ none := fun b q => by
    cases hx : T.fs.s.H.get b with
    | none => exact absurd hx q
    | some x => rw [hbs b x hx]; simp
  have low : ∀ b, T.fs.s.H.get b ≠ none → b < T.n := fun b q => by
    cases hx : T.fs.s.H.get b with
    | none => exact absurd hx q
    | some x => exact (all_mem hc.bs _ (mkT_get hx)).1
  have blk : ∀ b B, (σ.cut T.n).blk b = some B → σ.blk b = some B ∧ b < T.n := fun b B e => by
    simp only [Env.cut] at e
    split at e
    · exact ⟨e, ‹_›⟩
    · cases e
  refine ⟨⟨⟨fun b hb => ?_, Nat.le_refl _⟩, ⟨fun b x e => ?_, fun b c B q1 q2 e1 e2 => h.st.sim.2.1 b c B (sub b q1) (sub c q2) (blk b B e1).1 (blk c B e2).1, h.st.sim.2.2.1, fun b B q1 q2 => h.st.sim.2.2.2 b B (sub b q1) (blk b B q2).1⟩, ⟨h.st.tm.1, fun t v e => ?_⟩, ?_⟩, h.base, fun b hb => ?_, h.old, fun b B q e => h.new b B (sub b q) (blk b B e).1, h.size, h.os, h.tape, h.output, hk, fun b hb => ?_, h.hdn, fun R hR => ⟨(h.hdo R hR).1, fun b q e => (h.hdo R hR).2.1 b (sub b q) (blk b R e).1, (h.hdo R hR).2.2⟩⟩
  · cases hx : T.fs.s.H.get b with
    | none => rfl
    | some x =>
      have := low b (by rw [hx]; simp)
      have hb' : T.n ≤ b := hb
      omega
  · obtain ⟨B, o, e1, e2, e3⟩ := h.st.sim.1 b x (hbs b x e)
    obtain ⟨l1, l2⟩ := all_mem hc.bs _ (mkT_get e)
    refine ⟨B, o, ?_, e2, l2 σ b o e3⟩
    have l1' : b < T.n := l1
    simp only [Env.cut, if_pos l1']
    exact e1
  · obtain ⟨x, e1, e2, e3⟩ := h.st.tm.2 t v (htm t v e)
    exact ⟨x, all_mem hc.tm _ (mkT_get e) σ x e1, e2, e3⟩
  · have hd := h.st.df
    rw [hdf, hc.df] at hd
    show Df _ _ T.df a.defers
    rw [hc.df]
    exact hd
  · have hb' : T.n ≤ b := hb
    simp only [Env.cut, if_neg (show ¬ b < T.n by omega)]
  · simp only [Env.cut, if_pos (show b < T.n by omega)]
    exact h.env b hb
/-- A part, told; names from T'.n on are free again behind it. -/
theorem goes_cut (hm : P.follows .mixedOrders = true) (hO : Known P (clsO O)) (k : Nat) {c : Code} {T T' : Lit} {p : Exit → Bool} {e : Exit} (hs : List Hint) {ps : List Prop} {m : Nat} (hsz : Nat.ble sz 16000 = true)
    (h : viewR (evH P O k w0.rd sz c T.fs hs) (T'.tms.map (·.1)) (T'.bs.map (·.1)) = some (e, m, T'.df, T'.tms.map (fun q => some q.2), T'.bs.map (fun q => some q.2), ps)) (hp : All ps) (he : p e = true) (hn : T'.n ≤ m) (hc : CutOK T') (hk : w0.k ≤ T'.n := by exact Nat.zero_le _) : Goes P sz c T w0 (Land sz p T' w0) := by
  obtain ⟨fs, hs', h1, h2, h3, h4, h5⟩ := viewR_some h
  have hev := evH_ok P O k _ _ _ _ _ _ _ _ h1 hp
  rw [← evR_eq] at hev
  intro F n σ a w hW hro hN
  refine wpIn_mono (run_now hm hO hev (Nat.le_of_ble_eq_true hsz) hW hro hN) (fun e' a' w' hq => ?_)
  obtain ⟨rfl, σ', hN'⟩ := hq
  exact ⟨he, _, hN'.cutP (by rw [h2]; exact hn) h3 (fun t v e => map_some (β := AV) h4 _ (mkT_get e)) (fun b x e => map_some (β := AB) h5 _ (mkT_get e)) hc hk⟩
end
end Go.Proofs.Ytbhjbcldhejpaaa.Ev
