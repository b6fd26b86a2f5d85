/- Code on known values: what it means that a world does likewise; single operations, calls, straight code. -/
import Derived.Test.YtchlehpjpgeejaaEl
namespace Go.Proofs.Ytchlehpjpgeejaa.Ev
set_option linter.unusedVariables false
set_option linter.unusedSimpArgs false
open Go
noncomputable section
variable {σ : Env} {P : Program} {w : World} {s s' : HS} {F : Fence} {n : Nat}

/-- A fence that shuts nothing in. -/
structure Wide (F : Fence) : Prop where
  fn : ∀ f, F.fn f
  depth : F.depth = none
theorem Wide.room (h : Wide F) (k : Nat) : F.room k := fun d hd => by rw [h.depth] at hd; cases hd
theorem Wide.le (h : Wide F) {p : Prop} : F.depth.isSome = true → p := fun q => by rw [h.depth] at q; cases q
def Free (σ : Env) (a b : Nat) : Prop := ∀ k, a ≤ k → k < b → σ.blk k = none
def RdOK (rd : Option Nat) (F : Fence) (σ : Env) : Prop :=
  match rd with
  | none => F.round = none
  | some b => ∃ B, F.round = some B ∧ σ.blk b = some B
def Df (σ : Env) : List Nat → List Deferred → Prop
  | [], [] => True
  | b :: l, d :: ds => (∃ R, σ.blk b = some R ∧ d = { target := .collected R, args := #[] }) ∧ Df σ l ds
  | _, _ => False
theorem RdOK.le {rd : Option Nat} {τ : Env} (h : RdOK rd F σ) (k : σ.le τ) : RdOK rd F τ := by
  cases rd with
  | none => exact h
  | some b => obtain ⟨B, h1, h2⟩ := h; exact ⟨B, h1, (k b B h2).1⟩
theorem Df.le {τ : Env} (k : σ.le τ) : ∀ {l : List Nat} {ds : List Deferred}, Df σ l ds → Df τ l ds
  | [], [], h => trivial
  | b :: l, d :: ds, h => by
    obtain ⟨⟨R, h1, h2⟩, h3⟩ := h
    exact ⟨⟨R, (k b R h1).1, h2⟩, h3.le k⟩
  | [], _ :: _, h => h.elim
  | _ :: _, [], h => h.elim
theorem Df.append : ∀ {l : List Nat} {ds : List Deferred} {l' : List Nat} {ds' : List Deferred}, Df σ l ds → Df σ l' ds' → Df σ (l ++ l') (ds ++ ds')
  | [], [], l', ds', _, h => h
  | b :: l, d :: ds, l', ds', h, k => ⟨h.1, Df.append h.2 k⟩
  | [], _ :: _, _, _, h, _ => h.elim
  | _ :: _, [], _, _, h, _ => h.elim
/-- The frame is as known. -/
structure St (σ : Env) (sz : Nat) (fs : FS) (a : Act) (w : World) : Prop where
  good : Good fs.s
  sim : Sim fs.s.H σ w
  tm : Tm σ fs.tm sz a.tmps
  df : Df σ fs.df a.defers
/-- What the code makes of frame and world. -/
def Post (σ : Env) (sz : Nat) (fs : FS) (w : World) (e : Exit) (fs' : FS) : Exit → Act → World → Prop :=
  fun e' a' w' => e' = e ∧ ∃ σ', Moved fs.s σ w fs'.s σ' w' ∧ Tm σ' fs'.tm sz a'.tmps ∧ Df σ' fs'.df a'.defers
/-- How a call or a round ends. -/
def Ret (σ : Env) (w : World) (s : HS) (v : AV) (s' : HS) : Ending → World → Prop :=
  fun e w' => ∃ r σ', e = .returned r ∧ den σ' v = some r ∧ Moved s σ w s' σ' w'
/-- What is known beforehand is so. -/
def OrcOK (P : Program) (O : Orc) : Prop := ∀ (f : FuncId) (args : List AV) (s : HS) (v : AV) (s' : HS), O f args s = some (v, s') →
  (∃ fn c, P.funcs[f]? = some fn ∧ fn.body = some c ∧ (fn.name == "runtime.NumGoroutine") = false) ∧ s.n ≤ s'.n ∧
  ∀ (F : Fence) (n : Nat) (σ : Env) (w : World) (xs : List Value), Wide F → Good s → Sim s.H σ w → Free σ s.n s'.n → denL σ args = some xs → CallsIn F n P f xs.toArray w (Ret σ w s v s')
theorem noOrc_ok : OrcOK P noOrc := fun f args s v s' h => by cases h
def CodeOK (P : Program) (rec : Rec) : Prop := ∀ (rd : Option Nat) (sz : Nat) (c : Code) (fs : FS) (e : Exit) (fs' : FS), rec rd sz c fs = some (e, fs') → sz ≤ 16000 →
  fs.s.n ≤ fs'.s.n ∧ ∀ (F : Fence) (n : Nat) (σ : Env) (a : Act) (w : World), Wide F → RdOK rd F σ → St σ sz fs a w → Free σ fs.s.n fs'.s.n → c.wpIn F n P (Post σ sz fs w e fs') a w
structure SoundC (P : Program) (rec : Rec) : Prop where
  code : CodeOK P rec
  orc : OrcOK P rec.orc
theorem Post.st {sz : Nat} {fs fs' : FS} {e e' : Exit} {a' : Act} {w' : World} (g : Good fs.s) (h : Post σ sz fs w e fs' e' a' w') : ∃ σ', e' = e ∧ Moved fs.s σ w fs'.s σ' w' ∧ St σ' sz fs' a' w' := by
  obtain ⟨h1, σ', h2, h3, h4⟩ := h
  exact ⟨σ', h1, h2, ⟨h2.good g, h2.sim, h3, h4⟩⟩
theorem Free.sub {a b c d : Nat} (h : Free σ a b) (h1 : a ≤ c) (h2 : d ≤ b) : Free σ c d := fun k q r => h k (by omega) (by omega)
/-- What was free behind the first part still is. -/
theorem Moved.free {s1 : HS} {τ : Env} {w1 : World} {b : Nat} (h : Moved s σ w s1 τ w1) (k : Free σ s.n b) : Free τ s1.n b := fun j q r => by
  have := h.le
  rw [(h.env j (by omega)).1]
  exact k j (by omega) r

/-! ### Temporaries -/
theorem getD_put_ne {xs : Array Value} {t u : Nat} {r : Value} (e : t ≠ u) : (xs.setIfInBounds t r).getD u undef = xs.getD u undef := by
  rw [Array.getD_eq_getD_getElem?, Array.getD_eq_getD_getElem?, Array.getElem?_setIfInBounds_ne e]
theorem putT_ok {tm tm' : Tr AV} {sz : Nat} {d : Option Nat} {v : AV} {a : Act} {r : Value} (h : putT tm sz d v = some tm') (hsz : sz ≤ 16000) (ht : Tm σ tm sz a.tmps) (hv : den σ v = some r) : Tm σ tm' sz (a.put d r).tmps := by
  unfold putT at h
  cases d with
  | none => cases h; exact ht
  | some t =>
    simp only at h
    split at h
    · rename_i hb
      cases h
      have hlt : t < sz := by
        have : ¬ sz ≤ t := fun q => by rw [Nat.ble_eq_true_of_le q] at hb; cases hb
        omega
      refine ⟨by simpa [Act.put] using ht.1, fun u x hx => ?_⟩
      by_cases e : t = u
      · subst e
        rw [Tr.get_set_same 14 _ _ _ (by omega)] at hx
        cases hx
        refine ⟨r, hv, hlt, ?_⟩
        have : t < a.tmps.size := by rw [ht.1]; exact hlt
        simp [Act.put, Array.getD, this]
      · rw [Tr.get_set_other 14 _ _ _ _ e] at hx
        obtain ⟨y, h1, h2, h3⟩ := ht.2 u x hx
        refine ⟨y, h1, h2, ?_⟩
        rw [← h3]
        exact getD_put_ne e
    · cases h
theorem put_defers (a : Act) (d : Option Nat) (v : Value) : (a.put d v).defers = a.defers := by cases d <;> rfl
theorem wanted_ok {tm : Tr AV} {sz : Nat} {ops : Array Oper} {o : Oper} {a : Act} {b : Bool} (h : wantedA tm ops.toList o = some b) (ht : Tm σ tm sz a.tmps) : Region.wanted o (yielded ops a.tmps) = b := by
  unfold wantedA at h
  unfold Region.wanted
  cases hg : o.guard with
  | none => rw [hg] at h; cases h; rfl
  | some q =>
    obtain ⟨j, want⟩ := q
    rw [hg] at h
    simp only at h ⊢
    have hd : (ops[j]?).bind (·.dst) = dstAt ops.toList j := by
      unfold dstAt
      rw [getL_eq, Array.getElem?_toList]
      cases ops[j]? <;> rfl
    unfold yielded
    rw [hd]
    cases hj : dstAt ops.toList j with
    | none =>
      rw [hj] at h
      cases h
      rfl
    | some t =>
      rw [hj] at h
      simp only at h
      unfold wantOf at h
      split at h
      · rename_i x c hx
        cases h
        obtain ⟨r, h1, h2, h3⟩ := ht.2 t _ hx
        simp only [den, Option.some.injEq] at h1
        subst h1
        have hl : t < a.tmps.size := by rw [ht.1]; exact h2
        have e : a.tmps[t]? = some (.bool c) := by
          rw [Array.getElem?_eq_getElem hl]
          congr 1
          simpa [Array.getD, hl] using h3
        simp only [Option.bind_some, e]
        cases c <;> cases want <;> rfl
      · rename_i x c hx
        cases h
        obtain ⟨r, h1, h2, h3⟩ := ht.2 t _ hx
        simp only [den, Option.some.injEq] at h1
        subst h1
        have hl : t < a.tmps.size := by rw [ht.1]; exact h2
        have e : a.tmps[t]? = some (.tuple c) := by
          rw [Array.getElem?_eq_getElem hl]
          congr 1
          simpa [Array.getD, hl] using h3
        simp only [Option.bind_some, e]
        rfl
      · cases h
end
end Go.Proofs.Ytchlehpjpgeejaa.Ev
