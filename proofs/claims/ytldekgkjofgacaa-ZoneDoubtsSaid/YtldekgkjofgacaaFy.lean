import Derived.Test.YtldekgkjofgacaaFx
/- Closed computing in parts, down into calls and loops. -/
namespace Go.Proofs.Ytldekgkjofgacaa.Ev
set_option linter.unusedVariables false
set_option linter.unusedSimpArgs false
open Go
noncomputable section
variable {P : Program} {w0 : BaseW} {sz : Nat}
def isR (e : Exit) : Bool :=
  match e with
  | .ret => true
  | _ => false
theorem isR_ok {e : Exit} (h : isR e = true) : e = .ret := by cases e <;> first | rfl | cases h
/-! ### The parts of a code -/
def blkC (c : Code) : Code :=
  match c with
  | .block _ x => x
  | c => c
def blkI (c : Code) : Nat :=
  match c with
  | .block i _ => i
  | _ => 0
def isBlk (c : Code) : Bool :=
  match c with
  | .block _ _ => true
  | _ => false
def lpC (c : Code) : Code :=
  match c with
  | .loop x => x
  | c => c
def isLp (c : Code) : Bool :=
  match c with
  | .loop _ => true
  | _ => false
def rfG (c : Code) : Operand :=
  match c with
  | .rangeFunc g _ _ _ => g
  | _ => .tmp 0
def rfP (c : Code) : Array Tmp :=
  match c with
  | .rangeFunc _ p _ _ => p
  | _ => #[]
def rfA (c : Code) : Code :=
  match c with
  | .rangeFunc _ _ a _ => a
  | c => c
def rfB (c : Code) : Code :=
  match c with
  | .rangeFunc _ _ _ b => b
  | c => c
def isRf (c : Code) : Bool :=
  match c with
  | .rangeFunc _ _ _ _ => true
  | _ => false
def rgO (c : Code) : List Oper :=
  match c with
  | .region _ ops _ => ops.toList
  | _ => []
def isRg (c : Code) : Bool :=
  match c with
  | .region _ _ d => !d
  | _ => false
theorem rf_eq {c : Code} (h : isRf c = true) : c = .rangeFunc (rfG c) (rfP c) (rfA c) (rfB c) := by cases c <;> first | rfl | cases h
/-! ### Joining -/
theorem goes_seqX {c : Code} {T T' : Lit} {p : Exit → Bool} (hc : isSeq c = true) (hp : ∀ e, p e = true → e ≠ .normal) (h1 : Goes P sz (hdC c) T w0 (Land sz p T' w0)) : Goes P sz c T w0 (Land sz p T' w0) := by
  cases c <;> first
    | (cases hc; done)
    | exact fun F n σ a w hW hro hN => wpIn_seq (wpIn_mono (h1 F n σ a w hW hro hN) (fun e a w hq => by
        cases e with
        | normal => exact absurd rfl (hp _ hq.1)
        | _ => exact hq))
theorem goes_blkN {c : Code} {T T' : Lit} (hc : isBlk c = true) (h1 : Goes P sz (blkC c) T w0 (Land sz isN T' w0)) : Goes P sz c T w0 (Land sz isN T' w0) := by
  cases c <;> first
    | (cases hc; done)
    | exact goes_block (goes_mono h1 (fun e a w hq => by obtain rfl := isN_ok hq.1; exact hq))
theorem goes_blkX {c : Code} {T T' : Lit} (hc : isBlk c = true) (h1 : Goes P sz (blkC c) T w0 (Land sz (isX (blkI c)) T' w0)) : Goes P sz c T w0 (Land sz isN T' w0) := by
  cases c <;> first
    | (cases hc; done)
    | (refine goes_block (goes_mono h1 (fun e a w hq => ?_))
       obtain ⟨h2, h3⟩ := hq
       have := isX_ok h2
       subst this
       simp only [Exit.inBlock, blkI, if_true]
       exact ⟨rfl, h3⟩)
theorem goes_lpE {c : Code} {T T' : Lit} {p : Exit → Bool} (m : Nat) (hc : isLp c = true) (h : Rounds P sz (lpC c) T w0 (Land sz p T' w0) m) : Goes P sz c T w0 (Land sz p T' w0) := by
  cases c <;> first
    | (cases hc; done)
    | exact goes_loop m h
theorem rounds_X {c : Code} {T T' : Lit} {p : Exit → Bool} (hp : ∀ e, p e = true → e ≠ .normal) (h : Goes P sz c T w0 (Land sz p T' w0)) : Rounds P sz c T w0 (Land sz p T' w0) 1 :=
  rounds_end (goes_mono h (fun e a w hq => ⟨hp e hq.1, hq⟩))
theorem isX_ne {id : Nat} : ∀ e, isX id e = true → e ≠ .normal := fun e h q => by subst q; cases h
theorem goes_rg {c : Code} {T : Lit} {Q : Exit → Act → World → Prop} (hc : isRg c = true) (h : GoesL P sz (rgO c) T w0 Q) : Goes P sz c T w0 Q := by
  cases c with
  | region id ops d =>
    cases d with
    | true => cases hc
    | false => exact goes_region h
  | _ => cases hc
theorem back_of {szk : Nat} {c : Code} {T T' : Lit} {p : Exit → Bool} (hp : ∀ e, p e = true → e = .normal ∨ e = .ret) (h : Goes P szk c T w0 (Land szk p T' w0)) : Goes P szk c T w0 (Back szk T' w0) :=
  goes_mono h (fun e a w hq => ⟨hp e hq.1, hq.2⟩)
theorem backQ_of {szk : Nat} {c : Code} {T T' : Lit} {p : Exit → Bool} (hp : ∀ e, p e = true → e = .normal ∨ e = .ret) (h : Goes P szk c T w0 (Land szk p T' w0)) : Goes P szk c T w0 (BackQ szk (fun _ : Unit => T') (fun _ => True) w0) :=
  goes_mono h (fun e a w hq => ⟨hp e hq.1, (), trivial, hq.2⟩)
theorem isR_back : ∀ e, isR e = true → e = .normal ∨ e = .ret := fun e h => .inr (isR_ok h)
theorem isN_back : ∀ e, isN e = true → e = .normal ∨ e = .ret := fun e h => .inl (isN_ok h)
/-! ### Parts in which a loop is on its way -/
def noPend (p : Option Code) : Bool :=
  match p with
  | none => true
  | some _ => false
def isReady (s : LoopState) : Bool :=
  match s with
  | .ready => true
  | _ => false
def landB (e : Exit) (fs : FS) (p : Exit → Bool) (T : Lit1) (st : LoopState) (pend : Option Code) (tm : Tr AV) (szl df : Nat) : Bool :=
  match fs with
  | ⟨tm0, df0, ⟨n, _, H⟩⟩ => andB (andB (p e) (andB (Nat.beq n T.n) (eqNs df0 T.df))) (andB (andB (okTm tm0 T.tms) (okBs H T.bs)) (andB (andB (isReady st) (noPend pend)) (andB (okTm tm T.lt) (andB (Nat.beq szl T.szl) (Nat.beq df T.dfl)))))
def viewP (r : Option (Exit × FS)) (p : Exit → Bool) (T : Lit1) : Option (Bool × Array Tmp × Code × Code) :=
  match r with
  | some (e, fs) => match fs.s.H.get T.lb with
    | some (.loop st pend tm szl params assign body df) => some (landB e fs p T st pend tm szl df, params, assign, body)
    | _ => none
  | none => none
theorem viewP_ok {r : Option (Exit × FS)} {p : Exit → Bool} {T : Lit1} (hst : T.st = .ready) (hpe : T.pend = none) (h : viewP r p T = some (true, T.params, T.assign, T.body)) : ∃ e fs, r = some (e, fs) ∧ p e = true ∧ HoldsW fs T.lit := by
  unfold viewP at h
  split at h
  · rename_i e fs
    split at h
    · rename_i st pend tm szl params assign body df hg
      simp only [Option.some.injEq, Prod.mk.injEq] at h
      obtain ⟨h1, rfl, rfl, rfl⟩ := h
      refine ⟨e, fs, rfl, ?_⟩
      obtain ⟨tm0, df0, n, m, H⟩ := fs
      unfold landB at h1
      simp only at h1
      obtain ⟨a1, a2⟩ := andB_eq h1
      obtain ⟨b1, b2⟩ := andB_eq a1
      obtain ⟨b3, b4⟩ := andB_eq b2
      obtain ⟨c1, c2⟩ := andB_eq a2
      obtain ⟨c3, c4⟩ := andB_eq c1
      obtain ⟨d1, d2⟩ := andB_eq c2
      obtain ⟨d3, d4⟩ := andB_eq d1
      obtain ⟨e1, e2⟩ := andB_eq d2
      obtain ⟨e3, e4⟩ := andB_eq e2
      have s1 : st = .ready := by cases st <;> first | rfl | cases d3
      have s2 : pend = none := by cases pend <;> first | rfl | cases d4
      subst s1 s2
      refine ⟨b1, Nat.eq_of_beq_eq_true b3, eqNs_ok b4, fun t v e => okTm_ok c3 _ (mkT_get e), fun b x e => ?_⟩
      rcases lit1_bs e with ⟨rfl, rfl⟩ | e
      · refine ⟨_, hg, fun σ o k => ?_⟩
        obtain ⟨fn, tmps, D, k1, k2, k3⟩ := k
        rw [hst, hpe, ← Nat.eq_of_beq_eq_true e3, ← Nat.eq_of_beq_eq_true e4]
        exact ⟨fn, tmps, D, ⟨k1.1, fun t v e => k1.2 t v (okTm_ok e1 _ (mkT_get e))⟩, k2, k3⟩
      · exact ⟨x, okBs_ok c4 _ e, fun σ o q => q⟩
    · cases h
  · cases h
theorem goes_partL (hm : P.follows .mixedOrders = true) {k : Nat} {c : Code} {T : Lit} {T' : Lit1} {p : Exit → Bool} (hsz : Nat.ble sz 16000 = true) (hst : T'.st = .ready) (hpe : T'.pend = none)
    (h : viewP (evR P noOrc k w0.rd sz c T.fs) p T' = some (true, T'.params, T'.assign, T'.body)) : Goes P sz c T w0 (Land sz p T'.lit w0) := by
  obtain ⟨e, fs, h1, h2, h3⟩ := viewP_ok hst hpe h
  intro F n σ a w hW hro hN
  refine wpIn_mono (run_now hm noKnown h1 (Nat.le_of_ble_eq_true hsz) hW hro hN) (fun e' a' w' hq => ?_)
  obtain ⟨rfl, σ', hN'⟩ := hq
  exact ⟨h2, σ', hN'.litW h3⟩
theorem holdsW_of {fs : FS} {T : Lit} (h : holds fs T = true) : HoldsW fs T := by
  obtain ⟨h1, h2, h3, h4⟩ := holds_ok h
  exact ⟨h1, h2, h3, fun b x e => ⟨x, h4 b x e, fun σ o q => q⟩⟩
theorem holdsW_loop {fs : FS} {T : Lit1} (hst : T.st = .ready) (hpe : T.pend = none) (h : viewP (some (.normal, fs)) (fun _ => true) T = some (true, T.params, T.assign, T.body)) : HoldsW fs T.lit := by
  obtain ⟨e, fs', h1, h2, h3⟩ := viewP_ok hst hpe h
  cases h1
  exact h3
theorem goesL_part (hm : P.follows .mixedOrders = true) {k : Nat} {l1 l2 : List Oper} {T T1 : Lit} {Q : Exit → Act → World → Prop} (hsz : Nat.ble sz 16000 = true) (hg : noG l1 = true)
    (h : lands (evR P noOrc k w0.rd sz (regC l1) T.fs) isN T1 = true) (h2 : GoesL P sz l2 T1 w0 Q) : GoesL P sz (l1 ++ l2) T w0 Q := by
  obtain ⟨e, fs, h1, h3, h4⟩ := lands_ok h
  exact goesL_pre hm noKnown hsz hg h1 (holdsW_of h4) h2
end
end Go.Proofs.Ytldekgkjofgacaa.Ev
