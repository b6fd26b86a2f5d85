/- Results with one new block which name what lies in the world too. -/
import Derived.Test.YtldekgkjofgacaaFt
namespace Go.Proofs.Ytldekgkjofgacaa.Ev
set_option linter.unusedVariables false
set_option linter.unusedSimpArgs false
open Go
noncomputable section
variable {P : Program} {O : OrcH} {w0 : BaseW} {sz : Nat}
/-- As GivesB; the value may name what the arguments name. -/
def GivesBX (P : Program) (f : FuncId) (args : List AV) (V : Nat → AV) (x : AB) : Prop :=
  fnOK P f ∧ ∀ (F : Fence) (n : Nat) (w : World) (xs : List Value), Wide F → denL (bare w) args = some xs →
    CallsIn F n P f xs.toArray w (fun e w' => Kept w w' ∧ ∃ r B o c, e = .returned r ∧ w.heap.size ≤ B ∧ w'.heap[B]? = some o ∧ ∀ (τ : Env) (N : Nat), τ.blk N = none → denL τ args = some xs → Blk (τ.put N B c) N x o ∧ den (τ.put N B c) (V N) = some r)
structure OneX (args : List AV) (V : Nat → AV) (x : AB) : Prop where
  val : ∀ (σ τ : Env) (b N B : Nat) (xs : List Value), σ.blk b = some B → τ.blk N = none → denL τ args = some xs → ∀ r, den σ (V b) = some r → den (τ.put N B (σ.cap b)) (V N) = some r
  blk : ∀ (σ τ : Env) (b N B : Nat), σ.blk b = some B → ∀ o, Blk σ b x o → Blk (τ.put N B (σ.cap b)) N x o
theorem givesBX_parts {f : FuncId} {fn : Func} {args : List AV} {V : Nat → AV} {x : AB} (sz : Nat) (hf : P.funcs[f]? = some fn) (hc : hasBody fn = true) (hn : (fn.name == "runtime.NumGoroutine") = false) (hz : args.length + (fn.ntmps - args.length) = sz)
    (hV : OneX args V x) (h : ∀ w : World, Goes P sz (bodyC fn) (argLit args) w (OutB P fn sz V x w)) : GivesBX P f args V x := by
  refine ⟨⟨fn, _, hf, body_some hc, hn⟩, fun F n w xs hW hx => ?_⟩
  show CallsIn F.plain n P f xs.toArray w _
  refine callsIn_of_wp_marks hf (body_some hc) (hW.plain.fn f) ?_
  have hg := h w
  rw [← hz] at hg
  refine wpIn_mono (hg F.plain n _ _ w hW.plain rfl (argLit_now hx)) (fun e' a' w' hp => ?_)
  obtain ⟨he, σ', fs, s', b, hN, hl, hb⟩ := hp
  have fin : LeavesInM F.plain n P fn a'.tmps (fun e w' => Kept w w' ∧ ∃ r B o c, e = .returned r ∧ w.heap.size ≤ B ∧ w'.heap[B]? = some o ∧ ∀ (τ : Env) (N : Nat), τ.blk N = none → denL τ args = some xs → Blk (τ.put N B c) N x o ∧ den (τ.put N B c) (V N) = some r) a'.defers .returning w' := by
    refine leaveF_ok hl hN.st (fun r2 w2 hd hm2 => ?_)
    have old : ∀ B, B < w.heap.size → w2.heap[B]? = w.heap[B]? := fun B hB => by
      rw [← hN.old B hB (fun h => h)]
      refine hm2.frame B (Nat.lt_of_lt_of_le hB hN.size) (fun b _ q e => ?_)
      rcases hN.new b B q e with h1 | h1
      · have h2 : w.heap.size ≤ B := h1
        omega
      · exact h1
    refine ⟨⟨old, Nat.le_trans hN.size hm2.size, hm2.os.trans hN.os, hm2.tape.trans hN.tape, hm2.output.trans hN.output⟩, ?_⟩
    obtain ⟨B, o, q1, q2, q3⟩ := hm2.sim.1 b x hb
    have hBn : w.heap.size ≤ B := by
      have := hm2.sim.2.2.2 b B (by rw [hb]; simp) q1
      have hbase := hN.base
      rw [hbase] at this
      exact this
    exact ⟨r2, B, o, σ'.cap b, rfl, hBn, q2, fun τ N hfr hτ => ⟨hV.blk σ' τ b N B q1 o q3, hV.val σ' τ b N B xs q1 hfr hτ r2 hd⟩⟩
  rcases he with rfl | rfl
  · exact fin
  · exact fin
def GivesX2 (P : Program) (f : FuncId) (args : List AV) (r : Res1) : Prop :=
  match r with
  | .val v => ∃ x, plain v = some x ∧ GivesA P f args x
  | .blk V x => GivesBX P f args V x
theorem known_ext2 {f : FuncId} {S : List AV → Option (Res1 × List Prop)} (h : ∀ args r ps, S args = some (r, ps) → All ps → ExtL args ∧ GivesX2 P f args r) : Known P (clsO (extOrc f S)) := by
  have inv : ∀ {g : FuncId} {args : List AV} {s : HS} {u : AV} {s' : HS}, clsO (extOrc f S) g args s = some (u, s') →
      g = f ∧ ∃ r ps, S args = some (r, ps) ∧ All ps ∧ ((∃ v, r = .val v ∧ u = v ∧ s' = s) ∨ (∃ V x, r = .blk V x ∧ u = V s.n ∧ s' = s.new x)) := by
    intro g args s u s' e
    unfold clsO at e
    split at e
    · rename_i r ps ho
      split at e
      · rename_i hall
        cases e
        unfold extOrc at ho
        split at ho
        · rename_i hb
          split at ho
          · rename_i r' ps' hS
            cases r' with
            | val v =>
              simp only at ho
              cases ho
              exact ⟨Nat.eq_of_beq_eq_true hb, _, _, hS, hall, .inl ⟨_, rfl, rfl, rfl⟩⟩
            | blk V x =>
              simp only at ho
              split at ho
              · cases ho
                exact ⟨Nat.eq_of_beq_eq_true hb, _, _, hS, hall, .inr ⟨V, x, rfl, rfl, rfl⟩⟩
              · cases ho
          · cases ho
        · cases ho
      · cases e
    · cases e
  refine ⟨fun g args s u s' e => ?_, fun g args s u s' e => ?_⟩
  · obtain ⟨rfl, r, ps, hS, hps, hr⟩ := inv e
    obtain ⟨hpl, hg⟩ := h args r ps hS hps
    rcases hr with ⟨v, rfl, rfl, rfl⟩ | ⟨V, x, rfl, rfl, rfl⟩
    · obtain ⟨y, hy, hA⟩ := hg
      refine ⟨hA.1, Nat.le_refl _, fun F n σ w xs hW gd hs hfr hx => ?_⟩
      refine CallsIn.mono (hA.2 F n w xs hW (hpl _ _ _ _ hs hx)) (fun e' w' hp => ?_)
      obtain ⟨q1, q2⟩ := hp
      exact ⟨y, σ, q1, plain_den hy, moved_old gd hs q2.old q2.size q2.os q2.tape q2.output⟩
    · refine ⟨hg.1, Nat.le_succ _, fun F n σ w xs hW gd hs hfr hx => ?_⟩
      refine CallsIn.mono (hg.2 F n w xs hW (hpl _ _ _ _ hs hx)) (fun e' w' hp => ?_)
      obtain ⟨kp, r, B, o, c, h1, h2, h3, h4⟩ := hp
      have hfr' : σ.blk s.n = none := hfr s.n (Nat.le_refl _) (Nat.lt_succ_self _)
      obtain ⟨h5, h6⟩ := h4 σ s.n hfr' hx
      exact ⟨r, _, h1, h6, moved_import gd hs hfr' kp h2 h3 x c h5⟩
  · obtain ⟨rfl, r, ps, hS, hps, hr⟩ := inv e
    rcases hr with ⟨v, rfl, rfl, rfl⟩ | ⟨V, x, rfl, rfl, rfl⟩
    · exact Stat.refl _
    · exact stat_new _ _
end
end Go.Proofs.Ytldekgkjofgacaa.Ev
