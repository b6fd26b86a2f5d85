/- A call without arguments, computed, is run as it was computed. -/
import Derived.Test.YtchlehpjpgeejaaFf
namespace Go.Proofs.Ytchlehpjpgeejaa.Ev
set_option linter.unusedVariables false
set_option linter.unusedSimpArgs false
open Go
noncomputable section
variable {P : Program} {rec : Rec} {s s1 s2 : HS}

theorem stat_loop {body : FS → Option (Exit × FS)} (hb : ∀ fs e fs', body fs = some (e, fs') → Stat fs.s fs'.s) : ∀ {k : Nat} {fs : FS} {e : Exit} {fs' : FS}, evLoop body k fs = some (e, fs') → Stat fs.s fs'.s
  | 0, fs, e, fs', h => by cases h
  | k + 1, fs, e, fs', h => by
    unfold evLoop at h
    split at h
    · rename_i f1 h1
      exact (hb _ _ _ h1).trans (stat_loop hb h)
    · exact hb _ _ _ h
theorem stat_enterA {rd : Option Nat} {params : Array Tmp} {assign body : Code} {sz l : Nat} {fs : FS} {mark : List Nat} {s' : HS} (h : enterA rd params assign body sz fs = some (l, mark, s')) : Stat fs.s s' := by
  obtain ⟨tm, df, s⟩ := fs
  unfold enterA at h
  cases rd with
  | none =>
    simp only at h
    cases h
    exact (stat_new _ _).trans (stat_new _ _)
  | some b =>
    simp only at h
    split at h
    · cases h
      exact stat_new _ _
    · cases h
theorem stat_endRange {tm : Tr AV} {df mark : List Nat} {l : Nat} {e : Exit} {fs' : FS} (h : endRange tm df l mark s2 = some (e, fs')) : Stat s2 fs'.s := by
  unfold endRange at h
  split at h
  · rename_i hg
    have hb : s2.H.get l ≠ none := by rw [hg]; simp
    split at h
    · cases h
    · split at h
      · cases h; exact stat_upd hb
      · cases h; exact stat_upd hb
      · cases h; exact stat_upd hb
      · cases h
  · cases h
theorem step_stat (hr : StatC rec) : StatC (stepC rec P) := by
  refine ⟨?_, hr.orc⟩
  intro rd sz c fs e fs' h
  have R : ∀ {c : Code} {fs : FS} {e : Exit} {fs' : FS}, rec rd sz c fs = some (e, fs') → Stat fs.s fs'.s := fun h => hr.code _ _ _ _ _ _ h
  unfold stepC at h
  cases c with
  | skip => cases h; exact Stat.refl _
  | label l => cases h; exact Stat.refl _
  | exit id => cases h; exact Stat.refl _
  | ret => cases h; exact Stat.refl _
  | goto l => cases h
  | refuse y => cases h
  | seq x y =>
    simp only [cD, cSeq] at h
    split at h
    · rename_i f1 h1
      exact (R h1).trans (R h)
    · exact R h
  | cond x y z =>
    simp only [cD, cCond] at h
    split at h
    · exact R h
    · exact R h
    · cases h
  | block id x =>
    simp only [cD, cBlock] at h
    cases hx : rec rd sz x fs with
    | none => rw [hx] at h; cases h
    | some q =>
      obtain ⟨e1, f1⟩ := q
      rw [hx] at h
      have hf1 : fs' = f1 := by
        unfold outOf at h
        split at h
        · rename_i heq
          cases heq
          split at h
          · cases h; rfl
          · cases h; rfl
        · cases h; rfl
      subst hf1
      exact R hx
  | loop x =>
    simp only [cD, cLoop] at h
    exact stat_loop (fun fs e fs' h => R h) h
  | scope x =>
    simp only [cD, cScope] at h
    split at h
    · cases h
    · exact R h
  | rangeFunc gx ps x y =>
    obtain ⟨tm, df, s⟩ := fs
    simp only [cD, cRange] at h
    split at h
    · cases h
    · split at h
      · cases h
      · split at h
        · cases h
        · rename_i l mark s1 he
          split at h
          · cases h
          · rename_i v s2 hc
            have a1 : Stat s s1 := stat_enterA he
            exact (a1.trans (stat_callO hr hc)).trans (stat_endRange h)
  | region id ops draw =>
    obtain ⟨tm, df, s⟩ := fs
    simp only [cD, cRegion] at h
    cases draw with
    | false =>
      simp only at h
      cases hx : evOps rec P sz ops.toList ops.toList tm s with
      | none => rw [hx] at h; cases h
      | some q =>
        obtain ⟨tm1, s1⟩ := q
        rw [hx] at h
        cases h
        exact stat_evOps hr hx
    | true =>
      simp only at h
      cases hx : evDraw rec P sz ops tm s with
      | none => rw [hx] at h; cases h
      | some q =>
        obtain ⟨tm1, s1⟩ := q
        rw [hx] at h
        cases h
        exact evDraw_stat hr hx
/-- What is known of calls beforehand is so. -/
structure Known (P : Program) (O : Orc) : Prop where
  ok : OrcOK P O
  stat : ∀ (f : FuncId) (args : List AV) (s : HS) (v : AV) (s' : HS), O f args s = some (v, s') → Stat s s'
theorem noKnown : Known P noOrc := ⟨noOrc_ok, fun f args s v s' h => (by cases h)⟩
theorem evC_ok (hm : P.follows .mixedOrders = true) {O : Orc} (hO : Known P O) : ∀ k, SoundC P (evC P O k) ∧ StatC (evC P O k)
  | 0 => by
    constructor
    · exact ⟨fun rd sz c fs e fs' h => (by cases h), hO.ok⟩
    · exact ⟨fun rd sz c fs e fs' h => (by cases h), hO.stat⟩
  | k + 1 => by
    obtain ⟨h1, h2⟩ := evC_ok hm hO k
    exact ⟨step_ok h1 (draw_ok hm h1 h2), step_stat h2⟩
/-- A call without arguments, computed so, is run so in every world. -/
theorem calls_of_run (hm : P.follows .mixedOrders = true) {fuel : Nat} {f : FuncId} {v : Value} {s' : HS} (h : run P fuel f [] = some (.v v, s')) (w : World) :
    Calls P f #[] w fun e w' => e = .returned v ∧ (∀ B, B < w.heap.size → w'.heap[B]? = w.heap[B]?) ∧ w.heap.size ≤ w'.heap.size ∧ w'.os = w.os ∧ w'.tape = w.tape ∧ w'.output = w.output := by
  obtain ⟨h1, h2⟩ := callF_sound (evC_ok hm noKnown fuel).1 h
  have hc := h2 Fence.wide 0 ⟨fun _ => none, fun _ => 0⟩ w [] ⟨fun _ => trivial, rfl⟩ ⟨fun b _ => rfl, Nat.le_refl _⟩ ⟨fun b x hx => (by cases hx), fun b c B hb => absurd rfl hb⟩ (fun k _ _ => rfl) rfl
  refine Calls.mono (callsIn_wide.1 hc) (fun e w' hret => ?_)
  obtain ⟨r, σ', rfl, hd, m⟩ := hret
  cases hd
  exact ⟨rfl, fun B hB => m.frame B hB (fun b _ hb => absurd rfl hb), m.size, m.os, m.tape, m.output⟩
end
end Go.Proofs.Ytchlehpjpgeejaa.Ev
