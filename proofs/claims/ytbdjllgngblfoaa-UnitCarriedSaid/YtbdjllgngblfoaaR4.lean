/- What a law's row needs where an argument is a list of structs of two structs of two numbers. -/
import Derived.Test.YtbdjllgngblfoaaR3
import Derived.Test.YtbdjllgngblfoaaUt
namespace Go.Proofs.Ytbdjllgngblfoaa
set_option linter.unusedVariables false
set_option linter.unusedSimpArgs false
open Go.ChangeShapes Go.WideShapes Go.ChangeAt Go.RowKit

section
variable {H : Type} {enc : TypeId × Value → H} {P : Program}

theorem four_of_trod {w : World} {base : Nat} {sp : Nat → Bool} {held : Bool} {t u i : TypeId} {f0 f1 g0 g1 : Field} {n : Nat} {cs : List Value} {y : DataW H × List MemPlace} (hs : P.underlying t = some (.struct #[f0, f1])) (m0 : f0.type = u) (m1 : f1.type = u) (p0 : f0.offset = 0) (p1 : f1.offset = 2) (he : P.underlying u = some (.struct #[g0, g1])) (k0 : g0.type = i) (k1 : g1.type = i) (o0 : g0.offset = 0) (o1 : g1.offset = 1) (hi : P.underlying i = some (.int .i64)) (ci : P.cellsOf i = 1) (cu : P.cellsOf u = 2) (hl : cs.length = 4)
    (h : DataW.trod enc P w base sp held n t cs = some y) : ∃ a b c d : Int, cs = [.int .i64 a, .int .i64 b, .int .i64 c, .int .i64 d] := by
  match cs, hl with
  | [c0, c1, c2, c3], _ =>
    obtain ⟨y0, y1, n', _, _, h0, h1⟩ := trod_struct2 hs h
    rw [m0] at h0
    rw [m1] at h1
    obtain ⟨z0, z1, n1, _, _, j0, j1⟩ := trod_struct2 he h0
    obtain ⟨z2, z3, n2, _, _, j2, j3⟩ := trod_struct2 he h1
    rw [k0] at j0 j2
    rw [k1] at j1 j3
    obtain ⟨a, e0, _, wa⟩ := DataW.trod_int hi j0
    obtain ⟨b, e1, _, wb⟩ := DataW.trod_int hi j1
    obtain ⟨c, e2, _, wc⟩ := DataW.trod_int hi j2
    obtain ⟨d, e3, _, wd⟩ := DataW.trod_int hi j3
    simp [o0, o1, p0, p1, ci, cu] at e0 e1 e2 e3
    subst e0 e1 e2 e3
    exact ⟨a, b, c, d, rfl⟩

theorem list_of {α : Type} : ∀ (n : Nat) (Q : Nat → α → Prop), (∀ i, i < n → ∃ t, Q i t) → ∃ L : List α, L.length = n ∧ ∀ (i : Nat) (t : α), L[i]? = some t → Q i t
  | 0, _, _ => ⟨[], rfl, fun i t h => by simp at h⟩
  | n + 1, Q, h => by
    obtain ⟨L, hl, hL⟩ := list_of n Q (fun i hi => h i (by omega))
    obtain ⟨t, ht⟩ := h n (by omega)
    refine ⟨L ++ [t], by simp [hl], fun i u hu => ?_⟩
    by_cases hi : i < n
    · rw [List.getElem?_append_left (by omega)] at hu
      exact hL i u hu
    · have hlt := (List.getElem?_eq_some_iff.1 hu).1
      simp at hlt
      have : i = n := by omega
      subst this
      rw [List.getElem?_append_right (by omega)] at hu
      have e : i - L.length = 0 := by omega
      rw [e] at hu
      cases hu
      exact ht
theorem spot_none {w : World} {g off : Nat} {sp : Option Nat} {v : Value} (h : w.cell? ⟨g, off, sp⟩ = some v) : sp = none := by
  unfold World.cell? at h
  split at h
  · cases sp with
    | none => rfl
    | some s => simp at h
  · cases h
theorem add_at (g off j : Nat) : (⟨g, off, none⟩ : Addr).add j = ⟨g, off + j, none⟩ := by unfold Addr.add; split <;> simp_all

theorem open_spans {r : Reach} {w : World} {base b0 : Nat} {sp : Nat → Bool} {held : Bool} {s t u i : TypeId} {f0 f1 g0 g1 : Field} {v : Value} {d : DataW H} {ps : List MemPlace} (hsl : P.underlying s = some (.slice t)) (hs : P.underlying t = some (.struct #[f0, f1])) (m0 : f0.type = u) (m1 : f1.type = u) (p0 : f0.offset = 0) (p1 : f1.offset = 2) (he : P.underlying u = some (.struct #[g0, g1])) (k0 : g0.type = i) (k1 : g1.type = i) (o0 : g0.offset = 0) (o1 : g1.offset = 1) (hi : P.underlying i = some (.int .i64)) (ci : P.cellsOf i = 1) (cu : P.cellsOf u = 2) (ct : P.cellsOf t = 4)
    (hv : Value.okWide P w r b0 s v) (h : DataW.Trod enc P w base sp held s v d ps) : ∃ L : List S4, SlS w v L ∧ L.length ≤ 9223372036854775807 := by
  obtain ⟨a0, len, cap, rfl⟩ := okWide_slice hsl hv
  obtain ⟨fuel, hf⟩ := h
  rcases DataW.trod_slice hsl hf with ⟨hcs, hx⟩ | ⟨a, len', cap', elems, rest, n, _, hcs, hx, hb, hl, hm, hlen, hel, hsp, hns⟩
  · simp [Value.cells] at hcs
    obtain ⟨rfl, rfl, rfl⟩ := hcs
    exact ⟨[], ⟨none, 0, rfl, Nat.le_refl _, fun h => absurd h (by simp)⟩, by simp⟩
  · simp [Value.cells] at hcs
    obtain ⟨rfl, rfl, rfl⟩ := hcs
    have each : ∀ i, i < len → ∃ t : S4, ∀ j, j < 4 → w.cell? (a.add (i * 4) |>.add j) = some ([Value.int .i64 t.1, .int .i64 t.2.1, .int .i64 t.2.2.1, .int .i64 t.2.2.2].getD j undef) := by
      intro i hi'
      have hq := hel i hi'
      rw [ct] at hq
      obtain ⟨y, hy⟩ : ∃ y, elems[i]? = some y := ⟨_, List.getElem?_eq_getElem (by omega)⟩
      rw [hy] at hq
      rw [Option.bind_eq_some_iff] at hq
      obtain ⟨cs', hc1, hc2⟩ := hq
      obtain ⟨e1, e2, e3⟩ := World.cells?_some hc1
      obtain ⟨x0, x1, x2, x3, rfl⟩ := four_of_trod hs m0 m1 p0 p1 he k0 k1 o0 o1 hi ci cu (by first | exact e1 | exact e2 | omega) hc2
      refine ⟨(x0, x1, x2, x3), fun j hj => ?_⟩
      have := e3 j hj
      rw [this]
      match j, hj with
      | 0, _ => rfl
      | 1, _ => rfl
      | 2, _ => rfl
      | 3, _ => rfl
    obtain ⟨L, hL, hq⟩ := list_of len _ each
    refine ⟨L, ?_, by unfold maxLen at hm; omega⟩
    refine ⟨_, cap, by rw [hL], by omega, fun h0 => ?_⟩
    obtain ⟨g, off, sp0⟩ := a
    obtain ⟨t0, ht0⟩ := each 0 (by omega)
    have c0 := ht0 0 (by omega)
    have hsp0 : sp0 = none := spot_none (g := g) (off := off) (v := .int .i64 t0.1) (by
      have e : ((⟨g, off, sp0⟩ : Addr).add (0 * 4)).add 0 = ⟨g, off, sp0⟩ := by simp [Addr.add]
      rw [e] at c0
      exact c0)
    subst hsp0
    refine ⟨g, off, rfl, fun i t ht => ?_⟩
    have hc := hq i t ht
    have c0 := hc 0 (by omega)
    have c1 := hc 1 (by omega)
    have c2 := hc 2 (by omega)
    have c3 := hc 3 (by omega)
    rw [add_at, add_at] at c0 c1 c2 c3
    exact ⟨c0, c1, c2, c3⟩
end
end Go.Proofs.Ytbdjllgngblfoaa
