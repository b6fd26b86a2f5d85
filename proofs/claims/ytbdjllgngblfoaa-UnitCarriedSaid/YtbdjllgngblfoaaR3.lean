/- What a law's row needs where an argument is a list of numbers. -/
import Derived.Test.YtbdjllgngblfoaaR2
import Derived.Test.YtbdjllgngblfoaaUp
import Derived.ChangeSlices
namespace Go.Proofs.Ytbdjllgngblfoaa
set_option linter.unusedVariables false
set_option linter.unusedSimpArgs false
open Go.ChangeShapes Go.WideShapes Go.ChangeAt Go.RowKit

section
variable {H : Type} {enc : TypeId × Value → H} {P : Program}
/-- A list of numbers of any kind, an empty one wherever it lies. -/
def SlK (k : IntKind) (w : World) (v : Value) (L : List Int) : Prop :=
  (L = [] ∧ ∃ o cap, v = .slice o 0 cap) ∨ ∃ g off cap, v = .slice (some ⟨g, off, none⟩) L.length cap ∧ L.length ≤ cap ∧ ∀ i, i < L.length → w.cell? ⟨g, off + i, none⟩ = some (.int k (L.getD i 0))

theorem open_longK {r : Reach} {w : World} {base b0 : Nat} {sp : Nat → Bool} {held : Bool} {t e : TypeId} {k : IntKind} {v : Value} {d : DataW H} {ps : List MemPlace} (ht : P.underlying t = some (.slice e)) (he : P.underlying e = some (.int k)) (ce : P.cellsOf e = 1)
    (hv : Value.okWide P w r b0 t v) (h : DataW.Trod enc P w base sp held t v d ps) : ∃ L : List Int, SlK k w v L ∧ L.length ≤ 9223372036854775807 ∧ ∀ n ∈ L, (Lit.int k n).wf = true := by
  obtain ⟨a0, len, cap, rfl⟩ := okWide_slice ht hv
  obtain ⟨fuel, hf⟩ := h
  rcases open_ints ht he ce hf with ⟨hcs, hx⟩ | ⟨a, len', cap', zs, hcs, _, hl, hm, hz, hx, hcell, hwz⟩
  · simp [Value.cells] at hcs
    obtain ⟨rfl, rfl, rfl⟩ := hcs
    exact ⟨[], .inl ⟨rfl, _, _, rfl⟩, by simp, by simp⟩
  · simp [Value.cells] at hcs
    obtain ⟨rfl, rfl, rfl⟩ := hcs
    have hle : len ≤ zs.length := by rw [hz]; split <;> omega
    have hlen : (zs.take len).length = len := by rw [List.length_take]; omega
    unfold maxLen at hm
    refine ⟨zs.take len, ?_, by omega, fun n hn => hwz n (List.mem_of_mem_take hn)⟩
    by_cases h0 : len = 0
    · subst h0
      exact .inl ⟨by simp, _, _, rfl⟩
    · right
      obtain ⟨g, off, sp⟩ := a
      have c0 := hcell 0 (by omega)
      have hsp : sp = none := by
        have e : (⟨g, off, sp⟩ : Addr).add 0 = ⟨g, off, sp⟩ := by simp [Addr.add]
        rw [e] at c0
        unfold World.cell? at c0
        split at c0
        · cases sp with
          | none => rfl
          | some s => simp at c0
        · cases c0
      subst hsp
      refine ⟨g, off, cap, by rw [hlen], by omega, fun i hi => ?_⟩
      have := hcell i (by omega)
      have e : (⟨g, off, none⟩ : Addr).add i = ⟨g, off + i, none⟩ := by unfold Addr.add; split <;> simp_all
      rw [e] at this
      rw [this]
      simp [List.getD_eq_getElem?_getD, List.getElem?_take, show i < len by omega]
end
end Go.Proofs.Ytbdjllgngblfoaa
