/- Spans carried by decrees: plain arithmetic. -/
import Derived.Test.YtbdjllgngblfoaaUm
namespace Go.Proofs.Ytbdjllgngblfoaa
set_option linter.unusedVariables false
set_option linter.unusedSimpArgs false

abbrev S4 := Int × Int × Int × Int
def numR (a b c d : Int) : Int := a * c / ((Int.gcd (a * c) (b * d) : Nat) : Int)
def denR (a b c d : Int) : Int := b * d / ((Int.gcd (a * c) (b * d) : Nat) : Int)
theorem red_R (a b c d : Int) : Red (a * c) (b * d) (numR a b c d) (denR a b c d) := ⟨rfl, rfl⟩

/-- The product of two spans. -/
def mulS (s t : S4) : Option S4 :=
  if Wn (numR s.1 s.2.1 t.1 t.2.1) (denR s.1 s.2.1 t.1 t.2.1) ∧ Wn (numR s.2.2.1 s.2.2.2 t.2.2.1 t.2.2.2) (denR s.2.2.1 s.2.2.2 t.2.2.1 t.2.2.2) then
    some (numR s.1 s.2.1 t.1 t.2.1, denR s.1 s.2.1 t.1 t.2.1, numR s.2.2.1 s.2.2.2 t.2.2.1 t.2.2.2, denR s.2.2.1 s.2.2.2 t.2.2.1 t.2.2.2) else none
def carryL : S4 → List S4 → Option S4
  | s, [] => some s
  | s, t :: l => match mulS s t with | some x => carryL x l | none => none
def turnS (s : S4) : S4 := (s.2.2.2, s.2.2.1, s.2.1, s.1)
def backL (s : S4) (l : List S4) : Option S4 := carryL s (l.reverse.map turnS)
def SpS (s : S4) : Prop := Sp s.1 s.2.1 s.2.2.1 s.2.2.2
instance (s : S4) : Decidable (SpS s) := by unfold SpS; infer_instance
/-- Both ends are fractions. -/
def FrS (s : S4) : Prop := Fr s.1 s.2.1 ∧ Fr s.2.2.1 s.2.2.2

theorem frS_of {s : S4} (h : SpS s) : FrS s := ⟨h.1, h.2.1⟩
theorem fr_turn {a b : Int} (h : Fr a b) : Fr b a := ⟨h.2.2.1, h.2.2.2.1, h.1, h.2.1, by rw [Int.gcd_comm]; exact h.2.2.2.2⟩
theorem frS_turn {s : S4} (h : FrS s) : FrS (turnS s) := ⟨fr_turn h.2, fr_turn h.1⟩

theorem red_fr {a b c d : Int} (hA : Fr a b) (hC : Fr c d) (hw : Wn (numR a b c d) (denR a b c d)) : Fr (numR a b c d) (denR a b c d) := by
  have h := (red_R a b c d).gcd (by have := @mul_le 1 1 a c (by omega) (by omega) hA.1 hC.1; omega)
  exact ⟨hw.1, hw.2.1, hw.2.2.1, hw.2.2.2, h⟩

theorem mulS_fr {s t x : S4} (hs : FrS s) (ht : FrS t) (h : mulS s t = some x) : FrS x := by
  unfold mulS at h
  split at h
  · rename_i hw
    cases h
    exact ⟨red_fr hs.1 ht.1 hw.1, red_fr hs.2 ht.2 hw.2⟩
  · cases h

/-- What checkCarried returns. -/
def chkC (s : S4) (l : List S4) : Int := if SpS s then if 8 < l.length then 6 else if ∀ t ∈ l, SpS t then 0 else 2 else 2

end Go.Proofs.Ytbdjllgngblfoaa
