import Derived.Test.YtchlehpjpgeejaaP2
import Derived.Test.YtchlehpjpgeejaaM7
/- Lists of ranges, as they lie; areRanges. -/
namespace Go.Proofs.Ytchlehpjpgeejaa
set_option linter.unusedVariables false
set_option linter.unusedSimpArgs false
open Go Ev
noncomputable section
theorem ltI_true {a b : Int} (h : ltI a b = true) : a < b := by rw [ltI_iff] at h; exact of_decide_eq_true h
theorem ltI_false {a b : Int} (h : ltI a b = false) : b ≤ a := by rw [ltI_iff] at h; have := of_decide_eq_false h; omega
def cR : List (Int × Int) → List AV
  | [] => []
  | r :: l => .v (.int .i64 r.1) :: .v (.int .i64 r.2) :: cR l
def cRv : List (Int × Int) → List Value
  | [] => []
  | r :: l => .int .i64 r.1 :: .int .i64 r.2 :: cRv l
theorem cR_plain : ∀ L : List (Int × Int), plainL (cR L) = some (cRv L)
  | [] => rfl
  | r :: l => by simp only [cR, plainL, plain, cR_plain l, cRv]
theorem cR_len : ∀ L : List (Int × Int), (cR L).length = L.length * 2
  | [] => rfl
  | r :: l => by simp only [cR, List.length_cons, cR_len l]; omega
theorem cR_at : ∀ (L : List (Int × Int)) (i : Nat) (r : Int × Int), L[i]? = some r → (cR L)[i * 2]? = some (.v (.int .i64 r.1)) ∧ (cR L)[i * 2 + 1]? = some (.v (.int .i64 r.2))
  | [], i, r, h => by simp at h
  | x :: l, 0, r, h => by
    simp at h
    subst h
    exact ⟨rfl, rfl⟩
  | x :: l, i + 1, r, h => by
    obtain ⟨h1, h2⟩ := cR_at l i r (by simpa using h)
    have e : (i + 1) * 2 = i * 2 + 2 := by omega
    have e1 : (i + 1) * 2 + 1 = i * 2 + 1 + 2 := by omega
    exact ⟨by rw [e]; exact h1, by rw [e1]; exact h2⟩
theorem intAt_of {c : List AV} {i : Nat} {k : IntKind} {n : Int} (h : c[i]? = some (.v (.int k n))) : intAt c i = n := by unfold intAt; rw [h]
theorem cR_int {L : List (Int × Int)} {i : Nat} {r : Int × Int} (h : L[i]? = some r) : intAt (cR L) (i * 2) = r.1 ∧ intAt (cR L) (i * 2 + 1) = r.2 :=
  ⟨intAt_of (cR_at L i r h).1, intAt_of (cR_at L i r h).2⟩
theorem cR_load {L : List (Int × Int)} {i : Nat} (hi : i < L.length) (t : TypeId) {d : TypeDesc} (hd : Try.prog.underlying t = some d) (ha : aggD d = true) {inf : TypeInfo} (hf : Try.prog.info? t = some inf) (h2 : inf.size = 2) :
    loadL Try.prog (cR L) (i * 2) t = some (.agg [.v (.int .i64 (intAt (cR L) (i * 2))), .v (.int .i64 (intAt (cR L) (i * 2 + 1)))]) := by
  obtain ⟨h3, h4⟩ := cR_at L i L[i] (List.getElem?_eq_getElem hi)
  obtain ⟨e1, e2⟩ := cR_int (List.getElem?_eq_getElem hi)
  rw [e1, e2]
  have hl := cR_len L
  have hsub : sub (cR L) (i * 2) 2 = some [.v (.int .i64 L[i].1), .v (.int .i64 L[i].2)] := by
    unfold sub
    rw [Nat.ble_eq_true_of_le (by omega)]
    simp only [Option.some.injEq]
    apply List.ext_getElem?
    intro j
    rw [List.getElem?_take]
    match j with
    | 0 => simp only [List.getElem?_drop, Nat.add_zero, h3]; rfl
    | 1 => simp only [List.getElem?_drop, h4]; rfl
    | j + 2 => simp; omega
  simp only [loadL, hd, ha, hf, h2, hsub]
def AllR (lo hi : Int) (L : List (Int × Int)) : Prop := ∀ r ∈ L, lo ≤ r.1 ∧ r.1 ≤ r.2 ∧ r.2 ≤ hi
instance (lo hi : Int) (L : List (Int × Int)) : Decidable (AllR lo hi L) := inferInstanceAs (Decidable (∀ r ∈ L, _))
end
end Go.Proofs.Ytchlehpjpgeejaa
