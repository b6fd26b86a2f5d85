/- Lists of ranges, as they lie; areRanges. -/
import Derived.Test.YtchlehpjpgeejaaP2
import Derived.Test.YtchlehpjpgeejaaM7
namespace Go.Proofs.Ytchlehpjpgeejaa
set_option linter.unusedVariables false
set_option linter.unusedSimpArgs false
open Go Ev
noncomputable section

theorem ltI_true {a b : Int} (h : ltI a b = true) : a < b := by rw [ltI_iff] at h; exact of_decide_eq_true h
theorem ltI_false {a b : Int} (h : ltI a b = false) : b ≤ a := by rw [ltI_iff] at h; have := of_decide_eq_false h; omega
/-- The cells of a list of pairs of numbers. -/
def cR : List (Int × Int) → List AV
  | [] => []
  | r :: l => .v (.int .i64 r.1) :: .v (.int .i64 r.2) :: cR l
def cRv : List (Int × Int) → List Value
  | [] => []
  | r :: l => .int .i64 r.1 :: .int .i64 r.2 :: cRv l
theorem cR_plain : ∀ L : List (Int × Int), plainL (cR L) = some (cRv L)
  | [] => rfl
  | r :: l => by simp only [cR, plainL, plain, cR_plain l, cRv]
theorem cR_len : ∀ L : List (Int × Int), (cR L).length = L.length * 2
  | [] => rfl
  | r :: l => by simp only [cR, List.length_cons, cR_len l]; omega
theorem cR_at : ∀ (L : List (Int × Int)) (i : Nat) (r : Int × Int), L[i]? = some r → (cR L)[i * 2]? = some (.v (.int .i64 r.1)) ∧ (cR L)[i * 2 + 1]? = some (.v (.int .i64 r.2))
  | [], i, r, h => by simp at h
  | x :: l, 0, r, h => by
    simp at h
    subst h
    exact ⟨rfl, rfl⟩
  | x :: l, i + 1, r, h => by
    obtain ⟨h1, h2⟩ := cR_at l i r (by simpa using h)
    have e : (i + 1) * 2 = i * 2 + 2 := by omega
    have e1 : (i + 1) * 2 + 1 = i * 2 + 1 + 2 := by omega
    exact ⟨by rw [e]; exact h1, by rw [e1]; exact h2⟩
theorem intAt_of {c : List AV} {i : Nat} {k : IntKind} {n : Int} (h : c[i]? = some (.v (.int k n))) : intAt c i = n := by unfold intAt; rw [h]
theorem cR_int {L : List (Int × Int)} {i : Nat} {r : Int × Int} (h : L[i]? = some r) : intAt (cR L) (i * 2) = r.1 ∧ intAt (cR L) (i * 2 + 1) = r.2 :=
  ⟨intAt_of (cR_at L i r h).1, intAt_of (cR_at L i r h).2⟩
/-- A pair in the list, loaded as a struct of two numbers. -/
theorem cR_load {L : List (Int × Int)} {i : Nat} (hi : i < L.length) (t : TypeId) {d : TypeDesc} (hd : Try.prog.underlying t = some d) (ha : aggD d = true) {inf : TypeInfo} (hf : Try.prog.info? t = some inf) (h2 : inf.size = 2) :
    loadL Try.prog (cR L) (i * 2) t = some (.agg [.v (.int .i64 (intAt (cR L) (i * 2))), .v (.int .i64 (intAt (cR L) (i * 2 + 1)))]) := by
  obtain ⟨h3, h4⟩ := cR_at L i L[i] (List.getElem?_eq_getElem hi)
  obtain ⟨e1, e2⟩ := cR_int (List.getElem?_eq_getElem hi)
  rw [e1, e2]
  have hl := cR_len L
  have hsub : sub (cR L) (i * 2) 2 = some [.v (.int .i64 L[i].1), .v (.int .i64 L[i].2)] := by
    unfold sub
    rw [Nat.ble_eq_true_of_le (by omega)]
    simp only [Option.some.injEq]
    apply List.ext_getElem?
    intro j
    rw [List.getElem?_take]
    match j with
    | 0 => simp only [List.getElem?_drop, Nat.add_zero, h3]; rfl
    | 1 => simp only [List.getElem?_drop, h4]; rfl
    | j + 2 => simp; omega
  simp only [loadL, hd, ha, hf, h2, hsub]
/-- All of them are ranges between these ends. -/
def AllR (lo hi : Int) (L : List (Int × Int)) : Prop := ∀ r ∈ L, lo ≤ r.1 ∧ r.1 ≤ r.2 ∧ r.2 ≤ hi
instance (lo hi : Int) (L : List (Int × Int)) : Decidable (AllR lo hi L) := inferInstanceAs (Decidable (∀ r ∈ L, _))
def OkTo (lo hi : Int) (L : List (Int × Int)) (i : Nat) : Prop := ∀ j r, j < i → L[j]? = some r → lo ≤ r.1 ∧ r.1 ≤ r.2 ∧ r.2 ≤ hi
theorem okTo_all {lo hi : Int} {L : List (Int × Int)} {i : Nat} (h : OkTo lo hi L i) (hi' : L.length ≤ i) : AllR lo hi L := fun r hr => by
  obtain ⟨j, hj, e⟩ := List.mem_iff_getElem.1 hr
  exact h j r (by omega) (by rw [List.getElem?_eq_getElem hj, e])
theorem not_all {lo hi : Int} {L : List (Int × Int)} {i : Nat} (h : i < L.length) (k : ¬ (lo ≤ L[i].1 ∧ L[i].1 ≤ L[i].2 ∧ L[i].2 ≤ hi)) : ¬ AllR lo hi L := fun q => k (q _ (List.getElem_mem h))

def arT (lo hi : Int) (y : Value) (L : List (Int × Int)) (i : Nat) : Ev.Lit := ⟨[(0, .v (.int .i64 lo)), (1, .v (.int .i64 hi)), (9, .xl y L.length 2 (cR L)), (10, .v (.int .i64 L.length)), (11, .v (.int .i64 i))], [], 0, []⟩
def ArI (lo hi : Int) (L : List (Int × Int)) : Type := { i : Nat // i ≤ L.length ∧ OkTo lo hi L i }
theorem areRanges_g (lo hi : Int) (y : Value) (L : List (Int × Int)) (hL : L.length ≤ 1000000) : GivesA Try.prog 82 [.v (.int .i64 lo), .v (.int .i64 hi), .xl y L.length 2 (cR L)] (.bool (decide (AllR lo hi L))) := by
  refine givesA_parts 33 Try.func82 (by kernel_rfl) (by kernel_rfl) (by kernel_rfl) (fun w => ?_)
  refine goes_spine (T' := argLit [.v (.int .i64 lo), .v (.int .i64 hi), .xl y L.length 2 (cR L)]) (by kernel_rfl) (goes_told Try.checked.mixed known_none 200 (e := .normal) (ps := []) [.go] (by kernel_rfl) (by kernel_rfl) trivial rfl) ?_
  refine goes_spineQ (ι := ArI lo hi L) (T := fun i => arT lo hi y L i.1) (R := fun i => L.length ≤ i.1) (by kernel_rfl)
    (goes_spine (T' := arT lo hi y L 0) (by kernel_rfl) (goes_told Try.checked.mixed known_none 200 (e := .normal) (ps := []) [.go, .go, .go] (by kernel_rfl) (by kernel_rfl) trivial rfl)
      (goes_blockloop (by kernel_rfl) (fun i : ArI lo hi L => arT lo hi y L i.1) (fun i => L.length - i.1) (fun i => ?_) ⟨0, Nat.zero_le _, fun j r hj => by omega⟩)) (fun i hi' => ?_)
  · obtain ⟨i, hi1, hi2⟩ := i
    cases hq : ltI (i : Int) (L.length : Int) with
    | false =>
      have hle : L.length ≤ i := by have := ltI_false hq; omega
      exact .inr (.inl ⟨hle, goes_told Try.checked.mixed known_none 200 (e := .exit 0) (ps := [ltI (i : Int) (L.length : Int) = false]) [.go, .b false] (by kernel_rfl) (by kernel_rfl) ⟨hq, trivial⟩ rfl⟩)
    | true =>
      have hlt : i < L.length := by have := ltI_true hq; omega
      obtain ⟨e1, e2⟩ := cR_int (List.getElem?_eq_getElem hlt)
      have hld := cR_load hlt 44 (Try.underlying44) rfl (inf := (Try.prog.info? 44).getD default) (by kernel_rfl) (by kernel_rfl)
      have nope : ¬ (lo ≤ intAt (cR L) (i * 2) ∧ intAt (cR L) (i * 2) ≤ intAt (cR L) (i * 2 + 1) ∧ intAt (cR L) (i * 2 + 1) ≤ hi) → Value.bool false = Value.bool (decide (AllR lo hi L)) := fun k => by
        rw [e1, e2] at k
        rw [decide_eq_false (not_all hlt k)]
      cases hq1 : ltI (intAt (cR L) (i * 2)) lo with
      | true =>
        refine .inr (.inr ?_)
        have hr := goes_ret (fn := Try.f82) (sz := 33) (c := loopC (tlC (hdC (tlC (bodyC Try.f82))))) (T := arT lo hi y L i) (w0 := w) (r := .bool false) (v := .v (.bool false)) Try.checked.mixed known_none 200
          (ps := [ltI (i : Int) (L.length : Int) = true, i < L.length, loadL Try.prog (cR L) (i * 2) 44 = some (.agg [.v (.int .i64 (intAt (cR L) (i * 2))), .v (.int .i64 (intAt (cR L) (i * 2 + 1)))]), ltI (intAt (cR L) (i * 2)) lo = true, true = true, true = true, true = true, true = true, true = true, true = true, true = true, true = true, true = true])
          [.go, .b true, .sym, .sym, .go, .go, .go, .go, .go, .go, .go, .b true, .b true, .b true, .b true, .b true, .go, .go, .b true, .b true, .b true, .b true, .go, .b true, .go] (by kernel_rfl) (by kernel_rfl) ⟨hq, hlt, hld, hq1, rfl, rfl, rfl, rfl, rfl, rfl, rfl, rfl, rfl, trivial⟩ rfl
        rw [nope (by have := ltI_true hq1; omega)] at hr
        exact hr
      | false =>
        cases hq2 : ltI (intAt (cR L) (i * 2 + 1)) (intAt (cR L) (i * 2)) with
        | true =>
          refine .inr (.inr ?_)
          have hr := goes_ret (fn := Try.f82) (sz := 33) (c := loopC (tlC (hdC (tlC (bodyC Try.f82))))) (T := arT lo hi y L i) (w0 := w) (r := .bool false) (v := .v (.bool false)) Try.checked.mixed known_none 200
            (ps := [ltI (i : Int) (L.length : Int) = true, i < L.length, loadL Try.prog (cR L) (i * 2) 44 = some (.agg [.v (.int .i64 (intAt (cR L) (i * 2))), .v (.int .i64 (intAt (cR L) (i * 2 + 1)))]), ltI (intAt (cR L) (i * 2)) lo = false, false = false, false = false, false = false, false = false, ltI (intAt (cR L) (i * 2 + 1)) (intAt (cR L) (i * 2)) = true, true = true, true = true, true = true, true = true])
            [.go, .b true, .sym, .sym, .go, .go, .go, .go, .go, .go, .go, .b false, .go, .b false, .go, .b false, .go, .b false, .go, .b false, .go, .go, .go, .b true, .b true, .b true, .b true, .go, .b true, .go] (by kernel_rfl) (by kernel_rfl) ⟨hq, hlt, hld, hq1, rfl, rfl, rfl, rfl, hq2, rfl, rfl, rfl, rfl, trivial⟩ rfl
          rw [nope (by have := ltI_true hq2; omega)] at hr
          exact hr
        | false =>
          cases hq3 : ltI hi (intAt (cR L) (i * 2 + 1)) with
          | true =>
            refine .inr (.inr ?_)
            have hr := goes_ret (fn := Try.f82) (sz := 33) (c := loopC (tlC (hdC (tlC (bodyC Try.f82))))) (T := arT lo hi y L i) (w0 := w) (r := .bool false) (v := .v (.bool false)) Try.checked.mixed known_none 200
              (ps := [ltI (i : Int) (L.length : Int) = true, i < L.length, loadL Try.prog (cR L) (i * 2) 44 = some (.agg [.v (.int .i64 (intAt (cR L) (i * 2))), .v (.int .i64 (intAt (cR L) (i * 2 + 1)))]), ltI (intAt (cR L) (i * 2)) lo = false, false = false, false = false, false = false, false = false, ltI (intAt (cR L) (i * 2 + 1)) (intAt (cR L) (i * 2)) = false, false = false, false = false, false = false, ltI hi (intAt (cR L) (i * 2 + 1)) = true])
              [.go, .b true, .sym, .sym, .go, .go, .go, .go, .go, .go, .go, .b false, .go, .b false, .go, .b false, .go, .b false, .go, .b false, .go, .go, .go, .b false, .go, .b false, .go, .b false, .go, .b false, .go, .go, .b true, .go] (by kernel_rfl) (by kernel_rfl) ⟨hq, hlt, hld, hq1, rfl, rfl, rfl, rfl, hq2, rfl, rfl, rfl, hq3, trivial⟩ rfl
            rw [nope (by have := ltI_true hq3; omega)] at hr
            exact hr
          | false =>
            have a1 := ltI_false hq1
            have a2 := ltI_false hq2
            have a3 := ltI_false hq3
            refine .inl ⟨⟨i + 1, hlt, fun j r hj he => ?_⟩, by show L.length - (i + 1) < L.length - i; omega, ?_⟩
            · by_cases hji : j = i
              · subst hji
                rw [List.getElem?_eq_getElem hlt] at he
                cases he
                rw [e1, e2] at a2
                rw [e1] at a1
                rw [e2] at a3
                exact ⟨a1, a2, a3⟩
              · exact hi2 j r (by omega) he
            · exact goes_cut Try.checked.mixed known_none 200 (e := .normal) (m := 1)
                (ps := [ltI (i : Int) (L.length : Int) = true, i < L.length, loadL Try.prog (cR L) (i * 2) 44 = some (.agg [.v (.int .i64 (intAt (cR L) (i * 2))), .v (.int .i64 (intAt (cR L) (i * 2 + 1)))]), ltI (intAt (cR L) (i * 2)) lo = false, false = false, false = false, false = false, false = false, ltI (intAt (cR L) (i * 2 + 1)) (intAt (cR L) (i * 2)) = false, false = false, false = false, false = false, ltI hi (intAt (cR L) (i * 2 + 1)) = false, inR .i64 ((i : Int) + 1)])
                [.go, .b true, .sym, .sym, .go, .go, .go, .go, .go, .go, .go, .b false, .go, .b false, .go, .b false, .go, .b false, .go, .b false, .go, .go, .go, .b false, .go, .b false, .go, .b false, .go, .b false, .go, .go, .b false, .sym, .go] (by kernel_rfl) (by kernel_rfl) ⟨hq, hlt, hld, hq1, rfl, rfl, rfl, rfl, hq2, rfl, rfl, rfl, hq3, ⟨by omega, by omega⟩, trivial⟩ rfl (Nat.zero_le _)
                ⟨⟨nb_v _, nb_v _, nb_xl (cR_plain L), nb_v _, nb_v _, trivial⟩, trivial, rfl⟩
  · obtain ⟨i, hi1, hi2⟩ := i
    have hall := okTo_all hi2 hi'
    exact goes_out Try.checked.mixed known_none 200 (ps := []) (v := .v (.bool true)) [.go] (by kernel_rfl) (by kernel_rfl) trivial (by rw [decide_eq_true hall]; rfl)
end
end Go.Proofs.Ytchlehpjpgeejaa
