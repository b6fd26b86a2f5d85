/- Least terms, by Euclid's rounds. -/
import Derived.Test.YtchlehpjpgeejaaP1
namespace Go.Proofs.Ytchlehpjpgeejaa
set_option linter.unusedVariables false
set_option linter.unusedSimpArgs false
open Go Ev
noncomputable section

theorem eqI_true {a b : Int} (h : eqI a b = true) : a = b := by rw [eqI_iff] at h; exact of_decide_eq_true h
theorem eqI_false {a b : Int} (h : eqI a b = false) : a ≠ b := by rw [eqI_iff] at h; exact of_decide_eq_false h
/-- Two numbers on the way to their common divisor. -/
def Euc (n d : Int) : Type := { p : Int × Int // 0 ≤ p.1 ∧ 0 ≤ p.2 ∧ Int.gcd p.1 p.2 = Int.gcd n d }
theorem euc_next {n d : Int} (i : Euc n d) (hb : i.1.2 ≠ 0) : ∃ j : Euc n d, j.1 = (i.1.2, i.1.1.tmod i.1.2) ∧ j.1.2.toNat < i.1.2.toNat := by
  obtain ⟨⟨a, b⟩, h1, h2, h3⟩ := i
  simp only at h1 h2 h3 hb
  have hm : a.tmod b = a % b := Int.tmod_eq_emod_of_nonneg h1
  have h4 := Int.emod_nonneg a hb
  have h5 := Int.emod_lt_of_pos a (show 0 < b by omega)
  refine ⟨⟨(b, a.tmod b), h2, by rw [hm]; exact h4, ?_⟩, rfl, ?_⟩
  · rw [← h3]
    show Nat.gcd b.natAbs (a.tmod b).natAbs = Nat.gcd a.natAbs b.natAbs
    rw [Int.natAbs_tmod, Nat.gcd_comm, ← Nat.gcd_rec, Nat.gcd_comm]
  · show (a.tmod b).toNat < b.toNat
    rw [hm]
    omega
theorem euc_end {n d : Int} (i : Euc n d) (hd : 1 ≤ d) (hb : i.1.2 = 0) : i.1.1 = (Int.gcd n d : Int) ∧ 1 ≤ i.1.1 := by
  obtain ⟨⟨a, b⟩, h1, h2, h3⟩ := i
  simp only at h1 h2 h3 hb ⊢
  subst hb
  have hg : 0 < Int.gcd n d := Int.gcd_pos_of_ne_zero_right n (by omega)
  have : Int.gcd a 0 = a.natAbs := by simp
  rw [this] at h3
  omega
theorem div_in {n g : Int} (h0 : 0 ≤ n) (h1 : n ≤ 9223372036854775807) (hg : 1 ≤ g) : n.tdiv g = n / g ∧ -9223372036854775808 ≤ n.tdiv g ∧ n.tdiv g ≤ 9223372036854775807 := by
  have e : n.tdiv g = n / g := Int.tdiv_eq_ediv_of_nonneg h0
  have h2 : 0 ≤ n / g := Int.ediv_nonneg h0 (by omega)
  have h3 : n / g ≤ n := Int.ediv_le_self g h0
  rw [e]
  exact ⟨rfl, by omega, by omega⟩

def ltB : Code := bodyC Try.f95
def ltT (n d a b : Int) : Ev.Lit := ⟨[(0, .v (.int .i64 n)), (1, .v (.int .i64 d)), (6, .v (.int .i64 a)), (7, .v (.int .i64 b))], [], 0, []⟩
theorem leastTerms_g (n d : Int) (h0 : 0 ≤ n) (h1 : n ≤ 9223372036854775807) (h2 : 1 ≤ d) (h3 : d ≤ 9223372036854775807) :
    Gives Try.prog 95 [.int .i64 n, .int .i64 d] (.tuple #[.int .i64 (n / (Int.gcd n d : Int)), .int .i64 (d / (Int.gcd n d : Int))]) := by
  refine gives_parts (args := [.v (.int .i64 n), .v (.int .i64 d)]) 22 Try.func95 (by kernel_rfl) (by kernel_rfl) (by kernel_rfl) rfl (fun w => ?_)
  refine goes_spine (T' := argLit [.v (.int .i64 n), .v (.int .i64 d)]) (by kernel_rfl) (goes_told Try.checked.mixed known_none 200 (e := .normal) (ps := []) [.go, .go] (by kernel_rfl) (by kernel_rfl) trivial rfl) ?_
  refine goes_spine (T' := ltT n d n d) (by kernel_rfl) (goes_told Try.checked.mixed known_none 200 (e := .normal) (ps := []) [.go, .go, .go, .go] (by kernel_rfl) (by kernel_rfl) trivial rfl) ?_
  refine goes_spineQ (ι := Euc n d) (T := fun i => ltT n d i.1.1 i.1.2) (R := fun i => i.1.2 = 0) (by kernel_rfl)
    (goes_blockloop (by kernel_rfl) (fun i : Euc n d => ltT n d i.1.1 i.1.2) (fun i => i.1.2.toNat) (fun i => ?_) ⟨(n, d), h0, by omega, rfl⟩) (fun i hi => ?_)
  · cases hq : (!eqI i.1.2 0) with
    | true =>
      have hb : i.1.2 ≠ 0 := eqI_false (by simpa using hq)
      obtain ⟨j, hj, hlt⟩ := euc_next i hb
      refine .inl ⟨j, hlt, ?_⟩
      rw [hj]
      exact goes_told Try.checked.mixed known_none 200 (e := .normal) (ps := [(!eqI i.1.2 0) = true, i.1.2 ≠ 0]) [.go, .go, .b true, .go, .go, .go, .sym, .go, .go] (by kernel_rfl) (by kernel_rfl) ⟨hq, hb, trivial⟩ rfl
    | false =>
      have hb : i.1.2 = 0 := eqI_true (by simpa using hq)
      exact .inr (.inl ⟨hb, goes_told Try.checked.mixed known_none 200 (e := .exit 0) (ps := [(!eqI i.1.2 0) = false]) [.go, .go, .b false] (by kernel_rfl) (by kernel_rfl) ⟨hq, trivial⟩ rfl⟩)
  · obtain ⟨e1, e2⟩ := euc_end i h2 hi
    obtain ⟨d1, d2, d3⟩ := div_in h0 h1 e2
    obtain ⟨d4, d5, d6⟩ := div_in (show 0 ≤ d by omega) h3 e2
    exact goes_out Try.checked.mixed known_none 200 (ps := [i.1.1 ≠ 0, inR .i64 (n.tdiv i.1.1), i.1.1 ≠ 0, inR .i64 (d.tdiv i.1.1)]) (v := .tup [.v (.int .i64 (n.tdiv i.1.1)), .v (.int .i64 (d.tdiv i.1.1))]) [.go, .go, .sym, .go, .go, .sym, .go, .go]
      (by kernel_rfl) (by kernel_rfl) ⟨by omega, ⟨d2, d3⟩, by omega, ⟨d5, d6⟩, trivial⟩ (by rw [d1, d4, e1]; rfl)
def frT (n d a b : Int) : Ev.Lit := ⟨[(0, .v (.int .i64 n)), (1, .v (.int .i64 d)), (4, .ptr 0 0), (5, .v (.int .i64 a)), (6, .v (.int .i64 b))], [], 1, [(0, .cells [.v (.int .i64 0), .v (.int .i64 0)] 51)]⟩
def frT0 (n d : Int) : Ev.Lit := ⟨[(0, .v (.int .i64 n)), (1, .v (.int .i64 d)), (4, .ptr 0 0)], [], 1, [(0, .cells [.v (.int .i64 0), .v (.int .i64 0)] 51)]⟩
theorem Fraction_g (n d : Int) (h0 : 0 ≤ n) (h1 : n ≤ 9223372036854775807) (h2 : 1 ≤ d) (h3 : d ≤ 9223372036854775807) :
    Gives Try.prog 87 [.int .i64 n, .int .i64 d] (.agg #[.int .i64 (n / (Int.gcd n d : Int)), .int .i64 (d / (Int.gcd n d : Int))]) := by
  refine gives_parts (args := [.v (.int .i64 n), .v (.int .i64 d)]) 22 Try.func87 (by kernel_rfl) (by kernel_rfl) (by kernel_rfl) rfl (fun w => ?_)
  refine goes_spine (T' := frT0 n d) (by kernel_rfl) (goes_told Try.checked.mixed known_none 200 (e := .normal) (ps := []) [.go] (by kernel_rfl) (by kernel_rfl) trivial rfl) ?_
  refine goes_spine (T' := frT n d n d) (by kernel_rfl) (goes_told Try.checked.mixed known_none 200 (e := .normal) (ps := []) [.go, .go, .go, .go] (by kernel_rfl) (by kernel_rfl) trivial rfl) ?_
  refine goes_spineQ (ι := Euc n d) (T := fun i => frT n d i.1.1 i.1.2) (R := fun i => i.1.2 = 0) (by kernel_rfl)
    (goes_blockloop (by kernel_rfl) (fun i : Euc n d => frT n d i.1.1 i.1.2) (fun i => i.1.2.toNat) (fun i => ?_) ⟨(n, d), h0, by omega, rfl⟩) (fun i hi => ?_)
  · cases hq : (!eqI i.1.2 0) with
    | true =>
      have hb : i.1.2 ≠ 0 := eqI_false (by simpa using hq)
      obtain ⟨j, hj, hlt⟩ := euc_next i hb
      refine .inl ⟨j, hlt, ?_⟩
      rw [hj]
      exact goes_told Try.checked.mixed known_none 200 (e := .normal) (ps := [(!eqI i.1.2 0) = true, i.1.2 ≠ 0]) [.go, .go, .b true, .go, .go, .go, .sym, .go, .go] (by kernel_rfl) (by kernel_rfl) ⟨hq, hb, trivial⟩ rfl
    | false =>
      have hb : i.1.2 = 0 := eqI_true (by simpa using hq)
      exact .inr (.inl ⟨hb, goes_told Try.checked.mixed known_none 200 (e := .exit 0) (ps := [(!eqI i.1.2 0) = false]) [.go, .go, .b false] (by kernel_rfl) (by kernel_rfl) ⟨hq, trivial⟩ rfl⟩)
  · obtain ⟨e1, e2⟩ := euc_end i h2 hi
    obtain ⟨d1, d2, d3⟩ := div_in h0 h1 e2
    obtain ⟨d4, d5, d6⟩ := div_in (show 0 ≤ d by omega) h3 e2
    exact goes_out Try.checked.mixed known_none 200 (ps := [i.1.1 ≠ 0, inR .i64 (n.tdiv i.1.1), i.1.1 ≠ 0, inR .i64 (d.tdiv i.1.1)]) (v := .agg [.v (.int .i64 (n.tdiv i.1.1)), .v (.int .i64 (d.tdiv i.1.1))]) [.go, .go, .sym, .go, .go, .sym, .go, .go]
      (by kernel_rfl) (by kernel_rfl) ⟨by omega, ⟨d2, d3⟩, by omega, ⟨d5, d6⟩, trivial⟩ (by rw [d1, d4, e1]; rfl)
end
end Go.Proofs.Ytchlehpjpgeejaa
