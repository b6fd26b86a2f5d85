/- Most and Fewest on both sides. -/
import Derived.Test.YtmankoikpadkpaaAw2
namespace Go.Proofs.Ytmankoikpadkpaa
set_option linter.unusedVariables false
set_option linter.unusedSimpArgs false
open Go Ev
noncomputable section

def mostN (n : Int) : Int := if n = 2 then 3 else if n = 3 then 12 else if n = 4 then 39 else 0
def mostE (n : Int) : Int := if 0 ≤ n ∧ n ≤ 4 then 0 else 2
def fewN (n : Int) : Int := if 3 ≤ n ∧ n ≤ 39 then (if n = 3 then 2 else if n ≤ 12 then 3 else 4) else 0
def fewE (n : Int) : Int := if 1 ≤ n ∧ n ≤ 39 then (if n < 3 then 5 else 0) else 2
theorem small_or (k : Nat) (n : Int) : (∃ m : Nat, n = .negSucc m) ∨ (∃ m : Nat, n = .ofNat (m + k)) ∨ (0 ≤ n ∧ n < k) := by
  cases n with
  | ofNat m =>
    by_cases h : m < k
    · exact .inr (.inr ⟨by simp, by simp; exact h⟩)
    · exact .inr (.inl ⟨m - k, by congr 1; omega⟩)
  | negSucc m => exact .inl ⟨m, rfl⟩
theorem most_neg (m : Nat) : Gives Try.prog 28 [.int .i64 (.negSucc m)] (.tuple #[.int .i64 (mostN (.negSucc m)), .int .i64 (mostE (.negSucc m))]) := by
  have h1 : mostN (.negSucc m) = 0 := by (unfold mostN; (try simp only [Int.ofNat_eq_natCast]); repeat (first | rfl | (rw [if_pos (by omega)]; done) | rw [if_neg (by omega)] | rw [if_pos (by omega)]))
  have h2 : mostE (.negSucc m) = 2 := by (unfold mostE; (try simp only [Int.ofNat_eq_natCast]); repeat (first | rfl | (rw [if_pos (by omega)]; done) | rw [if_neg (by omega)] | rw [if_pos (by omega)]))
  rw [h1, h2]
  exact gives_run (v := .tup [.v (.int .i64 0), .v (.int .i64 2)]) (args := [.v (.int .i64 (.negSucc m))]) Try.checked.mixed noKnown 1000 (by kernel_rfl) rfl rfl
theorem most_big (m : Nat) : Gives Try.prog 28 [.int .i64 (.ofNat (m + 5))] (.tuple #[.int .i64 (mostN (.ofNat (m + 5))), .int .i64 (mostE (.ofNat (m + 5)))]) := by
  have h1 : mostN (.ofNat (m + 5)) = 0 := by (unfold mostN; (try simp only [Int.ofNat_eq_natCast]); repeat (first | rfl | (rw [if_pos (by omega)]; done) | rw [if_neg (by omega)] | rw [if_pos (by omega)]))
  have h2 : mostE (.ofNat (m + 5)) = 2 := by (unfold mostE; (try simp only [Int.ofNat_eq_natCast]); repeat (first | rfl | (rw [if_pos (by omega)]; done) | rw [if_neg (by omega)] | rw [if_pos (by omega)]))
  rw [h1, h2]
  exact gives_run (v := .tup [.v (.int .i64 0), .v (.int .i64 2)]) (args := [.v (.int .i64 (.ofNat (m + 5)))]) Try.checked.mixed noKnown 1000 (by kernel_rfl) rfl rfl
theorem most_0 : Gives Try.prog 28 [.int .i64 (.ofNat 0)] (.tuple #[.int .i64 (mostN (.ofNat 0)), .int .i64 (mostE (.ofNat 0))]) := by
  have h1 : mostN (.ofNat 0) = 0 := by (unfold mostN; (try simp only [Int.ofNat_eq_natCast]); repeat (first | rfl | (rw [if_pos (by omega)]; done) | rw [if_neg (by omega)] | rw [if_pos (by omega)]))
  have h2 : mostE (.ofNat 0) = 0 := by (unfold mostE; (try simp only [Int.ofNat_eq_natCast]); repeat (first | rfl | (rw [if_pos (by omega)]; done) | rw [if_neg (by omega)] | rw [if_pos (by omega)]))
  rw [h1, h2]
  exact gives_run (v := .tup [.v (.int .i64 0), .v (.int .i64 0)]) (args := [.v (.int .i64 (.ofNat 0))]) Try.checked.mixed noKnown 1000 (by kernel_rfl) rfl rfl
theorem most_1 : Gives Try.prog 28 [.int .i64 (.ofNat 1)] (.tuple #[.int .i64 (mostN (.ofNat 1)), .int .i64 (mostE (.ofNat 1))]) := by
  have h1 : mostN (.ofNat 1) = 0 := by (unfold mostN; (try simp only [Int.ofNat_eq_natCast]); repeat (first | rfl | (rw [if_pos (by omega)]; done) | rw [if_neg (by omega)] | rw [if_pos (by omega)]))
  have h2 : mostE (.ofNat 1) = 0 := by (unfold mostE; (try simp only [Int.ofNat_eq_natCast]); repeat (first | rfl | (rw [if_pos (by omega)]; done) | rw [if_neg (by omega)] | rw [if_pos (by omega)]))
  rw [h1, h2]
  exact gives_run (v := .tup [.v (.int .i64 0), .v (.int .i64 0)]) (args := [.v (.int .i64 (.ofNat 1))]) Try.checked.mixed noKnown 1000 (by kernel_rfl) rfl rfl
theorem most_2 : Gives Try.prog 28 [.int .i64 (.ofNat 2)] (.tuple #[.int .i64 (mostN (.ofNat 2)), .int .i64 (mostE (.ofNat 2))]) := by
  have h1 : mostN (.ofNat 2) = 3 := by (unfold mostN; (try simp only [Int.ofNat_eq_natCast]); repeat (first | rfl | (rw [if_pos (by omega)]; done) | rw [if_neg (by omega)] | rw [if_pos (by omega)]))
  have h2 : mostE (.ofNat 2) = 0 := by (unfold mostE; (try simp only [Int.ofNat_eq_natCast]); repeat (first | rfl | (rw [if_pos (by omega)]; done) | rw [if_neg (by omega)] | rw [if_pos (by omega)]))
  rw [h1, h2]
  exact gives_run (v := .tup [.v (.int .i64 3), .v (.int .i64 0)]) (args := [.v (.int .i64 (.ofNat 2))]) Try.checked.mixed noKnown 1000 (by kernel_rfl) rfl rfl
theorem most_3 : Gives Try.prog 28 [.int .i64 (.ofNat 3)] (.tuple #[.int .i64 (mostN (.ofNat 3)), .int .i64 (mostE (.ofNat 3))]) := by
  have h1 : mostN (.ofNat 3) = 12 := by (unfold mostN; (try simp only [Int.ofNat_eq_natCast]); repeat (first | rfl | (rw [if_pos (by omega)]; done) | rw [if_neg (by omega)] | rw [if_pos (by omega)]))
  have h2 : mostE (.ofNat 3) = 0 := by (unfold mostE; (try simp only [Int.ofNat_eq_natCast]); repeat (first | rfl | (rw [if_pos (by omega)]; done) | rw [if_neg (by omega)] | rw [if_pos (by omega)]))
  rw [h1, h2]
  exact gives_run (v := .tup [.v (.int .i64 12), .v (.int .i64 0)]) (args := [.v (.int .i64 (.ofNat 3))]) Try.checked.mixed noKnown 1000 (by kernel_rfl) rfl rfl
theorem most_4 : Gives Try.prog 28 [.int .i64 (.ofNat 4)] (.tuple #[.int .i64 (mostN (.ofNat 4)), .int .i64 (mostE (.ofNat 4))]) := by
  have h1 : mostN (.ofNat 4) = 39 := by (unfold mostN; (try simp only [Int.ofNat_eq_natCast]); repeat (first | rfl | (rw [if_pos (by omega)]; done) | rw [if_neg (by omega)] | rw [if_pos (by omega)]))
  have h2 : mostE (.ofNat 4) = 0 := by (unfold mostE; (try simp only [Int.ofNat_eq_natCast]); repeat (first | rfl | (rw [if_pos (by omega)]; done) | rw [if_neg (by omega)] | rw [if_pos (by omega)]))
  rw [h1, h2]
  exact gives_run (v := .tup [.v (.int .i64 39), .v (.int .i64 0)]) (args := [.v (.int .i64 (.ofNat 4))]) Try.checked.mixed noKnown 1000 (by kernel_rfl) rfl rfl
theorem most_g (n : Int) : Gives Try.prog 28 [.int .i64 n] (.tuple #[.int .i64 (mostN n), .int .i64 (mostE n)]) := by
  rcases small_or 5 n with ⟨m, rfl⟩ | ⟨m, rfl⟩ | ⟨h1, h2⟩
  · exact most_neg m
  · exact most_big m
  · have : n = .ofNat 0 ∨ n = .ofNat 1 ∨ n = .ofNat 2 ∨ n = .ofNat 3 ∨ n = .ofNat 4 := by simp only [Int.ofNat_eq_natCast]; omega
    rcases this with rfl | rfl | rfl | rfl | rfl
    · exact most_0
    · exact most_1
    · exact most_2
    · exact most_3
    · exact most_4
theorem rmost_neg (m : Nat) : Gives Try.prog 29 [.int .i64 (.negSucc m)] (.tuple #[.int .i64 (mostN (.negSucc m)), .int .i64 (mostE (.negSucc m))]) := by
  have h1 : mostN (.negSucc m) = 0 := by (unfold mostN; (try simp only [Int.ofNat_eq_natCast]); repeat (first | rfl | (rw [if_pos (by omega)]; done) | rw [if_neg (by omega)] | rw [if_pos (by omega)]))
  have h2 : mostE (.negSucc m) = 2 := by (unfold mostE; (try simp only [Int.ofNat_eq_natCast]); repeat (first | rfl | (rw [if_pos (by omega)]; done) | rw [if_neg (by omega)] | rw [if_pos (by omega)]))
  rw [h1, h2]
  exact gives_run (v := .tup [.v (.int .i64 0), .v (.int .i64 2)]) (args := [.v (.int .i64 (.negSucc m))]) Try.checked.mixed noKnown 1000 (by kernel_rfl) rfl rfl
theorem rmost_big (m : Nat) : Gives Try.prog 29 [.int .i64 (.ofNat (m + 5))] (.tuple #[.int .i64 (mostN (.ofNat (m + 5))), .int .i64 (mostE (.ofNat (m + 5)))]) := by
  have h1 : mostN (.ofNat (m + 5)) = 0 := by (unfold mostN; (try simp only [Int.ofNat_eq_natCast]); repeat (first | rfl | (rw [if_pos (by omega)]; done) | rw [if_neg (by omega)] | rw [if_pos (by omega)]))
  have h2 : mostE (.ofNat (m + 5)) = 2 := by (unfold mostE; (try simp only [Int.ofNat_eq_natCast]); repeat (first | rfl | (rw [if_pos (by omega)]; done) | rw [if_neg (by omega)] | rw [if_pos (by omega)]))
  rw [h1, h2]
  exact gives_run (v := .tup [.v (.int .i64 0), .v (.int .i64 2)]) (args := [.v (.int .i64 (.ofNat (m + 5)))]) Try.checked.mixed noKnown 1000 (by kernel_rfl) rfl rfl
theorem rmost_0 : Gives Try.prog 29 [.int .i64 (.ofNat 0)] (.tuple #[.int .i64 (mostN (.ofNat 0)), .int .i64 (mostE (.ofNat 0))]) := by
  have h1 : mostN (.ofNat 0) = 0 := by (unfold mostN; (try simp only [Int.ofNat_eq_natCast]); repeat (first | rfl | (rw [if_pos (by omega)]; done) | rw [if_neg (by omega)] | rw [if_pos (by omega)]))
  have h2 : mostE (.ofNat 0) = 0 := by (unfold mostE; (try simp only [Int.ofNat_eq_natCast]); repeat (first | rfl | (rw [if_pos (by omega)]; done) | rw [if_neg (by omega)] | rw [if_pos (by omega)]))
  rw [h1, h2]
  exact gives_run (v := .tup [.v (.int .i64 0), .v (.int .i64 0)]) (args := [.v (.int .i64 (.ofNat 0))]) Try.checked.mixed noKnown 1000 (by kernel_rfl) rfl rfl
theorem rmost_1 : Gives Try.prog 29 [.int .i64 (.ofNat 1)] (.tuple #[.int .i64 (mostN (.ofNat 1)), .int .i64 (mostE (.ofNat 1))]) := by
  have h1 : mostN (.ofNat 1) = 0 := by (unfold mostN; (try simp only [Int.ofNat_eq_natCast]); repeat (first | rfl | (rw [if_pos (by omega)]; done) | rw [if_neg (by omega)] | rw [if_pos (by omega)]))
  have h2 : mostE (.ofNat 1) = 0 := by (unfold mostE; (try simp only [Int.ofNat_eq_natCast]); repeat (first | rfl | (rw [if_pos (by omega)]; done) | rw [if_neg (by omega)] | rw [if_pos (by omega)]))
  rw [h1, h2]
  exact gives_run (v := .tup [.v (.int .i64 0), .v (.int .i64 0)]) (args := [.v (.int .i64 (.ofNat 1))]) Try.checked.mixed noKnown 1000 (by kernel_rfl) rfl rfl
theorem rmost_2 : Gives Try.prog 29 [.int .i64 (.ofNat 2)] (.tuple #[.int .i64 (mostN (.ofNat 2)), .int .i64 (mostE (.ofNat 2))]) := by
  have h1 : mostN (.ofNat 2) = 3 := by (unfold mostN; (try simp only [Int.ofNat_eq_natCast]); repeat (first | rfl | (rw [if_pos (by omega)]; done) | rw [if_neg (by omega)] | rw [if_pos (by omega)]))
  have h2 : mostE (.ofNat 2) = 0 := by (unfold mostE; (try simp only [Int.ofNat_eq_natCast]); repeat (first | rfl | (rw [if_pos (by omega)]; done) | rw [if_neg (by omega)] | rw [if_pos (by omega)]))
  rw [h1, h2]
  exact gives_run (v := .tup [.v (.int .i64 3), .v (.int .i64 0)]) (args := [.v (.int .i64 (.ofNat 2))]) Try.checked.mixed noKnown 1000 (by kernel_rfl) rfl rfl
theorem rmost_3 : Gives Try.prog 29 [.int .i64 (.ofNat 3)] (.tuple #[.int .i64 (mostN (.ofNat 3)), .int .i64 (mostE (.ofNat 3))]) := by
  have h1 : mostN (.ofNat 3) = 12 := by (unfold mostN; (try simp only [Int.ofNat_eq_natCast]); repeat (first | rfl | (rw [if_pos (by omega)]; done) | rw [if_neg (by omega)] | rw [if_pos (by omega)]))
  have h2 : mostE (.ofNat 3) = 0 := by (unfold mostE; (try simp only [Int.ofNat_eq_natCast]); repeat (first | rfl | (rw [if_pos (by omega)]; done) | rw [if_neg (by omega)] | rw [if_pos (by omega)]))
  rw [h1, h2]
  exact gives_run (v := .tup [.v (.int .i64 12), .v (.int .i64 0)]) (args := [.v (.int .i64 (.ofNat 3))]) Try.checked.mixed noKnown 1000 (by kernel_rfl) rfl rfl
theorem rmost_4 : Gives Try.prog 29 [.int .i64 (.ofNat 4)] (.tuple #[.int .i64 (mostN (.ofNat 4)), .int .i64 (mostE (.ofNat 4))]) := by
  have h1 : mostN (.ofNat 4) = 39 := by (unfold mostN; (try simp only [Int.ofNat_eq_natCast]); repeat (first | rfl | (rw [if_pos (by omega)]; done) | rw [if_neg (by omega)] | rw [if_pos (by omega)]))
  have h2 : mostE (.ofNat 4) = 0 := by (unfold mostE; (try simp only [Int.ofNat_eq_natCast]); repeat (first | rfl | (rw [if_pos (by omega)]; done) | rw [if_neg (by omega)] | rw [if_pos (by omega)]))
  rw [h1, h2]
  exact gives_run (v := .tup [.v (.int .i64 39), .v (.int .i64 0)]) (args := [.v (.int .i64 (.ofNat 4))]) Try.checked.mixed noKnown 1000 (by kernel_rfl) rfl rfl
theorem rmost_g (n : Int) : Gives Try.prog 29 [.int .i64 n] (.tuple #[.int .i64 (mostN n), .int .i64 (mostE n)]) := by
  rcases small_or 5 n with ⟨m, rfl⟩ | ⟨m, rfl⟩ | ⟨h1, h2⟩
  · exact rmost_neg m
  · exact rmost_big m
  · have : n = .ofNat 0 ∨ n = .ofNat 1 ∨ n = .ofNat 2 ∨ n = .ofNat 3 ∨ n = .ofNat 4 := by simp only [Int.ofNat_eq_natCast]; omega
    rcases this with rfl | rfl | rfl | rfl | rfl
    · exact rmost_0
    · exact rmost_1
    · exact rmost_2
    · exact rmost_3
    · exact rmost_4
theorem few_neg (m : Nat) : Gives Try.prog 30 [.int .i64 (.negSucc m)] (.tuple #[.int .i64 (fewN (.negSucc m)), .int .i64 (fewE (.negSucc m))]) := by
  have h1 : fewN (.negSucc m) = 0 := by (unfold fewN; (try simp only [Int.ofNat_eq_natCast]); repeat (first | rfl | (rw [if_pos (by omega)]; done) | rw [if_neg (by omega)] | rw [if_pos (by omega)]))
  have h2 : fewE (.negSucc m) = 2 := by (unfold fewE; (try simp only [Int.ofNat_eq_natCast]); repeat (first | rfl | (rw [if_pos (by omega)]; done) | rw [if_neg (by omega)] | rw [if_pos (by omega)]))
  rw [h1, h2]
  exact gives_run (v := .tup [.v (.int .i64 0), .v (.int .i64 2)]) (args := [.v (.int .i64 (.negSucc m))]) Try.checked.mixed noKnown 1000 (by kernel_rfl) rfl rfl
theorem few_big (m : Nat) : Gives Try.prog 30 [.int .i64 (.ofNat (m + 40))] (.tuple #[.int .i64 (fewN (.ofNat (m + 40))), .int .i64 (fewE (.ofNat (m + 40)))]) := by
  have h1 : fewN (.ofNat (m + 40)) = 0 := by (unfold fewN; (try simp only [Int.ofNat_eq_natCast]); repeat (first | rfl | (rw [if_pos (by omega)]; done) | rw [if_neg (by omega)] | rw [if_pos (by omega)]))
  have h2 : fewE (.ofNat (m + 40)) = 2 := by (unfold fewE; (try simp only [Int.ofNat_eq_natCast]); repeat (first | rfl | (rw [if_pos (by omega)]; done) | rw [if_neg (by omega)] | rw [if_pos (by omega)]))
  rw [h1, h2]
  exact gives_run (v := .tup [.v (.int .i64 0), .v (.int .i64 2)]) (args := [.v (.int .i64 (.ofNat (m + 40)))]) Try.checked.mixed noKnown 1000 (by kernel_rfl) rfl rfl
theorem few_0 : Gives Try.prog 30 [.int .i64 (.ofNat 0)] (.tuple #[.int .i64 (fewN (.ofNat 0)), .int .i64 (fewE (.ofNat 0))]) := by
  have h1 : fewN (.ofNat 0) = 0 := by (unfold fewN; (try simp only [Int.ofNat_eq_natCast]); repeat (first | rfl | (rw [if_pos (by omega)]; done) | rw [if_neg (by omega)] | rw [if_pos (by omega)]))
  have h2 : fewE (.ofNat 0) = 2 := by (unfold fewE; (try simp only [Int.ofNat_eq_natCast]); repeat (first | rfl | (rw [if_pos (by omega)]; done) | rw [if_neg (by omega)] | rw [if_pos (by omega)]))
  rw [h1, h2]
  exact gives_run (v := .tup [.v (.int .i64 0), .v (.int .i64 2)]) (args := [.v (.int .i64 (.ofNat 0))]) Try.checked.mixed noKnown 1000 (by kernel_rfl) rfl rfl
theorem few_1 : Gives Try.prog 30 [.int .i64 (.ofNat 1)] (.tuple #[.int .i64 (fewN (.ofNat 1)), .int .i64 (fewE (.ofNat 1))]) := by
  have h1 : fewN (.ofNat 1) = 0 := by (unfold fewN; (try simp only [Int.ofNat_eq_natCast]); repeat (first | rfl | (rw [if_pos (by omega)]; done) | rw [if_neg (by omega)] | rw [if_pos (by omega)]))
  have h2 : fewE (.ofNat 1) = 5 := by (unfold fewE; (try simp only [Int.ofNat_eq_natCast]); repeat (first | rfl | (rw [if_pos (by omega)]; done) | rw [if_neg (by omega)] | rw [if_pos (by omega)]))
  rw [h1, h2]
  exact gives_run (v := .tup [.v (.int .i64 0), .v (.int .i64 5)]) (args := [.v (.int .i64 (.ofNat 1))]) Try.checked.mixed noKnown 1000 (by kernel_rfl) rfl rfl
theorem few_2 : Gives Try.prog 30 [.int .i64 (.ofNat 2)] (.tuple #[.int .i64 (fewN (.ofNat 2)), .int .i64 (fewE (.ofNat 2))]) := by
  have h1 : fewN (.ofNat 2) = 0 := by (unfold fewN; (try simp only [Int.ofNat_eq_natCast]); repeat (first | rfl | (rw [if_pos (by omega)]; done) | rw [if_neg (by omega)] | rw [if_pos (by omega)]))
  have h2 : fewE (.ofNat 2) = 5 := by (unfold fewE; (try simp only [Int.ofNat_eq_natCast]); repeat (first | rfl | (rw [if_pos (by omega)]; done) | rw [if_neg (by omega)] | rw [if_pos (by omega)]))
  rw [h1, h2]
  exact gives_run (v := .tup [.v (.int .i64 0), .v (.int .i64 5)]) (args := [.v (.int .i64 (.ofNat 2))]) Try.checked.mixed noKnown 1000 (by kernel_rfl) rfl rfl
theorem few_3 : Gives Try.prog 30 [.int .i64 (.ofNat 3)] (.tuple #[.int .i64 (fewN (.ofNat 3)), .int .i64 (fewE (.ofNat 3))]) := by
  have h1 : fewN (.ofNat 3) = 2 := by (unfold fewN; (try simp only [Int.ofNat_eq_natCast]); repeat (first | rfl | (rw [if_pos (by omega)]; done) | rw [if_neg (by omega)] | rw [if_pos (by omega)]))
  have h2 : fewE (.ofNat 3) = 0 := by (unfold fewE; (try simp only [Int.ofNat_eq_natCast]); repeat (first | rfl | (rw [if_pos (by omega)]; done) | rw [if_neg (by omega)] | rw [if_pos (by omega)]))
  rw [h1, h2]
  exact gives_run (v := .tup [.v (.int .i64 2), .v (.int .i64 0)]) (args := [.v (.int .i64 (.ofNat 3))]) Try.checked.mixed noKnown 1000 (by kernel_rfl) rfl rfl
theorem few_4 : Gives Try.prog 30 [.int .i64 (.ofNat 4)] (.tuple #[.int .i64 (fewN (.ofNat 4)), .int .i64 (fewE (.ofNat 4))]) := by
  have h1 : fewN (.ofNat 4) = 3 := by (unfold fewN; (try simp only [Int.ofNat_eq_natCast]); repeat (first | rfl | (rw [if_pos (by omega)]; done) | rw [if_neg (by omega)] | rw [if_pos (by omega)]))
  have h2 : fewE (.ofNat 4) = 0 := by (unfold fewE; (try simp only [Int.ofNat_eq_natCast]); repeat (first | rfl | (rw [if_pos (by omega)]; done) | rw [if_neg (by omega)] | rw [if_pos (by omega)]))
  rw [h1, h2]
  exact gives_run (v := .tup [.v (.int .i64 3), .v (.int .i64 0)]) (args := [.v (.int .i64 (.ofNat 4))]) Try.checked.mixed noKnown 1000 (by kernel_rfl) rfl rfl
theorem few_5 : Gives Try.prog 30 [.int .i64 (.ofNat 5)] (.tuple #[.int .i64 (fewN (.ofNat 5)), .int .i64 (fewE (.ofNat 5))]) := by
  have h1 : fewN (.ofNat 5) = 3 := by (unfold fewN; (try simp only [Int.ofNat_eq_natCast]); repeat (first | rfl | (rw [if_pos (by omega)]; done) | rw [if_neg (by omega)] | rw [if_pos (by omega)]))
  have h2 : fewE (.ofNat 5) = 0 := by (unfold fewE; (try simp only [Int.ofNat_eq_natCast]); repeat (first | rfl | (rw [if_pos (by omega)]; done) | rw [if_neg (by omega)] | rw [if_pos (by omega)]))
  rw [h1, h2]
  exact gives_run (v := .tup [.v (.int .i64 3), .v (.int .i64 0)]) (args := [.v (.int .i64 (.ofNat 5))]) Try.checked.mixed noKnown 1000 (by kernel_rfl) rfl rfl
theorem few_6 : Gives Try.prog 30 [.int .i64 (.ofNat 6)] (.tuple #[.int .i64 (fewN (.ofNat 6)), .int .i64 (fewE (.ofNat 6))]) := by
  have h1 : fewN (.ofNat 6) = 3 := by (unfold fewN; (try simp only [Int.ofNat_eq_natCast]); repeat (first | rfl | (rw [if_pos (by omega)]; done) | rw [if_neg (by omega)] | rw [if_pos (by omega)]))
  have h2 : fewE (.ofNat 6) = 0 := by (unfold fewE; (try simp only [Int.ofNat_eq_natCast]); repeat (first | rfl | (rw [if_pos (by omega)]; done) | rw [if_neg (by omega)] | rw [if_pos (by omega)]))
  rw [h1, h2]
  exact gives_run (v := .tup [.v (.int .i64 3), .v (.int .i64 0)]) (args := [.v (.int .i64 (.ofNat 6))]) Try.checked.mixed noKnown 1000 (by kernel_rfl) rfl rfl
theorem few_7 : Gives Try.prog 30 [.int .i64 (.ofNat 7)] (.tuple #[.int .i64 (fewN (.ofNat 7)), .int .i64 (fewE (.ofNat 7))]) := by
  have h1 : fewN (.ofNat 7) = 3 := by (unfold fewN; (try simp only [Int.ofNat_eq_natCast]); repeat (first | rfl | (rw [if_pos (by omega)]; done) | rw [if_neg (by omega)] | rw [if_pos (by omega)]))
  have h2 : fewE (.ofNat 7) = 0 := by (unfold fewE; (try simp only [Int.ofNat_eq_natCast]); repeat (first | rfl | (rw [if_pos (by omega)]; done) | rw [if_neg (by omega)] | rw [if_pos (by omega)]))
  rw [h1, h2]
  exact gives_run (v := .tup [.v (.int .i64 3), .v (.int .i64 0)]) (args := [.v (.int .i64 (.ofNat 7))]) Try.checked.mixed noKnown 1000 (by kernel_rfl) rfl rfl
theorem few_8 : Gives Try.prog 30 [.int .i64 (.ofNat 8)] (.tuple #[.int .i64 (fewN (.ofNat 8)), .int .i64 (fewE (.ofNat 8))]) := by
  have h1 : fewN (.ofNat 8) = 3 := by (unfold fewN; (try simp only [Int.ofNat_eq_natCast]); repeat (first | rfl | (rw [if_pos (by omega)]; done) | rw [if_neg (by omega)] | rw [if_pos (by omega)]))
  have h2 : fewE (.ofNat 8) = 0 := by (unfold fewE; (try simp only [Int.ofNat_eq_natCast]); repeat (first | rfl | (rw [if_pos (by omega)]; done) | rw [if_neg (by omega)] | rw [if_pos (by omega)]))
  rw [h1, h2]
  exact gives_run (v := .tup [.v (.int .i64 3), .v (.int .i64 0)]) (args := [.v (.int .i64 (.ofNat 8))]) Try.checked.mixed noKnown 1000 (by kernel_rfl) rfl rfl
theorem few_9 : Gives Try.prog 30 [.int .i64 (.ofNat 9)] (.tuple #[.int .i64 (fewN (.ofNat 9)), .int .i64 (fewE (.ofNat 9))]) := by
  have h1 : fewN (.ofNat 9) = 3 := by (unfold fewN; (try simp only [Int.ofNat_eq_natCast]); repeat (first | rfl | (rw [if_pos (by omega)]; done) | rw [if_neg (by omega)] | rw [if_pos (by omega)]))
  have h2 : fewE (.ofNat 9) = 0 := by (unfold fewE; (try simp only [Int.ofNat_eq_natCast]); repeat (first | rfl | (rw [if_pos (by omega)]; done) | rw [if_neg (by omega)] | rw [if_pos (by omega)]))
  rw [h1, h2]
  exact gives_run (v := .tup [.v (.int .i64 3), .v (.int .i64 0)]) (args := [.v (.int .i64 (.ofNat 9))]) Try.checked.mixed noKnown 1000 (by kernel_rfl) rfl rfl
theorem few_10 : Gives Try.prog 30 [.int .i64 (.ofNat 10)] (.tuple #[.int .i64 (fewN (.ofNat 10)), .int .i64 (fewE (.ofNat 10))]) := by
  have h1 : fewN (.ofNat 10) = 3 := by (unfold fewN; (try simp only [Int.ofNat_eq_natCast]); repeat (first | rfl | (rw [if_pos (by omega)]; done) | rw [if_neg (by omega)] | rw [if_pos (by omega)]))
  have h2 : fewE (.ofNat 10) = 0 := by (unfold fewE; (try simp only [Int.ofNat_eq_natCast]); repeat (first | rfl | (rw [if_pos (by omega)]; done) | rw [if_neg (by omega)] | rw [if_pos (by omega)]))
  rw [h1, h2]
  exact gives_run (v := .tup [.v (.int .i64 3), .v (.int .i64 0)]) (args := [.v (.int .i64 (.ofNat 10))]) Try.checked.mixed noKnown 1000 (by kernel_rfl) rfl rfl
theorem few_11 : Gives Try.prog 30 [.int .i64 (.ofNat 11)] (.tuple #[.int .i64 (fewN (.ofNat 11)), .int .i64 (fewE (.ofNat 11))]) := by
  have h1 : fewN (.ofNat 11) = 3 := by (unfold fewN; (try simp only [Int.ofNat_eq_natCast]); repeat (first | rfl | (rw [if_pos (by omega)]; done) | rw [if_neg (by omega)] | rw [if_pos (by omega)]))
  have h2 : fewE (.ofNat 11) = 0 := by (unfold fewE; (try simp only [Int.ofNat_eq_natCast]); repeat (first | rfl | (rw [if_pos (by omega)]; done) | rw [if_neg (by omega)] | rw [if_pos (by omega)]))
  rw [h1, h2]
  exact gives_run (v := .tup [.v (.int .i64 3), .v (.int .i64 0)]) (args := [.v (.int .i64 (.ofNat 11))]) Try.checked.mixed noKnown 1000 (by kernel_rfl) rfl rfl
theorem few_12 : Gives Try.prog 30 [.int .i64 (.ofNat 12)] (.tuple #[.int .i64 (fewN (.ofNat 12)), .int .i64 (fewE (.ofNat 12))]) := by
  have h1 : fewN (.ofNat 12) = 3 := by (unfold fewN; (try simp only [Int.ofNat_eq_natCast]); repeat (first | rfl | (rw [if_pos (by omega)]; done) | rw [if_neg (by omega)] | rw [if_pos (by omega)]))
  have h2 : fewE (.ofNat 12) = 0 := by (unfold fewE; (try simp only [Int.ofNat_eq_natCast]); repeat (first | rfl | (rw [if_pos (by omega)]; done) | rw [if_neg (by omega)] | rw [if_pos (by omega)]))
  rw [h1, h2]
  exact gives_run (v := .tup [.v (.int .i64 3), .v (.int .i64 0)]) (args := [.v (.int .i64 (.ofNat 12))]) Try.checked.mixed noKnown 1000 (by kernel_rfl) rfl rfl
theorem few_13 : Gives Try.prog 30 [.int .i64 (.ofNat 13)] (.tuple #[.int .i64 (fewN (.ofNat 13)), .int .i64 (fewE (.ofNat 13))]) := by
  have h1 : fewN (.ofNat 13) = 4 := by (unfold fewN; (try simp only [Int.ofNat_eq_natCast]); repeat (first | rfl | (rw [if_pos (by omega)]; done) | rw [if_neg (by omega)] | rw [if_pos (by omega)]))
  have h2 : fewE (.ofNat 13) = 0 := by (unfold fewE; (try simp only [Int.ofNat_eq_natCast]); repeat (first | rfl | (rw [if_pos (by omega)]; done) | rw [if_neg (by omega)] | rw [if_pos (by omega)]))
  rw [h1, h2]
  exact gives_run (v := .tup [.v (.int .i64 4), .v (.int .i64 0)]) (args := [.v (.int .i64 (.ofNat 13))]) Try.checked.mixed noKnown 1000 (by kernel_rfl) rfl rfl
theorem few_14 : Gives Try.prog 30 [.int .i64 (.ofNat 14)] (.tuple #[.int .i64 (fewN (.ofNat 14)), .int .i64 (fewE (.ofNat 14))]) := by
  have h1 : fewN (.ofNat 14) = 4 := by (unfold fewN; (try simp only [Int.ofNat_eq_natCast]); repeat (first | rfl | (rw [if_pos (by omega)]; done) | rw [if_neg (by omega)] | rw [if_pos (by omega)]))
  have h2 : fewE (.ofNat 14) = 0 := by (unfold fewE; (try simp only [Int.ofNat_eq_natCast]); repeat (first | rfl | (rw [if_pos (by omega)]; done) | rw [if_neg (by omega)] | rw [if_pos (by omega)]))
  rw [h1, h2]
  exact gives_run (v := .tup [.v (.int .i64 4), .v (.int .i64 0)]) (args := [.v (.int .i64 (.ofNat 14))]) Try.checked.mixed noKnown 1000 (by kernel_rfl) rfl rfl
theorem few_15 : Gives Try.prog 30 [.int .i64 (.ofNat 15)] (.tuple #[.int .i64 (fewN (.ofNat 15)), .int .i64 (fewE (.ofNat 15))]) := by
  have h1 : fewN (.ofNat 15) = 4 := by (unfold fewN; (try simp only [Int.ofNat_eq_natCast]); repeat (first | rfl | (rw [if_pos (by omega)]; done) | rw [if_neg (by omega)] | rw [if_pos (by omega)]))
  have h2 : fewE (.ofNat 15) = 0 := by (unfold fewE; (try simp only [Int.ofNat_eq_natCast]); repeat (first | rfl | (rw [if_pos (by omega)]; done) | rw [if_neg (by omega)] | rw [if_pos (by omega)]))
  rw [h1, h2]
  exact gives_run (v := .tup [.v (.int .i64 4), .v (.int .i64 0)]) (args := [.v (.int .i64 (.ofNat 15))]) Try.checked.mixed noKnown 1000 (by kernel_rfl) rfl rfl
theorem few_16 : Gives Try.prog 30 [.int .i64 (.ofNat 16)] (.tuple #[.int .i64 (fewN (.ofNat 16)), .int .i64 (fewE (.ofNat 16))]) := by
  have h1 : fewN (.ofNat 16) = 4 := by (unfold fewN; (try simp only [Int.ofNat_eq_natCast]); repeat (first | rfl | (rw [if_pos (by omega)]; done) | rw [if_neg (by omega)] | rw [if_pos (by omega)]))
  have h2 : fewE (.ofNat 16) = 0 := by (unfold fewE; (try simp only [Int.ofNat_eq_natCast]); repeat (first | rfl | (rw [if_pos (by omega)]; done) | rw [if_neg (by omega)] | rw [if_pos (by omega)]))
  rw [h1, h2]
  exact gives_run (v := .tup [.v (.int .i64 4), .v (.int .i64 0)]) (args := [.v (.int .i64 (.ofNat 16))]) Try.checked.mixed noKnown 1000 (by kernel_rfl) rfl rfl
theorem few_17 : Gives Try.prog 30 [.int .i64 (.ofNat 17)] (.tuple #[.int .i64 (fewN (.ofNat 17)), .int .i64 (fewE (.ofNat 17))]) := by
  have h1 : fewN (.ofNat 17) = 4 := by (unfold fewN; (try simp only [Int.ofNat_eq_natCast]); repeat (first | rfl | (rw [if_pos (by omega)]; done) | rw [if_neg (by omega)] | rw [if_pos (by omega)]))
  have h2 : fewE (.ofNat 17) = 0 := by (unfold fewE; (try simp only [Int.ofNat_eq_natCast]); repeat (first | rfl | (rw [if_pos (by omega)]; done) | rw [if_neg (by omega)] | rw [if_pos (by omega)]))
  rw [h1, h2]
  exact gives_run (v := .tup [.v (.int .i64 4), .v (.int .i64 0)]) (args := [.v (.int .i64 (.ofNat 17))]) Try.checked.mixed noKnown 1000 (by kernel_rfl) rfl rfl
theorem few_18 : Gives Try.prog 30 [.int .i64 (.ofNat 18)] (.tuple #[.int .i64 (fewN (.ofNat 18)), .int .i64 (fewE (.ofNat 18))]) := by
  have h1 : fewN (.ofNat 18) = 4 := by (unfold fewN; (try simp only [Int.ofNat_eq_natCast]); repeat (first | rfl | (rw [if_pos (by omega)]; done) | rw [if_neg (by omega)] | rw [if_pos (by omega)]))
  have h2 : fewE (.ofNat 18) = 0 := by (unfold fewE; (try simp only [Int.ofNat_eq_natCast]); repeat (first | rfl | (rw [if_pos (by omega)]; done) | rw [if_neg (by omega)] | rw [if_pos (by omega)]))
  rw [h1, h2]
  exact gives_run (v := .tup [.v (.int .i64 4), .v (.int .i64 0)]) (args := [.v (.int .i64 (.ofNat 18))]) Try.checked.mixed noKnown 1000 (by kernel_rfl) rfl rfl
theorem few_19 : Gives Try.prog 30 [.int .i64 (.ofNat 19)] (.tuple #[.int .i64 (fewN (.ofNat 19)), .int .i64 (fewE (.ofNat 19))]) := by
  have h1 : fewN (.ofNat 19) = 4 := by (unfold fewN; (try simp only [Int.ofNat_eq_natCast]); repeat (first | rfl | (rw [if_pos (by omega)]; done) | rw [if_neg (by omega)] | rw [if_pos (by omega)]))
  have h2 : fewE (.ofNat 19) = 0 := by (unfold fewE; (try simp only [Int.ofNat_eq_natCast]); repeat (first | rfl | (rw [if_pos (by omega)]; done) | rw [if_neg (by omega)] | rw [if_pos (by omega)]))
  rw [h1, h2]
  exact gives_run (v := .tup [.v (.int .i64 4), .v (.int .i64 0)]) (args := [.v (.int .i64 (.ofNat 19))]) Try.checked.mixed noKnown 1000 (by kernel_rfl) rfl rfl
theorem few_20 : Gives Try.prog 30 [.int .i64 (.ofNat 20)] (.tuple #[.int .i64 (fewN (.ofNat 20)), .int .i64 (fewE (.ofNat 20))]) := by
  have h1 : fewN (.ofNat 20) = 4 := by (unfold fewN; (try simp only [Int.ofNat_eq_natCast]); repeat (first | rfl | (rw [if_pos (by omega)]; done) | rw [if_neg (by omega)] | rw [if_pos (by omega)]))
  have h2 : fewE (.ofNat 20) = 0 := by (unfold fewE; (try simp only [Int.ofNat_eq_natCast]); repeat (first | rfl | (rw [if_pos (by omega)]; done) | rw [if_neg (by omega)] | rw [if_pos (by omega)]))
  rw [h1, h2]
  exact gives_run (v := .tup [.v (.int .i64 4), .v (.int .i64 0)]) (args := [.v (.int .i64 (.ofNat 20))]) Try.checked.mixed noKnown 1000 (by kernel_rfl) rfl rfl
theorem few_21 : Gives Try.prog 30 [.int .i64 (.ofNat 21)] (.tuple #[.int .i64 (fewN (.ofNat 21)), .int .i64 (fewE (.ofNat 21))]) := by
  have h1 : fewN (.ofNat 21) = 4 := by (unfold fewN; (try simp only [Int.ofNat_eq_natCast]); repeat (first | rfl | (rw [if_pos (by omega)]; done) | rw [if_neg (by omega)] | rw [if_pos (by omega)]))
  have h2 : fewE (.ofNat 21) = 0 := by (unfold fewE; (try simp only [Int.ofNat_eq_natCast]); repeat (first | rfl | (rw [if_pos (by omega)]; done) | rw [if_neg (by omega)] | rw [if_pos (by omega)]))
  rw [h1, h2]
  exact gives_run (v := .tup [.v (.int .i64 4), .v (.int .i64 0)]) (args := [.v (.int .i64 (.ofNat 21))]) Try.checked.mixed noKnown 1000 (by kernel_rfl) rfl rfl
theorem few_22 : Gives Try.prog 30 [.int .i64 (.ofNat 22)] (.tuple #[.int .i64 (fewN (.ofNat 22)), .int .i64 (fewE (.ofNat 22))]) := by
  have h1 : fewN (.ofNat 22) = 4 := by (unfold fewN; (try simp only [Int.ofNat_eq_natCast]); repeat (first | rfl | (rw [if_pos (by omega)]; done) | rw [if_neg (by omega)] | rw [if_pos (by omega)]))
  have h2 : fewE (.ofNat 22) = 0 := by (unfold fewE; (try simp only [Int.ofNat_eq_natCast]); repeat (first | rfl | (rw [if_pos (by omega)]; done) | rw [if_neg (by omega)] | rw [if_pos (by omega)]))
  rw [h1, h2]
  exact gives_run (v := .tup [.v (.int .i64 4), .v (.int .i64 0)]) (args := [.v (.int .i64 (.ofNat 22))]) Try.checked.mixed noKnown 1000 (by kernel_rfl) rfl rfl
theorem few_23 : Gives Try.prog 30 [.int .i64 (.ofNat 23)] (.tuple #[.int .i64 (fewN (.ofNat 23)), .int .i64 (fewE (.ofNat 23))]) := by
  have h1 : fewN (.ofNat 23) = 4 := by (unfold fewN; (try simp only [Int.ofNat_eq_natCast]); repeat (first | rfl | (rw [if_pos (by omega)]; done) | rw [if_neg (by omega)] | rw [if_pos (by omega)]))
  have h2 : fewE (.ofNat 23) = 0 := by (unfold fewE; (try simp only [Int.ofNat_eq_natCast]); repeat (first | rfl | (rw [if_pos (by omega)]; done) | rw [if_neg (by omega)] | rw [if_pos (by omega)]))
  rw [h1, h2]
  exact gives_run (v := .tup [.v (.int .i64 4), .v (.int .i64 0)]) (args := [.v (.int .i64 (.ofNat 23))]) Try.checked.mixed noKnown 1000 (by kernel_rfl) rfl rfl
theorem few_24 : Gives Try.prog 30 [.int .i64 (.ofNat 24)] (.tuple #[.int .i64 (fewN (.ofNat 24)), .int .i64 (fewE (.ofNat 24))]) := by
  have h1 : fewN (.ofNat 24) = 4 := by (unfold fewN; (try simp only [Int.ofNat_eq_natCast]); repeat (first | rfl | (rw [if_pos (by omega)]; done) | rw [if_neg (by omega)] | rw [if_pos (by omega)]))
  have h2 : fewE (.ofNat 24) = 0 := by (unfold fewE; (try simp only [Int.ofNat_eq_natCast]); repeat (first | rfl | (rw [if_pos (by omega)]; done) | rw [if_neg (by omega)] | rw [if_pos (by omega)]))
  rw [h1, h2]
  exact gives_run (v := .tup [.v (.int .i64 4), .v (.int .i64 0)]) (args := [.v (.int .i64 (.ofNat 24))]) Try.checked.mixed noKnown 1000 (by kernel_rfl) rfl rfl
theorem few_25 : Gives Try.prog 30 [.int .i64 (.ofNat 25)] (.tuple #[.int .i64 (fewN (.ofNat 25)), .int .i64 (fewE (.ofNat 25))]) := by
  have h1 : fewN (.ofNat 25) = 4 := by (unfold fewN; (try simp only [Int.ofNat_eq_natCast]); repeat (first | rfl | (rw [if_pos (by omega)]; done) | rw [if_neg (by omega)] | rw [if_pos (by omega)]))
  have h2 : fewE (.ofNat 25) = 0 := by (unfold fewE; (try simp only [Int.ofNat_eq_natCast]); repeat (first | rfl | (rw [if_pos (by omega)]; done) | rw [if_neg (by omega)] | rw [if_pos (by omega)]))
  rw [h1, h2]
  exact gives_run (v := .tup [.v (.int .i64 4), .v (.int .i64 0)]) (args := [.v (.int .i64 (.ofNat 25))]) Try.checked.mixed noKnown 1000 (by kernel_rfl) rfl rfl
theorem few_26 : Gives Try.prog 30 [.int .i64 (.ofNat 26)] (.tuple #[.int .i64 (fewN (.ofNat 26)), .int .i64 (fewE (.ofNat 26))]) := by
  have h1 : fewN (.ofNat 26) = 4 := by (unfold fewN; (try simp only [Int.ofNat_eq_natCast]); repeat (first | rfl | (rw [if_pos (by omega)]; done) | rw [if_neg (by omega)] | rw [if_pos (by omega)]))
  have h2 : fewE (.ofNat 26) = 0 := by (unfold fewE; (try simp only [Int.ofNat_eq_natCast]); repeat (first | rfl | (rw [if_pos (by omega)]; done) | rw [if_neg (by omega)] | rw [if_pos (by omega)]))
  rw [h1, h2]
  exact gives_run (v := .tup [.v (.int .i64 4), .v (.int .i64 0)]) (args := [.v (.int .i64 (.ofNat 26))]) Try.checked.mixed noKnown 1000 (by kernel_rfl) rfl rfl
theorem few_27 : Gives Try.prog 30 [.int .i64 (.ofNat 27)] (.tuple #[.int .i64 (fewN (.ofNat 27)), .int .i64 (fewE (.ofNat 27))]) := by
  have h1 : fewN (.ofNat 27) = 4 := by (unfold fewN; (try simp only [Int.ofNat_eq_natCast]); repeat (first | rfl | (rw [if_pos (by omega)]; done) | rw [if_neg (by omega)] | rw [if_pos (by omega)]))
  have h2 : fewE (.ofNat 27) = 0 := by (unfold fewE; (try simp only [Int.ofNat_eq_natCast]); repeat (first | rfl | (rw [if_pos (by omega)]; done) | rw [if_neg (by omega)] | rw [if_pos (by omega)]))
  rw [h1, h2]
  exact gives_run (v := .tup [.v (.int .i64 4), .v (.int .i64 0)]) (args := [.v (.int .i64 (.ofNat 27))]) Try.checked.mixed noKnown 1000 (by kernel_rfl) rfl rfl
theorem few_28 : Gives Try.prog 30 [.int .i64 (.ofNat 28)] (.tuple #[.int .i64 (fewN (.ofNat 28)), .int .i64 (fewE (.ofNat 28))]) := by
  have h1 : fewN (.ofNat 28) = 4 := by (unfold fewN; (try simp only [Int.ofNat_eq_natCast]); repeat (first | rfl | (rw [if_pos (by omega)]; done) | rw [if_neg (by omega)] | rw [if_pos (by omega)]))
  have h2 : fewE (.ofNat 28) = 0 := by (unfold fewE; (try simp only [Int.ofNat_eq_natCast]); repeat (first | rfl | (rw [if_pos (by omega)]; done) | rw [if_neg (by omega)] | rw [if_pos (by omega)]))
  rw [h1, h2]
  exact gives_run (v := .tup [.v (.int .i64 4), .v (.int .i64 0)]) (args := [.v (.int .i64 (.ofNat 28))]) Try.checked.mixed noKnown 1000 (by kernel_rfl) rfl rfl
theorem few_29 : Gives Try.prog 30 [.int .i64 (.ofNat 29)] (.tuple #[.int .i64 (fewN (.ofNat 29)), .int .i64 (fewE (.ofNat 29))]) := by
  have h1 : fewN (.ofNat 29) = 4 := by (unfold fewN; (try simp only [Int.ofNat_eq_natCast]); repeat (first | rfl | (rw [if_pos (by omega)]; done) | rw [if_neg (by omega)] | rw [if_pos (by omega)]))
  have h2 : fewE (.ofNat 29) = 0 := by (unfold fewE; (try simp only [Int.ofNat_eq_natCast]); repeat (first | rfl | (rw [if_pos (by omega)]; done) | rw [if_neg (by omega)] | rw [if_pos (by omega)]))
  rw [h1, h2]
  exact gives_run (v := .tup [.v (.int .i64 4), .v (.int .i64 0)]) (args := [.v (.int .i64 (.ofNat 29))]) Try.checked.mixed noKnown 1000 (by kernel_rfl) rfl rfl
theorem few_30 : Gives Try.prog 30 [.int .i64 (.ofNat 30)] (.tuple #[.int .i64 (fewN (.ofNat 30)), .int .i64 (fewE (.ofNat 30))]) := by
  have h1 : fewN (.ofNat 30) = 4 := by (unfold fewN; (try simp only [Int.ofNat_eq_natCast]); repeat (first | rfl | (rw [if_pos (by omega)]; done) | rw [if_neg (by omega)] | rw [if_pos (by omega)]))
  have h2 : fewE (.ofNat 30) = 0 := by (unfold fewE; (try simp only [Int.ofNat_eq_natCast]); repeat (first | rfl | (rw [if_pos (by omega)]; done) | rw [if_neg (by omega)] | rw [if_pos (by omega)]))
  rw [h1, h2]
  exact gives_run (v := .tup [.v (.int .i64 4), .v (.int .i64 0)]) (args := [.v (.int .i64 (.ofNat 30))]) Try.checked.mixed noKnown 1000 (by kernel_rfl) rfl rfl
theorem few_31 : Gives Try.prog 30 [.int .i64 (.ofNat 31)] (.tuple #[.int .i64 (fewN (.ofNat 31)), .int .i64 (fewE (.ofNat 31))]) := by
  have h1 : fewN (.ofNat 31) = 4 := by (unfold fewN; (try simp only [Int.ofNat_eq_natCast]); repeat (first | rfl | (rw [if_pos (by omega)]; done) | rw [if_neg (by omega)] | rw [if_pos (by omega)]))
  have h2 : fewE (.ofNat 31) = 0 := by (unfold fewE; (try simp only [Int.ofNat_eq_natCast]); repeat (first | rfl | (rw [if_pos (by omega)]; done) | rw [if_neg (by omega)] | rw [if_pos (by omega)]))
  rw [h1, h2]
  exact gives_run (v := .tup [.v (.int .i64 4), .v (.int .i64 0)]) (args := [.v (.int .i64 (.ofNat 31))]) Try.checked.mixed noKnown 1000 (by kernel_rfl) rfl rfl
theorem few_32 : Gives Try.prog 30 [.int .i64 (.ofNat 32)] (.tuple #[.int .i64 (fewN (.ofNat 32)), .int .i64 (fewE (.ofNat 32))]) := by
  have h1 : fewN (.ofNat 32) = 4 := by (unfold fewN; (try simp only [Int.ofNat_eq_natCast]); repeat (first | rfl | (rw [if_pos (by omega)]; done) | rw [if_neg (by omega)] | rw [if_pos (by omega)]))
  have h2 : fewE (.ofNat 32) = 0 := by (unfold fewE; (try simp only [Int.ofNat_eq_natCast]); repeat (first | rfl | (rw [if_pos (by omega)]; done) | rw [if_neg (by omega)] | rw [if_pos (by omega)]))
  rw [h1, h2]
  exact gives_run (v := .tup [.v (.int .i64 4), .v (.int .i64 0)]) (args := [.v (.int .i64 (.ofNat 32))]) Try.checked.mixed noKnown 1000 (by kernel_rfl) rfl rfl
theorem few_33 : Gives Try.prog 30 [.int .i64 (.ofNat 33)] (.tuple #[.int .i64 (fewN (.ofNat 33)), .int .i64 (fewE (.ofNat 33))]) := by
  have h1 : fewN (.ofNat 33) = 4 := by (unfold fewN; (try simp only [Int.ofNat_eq_natCast]); repeat (first | rfl | (rw [if_pos (by omega)]; done) | rw [if_neg (by omega)] | rw [if_pos (by omega)]))
  have h2 : fewE (.ofNat 33) = 0 := by (unfold fewE; (try simp only [Int.ofNat_eq_natCast]); repeat (first | rfl | (rw [if_pos (by omega)]; done) | rw [if_neg (by omega)] | rw [if_pos (by omega)]))
  rw [h1, h2]
  exact gives_run (v := .tup [.v (.int .i64 4), .v (.int .i64 0)]) (args := [.v (.int .i64 (.ofNat 33))]) Try.checked.mixed noKnown 1000 (by kernel_rfl) rfl rfl
theorem few_34 : Gives Try.prog 30 [.int .i64 (.ofNat 34)] (.tuple #[.int .i64 (fewN (.ofNat 34)), .int .i64 (fewE (.ofNat 34))]) := by
  have h1 : fewN (.ofNat 34) = 4 := by (unfold fewN; (try simp only [Int.ofNat_eq_natCast]); repeat (first | rfl | (rw [if_pos (by omega)]; done) | rw [if_neg (by omega)] | rw [if_pos (by omega)]))
  have h2 : fewE (.ofNat 34) = 0 := by (unfold fewE; (try simp only [Int.ofNat_eq_natCast]); repeat (first | rfl | (rw [if_pos (by omega)]; done) | rw [if_neg (by omega)] | rw [if_pos (by omega)]))
  rw [h1, h2]
  exact gives_run (v := .tup [.v (.int .i64 4), .v (.int .i64 0)]) (args := [.v (.int .i64 (.ofNat 34))]) Try.checked.mixed noKnown 1000 (by kernel_rfl) rfl rfl
theorem few_35 : Gives Try.prog 30 [.int .i64 (.ofNat 35)] (.tuple #[.int .i64 (fewN (.ofNat 35)), .int .i64 (fewE (.ofNat 35))]) := by
  have h1 : fewN (.ofNat 35) = 4 := by (unfold fewN; (try simp only [Int.ofNat_eq_natCast]); repeat (first | rfl | (rw [if_pos (by omega)]; done) | rw [if_neg (by omega)] | rw [if_pos (by omega)]))
  have h2 : fewE (.ofNat 35) = 0 := by (unfold fewE; (try simp only [Int.ofNat_eq_natCast]); repeat (first | rfl | (rw [if_pos (by omega)]; done) | rw [if_neg (by omega)] | rw [if_pos (by omega)]))
  rw [h1, h2]
  exact gives_run (v := .tup [.v (.int .i64 4), .v (.int .i64 0)]) (args := [.v (.int .i64 (.ofNat 35))]) Try.checked.mixed noKnown 1000 (by kernel_rfl) rfl rfl
theorem few_36 : Gives Try.prog 30 [.int .i64 (.ofNat 36)] (.tuple #[.int .i64 (fewN (.ofNat 36)), .int .i64 (fewE (.ofNat 36))]) := by
  have h1 : fewN (.ofNat 36) = 4 := by (unfold fewN; (try simp only [Int.ofNat_eq_natCast]); repeat (first | rfl | (rw [if_pos (by omega)]; done) | rw [if_neg (by omega)] | rw [if_pos (by omega)]))
  have h2 : fewE (.ofNat 36) = 0 := by (unfold fewE; (try simp only [Int.ofNat_eq_natCast]); repeat (first | rfl | (rw [if_pos (by omega)]; done) | rw [if_neg (by omega)] | rw [if_pos (by omega)]))
  rw [h1, h2]
  exact gives_run (v := .tup [.v (.int .i64 4), .v (.int .i64 0)]) (args := [.v (.int .i64 (.ofNat 36))]) Try.checked.mixed noKnown 1000 (by kernel_rfl) rfl rfl
theorem few_37 : Gives Try.prog 30 [.int .i64 (.ofNat 37)] (.tuple #[.int .i64 (fewN (.ofNat 37)), .int .i64 (fewE (.ofNat 37))]) := by
  have h1 : fewN (.ofNat 37) = 4 := by (unfold fewN; (try simp only [Int.ofNat_eq_natCast]); repeat (first | rfl | (rw [if_pos (by omega)]; done) | rw [if_neg (by omega)] | rw [if_pos (by omega)]))
  have h2 : fewE (.ofNat 37) = 0 := by (unfold fewE; (try simp only [Int.ofNat_eq_natCast]); repeat (first | rfl | (rw [if_pos (by omega)]; done) | rw [if_neg (by omega)] | rw [if_pos (by omega)]))
  rw [h1, h2]
  exact gives_run (v := .tup [.v (.int .i64 4), .v (.int .i64 0)]) (args := [.v (.int .i64 (.ofNat 37))]) Try.checked.mixed noKnown 1000 (by kernel_rfl) rfl rfl
theorem few_38 : Gives Try.prog 30 [.int .i64 (.ofNat 38)] (.tuple #[.int .i64 (fewN (.ofNat 38)), .int .i64 (fewE (.ofNat 38))]) := by
  have h1 : fewN (.ofNat 38) = 4 := by (unfold fewN; (try simp only [Int.ofNat_eq_natCast]); repeat (first | rfl | (rw [if_pos (by omega)]; done) | rw [if_neg (by omega)] | rw [if_pos (by omega)]))
  have h2 : fewE (.ofNat 38) = 0 := by (unfold fewE; (try simp only [Int.ofNat_eq_natCast]); repeat (first | rfl | (rw [if_pos (by omega)]; done) | rw [if_neg (by omega)] | rw [if_pos (by omega)]))
  rw [h1, h2]
  exact gives_run (v := .tup [.v (.int .i64 4), .v (.int .i64 0)]) (args := [.v (.int .i64 (.ofNat 38))]) Try.checked.mixed noKnown 1000 (by kernel_rfl) rfl rfl
theorem few_39 : Gives Try.prog 30 [.int .i64 (.ofNat 39)] (.tuple #[.int .i64 (fewN (.ofNat 39)), .int .i64 (fewE (.ofNat 39))]) := by
  have h1 : fewN (.ofNat 39) = 4 := by (unfold fewN; (try simp only [Int.ofNat_eq_natCast]); repeat (first | rfl | (rw [if_pos (by omega)]; done) | rw [if_neg (by omega)] | rw [if_pos (by omega)]))
  have h2 : fewE (.ofNat 39) = 0 := by (unfold fewE; (try simp only [Int.ofNat_eq_natCast]); repeat (first | rfl | (rw [if_pos (by omega)]; done) | rw [if_neg (by omega)] | rw [if_pos (by omega)]))
  rw [h1, h2]
  exact gives_run (v := .tup [.v (.int .i64 4), .v (.int .i64 0)]) (args := [.v (.int .i64 (.ofNat 39))]) Try.checked.mixed noKnown 1000 (by kernel_rfl) rfl rfl
theorem few_g (n : Int) : Gives Try.prog 30 [.int .i64 n] (.tuple #[.int .i64 (fewN n), .int .i64 (fewE n)]) := by
  rcases small_or 40 n with ⟨m, rfl⟩ | ⟨m, rfl⟩ | ⟨h1, h2⟩
  · exact few_neg m
  · exact few_big m
  · have : n = .ofNat 0 ∨ n = .ofNat 1 ∨ n = .ofNat 2 ∨ n = .ofNat 3 ∨ n = .ofNat 4 ∨ n = .ofNat 5 ∨ n = .ofNat 6 ∨ n = .ofNat 7 ∨ n = .ofNat 8 ∨ n = .ofNat 9 ∨ n = .ofNat 10 ∨ n = .ofNat 11 ∨ n = .ofNat 12 ∨ n = .ofNat 13 ∨ n = .ofNat 14 ∨ n = .ofNat 15 ∨ n = .ofNat 16 ∨ n = .ofNat 17 ∨ n = .ofNat 18 ∨ n = .ofNat 19 ∨ n = .ofNat 20 ∨ n = .ofNat 21 ∨ n = .ofNat 22 ∨ n = .ofNat 23 ∨ n = .ofNat 24 ∨ n = .ofNat 25 ∨ n = .ofNat 26 ∨ n = .ofNat 27 ∨ n = .ofNat 28 ∨ n = .ofNat 29 ∨ n = .ofNat 30 ∨ n = .ofNat 31 ∨ n = .ofNat 32 ∨ n = .ofNat 33 ∨ n = .ofNat 34 ∨ n = .ofNat 35 ∨ n = .ofNat 36 ∨ n = .ofNat 37 ∨ n = .ofNat 38 ∨ n = .ofNat 39 := by simp only [Int.ofNat_eq_natCast]; omega
    rcases this with rfl | rfl | rfl | rfl | rfl | rfl | rfl | rfl | rfl | rfl | rfl | rfl | rfl | rfl | rfl | rfl | rfl | rfl | rfl | rfl | rfl | rfl | rfl | rfl | rfl | rfl | rfl | rfl | rfl | rfl | rfl | rfl | rfl | rfl | rfl | rfl | rfl | rfl | rfl | rfl
    · exact few_0
    · exact few_1
    · exact few_2
    · exact few_3
    · exact few_4
    · exact few_5
    · exact few_6
    · exact few_7
    · exact few_8
    · exact few_9
    · exact few_10
    · exact few_11
    · exact few_12
    · exact few_13
    · exact few_14
    · exact few_15
    · exact few_16
    · exact few_17
    · exact few_18
    · exact few_19
    · exact few_20
    · exact few_21
    · exact few_22
    · exact few_23
    · exact few_24
    · exact few_25
    · exact few_26
    · exact few_27
    · exact few_28
    · exact few_29
    · exact few_30
    · exact few_31
    · exact few_32
    · exact few_33
    · exact few_34
    · exact few_35
    · exact few_36
    · exact few_37
    · exact few_38
    · exact few_39
theorem rfew_neg (m : Nat) : Gives Try.prog 31 [.int .i64 (.negSucc m)] (.tuple #[.int .i64 (fewN (.negSucc m)), .int .i64 (fewE (.negSucc m))]) := by
  have h1 : fewN (.negSucc m) = 0 := by (unfold fewN; (try simp only [Int.ofNat_eq_natCast]); repeat (first | rfl | (rw [if_pos (by omega)]; done) | rw [if_neg (by omega)] | rw [if_pos (by omega)]))
  have h2 : fewE (.negSucc m) = 2 := by (unfold fewE; (try simp only [Int.ofNat_eq_natCast]); repeat (first | rfl | (rw [if_pos (by omega)]; done) | rw [if_neg (by omega)] | rw [if_pos (by omega)]))
  rw [h1, h2]
  exact gives_run (v := .tup [.v (.int .i64 0), .v (.int .i64 2)]) (args := [.v (.int .i64 (.negSucc m))]) Try.checked.mixed noKnown 1000 (by kernel_rfl) rfl rfl
theorem rfew_big (m : Nat) : Gives Try.prog 31 [.int .i64 (.ofNat (m + 40))] (.tuple #[.int .i64 (fewN (.ofNat (m + 40))), .int .i64 (fewE (.ofNat (m + 40)))]) := by
  have h1 : fewN (.ofNat (m + 40)) = 0 := by (unfold fewN; (try simp only [Int.ofNat_eq_natCast]); repeat (first | rfl | (rw [if_pos (by omega)]; done) | rw [if_neg (by omega)] | rw [if_pos (by omega)]))
  have h2 : fewE (.ofNat (m + 40)) = 2 := by (unfold fewE; (try simp only [Int.ofNat_eq_natCast]); repeat (first | rfl | (rw [if_pos (by omega)]; done) | rw [if_neg (by omega)] | rw [if_pos (by omega)]))
  rw [h1, h2]
  exact gives_run (v := .tup [.v (.int .i64 0), .v (.int .i64 2)]) (args := [.v (.int .i64 (.ofNat (m + 40)))]) Try.checked.mixed noKnown 1000 (by kernel_rfl) rfl rfl
theorem rfew_0 : Gives Try.prog 31 [.int .i64 (.ofNat 0)] (.tuple #[.int .i64 (fewN (.ofNat 0)), .int .i64 (fewE (.ofNat 0))]) := by
  have h1 : fewN (.ofNat 0) = 0 := by (unfold fewN; (try simp only [Int.ofNat_eq_natCast]); repeat (first | rfl | (rw [if_pos (by omega)]; done) | rw [if_neg (by omega)] | rw [if_pos (by omega)]))
  have h2 : fewE (.ofNat 0) = 2 := by (unfold fewE; (try simp only [Int.ofNat_eq_natCast]); repeat (first | rfl | (rw [if_pos (by omega)]; done) | rw [if_neg (by omega)] | rw [if_pos (by omega)]))
  rw [h1, h2]
  exact gives_run (v := .tup [.v (.int .i64 0), .v (.int .i64 2)]) (args := [.v (.int .i64 (.ofNat 0))]) Try.checked.mixed noKnown 1000 (by kernel_rfl) rfl rfl
theorem rfew_1 : Gives Try.prog 31 [.int .i64 (.ofNat 1)] (.tuple #[.int .i64 (fewN (.ofNat 1)), .int .i64 (fewE (.ofNat 1))]) := by
  have h1 : fewN (.ofNat 1) = 0 := by (unfold fewN; (try simp only [Int.ofNat_eq_natCast]); repeat (first | rfl | (rw [if_pos (by omega)]; done) | rw [if_neg (by omega)] | rw [if_pos (by omega)]))
  have h2 : fewE (.ofNat 1) = 5 := by (unfold fewE; (try simp only [Int.ofNat_eq_natCast]); repeat (first | rfl | (rw [if_pos (by omega)]; done) | rw [if_neg (by omega)] | rw [if_pos (by omega)]))
  rw [h1, h2]
  exact gives_run (v := .tup [.v (.int .i64 0), .v (.int .i64 5)]) (args := [.v (.int .i64 (.ofNat 1))]) Try.checked.mixed noKnown 1000 (by kernel_rfl) rfl rfl
theorem rfew_2 : Gives Try.prog 31 [.int .i64 (.ofNat 2)] (.tuple #[.int .i64 (fewN (.ofNat 2)), .int .i64 (fewE (.ofNat 2))]) := by
  have h1 : fewN (.ofNat 2) = 0 := by (unfold fewN; (try simp only [Int.ofNat_eq_natCast]); repeat (first | rfl | (rw [if_pos (by omega)]; done) | rw [if_neg (by omega)] | rw [if_pos (by omega)]))
  have h2 : fewE (.ofNat 2) = 5 := by (unfold fewE; (try simp only [Int.ofNat_eq_natCast]); repeat (first | rfl | (rw [if_pos (by omega)]; done) | rw [if_neg (by omega)] | rw [if_pos (by omega)]))
  rw [h1, h2]
  exact gives_run (v := .tup [.v (.int .i64 0), .v (.int .i64 5)]) (args := [.v (.int .i64 (.ofNat 2))]) Try.checked.mixed noKnown 1000 (by kernel_rfl) rfl rfl
theorem rfew_3 : Gives Try.prog 31 [.int .i64 (.ofNat 3)] (.tuple #[.int .i64 (fewN (.ofNat 3)), .int .i64 (fewE (.ofNat 3))]) := by
  have h1 : fewN (.ofNat 3) = 2 := by (unfold fewN; (try simp only [Int.ofNat_eq_natCast]); repeat (first | rfl | (rw [if_pos (by omega)]; done) | rw [if_neg (by omega)] | rw [if_pos (by omega)]))
  have h2 : fewE (.ofNat 3) = 0 := by (unfold fewE; (try simp only [Int.ofNat_eq_natCast]); repeat (first | rfl | (rw [if_pos (by omega)]; done) | rw [if_neg (by omega)] | rw [if_pos (by omega)]))
  rw [h1, h2]
  exact gives_run (v := .tup [.v (.int .i64 2), .v (.int .i64 0)]) (args := [.v (.int .i64 (.ofNat 3))]) Try.checked.mixed noKnown 1000 (by kernel_rfl) rfl rfl
theorem rfew_4 : Gives Try.prog 31 [.int .i64 (.ofNat 4)] (.tuple #[.int .i64 (fewN (.ofNat 4)), .int .i64 (fewE (.ofNat 4))]) := by
  have h1 : fewN (.ofNat 4) = 3 := by (unfold fewN; (try simp only [Int.ofNat_eq_natCast]); repeat (first | rfl | (rw [if_pos (by omega)]; done) | rw [if_neg (by omega)] | rw [if_pos (by omega)]))
  have h2 : fewE (.ofNat 4) = 0 := by (unfold fewE; (try simp only [Int.ofNat_eq_natCast]); repeat (first | rfl | (rw [if_pos (by omega)]; done) | rw [if_neg (by omega)] | rw [if_pos (by omega)]))
  rw [h1, h2]
  exact gives_run (v := .tup [.v (.int .i64 3), .v (.int .i64 0)]) (args := [.v (.int .i64 (.ofNat 4))]) Try.checked.mixed noKnown 1000 (by kernel_rfl) rfl rfl
theorem rfew_5 : Gives Try.prog 31 [.int .i64 (.ofNat 5)] (.tuple #[.int .i64 (fewN (.ofNat 5)), .int .i64 (fewE (.ofNat 5))]) := by
  have h1 : fewN (.ofNat 5) = 3 := by (unfold fewN; (try simp only [Int.ofNat_eq_natCast]); repeat (first | rfl | (rw [if_pos (by omega)]; done) | rw [if_neg (by omega)] | rw [if_pos (by omega)]))
  have h2 : fewE (.ofNat 5) = 0 := by (unfold fewE; (try simp only [Int.ofNat_eq_natCast]); repeat (first | rfl | (rw [if_pos (by omega)]; done) | rw [if_neg (by omega)] | rw [if_pos (by omega)]))
  rw [h1, h2]
  exact gives_run (v := .tup [.v (.int .i64 3), .v (.int .i64 0)]) (args := [.v (.int .i64 (.ofNat 5))]) Try.checked.mixed noKnown 1000 (by kernel_rfl) rfl rfl
theorem rfew_6 : Gives Try.prog 31 [.int .i64 (.ofNat 6)] (.tuple #[.int .i64 (fewN (.ofNat 6)), .int .i64 (fewE (.ofNat 6))]) := by
  have h1 : fewN (.ofNat 6) = 3 := by (unfold fewN; (try simp only [Int.ofNat_eq_natCast]); repeat (first | rfl | (rw [if_pos (by omega)]; done) | rw [if_neg (by omega)] | rw [if_pos (by omega)]))
  have h2 : fewE (.ofNat 6) = 0 := by (unfold fewE; (try simp only [Int.ofNat_eq_natCast]); repeat (first | rfl | (rw [if_pos (by omega)]; done) | rw [if_neg (by omega)] | rw [if_pos (by omega)]))
  rw [h1, h2]
  exact gives_run (v := .tup [.v (.int .i64 3), .v (.int .i64 0)]) (args := [.v (.int .i64 (.ofNat 6))]) Try.checked.mixed noKnown 1000 (by kernel_rfl) rfl rfl
theorem rfew_7 : Gives Try.prog 31 [.int .i64 (.ofNat 7)] (.tuple #[.int .i64 (fewN (.ofNat 7)), .int .i64 (fewE (.ofNat 7))]) := by
  have h1 : fewN (.ofNat 7) = 3 := by (unfold fewN; (try simp only [Int.ofNat_eq_natCast]); repeat (first | rfl | (rw [if_pos (by omega)]; done) | rw [if_neg (by omega)] | rw [if_pos (by omega)]))
  have h2 : fewE (.ofNat 7) = 0 := by (unfold fewE; (try simp only [Int.ofNat_eq_natCast]); repeat (first | rfl | (rw [if_pos (by omega)]; done) | rw [if_neg (by omega)] | rw [if_pos (by omega)]))
  rw [h1, h2]
  exact gives_run (v := .tup [.v (.int .i64 3), .v (.int .i64 0)]) (args := [.v (.int .i64 (.ofNat 7))]) Try.checked.mixed noKnown 1000 (by kernel_rfl) rfl rfl
theorem rfew_8 : Gives Try.prog 31 [.int .i64 (.ofNat 8)] (.tuple #[.int .i64 (fewN (.ofNat 8)), .int .i64 (fewE (.ofNat 8))]) := by
  have h1 : fewN (.ofNat 8) = 3 := by (unfold fewN; (try simp only [Int.ofNat_eq_natCast]); repeat (first | rfl | (rw [if_pos (by omega)]; done) | rw [if_neg (by omega)] | rw [if_pos (by omega)]))
  have h2 : fewE (.ofNat 8) = 0 := by (unfold fewE; (try simp only [Int.ofNat_eq_natCast]); repeat (first | rfl | (rw [if_pos (by omega)]; done) | rw [if_neg (by omega)] | rw [if_pos (by omega)]))
  rw [h1, h2]
  exact gives_run (v := .tup [.v (.int .i64 3), .v (.int .i64 0)]) (args := [.v (.int .i64 (.ofNat 8))]) Try.checked.mixed noKnown 1000 (by kernel_rfl) rfl rfl
theorem rfew_9 : Gives Try.prog 31 [.int .i64 (.ofNat 9)] (.tuple #[.int .i64 (fewN (.ofNat 9)), .int .i64 (fewE (.ofNat 9))]) := by
  have h1 : fewN (.ofNat 9) = 3 := by (unfold fewN; (try simp only [Int.ofNat_eq_natCast]); repeat (first | rfl | (rw [if_pos (by omega)]; done) | rw [if_neg (by omega)] | rw [if_pos (by omega)]))
  have h2 : fewE (.ofNat 9) = 0 := by (unfold fewE; (try simp only [Int.ofNat_eq_natCast]); repeat (first | rfl | (rw [if_pos (by omega)]; done) | rw [if_neg (by omega)] | rw [if_pos (by omega)]))
  rw [h1, h2]
  exact gives_run (v := .tup [.v (.int .i64 3), .v (.int .i64 0)]) (args := [.v (.int .i64 (.ofNat 9))]) Try.checked.mixed noKnown 1000 (by kernel_rfl) rfl rfl
theorem rfew_10 : Gives Try.prog 31 [.int .i64 (.ofNat 10)] (.tuple #[.int .i64 (fewN (.ofNat 10)), .int .i64 (fewE (.ofNat 10))]) := by
  have h1 : fewN (.ofNat 10) = 3 := by (unfold fewN; (try simp only [Int.ofNat_eq_natCast]); repeat (first | rfl | (rw [if_pos (by omega)]; done) | rw [if_neg (by omega)] | rw [if_pos (by omega)]))
  have h2 : fewE (.ofNat 10) = 0 := by (unfold fewE; (try simp only [Int.ofNat_eq_natCast]); repeat (first | rfl | (rw [if_pos (by omega)]; done) | rw [if_neg (by omega)] | rw [if_pos (by omega)]))
  rw [h1, h2]
  exact gives_run (v := .tup [.v (.int .i64 3), .v (.int .i64 0)]) (args := [.v (.int .i64 (.ofNat 10))]) Try.checked.mixed noKnown 1000 (by kernel_rfl) rfl rfl
theorem rfew_11 : Gives Try.prog 31 [.int .i64 (.ofNat 11)] (.tuple #[.int .i64 (fewN (.ofNat 11)), .int .i64 (fewE (.ofNat 11))]) := by
  have h1 : fewN (.ofNat 11) = 3 := by (unfold fewN; (try simp only [Int.ofNat_eq_natCast]); repeat (first | rfl | (rw [if_pos (by omega)]; done) | rw [if_neg (by omega)] | rw [if_pos (by omega)]))
  have h2 : fewE (.ofNat 11) = 0 := by (unfold fewE; (try simp only [Int.ofNat_eq_natCast]); repeat (first | rfl | (rw [if_pos (by omega)]; done) | rw [if_neg (by omega)] | rw [if_pos (by omega)]))
  rw [h1, h2]
  exact gives_run (v := .tup [.v (.int .i64 3), .v (.int .i64 0)]) (args := [.v (.int .i64 (.ofNat 11))]) Try.checked.mixed noKnown 1000 (by kernel_rfl) rfl rfl
theorem rfew_12 : Gives Try.prog 31 [.int .i64 (.ofNat 12)] (.tuple #[.int .i64 (fewN (.ofNat 12)), .int .i64 (fewE (.ofNat 12))]) := by
  have h1 : fewN (.ofNat 12) = 3 := by (unfold fewN; (try simp only [Int.ofNat_eq_natCast]); repeat (first | rfl | (rw [if_pos (by omega)]; done) | rw [if_neg (by omega)] | rw [if_pos (by omega)]))
  have h2 : fewE (.ofNat 12) = 0 := by (unfold fewE; (try simp only [Int.ofNat_eq_natCast]); repeat (first | rfl | (rw [if_pos (by omega)]; done) | rw [if_neg (by omega)] | rw [if_pos (by omega)]))
  rw [h1, h2]
  exact gives_run (v := .tup [.v (.int .i64 3), .v (.int .i64 0)]) (args := [.v (.int .i64 (.ofNat 12))]) Try.checked.mixed noKnown 1000 (by kernel_rfl) rfl rfl
theorem rfew_13 : Gives Try.prog 31 [.int .i64 (.ofNat 13)] (.tuple #[.int .i64 (fewN (.ofNat 13)), .int .i64 (fewE (.ofNat 13))]) := by
  have h1 : fewN (.ofNat 13) = 4 := by (unfold fewN; (try simp only [Int.ofNat_eq_natCast]); repeat (first | rfl | (rw [if_pos (by omega)]; done) | rw [if_neg (by omega)] | rw [if_pos (by omega)]))
  have h2 : fewE (.ofNat 13) = 0 := by (unfold fewE; (try simp only [Int.ofNat_eq_natCast]); repeat (first | rfl | (rw [if_pos (by omega)]; done) | rw [if_neg (by omega)] | rw [if_pos (by omega)]))
  rw [h1, h2]
  exact gives_run (v := .tup [.v (.int .i64 4), .v (.int .i64 0)]) (args := [.v (.int .i64 (.ofNat 13))]) Try.checked.mixed noKnown 1000 (by kernel_rfl) rfl rfl
theorem rfew_14 : Gives Try.prog 31 [.int .i64 (.ofNat 14)] (.tuple #[.int .i64 (fewN (.ofNat 14)), .int .i64 (fewE (.ofNat 14))]) := by
  have h1 : fewN (.ofNat 14) = 4 := by (unfold fewN; (try simp only [Int.ofNat_eq_natCast]); repeat (first | rfl | (rw [if_pos (by omega)]; done) | rw [if_neg (by omega)] | rw [if_pos (by omega)]))
  have h2 : fewE (.ofNat 14) = 0 := by (unfold fewE; (try simp only [Int.ofNat_eq_natCast]); repeat (first | rfl | (rw [if_pos (by omega)]; done) | rw [if_neg (by omega)] | rw [if_pos (by omega)]))
  rw [h1, h2]
  exact gives_run (v := .tup [.v (.int .i64 4), .v (.int .i64 0)]) (args := [.v (.int .i64 (.ofNat 14))]) Try.checked.mixed noKnown 1000 (by kernel_rfl) rfl rfl
theorem rfew_15 : Gives Try.prog 31 [.int .i64 (.ofNat 15)] (.tuple #[.int .i64 (fewN (.ofNat 15)), .int .i64 (fewE (.ofNat 15))]) := by
  have h1 : fewN (.ofNat 15) = 4 := by (unfold fewN; (try simp only [Int.ofNat_eq_natCast]); repeat (first | rfl | (rw [if_pos (by omega)]; done) | rw [if_neg (by omega)] | rw [if_pos (by omega)]))
  have h2 : fewE (.ofNat 15) = 0 := by (unfold fewE; (try simp only [Int.ofNat_eq_natCast]); repeat (first | rfl | (rw [if_pos (by omega)]; done) | rw [if_neg (by omega)] | rw [if_pos (by omega)]))
  rw [h1, h2]
  exact gives_run (v := .tup [.v (.int .i64 4), .v (.int .i64 0)]) (args := [.v (.int .i64 (.ofNat 15))]) Try.checked.mixed noKnown 1000 (by kernel_rfl) rfl rfl
theorem rfew_16 : Gives Try.prog 31 [.int .i64 (.ofNat 16)] (.tuple #[.int .i64 (fewN (.ofNat 16)), .int .i64 (fewE (.ofNat 16))]) := by
  have h1 : fewN (.ofNat 16) = 4 := by (unfold fewN; (try simp only [Int.ofNat_eq_natCast]); repeat (first | rfl | (rw [if_pos (by omega)]; done) | rw [if_neg (by omega)] | rw [if_pos (by omega)]))
  have h2 : fewE (.ofNat 16) = 0 := by (unfold fewE; (try simp only [Int.ofNat_eq_natCast]); repeat (first | rfl | (rw [if_pos (by omega)]; done) | rw [if_neg (by omega)] | rw [if_pos (by omega)]))
  rw [h1, h2]
  exact gives_run (v := .tup [.v (.int .i64 4), .v (.int .i64 0)]) (args := [.v (.int .i64 (.ofNat 16))]) Try.checked.mixed noKnown 1000 (by kernel_rfl) rfl rfl
theorem rfew_17 : Gives Try.prog 31 [.int .i64 (.ofNat 17)] (.tuple #[.int .i64 (fewN (.ofNat 17)), .int .i64 (fewE (.ofNat 17))]) := by
  have h1 : fewN (.ofNat 17) = 4 := by (unfold fewN; (try simp only [Int.ofNat_eq_natCast]); repeat (first | rfl | (rw [if_pos (by omega)]; done) | rw [if_neg (by omega)] | rw [if_pos (by omega)]))
  have h2 : fewE (.ofNat 17) = 0 := by (unfold fewE; (try simp only [Int.ofNat_eq_natCast]); repeat (first | rfl | (rw [if_pos (by omega)]; done) | rw [if_neg (by omega)] | rw [if_pos (by omega)]))
  rw [h1, h2]
  exact gives_run (v := .tup [.v (.int .i64 4), .v (.int .i64 0)]) (args := [.v (.int .i64 (.ofNat 17))]) Try.checked.mixed noKnown 1000 (by kernel_rfl) rfl rfl
theorem rfew_18 : Gives Try.prog 31 [.int .i64 (.ofNat 18)] (.tuple #[.int .i64 (fewN (.ofNat 18)), .int .i64 (fewE (.ofNat 18))]) := by
  have h1 : fewN (.ofNat 18) = 4 := by (unfold fewN; (try simp only [Int.ofNat_eq_natCast]); repeat (first | rfl | (rw [if_pos (by omega)]; done) | rw [if_neg (by omega)] | rw [if_pos (by omega)]))
  have h2 : fewE (.ofNat 18) = 0 := by (unfold fewE; (try simp only [Int.ofNat_eq_natCast]); repeat (first | rfl | (rw [if_pos (by omega)]; done) | rw [if_neg (by omega)] | rw [if_pos (by omega)]))
  rw [h1, h2]
  exact gives_run (v := .tup [.v (.int .i64 4), .v (.int .i64 0)]) (args := [.v (.int .i64 (.ofNat 18))]) Try.checked.mixed noKnown 1000 (by kernel_rfl) rfl rfl
theorem rfew_19 : Gives Try.prog 31 [.int .i64 (.ofNat 19)] (.tuple #[.int .i64 (fewN (.ofNat 19)), .int .i64 (fewE (.ofNat 19))]) := by
  have h1 : fewN (.ofNat 19) = 4 := by (unfold fewN; (try simp only [Int.ofNat_eq_natCast]); repeat (first | rfl | (rw [if_pos (by omega)]; done) | rw [if_neg (by omega)] | rw [if_pos (by omega)]))
  have h2 : fewE (.ofNat 19) = 0 := by (unfold fewE; (try simp only [Int.ofNat_eq_natCast]); repeat (first | rfl | (rw [if_pos (by omega)]; done) | rw [if_neg (by omega)] | rw [if_pos (by omega)]))
  rw [h1, h2]
  exact gives_run (v := .tup [.v (.int .i64 4), .v (.int .i64 0)]) (args := [.v (.int .i64 (.ofNat 19))]) Try.checked.mixed noKnown 1000 (by kernel_rfl) rfl rfl
theorem rfew_20 : Gives Try.prog 31 [.int .i64 (.ofNat 20)] (.tuple #[.int .i64 (fewN (.ofNat 20)), .int .i64 (fewE (.ofNat 20))]) := by
  have h1 : fewN (.ofNat 20) = 4 := by (unfold fewN; (try simp only [Int.ofNat_eq_natCast]); repeat (first | rfl | (rw [if_pos (by omega)]; done) | rw [if_neg (by omega)] | rw [if_pos (by omega)]))
  have h2 : fewE (.ofNat 20) = 0 := by (unfold fewE; (try simp only [Int.ofNat_eq_natCast]); repeat (first | rfl | (rw [if_pos (by omega)]; done) | rw [if_neg (by omega)] | rw [if_pos (by omega)]))
  rw [h1, h2]
  exact gives_run (v := .tup [.v (.int .i64 4), .v (.int .i64 0)]) (args := [.v (.int .i64 (.ofNat 20))]) Try.checked.mixed noKnown 1000 (by kernel_rfl) rfl rfl
theorem rfew_21 : Gives Try.prog 31 [.int .i64 (.ofNat 21)] (.tuple #[.int .i64 (fewN (.ofNat 21)), .int .i64 (fewE (.ofNat 21))]) := by
  have h1 : fewN (.ofNat 21) = 4 := by (unfold fewN; (try simp only [Int.ofNat_eq_natCast]); repeat (first | rfl | (rw [if_pos (by omega)]; done) | rw [if_neg (by omega)] | rw [if_pos (by omega)]))
  have h2 : fewE (.ofNat 21) = 0 := by (unfold fewE; (try simp only [Int.ofNat_eq_natCast]); repeat (first | rfl | (rw [if_pos (by omega)]; done) | rw [if_neg (by omega)] | rw [if_pos (by omega)]))
  rw [h1, h2]
  exact gives_run (v := .tup [.v (.int .i64 4), .v (.int .i64 0)]) (args := [.v (.int .i64 (.ofNat 21))]) Try.checked.mixed noKnown 1000 (by kernel_rfl) rfl rfl
theorem rfew_22 : Gives Try.prog 31 [.int .i64 (.ofNat 22)] (.tuple #[.int .i64 (fewN (.ofNat 22)), .int .i64 (fewE (.ofNat 22))]) := by
  have h1 : fewN (.ofNat 22) = 4 := by (unfold fewN; (try simp only [Int.ofNat_eq_natCast]); repeat (first | rfl | (rw [if_pos (by omega)]; done) | rw [if_neg (by omega)] | rw [if_pos (by omega)]))
  have h2 : fewE (.ofNat 22) = 0 := by (unfold fewE; (try simp only [Int.ofNat_eq_natCast]); repeat (first | rfl | (rw [if_pos (by omega)]; done) | rw [if_neg (by omega)] | rw [if_pos (by omega)]))
  rw [h1, h2]
  exact gives_run (v := .tup [.v (.int .i64 4), .v (.int .i64 0)]) (args := [.v (.int .i64 (.ofNat 22))]) Try.checked.mixed noKnown 1000 (by kernel_rfl) rfl rfl
theorem rfew_23 : Gives Try.prog 31 [.int .i64 (.ofNat 23)] (.tuple #[.int .i64 (fewN (.ofNat 23)), .int .i64 (fewE (.ofNat 23))]) := by
  have h1 : fewN (.ofNat 23) = 4 := by (unfold fewN; (try simp only [Int.ofNat_eq_natCast]); repeat (first | rfl | (rw [if_pos (by omega)]; done) | rw [if_neg (by omega)] | rw [if_pos (by omega)]))
  have h2 : fewE (.ofNat 23) = 0 := by (unfold fewE; (try simp only [Int.ofNat_eq_natCast]); repeat (first | rfl | (rw [if_pos (by omega)]; done) | rw [if_neg (by omega)] | rw [if_pos (by omega)]))
  rw [h1, h2]
  exact gives_run (v := .tup [.v (.int .i64 4), .v (.int .i64 0)]) (args := [.v (.int .i64 (.ofNat 23))]) Try.checked.mixed noKnown 1000 (by kernel_rfl) rfl rfl
theorem rfew_24 : Gives Try.prog 31 [.int .i64 (.ofNat 24)] (.tuple #[.int .i64 (fewN (.ofNat 24)), .int .i64 (fewE (.ofNat 24))]) := by
  have h1 : fewN (.ofNat 24) = 4 := by (unfold fewN; (try simp only [Int.ofNat_eq_natCast]); repeat (first | rfl | (rw [if_pos (by omega)]; done) | rw [if_neg (by omega)] | rw [if_pos (by omega)]))
  have h2 : fewE (.ofNat 24) = 0 := by (unfold fewE; (try simp only [Int.ofNat_eq_natCast]); repeat (first | rfl | (rw [if_pos (by omega)]; done) | rw [if_neg (by omega)] | rw [if_pos (by omega)]))
  rw [h1, h2]
  exact gives_run (v := .tup [.v (.int .i64 4), .v (.int .i64 0)]) (args := [.v (.int .i64 (.ofNat 24))]) Try.checked.mixed noKnown 1000 (by kernel_rfl) rfl rfl
theorem rfew_25 : Gives Try.prog 31 [.int .i64 (.ofNat 25)] (.tuple #[.int .i64 (fewN (.ofNat 25)), .int .i64 (fewE (.ofNat 25))]) := by
  have h1 : fewN (.ofNat 25) = 4 := by (unfold fewN; (try simp only [Int.ofNat_eq_natCast]); repeat (first | rfl | (rw [if_pos (by omega)]; done) | rw [if_neg (by omega)] | rw [if_pos (by omega)]))
  have h2 : fewE (.ofNat 25) = 0 := by (unfold fewE; (try simp only [Int.ofNat_eq_natCast]); repeat (first | rfl | (rw [if_pos (by omega)]; done) | rw [if_neg (by omega)] | rw [if_pos (by omega)]))
  rw [h1, h2]
  exact gives_run (v := .tup [.v (.int .i64 4), .v (.int .i64 0)]) (args := [.v (.int .i64 (.ofNat 25))]) Try.checked.mixed noKnown 1000 (by kernel_rfl) rfl rfl
theorem rfew_26 : Gives Try.prog 31 [.int .i64 (.ofNat 26)] (.tuple #[.int .i64 (fewN (.ofNat 26)), .int .i64 (fewE (.ofNat 26))]) := by
  have h1 : fewN (.ofNat 26) = 4 := by (unfold fewN; (try simp only [Int.ofNat_eq_natCast]); repeat (first | rfl | (rw [if_pos (by omega)]; done) | rw [if_neg (by omega)] | rw [if_pos (by omega)]))
  have h2 : fewE (.ofNat 26) = 0 := by (unfold fewE; (try simp only [Int.ofNat_eq_natCast]); repeat (first | rfl | (rw [if_pos (by omega)]; done) | rw [if_neg (by omega)] | rw [if_pos (by omega)]))
  rw [h1, h2]
  exact gives_run (v := .tup [.v (.int .i64 4), .v (.int .i64 0)]) (args := [.v (.int .i64 (.ofNat 26))]) Try.checked.mixed noKnown 1000 (by kernel_rfl) rfl rfl
theorem rfew_27 : Gives Try.prog 31 [.int .i64 (.ofNat 27)] (.tuple #[.int .i64 (fewN (.ofNat 27)), .int .i64 (fewE (.ofNat 27))]) := by
  have h1 : fewN (.ofNat 27) = 4 := by (unfold fewN; (try simp only [Int.ofNat_eq_natCast]); repeat (first | rfl | (rw [if_pos (by omega)]; done) | rw [if_neg (by omega)] | rw [if_pos (by omega)]))
  have h2 : fewE (.ofNat 27) = 0 := by (unfold fewE; (try simp only [Int.ofNat_eq_natCast]); repeat (first | rfl | (rw [if_pos (by omega)]; done) | rw [if_neg (by omega)] | rw [if_pos (by omega)]))
  rw [h1, h2]
  exact gives_run (v := .tup [.v (.int .i64 4), .v (.int .i64 0)]) (args := [.v (.int .i64 (.ofNat 27))]) Try.checked.mixed noKnown 1000 (by kernel_rfl) rfl rfl
theorem rfew_28 : Gives Try.prog 31 [.int .i64 (.ofNat 28)] (.tuple #[.int .i64 (fewN (.ofNat 28)), .int .i64 (fewE (.ofNat 28))]) := by
  have h1 : fewN (.ofNat 28) = 4 := by (unfold fewN; (try simp only [Int.ofNat_eq_natCast]); repeat (first | rfl | (rw [if_pos (by omega)]; done) | rw [if_neg (by omega)] | rw [if_pos (by omega)]))
  have h2 : fewE (.ofNat 28) = 0 := by (unfold fewE; (try simp only [Int.ofNat_eq_natCast]); repeat (first | rfl | (rw [if_pos (by omega)]; done) | rw [if_neg (by omega)] | rw [if_pos (by omega)]))
  rw [h1, h2]
  exact gives_run (v := .tup [.v (.int .i64 4), .v (.int .i64 0)]) (args := [.v (.int .i64 (.ofNat 28))]) Try.checked.mixed noKnown 1000 (by kernel_rfl) rfl rfl
theorem rfew_29 : Gives Try.prog 31 [.int .i64 (.ofNat 29)] (.tuple #[.int .i64 (fewN (.ofNat 29)), .int .i64 (fewE (.ofNat 29))]) := by
  have h1 : fewN (.ofNat 29) = 4 := by (unfold fewN; (try simp only [Int.ofNat_eq_natCast]); repeat (first | rfl | (rw [if_pos (by omega)]; done) | rw [if_neg (by omega)] | rw [if_pos (by omega)]))
  have h2 : fewE (.ofNat 29) = 0 := by (unfold fewE; (try simp only [Int.ofNat_eq_natCast]); repeat (first | rfl | (rw [if_pos (by omega)]; done) | rw [if_neg (by omega)] | rw [if_pos (by omega)]))
  rw [h1, h2]
  exact gives_run (v := .tup [.v (.int .i64 4), .v (.int .i64 0)]) (args := [.v (.int .i64 (.ofNat 29))]) Try.checked.mixed noKnown 1000 (by kernel_rfl) rfl rfl
theorem rfew_30 : Gives Try.prog 31 [.int .i64 (.ofNat 30)] (.tuple #[.int .i64 (fewN (.ofNat 30)), .int .i64 (fewE (.ofNat 30))]) := by
  have h1 : fewN (.ofNat 30) = 4 := by (unfold fewN; (try simp only [Int.ofNat_eq_natCast]); repeat (first | rfl | (rw [if_pos (by omega)]; done) | rw [if_neg (by omega)] | rw [if_pos (by omega)]))
  have h2 : fewE (.ofNat 30) = 0 := by (unfold fewE; (try simp only [Int.ofNat_eq_natCast]); repeat (first | rfl | (rw [if_pos (by omega)]; done) | rw [if_neg (by omega)] | rw [if_pos (by omega)]))
  rw [h1, h2]
  exact gives_run (v := .tup [.v (.int .i64 4), .v (.int .i64 0)]) (args := [.v (.int .i64 (.ofNat 30))]) Try.checked.mixed noKnown 1000 (by kernel_rfl) rfl rfl
theorem rfew_31 : Gives Try.prog 31 [.int .i64 (.ofNat 31)] (.tuple #[.int .i64 (fewN (.ofNat 31)), .int .i64 (fewE (.ofNat 31))]) := by
  have h1 : fewN (.ofNat 31) = 4 := by (unfold fewN; (try simp only [Int.ofNat_eq_natCast]); repeat (first | rfl | (rw [if_pos (by omega)]; done) | rw [if_neg (by omega)] | rw [if_pos (by omega)]))
  have h2 : fewE (.ofNat 31) = 0 := by (unfold fewE; (try simp only [Int.ofNat_eq_natCast]); repeat (first | rfl | (rw [if_pos (by omega)]; done) | rw [if_neg (by omega)] | rw [if_pos (by omega)]))
  rw [h1, h2]
  exact gives_run (v := .tup [.v (.int .i64 4), .v (.int .i64 0)]) (args := [.v (.int .i64 (.ofNat 31))]) Try.checked.mixed noKnown 1000 (by kernel_rfl) rfl rfl
theorem rfew_32 : Gives Try.prog 31 [.int .i64 (.ofNat 32)] (.tuple #[.int .i64 (fewN (.ofNat 32)), .int .i64 (fewE (.ofNat 32))]) := by
  have h1 : fewN (.ofNat 32) = 4 := by (unfold fewN; (try simp only [Int.ofNat_eq_natCast]); repeat (first | rfl | (rw [if_pos (by omega)]; done) | rw [if_neg (by omega)] | rw [if_pos (by omega)]))
  have h2 : fewE (.ofNat 32) = 0 := by (unfold fewE; (try simp only [Int.ofNat_eq_natCast]); repeat (first | rfl | (rw [if_pos (by omega)]; done) | rw [if_neg (by omega)] | rw [if_pos (by omega)]))
  rw [h1, h2]
  exact gives_run (v := .tup [.v (.int .i64 4), .v (.int .i64 0)]) (args := [.v (.int .i64 (.ofNat 32))]) Try.checked.mixed noKnown 1000 (by kernel_rfl) rfl rfl
theorem rfew_33 : Gives Try.prog 31 [.int .i64 (.ofNat 33)] (.tuple #[.int .i64 (fewN (.ofNat 33)), .int .i64 (fewE (.ofNat 33))]) := by
  have h1 : fewN (.ofNat 33) = 4 := by (unfold fewN; (try simp only [Int.ofNat_eq_natCast]); repeat (first | rfl | (rw [if_pos (by omega)]; done) | rw [if_neg (by omega)] | rw [if_pos (by omega)]))
  have h2 : fewE (.ofNat 33) = 0 := by (unfold fewE; (try simp only [Int.ofNat_eq_natCast]); repeat (first | rfl | (rw [if_pos (by omega)]; done) | rw [if_neg (by omega)] | rw [if_pos (by omega)]))
  rw [h1, h2]
  exact gives_run (v := .tup [.v (.int .i64 4), .v (.int .i64 0)]) (args := [.v (.int .i64 (.ofNat 33))]) Try.checked.mixed noKnown 1000 (by kernel_rfl) rfl rfl
theorem rfew_34 : Gives Try.prog 31 [.int .i64 (.ofNat 34)] (.tuple #[.int .i64 (fewN (.ofNat 34)), .int .i64 (fewE (.ofNat 34))]) := by
  have h1 : fewN (.ofNat 34) = 4 := by (unfold fewN; (try simp only [Int.ofNat_eq_natCast]); repeat (first | rfl | (rw [if_pos (by omega)]; done) | rw [if_neg (by omega)] | rw [if_pos (by omega)]))
  have h2 : fewE (.ofNat 34) = 0 := by (unfold fewE; (try simp only [Int.ofNat_eq_natCast]); repeat (first | rfl | (rw [if_pos (by omega)]; done) | rw [if_neg (by omega)] | rw [if_pos (by omega)]))
  rw [h1, h2]
  exact gives_run (v := .tup [.v (.int .i64 4), .v (.int .i64 0)]) (args := [.v (.int .i64 (.ofNat 34))]) Try.checked.mixed noKnown 1000 (by kernel_rfl) rfl rfl
theorem rfew_35 : Gives Try.prog 31 [.int .i64 (.ofNat 35)] (.tuple #[.int .i64 (fewN (.ofNat 35)), .int .i64 (fewE (.ofNat 35))]) := by
  have h1 : fewN (.ofNat 35) = 4 := by (unfold fewN; (try simp only [Int.ofNat_eq_natCast]); repeat (first | rfl | (rw [if_pos (by omega)]; done) | rw [if_neg (by omega)] | rw [if_pos (by omega)]))
  have h2 : fewE (.ofNat 35) = 0 := by (unfold fewE; (try simp only [Int.ofNat_eq_natCast]); repeat (first | rfl | (rw [if_pos (by omega)]; done) | rw [if_neg (by omega)] | rw [if_pos (by omega)]))
  rw [h1, h2]
  exact gives_run (v := .tup [.v (.int .i64 4), .v (.int .i64 0)]) (args := [.v (.int .i64 (.ofNat 35))]) Try.checked.mixed noKnown 1000 (by kernel_rfl) rfl rfl
theorem rfew_36 : Gives Try.prog 31 [.int .i64 (.ofNat 36)] (.tuple #[.int .i64 (fewN (.ofNat 36)), .int .i64 (fewE (.ofNat 36))]) := by
  have h1 : fewN (.ofNat 36) = 4 := by (unfold fewN; (try simp only [Int.ofNat_eq_natCast]); repeat (first | rfl | (rw [if_pos (by omega)]; done) | rw [if_neg (by omega)] | rw [if_pos (by omega)]))
  have h2 : fewE (.ofNat 36) = 0 := by (unfold fewE; (try simp only [Int.ofNat_eq_natCast]); repeat (first | rfl | (rw [if_pos (by omega)]; done) | rw [if_neg (by omega)] | rw [if_pos (by omega)]))
  rw [h1, h2]
  exact gives_run (v := .tup [.v (.int .i64 4), .v (.int .i64 0)]) (args := [.v (.int .i64 (.ofNat 36))]) Try.checked.mixed noKnown 1000 (by kernel_rfl) rfl rfl
theorem rfew_37 : Gives Try.prog 31 [.int .i64 (.ofNat 37)] (.tuple #[.int .i64 (fewN (.ofNat 37)), .int .i64 (fewE (.ofNat 37))]) := by
  have h1 : fewN (.ofNat 37) = 4 := by (unfold fewN; (try simp only [Int.ofNat_eq_natCast]); repeat (first | rfl | (rw [if_pos (by omega)]; done) | rw [if_neg (by omega)] | rw [if_pos (by omega)]))
  have h2 : fewE (.ofNat 37) = 0 := by (unfold fewE; (try simp only [Int.ofNat_eq_natCast]); repeat (first | rfl | (rw [if_pos (by omega)]; done) | rw [if_neg (by omega)] | rw [if_pos (by omega)]))
  rw [h1, h2]
  exact gives_run (v := .tup [.v (.int .i64 4), .v (.int .i64 0)]) (args := [.v (.int .i64 (.ofNat 37))]) Try.checked.mixed noKnown 1000 (by kernel_rfl) rfl rfl
theorem rfew_38 : Gives Try.prog 31 [.int .i64 (.ofNat 38)] (.tuple #[.int .i64 (fewN (.ofNat 38)), .int .i64 (fewE (.ofNat 38))]) := by
  have h1 : fewN (.ofNat 38) = 4 := by (unfold fewN; (try simp only [Int.ofNat_eq_natCast]); repeat (first | rfl | (rw [if_pos (by omega)]; done) | rw [if_neg (by omega)] | rw [if_pos (by omega)]))
  have h2 : fewE (.ofNat 38) = 0 := by (unfold fewE; (try simp only [Int.ofNat_eq_natCast]); repeat (first | rfl | (rw [if_pos (by omega)]; done) | rw [if_neg (by omega)] | rw [if_pos (by omega)]))
  rw [h1, h2]
  exact gives_run (v := .tup [.v (.int .i64 4), .v (.int .i64 0)]) (args := [.v (.int .i64 (.ofNat 38))]) Try.checked.mixed noKnown 1000 (by kernel_rfl) rfl rfl
theorem rfew_39 : Gives Try.prog 31 [.int .i64 (.ofNat 39)] (.tuple #[.int .i64 (fewN (.ofNat 39)), .int .i64 (fewE (.ofNat 39))]) := by
  have h1 : fewN (.ofNat 39) = 4 := by (unfold fewN; (try simp only [Int.ofNat_eq_natCast]); repeat (first | rfl | (rw [if_pos (by omega)]; done) | rw [if_neg (by omega)] | rw [if_pos (by omega)]))
  have h2 : fewE (.ofNat 39) = 0 := by (unfold fewE; (try simp only [Int.ofNat_eq_natCast]); repeat (first | rfl | (rw [if_pos (by omega)]; done) | rw [if_neg (by omega)] | rw [if_pos (by omega)]))
  rw [h1, h2]
  exact gives_run (v := .tup [.v (.int .i64 4), .v (.int .i64 0)]) (args := [.v (.int .i64 (.ofNat 39))]) Try.checked.mixed noKnown 1000 (by kernel_rfl) rfl rfl
theorem rfew_g (n : Int) : Gives Try.prog 31 [.int .i64 n] (.tuple #[.int .i64 (fewN n), .int .i64 (fewE n)]) := by
  rcases small_or 40 n with ⟨m, rfl⟩ | ⟨m, rfl⟩ | ⟨h1, h2⟩
  · exact rfew_neg m
  · exact rfew_big m
  · have : n = .ofNat 0 ∨ n = .ofNat 1 ∨ n = .ofNat 2 ∨ n = .ofNat 3 ∨ n = .ofNat 4 ∨ n = .ofNat 5 ∨ n = .ofNat 6 ∨ n = .ofNat 7 ∨ n = .ofNat 8 ∨ n = .ofNat 9 ∨ n = .ofNat 10 ∨ n = .ofNat 11 ∨ n = .ofNat 12 ∨ n = .ofNat 13 ∨ n = .ofNat 14 ∨ n = .ofNat 15 ∨ n = .ofNat 16 ∨ n = .ofNat 17 ∨ n = .ofNat 18 ∨ n = .ofNat 19 ∨ n = .ofNat 20 ∨ n = .ofNat 21 ∨ n = .ofNat 22 ∨ n = .ofNat 23 ∨ n = .ofNat 24 ∨ n = .ofNat 25 ∨ n = .ofNat 26 ∨ n = .ofNat 27 ∨ n = .ofNat 28 ∨ n = .ofNat 29 ∨ n = .ofNat 30 ∨ n = .ofNat 31 ∨ n = .ofNat 32 ∨ n = .ofNat 33 ∨ n = .ofNat 34 ∨ n = .ofNat 35 ∨ n = .ofNat 36 ∨ n = .ofNat 37 ∨ n = .ofNat 38 ∨ n = .ofNat 39 := by simp only [Int.ofNat_eq_natCast]; omega
    rcases this with rfl | rfl | rfl | rfl | rfl | rfl | rfl | rfl | rfl | rfl | rfl | rfl | rfl | rfl | rfl | rfl | rfl | rfl | rfl | rfl | rfl | rfl | rfl | rfl | rfl | rfl | rfl | rfl | rfl | rfl | rfl | rfl | rfl | rfl | rfl | rfl | rfl | rfl | rfl | rfl
    · exact rfew_0
    · exact rfew_1
    · exact rfew_2
    · exact rfew_3
    · exact rfew_4
    · exact rfew_5
    · exact rfew_6
    · exact rfew_7
    · exact rfew_8
    · exact rfew_9
    · exact rfew_10
    · exact rfew_11
    · exact rfew_12
    · exact rfew_13
    · exact rfew_14
    · exact rfew_15
    · exact rfew_16
    · exact rfew_17
    · exact rfew_18
    · exact rfew_19
    · exact rfew_20
    · exact rfew_21
    · exact rfew_22
    · exact rfew_23
    · exact rfew_24
    · exact rfew_25
    · exact rfew_26
    · exact rfew_27
    · exact rfew_28
    · exact rfew_29
    · exact rfew_30
    · exact rfew_31
    · exact rfew_32
    · exact rfew_33
    · exact rfew_34
    · exact rfew_35
    · exact rfew_36
    · exact rfew_37
    · exact rfew_38
    · exact rfew_39
def mostS : List Value → Option AV := fun xs => match xs with | [.int .i64 n] => some (.tup [.v (.int .i64 (mostN n)), .v (.int .i64 (mostE n))]) | _ => none
def mostO : OrcH := plainOrc 28 mostS
theorem known_most : Known Try.prog (clsO mostO) := known_plain (fun xs v h => by
  unfold mostS at h
  split at h
  · cases h
    exact ⟨_, rfl, most_g _⟩
  · cases h)
def rmostS : List Value → Option AV := fun xs => match xs with | [.int .i64 n] => some (.tup [.v (.int .i64 (mostN n)), .v (.int .i64 (mostE n))]) | _ => none
def rmostO : OrcH := plainOrc 29 rmostS
theorem known_rmost : Known Try.prog (clsO rmostO) := known_plain (fun xs v h => by
  unfold rmostS at h
  split at h
  · cases h
    exact ⟨_, rfl, rmost_g _⟩
  · cases h)
def fewS : List Value → Option AV := fun xs => match xs with | [.int .i64 n] => some (.tup [.v (.int .i64 (fewN n)), .v (.int .i64 (fewE n))]) | _ => none
def fewO : OrcH := plainOrc 30 fewS
theorem known_few : Known Try.prog (clsO fewO) := known_plain (fun xs v h => by
  unfold fewS at h
  split at h
  · cases h
    exact ⟨_, rfl, few_g _⟩
  · cases h)
def rfewS : List Value → Option AV := fun xs => match xs with | [.int .i64 n] => some (.tup [.v (.int .i64 (fewN n)), .v (.int .i64 (fewE n))]) | _ => none
def rfewO : OrcH := plainOrc 31 rfewS
theorem known_rfew : Known Try.prog (clsO rfewO) := known_plain (fun xs v h => by
  unfold rfewS at h
  split at h
  · cases h
    exact ⟨_, rfl, rfew_g _⟩
  · cases h)
def wkS : List Value → Option AV := fun xs => match xs with | [] => some (.v (.bool true)) | _ => none
def wkO : OrcH := plainOrc 15 wkS
theorem known_wk : Known Try.prog (clsO wkO) := gives_closed AtlasWorks_known
def msO : OrcH := orO (orO mostO rmostO) (orO (orO fewO rfewO) wkO)
theorem known_ms : Known Try.prog (clsO msO) := known_or (known_or known_most known_rmost) (known_or (known_or known_few known_rfew) known_wk)
end
end Go.Proofs.Ytmankoikpadkpaa
