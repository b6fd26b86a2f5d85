import Derived.Test.YtbdjllgngblfoaaUy
import Derived.Test.YtbdjllgngblfoaaUu2
import Derived.Test.YtbdjllgngblfoaaUn
import Derived.Test.YtbdjllgngblfoaaUl2
import Derived.Test.YtbdjllgngblfoaaUl
namespace Go.Proofs.Ytbdjllgngblfoaa
set_option linter.unusedVariables false
set_option linter.unusedSimpArgs false
open Go.RowKit

abbrev LD : List S4 := [(3, 4, 4, 5), (10, 1, 10, 1)]
theorem carry_ex (v : Value) (w : World) (h : SlS w v LD) :
    Calls Try.prog 32 #[.agg #[.int .i64 2, .int .i64 1, .int .i64 5, .int .i64 2], v] w fun e w' => e = .returned (.tuple #[.agg #[.int .i64 15, .int .i64 1, .int .i64 20, .int .i64 1], .int .i64 0]) ∧ Below w.heap.size w w' :=
  Carry_any (2, 1, 5, 2) LD v (15, 1, 20, 1) 0 (by decide +kernel) (by decide) w h
theorem back_ex (v : Value) (w : World) (h : SlS w v LD) :
    Calls Try.prog 33 #[.agg #[.int .i64 15, .int .i64 1, .int .i64 20, .int .i64 1], v] w fun e w' => e = .returned (.tuple #[.agg #[.int .i64 15, .int .i64 8, .int .i64 8, .int .i64 3], .int .i64 0]) ∧ Below w.heap.size w w' :=
  Back_any (15, 1, 20, 1) LD v (15, 8, 8, 3) 0 (by decide +kernel) (by decide) w h
theorem simp_ex {a b c d x y : Int} (hS : Sp a b c d) (hL : Least a b c d x y) (w : World) :
    Calls Try.prog 14 #[.agg #[.int .i64 a, .int .i64 b, .int .i64 c, .int .i64 d]] w fun e w' => e = .returned (.tuple #[.agg #[.int .i64 x, .int .i64 y], .int .i64 0]) ∧ Below w.heap.size w w' := by
  refine (Simplest_ok a b c d hS w).mono ?_
  rintro e w' ⟨⟨x', y', rfl, hL'⟩, hb⟩
  obtain ⟨rfl, rfl⟩ := hL.uniq hL'
  exact ⟨rfl, hb⟩
theorem simp_ex1 (w : World) :
    Calls Try.prog 14 #[.agg #[.int .i64 3, .int .i64 10, .int .i64 1, .int .i64 3]] w fun e w' => e = .returned (.tuple #[.agg #[.int .i64 1, .int .i64 3], .int .i64 0]) ∧ Below w.heap.size w w' := simp_ex (a := 3) (b := 10) (c := 1) (d := 3) (x := 1) (y := 3) (by decide +kernel) ⟨by decide +kernel, by decide, by decide, fun p q h1 h2 h3 h4 => by omega⟩ w
theorem simp_ex2 (w : World) :
    Calls Try.prog 14 #[.agg #[.int .i64 31, .int .i64 100, .int .i64 8, .int .i64 25]] w fun e w' => e = .returned (.tuple #[.agg #[.int .i64 5, .int .i64 16], .int .i64 0]) ∧ Below w.heap.size w w' := simp_ex (a := 31) (b := 100) (c := 8) (d := 25) (x := 5) (y := 16) (by decide +kernel) ⟨by decide +kernel, by decide, by decide, fun p q h1 h2 h3 h4 => by
  have : ¬ p ≤ 4 := by
    intro h
    rcases (show p = 1 ∨ p = 2 ∨ p = 3 ∨ p = 4 by omega) with rfl | rfl | rfl | rfl <;> omega
  omega⟩ w
theorem chk_ex1 (w : World) :
    Calls Try.prog 20 #[.agg #[.int .i64 31, .int .i64 100, .int .i64 8, .int .i64 25], .agg #[.int .i64 3, .int .i64 10, .int .i64 1, .int .i64 3]] w fun e w' => e = .returned (.tuple #[.int .i64 13, .int .i64 0]) ∧ Below w.heap.size w w' := CheckProof_any 31 100 8 25 3 10 1 3 13 0 (by decide +kernel) w
theorem path_ex1 (w : World) : Calls Try.prog 23 #[.agg #[.int .i64 5, .int .i64 16]] w fun e w' => (∃ v, e = .returned (.tuple #[v, .int .i64 0]) ∧ Sl w' v [0, 3, 5]) ∧ Below w.heap.size w w' := by
  have h := Path_ok 5 16 (by decide +kernel) w
  rwa [show pathL 64 5 16 = [0, 3, 5] by decide +kernel] at h
theorem follow_ex1 (v : Value) (w : World) (h : Sl w v [0, 3, 5]) :
    Calls Try.prog 25 #[v] w fun e w' => e = .returned (.tuple #[.agg #[.int .i64 5, .int .i64 16], .int .i64 0]) ∧ Below w.heap.size w w' := Follow_ok v [0, 3, 5] (by decide) (by decide) (by decide +kernel) 5 16 0 (by decide +kernel) w h
theorem follow_ex2 (v : Value) (w : World) (h : Sl w v [1, 1]) :
    Calls Try.prog 25 #[v] w fun e w' => e = .returned (.tuple #[.agg #[.int .i64 0, .int .i64 0], .int .i64 2]) ∧ Below w.heap.size w w' := Follow_bad v [1, 1] (by decide) (by decide) (by decide +kernel) w h
theorem next_ex {N D dn c d : Int} (hF : Fr N D) (hD : 1 ≤ dn ∧ dn ≤ 1000) (hN : N ≤ 999999) (hP : NextP N D dn c d) (w : World) :
    Calls Try.prog 28 #[.agg #[.int .i64 N, .int .i64 D], .int .i64 dn] w fun e w' => e = .returned (.tuple #[.agg #[.int .i64 c, .int .i64 d], .int .i64 0]) ∧ Below w.heap.size w w' := by
  refine (Next_ok N D dn hF hD hN w).mono ?_
  rintro e w' ⟨⟨c', d', rfl, hP'⟩, hb⟩
  obtain ⟨rfl, rfl⟩ := hP.uniq hP'
  exact ⟨rfl, hb⟩
theorem next_ex1 (w : World) :
    Calls Try.prog 28 #[.agg #[.int .i64 1, .int .i64 3], .int .i64 5] w fun e w' => e = .returned (.tuple #[.agg #[.int .i64 2, .int .i64 5], .int .i64 0]) ∧ Below w.heap.size w w' := next_ex (N := 1) (D := 3) (dn := 5) (c := 2) (d := 5) (by decide +kernel) (by decide) (by decide) ⟨by decide +kernel, by decide, by decide, fun x y h1 h2 h3 => by omega, fun _ => by decide⟩ w

theorem Decrees_any (w : World) : Calls Try.prog 43 #[] w fun e w' => (∃ v, e = .returned v ∧ SlS w' v LD) ∧ Below w.heap.size w w' := by
  go_enter Try.func43, Try.ntmps43
  go_wp2_with fail
  refine (Span_any 3 4 4 5 _).mono ?_
  rintro e w1 ⟨rfl, hb1⟩
  go_wp2_with fail
  refine (Span_any 10 1 10 1 _).mono ?_
  rintro e w2 ⟨rfl, hb2⟩
  go_wp2
  go_ret
  refine ⟨⟨_, rfl, some ⟨w2.heap.size, 0, none⟩, 2, rfl, by simp, fun _ => ⟨_, _, rfl, ?_⟩⟩, (hb1.trans (hb2.mono hb1.size)).alloc (by have := hb1.size; have := hb2.size; omega) _⟩
  intro i t ht
  match i, ht with
  | 0, ht => simp at ht; subst ht; simp [go_sem]
  | 1, ht => simp at ht; subst ht; simp [go_sem]
  | i + 2, ht => simp at ht
end Go.Proofs.Ytbdjllgngblfoaa
