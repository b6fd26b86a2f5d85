import Derived.Test.YtbdjllgngblfoaaUc
namespace Go.Proofs.Ytbdjllgngblfoaa
set_option linter.unusedVariables false
set_option linter.unusedSimpArgs false
open Go.RowKit

theorem CheckSpan_any (a b c d k : Int) (hk : (if Sp a b c d then 0 else 2) = k) (w : World) :
    Calls Try.prog 39 #[.agg #[.int .i64 a, .int .i64 b, .int .i64 c, .int .i64 d]] w fun e w' => e = .returned (.int .i64 k) ∧ Below w.heap.size w w' := by
  by_cases h1 : Fr a b
  · have H1 := Lib.hid (decide_eq_true h1)
    by_cases h2 : Fr c d
    · have H2 := Lib.hid (decide_eq_true h2)
      obtain ⟨p1, p2⟩ := fr_prod h1 h2
      obtain ⟨p3, p4⟩ := fr_prod h2 h1
      by_cases h3 : a * d ≤ c * b
      · obtain rfl : 0 = k := by rw [← hk, if_pos ⟨h1, h2, h3⟩]
        obtain ⟨q, hq, hq0⟩ : ∃ q, cmp3 (a * d) (c * b) = q ∧ q ≤ 0 := ⟨_, rfl, by unfold cmp3; split <;> (try split) <;> omega⟩
        have HQ := Lib.hid hq
        clear hq
        clear hk h1 h2
        go_enter Try.func39, Try.ntmps39
        go_wp2_with fail
        refine (isFraction_any _ _ true H1.out _).mono ?_
        rintro e w1 ⟨rfl, hb1⟩
        obtain ⟨hc1, hf1⟩ := bcell hb1
        have hz1_0 : w.heap.size < w1.heap.size := by have := hb1.size; (try simp at this); omega
        go_wp2_with fail
        refine (isFraction_any _ _ true H2.out _).mono ?_
        rintro e w2 ⟨rfl, hb2⟩
        obtain ⟨hc2, hf2⟩ := bcell hb2
        have hz2_0 : w.heap.size < w2.heap.size := by have := hb2.size; (try simp at this); omega
        go_wp2_with fail
        refine (compare_any _ _ _ _ _ HQ.out (by omega) (by omega) (by omega) (by omega) _).mono ?_
        rintro e w3 ⟨rfl, hb3⟩
        obtain ⟨hc3, hf3⟩ := bcell hb3
        have hz3_0 : w.heap.size < w3.heap.size := by have := hb3.size; (try simp at this); omega
        go_wp2
        go_ret
        exact ⟨rfl, (by repeat (first | exact Below.refl _ _ | (with_reducible refine Below.trans ?_ (hb3.mono (by first | omega | simp | (simp; omega)))) | (with_reducible refine Below.trans ?_ (hb2.mono (by first | omega | simp | (simp; omega)))) | (with_reducible refine Below.trans ?_ (hb1.mono (by first | omega | simp | (simp; omega)))) | (refine Below.alloc ?_ (by first | omega | simp | (simp; omega)) _) | (refine Below.setCell ?_ (by first | omega | simp | (simp; omega)) _) | refine Below.drew ?_))⟩
      · obtain rfl : 2 = k := by rw [← hk, if_neg (fun h => h3 h.2.2)]
        obtain ⟨q, hq, hq0⟩ : ∃ q, cmp3 (a * d) (c * b) = q ∧ 0 < q := ⟨_, rfl, by unfold cmp3; split <;> (try split) <;> omega⟩
        have HQ := Lib.hid hq
        clear hq
        clear hk h1 h2
        go_enter Try.func39, Try.ntmps39
        go_wp2_with fail
        refine (isFraction_any _ _ true H1.out _).mono ?_
        rintro e w1 ⟨rfl, hb1⟩
        obtain ⟨hc1, hf1⟩ := bcell hb1
        have hz1_0 : w.heap.size < w1.heap.size := by have := hb1.size; (try simp at this); omega
        go_wp2_with fail
        refine (isFraction_any _ _ true H2.out _).mono ?_
        rintro e w2 ⟨rfl, hb2⟩
        obtain ⟨hc2, hf2⟩ := bcell hb2
        have hz2_0 : w.heap.size < w2.heap.size := by have := hb2.size; (try simp at this); omega
        go_wp2_with fail
        refine (compare_any _ _ _ _ _ HQ.out (by omega) (by omega) (by omega) (by omega) _).mono ?_
        rintro e w3 ⟨rfl, hb3⟩
        obtain ⟨hc3, hf3⟩ := bcell hb3
        have hz3_0 : w.heap.size < w3.heap.size := by have := hb3.size; (try simp at this); omega
        go_wp2
        go_ret
        exact ⟨rfl, (by repeat (first | exact Below.refl _ _ | (with_reducible refine Below.trans ?_ (hb3.mono (by first | omega | simp | (simp; omega)))) | (with_reducible refine Below.trans ?_ (hb2.mono (by first | omega | simp | (simp; omega)))) | (with_reducible refine Below.trans ?_ (hb1.mono (by first | omega | simp | (simp; omega)))) | (refine Below.alloc ?_ (by first | omega | simp | (simp; omega)) _) | (refine Below.setCell ?_ (by first | omega | simp | (simp; omega)) _) | refine Below.drew ?_))⟩
    · have H2 := Lib.hid (decide_eq_false h2)
      obtain rfl : 2 = k := by rw [← hk, if_neg (fun h => h2 h.2.1)]
      clear hk h1 h2
      go_enter Try.func39, Try.ntmps39
      go_wp2_with fail
      refine (isFraction_any _ _ true H1.out _).mono ?_
      rintro e w1 ⟨rfl, hb1⟩
      obtain ⟨hc1, hf1⟩ := bcell hb1
      have hz1_0 : w.heap.size < w1.heap.size := by have := hb1.size; (try simp at this); omega
      go_wp2_with fail
      refine (isFraction_any _ _ false H2.out _).mono ?_
      rintro e w2 ⟨rfl, hb2⟩
      obtain ⟨hc2, hf2⟩ := bcell hb2
      have hz2_0 : w.heap.size < w2.heap.size := by have := hb2.size; (try simp at this); omega
      go_wp2
      go_ret
      exact ⟨rfl, (by repeat (first | exact Below.refl _ _ | (with_reducible refine Below.trans ?_ (hb2.mono (by first | omega | simp | (simp; omega)))) | (with_reducible refine Below.trans ?_ (hb1.mono (by first | omega | simp | (simp; omega)))) | (refine Below.alloc ?_ (by first | omega | simp | (simp; omega)) _) | (refine Below.setCell ?_ (by first | omega | simp | (simp; omega)) _) | refine Below.drew ?_))⟩
  · have H1 := Lib.hid (decide_eq_false h1)
    obtain rfl : 2 = k := by rw [← hk, if_neg (fun h => h1 h.1)]
    clear hk h1
    go_enter Try.func39, Try.ntmps39
    go_wp2_with fail
    refine (isFraction_any _ _ false H1.out _).mono ?_
    rintro e w1 ⟨rfl, hb1⟩
    obtain ⟨hc1, hf1⟩ := bcell hb1
    have hz1_0 : w.heap.size < w1.heap.size := by have := hb1.size; (try simp at this); omega
    go_wp2
    go_ret
    exact ⟨rfl, (by repeat (first | exact Below.refl _ _ | (with_reducible refine Below.trans ?_ (hb1.mono (by first | omega | simp | (simp; omega)))) | (refine Below.alloc ?_ (by first | omega | simp | (simp; omega)) _) | (refine Below.setCell ?_ (by first | omega | simp | (simp; omega)) _) | refine Below.drew ?_))⟩

theorem CheckSpanR_any (a b c d k : Int) (hk : (if Sp a b c d then 0 else 2) = k) (w : World) :
    Calls Try.prog 15 #[.agg #[.int .i64 a, .int .i64 b, .int .i64 c, .int .i64 d]] w fun e w' => e = .returned (.int .i64 k) ∧ Below w.heap.size w w' := by
  by_cases h1 : Fr a b
  · have H1 := Lib.hid (decide_eq_true h1)
    by_cases h2 : Fr c d
    · have H2 := Lib.hid (decide_eq_true h2)
      obtain ⟨p1, p2⟩ := fr_prod h1 h2
      obtain ⟨p3, p4⟩ := fr_prod h2 h1
      by_cases h3 : a * d ≤ c * b
      · obtain rfl : 0 = k := by rw [← hk, if_pos ⟨h1, h2, h3⟩]
        have HQ := Lib.hid (show decide (c * b < a * d) = false from by simp; omega)
        clear hk h1 h2
        go_enter Try.func15, Try.ntmps15
        go_wp2_with fail
        refine (IsFraction_any _ _ true H1.out _).mono ?_
        rintro e w1 ⟨rfl, hb1⟩
        obtain ⟨hc1, hf1⟩ := bcell hb1
        have hz1_0 : w.heap.size < w1.heap.size := by have := hb1.size; (try simp at this); omega
        go_wp2_with fail
        refine (IsFraction_any _ _ true H2.out _).mono ?_
        rintro e w2 ⟨rfl, hb2⟩
        obtain ⟨hc2, hf2⟩ := bcell hb2
        have hz2_0 : w.heap.size < w2.heap.size := by have := hb2.size; (try simp at this); omega
        go_wp2_with fail
        refine (less_any _ _ _ _ false HQ.out (by omega) (by omega) (by omega) (by omega) _).mono ?_
        rintro e w3 ⟨rfl, hb3⟩
        obtain ⟨hc3, hf3⟩ := bcell hb3
        have hz3_0 : w.heap.size < w3.heap.size := by have := hb3.size; (try simp at this); omega
        go_wp2
        go_ret
        exact ⟨rfl, (by repeat (first | exact Below.refl _ _ | (with_reducible refine Below.trans ?_ (hb3.mono (by first | omega | simp | (simp; omega)))) | (with_reducible refine Below.trans ?_ (hb2.mono (by first | omega | simp | (simp; omega)))) | (with_reducible refine Below.trans ?_ (hb1.mono (by first | omega | simp | (simp; omega)))) | (refine Below.alloc ?_ (by first | omega | simp | (simp; omega)) _) | (refine Below.setCell ?_ (by first | omega | simp | (simp; omega)) _) | refine Below.drew ?_))⟩
      · obtain rfl : 2 = k := by rw [← hk, if_neg (fun h => h3 h.2.2)]
        have HQ := Lib.hid (show decide (c * b < a * d) = true from by simp; omega)
        clear hk h1 h2
        go_enter Try.func15, Try.ntmps15
        go_wp2_with fail
        refine (IsFraction_any _ _ true H1.out _).mono ?_
        rintro e w1 ⟨rfl, hb1⟩
        obtain ⟨hc1, hf1⟩ := bcell hb1
        have hz1_0 : w.heap.size < w1.heap.size := by have := hb1.size; (try simp at this); omega
        go_wp2_with fail
        refine (IsFraction_any _ _ true H2.out _).mono ?_
        rintro e w2 ⟨rfl, hb2⟩
        obtain ⟨hc2, hf2⟩ := bcell hb2
        have hz2_0 : w.heap.size < w2.heap.size := by have := hb2.size; (try simp at this); omega
        go_wp2_with fail
        refine (less_any _ _ _ _ true HQ.out (by omega) (by omega) (by omega) (by omega) _).mono ?_
        rintro e w3 ⟨rfl, hb3⟩
        obtain ⟨hc3, hf3⟩ := bcell hb3
        have hz3_0 : w.heap.size < w3.heap.size := by have := hb3.size; (try simp at this); omega
        go_wp2
        go_ret
        exact ⟨rfl, (by repeat (first | exact Below.refl _ _ | (with_reducible refine Below.trans ?_ (hb3.mono (by first | omega | simp | (simp; omega)))) | (with_reducible refine Below.trans ?_ (hb2.mono (by first | omega | simp | (simp; omega)))) | (with_reducible refine Below.trans ?_ (hb1.mono (by first | omega | simp | (simp; omega)))) | (refine Below.alloc ?_ (by first | omega | simp | (simp; omega)) _) | (refine Below.setCell ?_ (by first | omega | simp | (simp; omega)) _) | refine Below.drew ?_))⟩
    · have H2 := Lib.hid (decide_eq_false h2)
      obtain rfl : 2 = k := by rw [← hk, if_neg (fun h => h2 h.2.1)]
      clear hk h1 h2
      go_enter Try.func15, Try.ntmps15
      go_wp2_with fail
      refine (IsFraction_any _ _ true H1.out _).mono ?_
      rintro e w1 ⟨rfl, hb1⟩
      obtain ⟨hc1, hf1⟩ := bcell hb1
      have hz1_0 : w.heap.size < w1.heap.size := by have := hb1.size; (try simp at this); omega
      go_wp2_with fail
      refine (IsFraction_any _ _ false H2.out _).mono ?_
      rintro e w2 ⟨rfl, hb2⟩
      obtain ⟨hc2, hf2⟩ := bcell hb2
      have hz2_0 : w.heap.size < w2.heap.size := by have := hb2.size; (try simp at this); omega
      go_wp2
      go_ret
      exact ⟨rfl, (by repeat (first | exact Below.refl _ _ | (with_reducible refine Below.trans ?_ (hb2.mono (by first | omega | simp | (simp; omega)))) | (with_reducible refine Below.trans ?_ (hb1.mono (by first | omega | simp | (simp; omega)))) | (refine Below.alloc ?_ (by first | omega | simp | (simp; omega)) _) | (refine Below.setCell ?_ (by first | omega | simp | (simp; omega)) _) | refine Below.drew ?_))⟩
  · have H1 := Lib.hid (decide_eq_false h1)
    obtain rfl : 2 = k := by rw [← hk, if_neg (fun h => h1 h.1)]
    clear hk h1
    go_enter Try.func15, Try.ntmps15
    go_wp2_with fail
    refine (IsFraction_any _ _ false H1.out _).mono ?_
    rintro e w1 ⟨rfl, hb1⟩
    obtain ⟨hc1, hf1⟩ := bcell hb1
    have hz1_0 : w.heap.size < w1.heap.size := by have := hb1.size; (try simp at this); omega
    go_wp2
    go_ret
    exact ⟨rfl, (by repeat (first | exact Below.refl _ _ | (with_reducible refine Below.trans ?_ (hb1.mono (by first | omega | simp | (simp; omega)))) | (refine Below.alloc ?_ (by first | omega | simp | (simp; omega)) _) | (refine Below.setCell ?_ (by first | omega | simp | (simp; omega)) _) | refine Below.drew ?_))⟩

theorem turned_any (a b : Int) (w : World) :
    Calls Try.prog 61 #[.agg #[.int .i64 a, .int .i64 b]] w fun e w' => e = .returned (.agg #[.int .i64 b, .int .i64 a]) ∧ Below w.heap.size w w' := by
  go_enter Try.func61, Try.ntmps61
  go_wp2
  exact bodyPost_ret (v := .agg #[.int .i64 (b), .int .i64 (a)]) (by simp [results, Try.results61, go_sem]) rfl ⟨rfl, (by repeat (first | exact Below.refl _ _ | (refine Below.alloc ?_ (by first | omega | simp | (simp; omega)) _) | (refine Below.setCell ?_ (by first | omega | simp | (simp; omega)) _) | refine Below.drew ?_))⟩

theorem turnOver_any (a b c d : Int) (w : World) :
    Calls Try.prog 60 #[.agg #[.int .i64 a, .int .i64 b, .int .i64 c, .int .i64 d]] w fun e w' => e = .returned (.agg #[.int .i64 d, .int .i64 c, .int .i64 b, .int .i64 a]) ∧ Below w.heap.size w w' := by
  go_enter Try.func60, Try.ntmps60
  go_wp2
  exact bodyPost_ret (v := .agg #[.int .i64 (d), .int .i64 (c), .int .i64 (b), .int .i64 (a)]) (by simp [results, Try.results60, go_sem]) rfl ⟨rfl, (by repeat (first | exact Below.refl _ _ | (refine Below.alloc ?_ (by first | omega | simp | (simp; omega)) _) | (refine Below.setCell ?_ (by first | omega | simp | (simp; omega)) _) | refine Below.drew ?_))⟩

theorem left_any (a b c d : Int) (w : World) :
    Calls Try.prog 48 #[.agg #[.int .i64 a, .int .i64 b, .int .i64 c, .int .i64 d]] w fun e w' => e = .returned (.agg #[.int .i64 a, .int .i64 b]) ∧ Below w.heap.size w w' := by
  go_enter Try.func48, Try.ntmps48
  go_wp2
  exact bodyPost_ret (v := .agg #[.int .i64 (a), .int .i64 (b)]) (by simp [results, Try.results48, go_sem]) rfl ⟨rfl, (by repeat (first | exact Below.refl _ _ | (refine Below.alloc ?_ (by first | omega | simp | (simp; omega)) _) | (refine Below.setCell ?_ (by first | omega | simp | (simp; omega)) _) | refine Below.drew ?_))⟩

theorem right_any (a b c d : Int) (w : World) :
    Calls Try.prog 49 #[.agg #[.int .i64 a, .int .i64 b, .int .i64 c, .int .i64 d]] w fun e w' => e = .returned (.agg #[.int .i64 c, .int .i64 d]) ∧ Below w.heap.size w w' := by
  go_enter Try.func49, Try.ntmps49
  go_wp2
  exact bodyPost_ret (v := .agg #[.int .i64 (c), .int .i64 (d)]) (by simp [results, Try.results49, go_sem]) rfl ⟨rfl, (by repeat (first | exact Below.refl _ _ | (refine Below.alloc ?_ (by first | omega | simp | (simp; omega)) _) | (refine Below.setCell ?_ (by first | omega | simp | (simp; omega)) _) | refine Below.drew ?_))⟩

theorem middle_any (a b c d : Int) (ha : 0 ≤ a) (ha2 : a ≤ 4000000000000000000) (hb : 0 ≤ b) (hb2 : b ≤ 4000000000000000000) (hc : 0 ≤ c) (hc2 : c ≤ 4000000000000000000) (hd : 0 ≤ d) (hd2 : d ≤ 4000000000000000000) (w : World) :
    Calls Try.prog 42 #[.agg #[.int .i64 a, .int .i64 b, .int .i64 c, .int .i64 d]] w fun e w' => e = .returned (.agg #[.int .i64 (a + c), .int .i64 (b + d)]) ∧ Below w.heap.size w w' := by
  go_enter Try.func42, Try.ntmps42
  go_wp2
  exact bodyPost_ret (v := .agg #[.int .i64 (a + c), .int .i64 (b + d)]) (by simp [results, Try.results42, go_sem]) rfl ⟨rfl, (by repeat (first | exact Below.refl _ _ | (refine Below.alloc ?_ (by first | omega | simp | (simp; omega)) _) | (refine Below.setCell ?_ (by first | omega | simp | (simp; omega)) _) | refine Below.drew ?_))⟩

theorem up_any (a b c d n : Int) (ha : 0 ≤ a) (ha2 : a ≤ 4000000000000000000) (hb : 0 ≤ b) (hb2 : b ≤ 4000000000000000000) (hc : 0 ≤ c) (hc2 : c ≤ 4000000000000000000) (hd : 0 ≤ d) (hd2 : d ≤ 4000000000000000000) (hn1 : 0 ≤ n * c) (hn2 : n * c ≤ 4000000000000000000) (hn3 : 0 ≤ n * d) (hn4 : n * d ≤ 4000000000000000000) (w : World) :
    Calls Try.prog 62 #[.agg #[.int .i64 a, .int .i64 b, .int .i64 c, .int .i64 d], .int .i64 n] w fun e w' => e = .returned (.agg #[.int .i64 (a + n * c), .int .i64 (b + n * d), .int .i64 c, .int .i64 d]) ∧ Below w.heap.size w w' := by
  go_enter Try.func62, Try.ntmps62
  go_wp2
  exact bodyPost_ret (v := .agg #[.int .i64 (a + n * c), .int .i64 (b + n * d), .int .i64 (c), .int .i64 (d)]) (by simp [results, Try.results62, go_sem]) rfl ⟨rfl, (by repeat (first | exact Below.refl _ _ | (refine Below.alloc ?_ (by first | omega | simp | (simp; omega)) _) | (refine Below.setCell ?_ (by first | omega | simp | (simp; omega)) _) | refine Below.drew ?_))⟩

theorem down_any (a b c d n : Int) (ha : 0 ≤ a) (ha2 : a ≤ 4000000000000000000) (hb : 0 ≤ b) (hb2 : b ≤ 4000000000000000000) (hc : 0 ≤ c) (hc2 : c ≤ 4000000000000000000) (hd : 0 ≤ d) (hd2 : d ≤ 4000000000000000000) (hn1 : 0 ≤ n * a) (hn2 : n * a ≤ 4000000000000000000) (hn3 : 0 ≤ n * b) (hn4 : n * b ≤ 4000000000000000000) (w : World) :
    Calls Try.prog 65 #[.agg #[.int .i64 a, .int .i64 b, .int .i64 c, .int .i64 d], .int .i64 n] w fun e w' => e = .returned (.agg #[.int .i64 a, .int .i64 b, .int .i64 (c + n * a), .int .i64 (d + n * b)]) ∧ Below w.heap.size w w' := by
  go_enter Try.func65, Try.ntmps65
  go_wp2
  exact bodyPost_ret (v := .agg #[.int .i64 (a), .int .i64 (b), .int .i64 (c + n * a), .int .i64 (d + n * b)]) (by simp [results, Try.results65, go_sem]) rfl ⟨rfl, (by repeat (first | exact Below.refl _ _ | (refine Below.alloc ?_ (by first | omega | simp | (simp; omega)) _) | (refine Below.setCell ?_ (by first | omega | simp | (simp; omega)) _) | refine Below.drew ?_))⟩

theorem first_any  (w : World) :
    Calls Try.prog 52 #[] w fun e w' => e = .returned (.agg #[.int .i64 0, .int .i64 1, .int .i64 1, .int .i64 0]) ∧ Below w.heap.size w w' := by
  go_enter Try.func52, Try.ntmps52
  go_wp2
  exact bodyPost_ret (v := .agg #[.int .i64 (0), .int .i64 (1), .int .i64 (1), .int .i64 (0)]) (by simp [results, Try.results52, go_sem]) rfl ⟨rfl, (by repeat (first | exact Below.refl _ _ | (refine Below.alloc ?_ (by first | omega | simp | (simp; omega)) _) | (refine Below.setCell ?_ (by first | omega | simp | (simp; omega)) _) | refine Below.drew ?_))⟩

theorem of_any (a b : Int) (w : World) :
    Calls Try.prog 35 #[.int .i64 a, .int .i64 b] w fun e w' => e = .returned (.agg #[.int .i64 a, .int .i64 b]) ∧ Below w.heap.size w w' := by
  go_enter Try.func35, Try.ntmps35
  go_wp2
  exact bodyPost_ret (v := .agg #[.int .i64 (a), .int .i64 (b)]) (by simp [results, Try.results35, go_sem]) rfl ⟨rfl, (by repeat (first | exact Below.refl _ _ | (refine Below.alloc ?_ (by first | omega | simp | (simp; omega)) _) | (refine Below.setCell ?_ (by first | omega | simp | (simp; omega)) _) | refine Below.drew ?_))⟩

end Go.Proofs.Ytbdjllgngblfoaa
