import Derived.Test.YtbdjllgngblfoaaUp
namespace Go.Proofs.Ytbdjllgngblfoaa
set_option linter.unusedVariables false
set_option linter.unusedSimpArgs false
open Go.RowKit

theorem Sl.form {w : World} {v : Value} {L : List Int} (h : Sl w v L) : ∃ (o : Option Addr) (cap : Nat), v = .slice o L.length cap ∧ L.length ≤ cap ∧ (0 < L.length → ∃ g off, o = some ⟨g, off, none⟩ ∧ ∀ i, i < L.length → w.cell? ⟨g, off + i, none⟩ = some (.int .i64 (L.getD i 0))) := by
  rcases h with ⟨rfl, rfl⟩ | ⟨g, off, cap, rfl, h2, h3⟩
  · exact ⟨none, 0, rfl, Nat.le_refl _, fun h => absurd h (by simp)⟩
  · exact ⟨_, cap, rfl, h2, fun _ => ⟨g, off, rfl, h3⟩⟩

set_option maxRecDepth 100000 in
theorem Path_bad (a b : Int) (hF : ¬ Fr a b) (w : World) :
    Calls Try.prog 23 #[.agg #[.int .i64 a, .int .i64 b]] w fun e w' => e = .returned (.tuple #[.slice none 0 0, .int .i64 2]) ∧ Below w.heap.size w w' := by
  have H := Lib.hid (decide_eq_false hF)
  clear hF
  go_enter Try.func23, Try.ntmps23
  go_wp2_with fail
  refine (isFraction_any _ _ false H.out _).mono ?_
  rintro e w1 ⟨rfl, hb1⟩
  obtain ⟨hc1, hf1⟩ := bcell hb1
  have hz1_0 : w.heap.size < w1.heap.size := by have := hb1.size; (try simp at this); omega
  go_wp2
  go_ret2
  exact ⟨rfl, (by repeat (first | exact Below.refl _ _ | (with_reducible refine Below.trans ?_ (hb1.mono (by first | omega | (simp; done) | (simp; omega)))) | (refine Below.alloc ?_ (by first | omega | (simp; done) | (simp; omega)) _) | (refine Below.setCell ?_ (by first | omega | (simp; done) | (simp; omega)) _) | refine Below.drew ?_))⟩

theorem lt_of_cell' {w : World} {p : Addr} {v : Value} (h : w.cell? p = some v) : p.block < w.heap.size := by
  unfold World.cell? at h
  split at h
  · rename_i hh
    exact (Array.getElem?_eq_some_iff.1 hh).1
  · cases h
theorem below_drewN' {B : Nat} {a w : World} (h : Below B a w) (n : Nat) : Below B a (w.drewN n) := ⟨h.os, h.tape, h.output, h.size, h.block⟩

theorem longs_any (va vb : Value) (A B : List Int) (r : Bool) (hr : decide (A = B) = r) (hA0 : A.length ≤ 4000000000000000000) (hB0 : B.length ≤ 4000000000000000000) (w : World) (hA : Sl w va A) (hB : Sl w vb B) :
    Calls Try.prog 27 #[va, vb] w fun e w' => e = .returned (.bool r) ∧ Below w.heap.size w w' := by
  obtain ⟨o1, c1, rfl, hc1, k1⟩ := hA.form
  obtain ⟨o2, c2, rfl, hc2, k2⟩ := hB.form
  clear hA hB
  have K1 := Lib.hid k1
  have K2 := Lib.hid k2
  clear k1 k2
  by_cases hl : A.length = B.length
  · have hq : ((A.length : Int) != (B.length : Int)) = false := by simp [hl]
    have HL := Lib.hid hl
    have HR := Lib.hid hr
    clear hl hr
    go_enter Try.func27, Try.ntmps27
    go_wp2_with fail
    go_loopw [5] (fun v wr => ∃ k : Nat, v = .int .i64 k ∧ k ≤ A.length ∧ Hid (∀ j, j < k → A.getD j 0 = B.getD j 0) ∧ Below w.heap.size w wr) (fun v _ => A.length - (intOf v).toNat)
    case atStart => exact ⟨0, rfl, Nat.zero_le _, Lib.hid (fun j h => absurd h (Nat.not_lt_zero _)), Below.refl _ _⟩
    case round =>
      obtain ⟨k, rfl, hk, hall, hbl⟩ := hrel
      by_cases hlt : k < A.length
      · have hltB : k < B.length := by rw [← HL.out]; exact hlt
        obtain ⟨g1, f1, rfl, e1⟩ := K1.out (by omega)
        obtain ⟨g2, f2, rfl, e2⟩ := K2.out (by omega)
        have q1 : wr.cell? ⟨g1, f1 + k, none⟩ = some (.int .i64 (A.getD k 0)) := (hbl.cell (lt_of_cell' (e1 k hlt))).trans (e1 k hlt)
        have q2 : wr.cell? ⟨g2, f2 + k, none⟩ = some (.int .i64 (B.getD k 0)) := (hbl.cell (lt_of_cell' (e2 k hltB))).trans (e2 k hltB)
        clear e1 e2
        generalize hx : A.getD k 0 = x at *
        generalize hy : B.getD k 0 = y at *
        have HX := Lib.hid hx
        have HY := Lib.hid hy
        clear hx hy
        have i1 : (0 : Int) ≤ k := by omega
        have i2 : (k : Int) < A.length := by omega
        have i3 : (k : Int) < B.length := by omega
        by_cases hxy : x = y
        · have hne : (x != y) = false := by simp [hxy]
          have HXY := Lib.hid hxy
          clear hxy
          go_wp2_with fail
          go_quiet (fail)
          go_wp2_with fail
          go_roundw
          case rel => exact ⟨k + 1, by go_num, by omega, Lib.hid (fun j hj => by
            by_cases hjk : j = k
            · subst hjk; rw [HX.out, HY.out, HXY.out]
            · exact hall.out j (by omega)), below_drewN' hbl _⟩
          case measure => simp [intOf]; omega
        · have hne : (x != y) = true := by simp [hxy]
          have hf : false = r := by rw [← HR.out]; exact (decide_eq_false (fun e => hxy (by rw [← HX.out, ← HY.out, e]))).symm
          subst hf
          clear hxy
          go_wp2_with fail
          go_quiet (fail)
          go_wp2_with fail
          go_ret
          exact ⟨rfl, below_drewN' hbl _⟩
      · have hT : true = r := by
          rw [← HR.out]
          refine (decide_eq_true ?_).symm
          apply List.ext_getElem? 
          intro i
          by_cases hi : i < A.length
          · have := hall.out i (by omega)
            rw [List.getD_eq_getElem?_getD, List.getD_eq_getElem?_getD] at this
            have hiB : i < B.length := by rw [← HL.out]; exact hi
            rw [List.getElem?_eq_getElem hi, List.getElem?_eq_getElem hiB] at this ⊢
            simpa using this
          · rw [List.getElem?_eq_none (by omega), List.getElem?_eq_none (by rw [← HL.out]; omega)]
        subst hT
        go_wp2_with fail
        go_ret
        exact ⟨rfl, hbl⟩
  · have hq : ((A.length : Int) != (B.length : Int)) = true := by
      simp
      omega
    have hf : false = r := by rw [← hr]; exact (decide_eq_false (fun e => hl (by rw [e]))).symm
    subst hf
    clear hl hr
    go_enter Try.func27, Try.ntmps27
    go_wp2
    go_ret
    exact ⟨rfl, (by repeat (first | exact Below.refl _ _ | (refine Below.alloc ?_ (by first | omega | (simp; done) | (simp; omega)) _) | (refine Below.setCell ?_ (by first | omega | (simp; done) | (simp; omega)) _) | refine Below.drew ?_))⟩

end Go.Proofs.Ytbdjllgngblfoaa
