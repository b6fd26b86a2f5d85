import Derived.Test.YtbdjllgngblfoaaUz2
import Derived.Test.YtbdjllgngblfoaaVe
import Derived.Test.YtbdjllgngblfoaaVm2
namespace Go.Proofs.Ytbdjllgngblfoaa
set_option linter.unusedVariables false
set_option linter.unusedSimpArgs false
open Go.RowKit

theorem sl_addr {w : World} {v : Value} {L : List Int} (h : Sl w v L) (hl : 1 ≤ L.length) : ∃ g off n cap, v = .slice (some ⟨g, off, none⟩) n cap ∧ n ≤ cap ∧ Hid (n = L.length) := by
  rcases h with ⟨rfl, rfl⟩ | ⟨g, off, cap, rfl, h2, h3⟩
  · simp at hl
  · exact ⟨g, off, _, cap, rfl, h2, Lib.hid rfl⟩
theorem sl_cell0 {w : World} {g off n cap : Nat} {z : Int} {L R : List Int} (h : Sl w (.slice (some ⟨g, off, none⟩) n cap) L) (e : L = z :: R) : w.cell? ⟨g, off, none⟩ = some (.int .i64 z) := by
  subst e
  rcases h with ⟨h, _⟩ | ⟨g', off', cap', h1, h2, h3⟩
  · cases h
  · cases h1
    simpa using h3 0 (by simp)
theorem sl_tail {w : World} {g off n cap : Nat} {z : Int} {L R : List Int} (h : Sl w (.slice (some ⟨g, off, none⟩) n cap) L) (e : L = z :: R) : Sl w (.slice (some ⟨g, off + 1, none⟩) (n - 1) (cap - 1)) R := by
  subst e
  rcases h with ⟨h, _⟩ | ⟨g', off', cap', h1, h2, h3⟩
  · cases h
  · cases h1
    refine .inr ⟨g, off + 1, cap - 1, by simp, by simp at h2; omega, fun i hi => ?_⟩
    have := h3 (i + 1) (by simp; omega)
    rw [show off + 1 + i = off + (i + 1) by omega, this]
    simp [List.getD_eq_getElem?_getD]
theorem least_w {a b c d x y : Int} (h : Least a b c d x y) : LeastW a b c d x y := ⟨h.fr.1, h.fr.2.2.1, h.lo, h.hi, h.min⟩

set_option maxRecDepth 100000 in
set_option maxHeartbeats 8000000 in
theorem Path_law (a b c d e0 f0 : Int) (w : World) : Calls Try.prog 11 #[.agg #[.int .i64 a, .int .i64 b], .agg #[.int .i64 c, .int .i64 d, .int .i64 e0, .int .i64 f0]] w fun e w' => e = .returned (.bool true) ∧ Below w.heap.size w w' := by
  by_cases hF : Fr a b
  · have hpf := path_fr hF
    have hpt := path_fr (fr_turn hF)
    have HL1 := Lib.hid hpf.1
    have HL2 := Lib.hid hpf.2.1
    have HT1 := Lib.hid hpt.1
    have HT2 := Lib.hid hpt.2.1
    have HPth : Hid (PthOK (pathL 64 a b)) := Lib.hid hpf.2.2.1
    have hfol : resF (pathL 64 a b) = ((a, b), 0) := (fol_eq _).trans (fol_path hF)
    have HFol : Hid ((match folL (pathL 64 a b) with | none => (((0, 0), 4) : (Int × Int) × Int) | some e => if e = S0 then ((0, 0), 2) else if (pathL 64 a b).length % 2 = 1 then ((e.1, e.2.1), 0) else ((e.2.2.1, e.2.2.2), 0)) = ((a, b), 0)) := Lib.hid (by
      unfold resF at hfol
      rw [if_neg (by have := hpf.1; have := hpf.2.1; omega), if_pos hpf.2.2.1] at hfol
      exact hfol)
    have HF := Lib.hid hF
    have HFt := Lib.hid (fr_turn hF)
    have HFb := Lib.hid (decide_eq_true hF)
    have HM : Hid (a < b → pathL 64 a b = 0 :: pathL 64 b a) := Lib.hid (path_turn hF)
    have HQ : Hid (b < a → pathL 64 b a = 0 :: pathL 64 a b) := Lib.hid (path_turn (fr_turn hF))
    obtain ⟨a1, a2, b1, b2, _⟩ := hF
    clear hpf hpt hfol
    go_enter Try.func11, Try.ntmps11
    go_wp2_with fail
    refine (Path_ok a b HF.out _).mono ?_
    rintro e w1 ⟨⟨v1, rfl, hp1⟩, hb1⟩
    obtain ⟨g1, off1, n1, cap1, rfl, q1, N1⟩ := sl_addr hp1 HL1.out
    have m1 : 1 ≤ n1 := by have := N1.out; have := HL1.out; omega
    have m2 : n1 ≤ 60 := by have := N1.out; have := HL2.out; omega
    have hx : Below w.heap.size w w1 := ((((Below.refl _ _).alloc (Nat.le_refl _) _).alloc (by simp) _) : Below w.heap.size w ((w.alloc (.cells #[.int .i64 a, .int .i64 b] 23)).alloc (.cells #[.int .i64 c, .int .i64 d, .int .i64 e0, .int .i64 f0] 25))).trans (hb1.mono (by simp; omega))
    have f1_0 : w1.cell? ⟨w.heap.size, 0, none⟩ = some (.int .i64 a) := (hb1.cell (p := ⟨w.heap.size, 0, none⟩) (by (try simp) <;> omega)).trans (by simp [go_sem])
    have f1_1 : w1.cell? ⟨w.heap.size, 1, none⟩ = some (.int .i64 b) := (hb1.cell (p := ⟨w.heap.size, 1, none⟩) (by (try simp) <;> omega)).trans (by simp [go_sem])
    have l1 : w.heap.size < w1.heap.size := by have := hb1.size; simp at this; omega
    have f2_0 : w1.cell? ⟨w.heap.size + 1, 0, none⟩ = some (.int .i64 c) := (hb1.cell (p := ⟨w.heap.size + 1, 0, none⟩) (by simp)).trans (by simp [go_sem])
    have f2_1 : w1.cell? ⟨w.heap.size + 1, 1, none⟩ = some (.int .i64 d) := (hb1.cell (p := ⟨w.heap.size + 1, 1, none⟩) (by simp)).trans (by simp [go_sem])
    have f2_2 : w1.cell? ⟨w.heap.size + 1, 2, none⟩ = some (.int .i64 e0) := (hb1.cell (p := ⟨w.heap.size + 1, 2, none⟩) (by simp)).trans (by simp [go_sem])
    have f2_3 : w1.cell? ⟨w.heap.size + 1, 3, none⟩ = some (.int .i64 f0) := (hb1.cell (p := ⟨w.heap.size + 1, 3, none⟩) (by simp)).trans (by simp [go_sem])
    have l2 : w.heap.size + 1 < w1.heap.size := by have := hb1.size; simp at this; omega
    have hbel : Below w.heap.size w w1 := hx
    clear hx
    clear hb1
    go_wp2_with fail
    refine (IsFraction_any a b true HFb.out _).mono ?_
    rintro e w2 ⟨rfl, hb2⟩
    replace f1_0 : w2.cell? ⟨w.heap.size, 0, none⟩ = some (.int .i64 a) := (hb2.cell (p := ⟨w.heap.size, 0, none⟩) l1).trans f1_0
    replace f1_1 : w2.cell? ⟨w.heap.size, 1, none⟩ = some (.int .i64 b) := (hb2.cell (p := ⟨w.heap.size, 1, none⟩) l1).trans f1_1
    replace f2_0 : w2.cell? ⟨w.heap.size + 1, 0, none⟩ = some (.int .i64 c) := (hb2.cell (p := ⟨w.heap.size + 1, 0, none⟩) l2).trans f2_0
    replace f2_1 : w2.cell? ⟨w.heap.size + 1, 1, none⟩ = some (.int .i64 d) := (hb2.cell (p := ⟨w.heap.size + 1, 1, none⟩) l2).trans f2_1
    replace f2_2 : w2.cell? ⟨w.heap.size + 1, 2, none⟩ = some (.int .i64 e0) := (hb2.cell (p := ⟨w.heap.size + 1, 2, none⟩) l2).trans f2_2
    replace f2_3 : w2.cell? ⟨w.heap.size + 1, 3, none⟩ = some (.int .i64 f0) := (hb2.cell (p := ⟨w.heap.size + 1, 3, none⟩) l2).trans f2_3
    replace l1 : w.heap.size < w2.heap.size := Nat.lt_of_lt_of_le l1 hb2.size
    replace l2 : w.heap.size + 1 < w2.heap.size := Nat.lt_of_lt_of_le l2 hb2.size
    replace hp1 := hp1.next hb2
    replace hbel : Below w.heap.size w w2 := hbel.trans (hb2.mono hbel.size)
    clear hb2
    go_wp2_with fail
    refine (Follow_ok _ (pathL 64 a b) HL1.out (by have := HL2.out; omega) HPth.out a b 0 HFol.out _ hp1).mono ?_
    rintro e w3 ⟨rfl, hb3⟩
    replace f1_0 : w3.cell? ⟨w.heap.size, 0, none⟩ = some (.int .i64 a) := (hb3.cell (p := ⟨w.heap.size, 0, none⟩) l1).trans f1_0
    replace f1_1 : w3.cell? ⟨w.heap.size, 1, none⟩ = some (.int .i64 b) := (hb3.cell (p := ⟨w.heap.size, 1, none⟩) l1).trans f1_1
    replace f2_0 : w3.cell? ⟨w.heap.size + 1, 0, none⟩ = some (.int .i64 c) := (hb3.cell (p := ⟨w.heap.size + 1, 0, none⟩) l2).trans f2_0
    replace f2_1 : w3.cell? ⟨w.heap.size + 1, 1, none⟩ = some (.int .i64 d) := (hb3.cell (p := ⟨w.heap.size + 1, 1, none⟩) l2).trans f2_1
    replace f2_2 : w3.cell? ⟨w.heap.size + 1, 2, none⟩ = some (.int .i64 e0) := (hb3.cell (p := ⟨w.heap.size + 1, 2, none⟩) l2).trans f2_2
    replace f2_3 : w3.cell? ⟨w.heap.size + 1, 3, none⟩ = some (.int .i64 f0) := (hb3.cell (p := ⟨w.heap.size + 1, 3, none⟩) l2).trans f2_3
    replace l1 : w.heap.size < w3.heap.size := Nat.lt_of_lt_of_le l1 hb3.size
    replace l2 : w.heap.size + 1 < w3.heap.size := Nat.lt_of_lt_of_le l2 hb3.size
    replace hp1 := hp1.next hb3
    replace hbel : Below w.heap.size w w3 := hbel.trans (hb3.mono hbel.size)
    clear hb3
    go_wp2_with fail
    refine (Path_ok b a HFt.out _).mono ?_
    rintro e w4 ⟨⟨v2, rfl, hp2⟩, hb4⟩
    obtain ⟨g2, off2, n2, cap2, rfl, q2, N2⟩ := sl_addr hp2 HT1.out
    have m3 : 1 ≤ n2 := by have := N2.out; have := HT1.out; omega
    have m4 : n2 ≤ 60 := by have := N2.out; have := HT2.out; omega
    have hx : Below w3.heap.size w3 w4 := (((Below.refl _ _).alloc (Nat.le_refl _) _) : Below w3.heap.size w3 (w3.alloc (.cells #[.int .i64 a, .int .i64 b] 23))).trans (hb4.mono (by simp))
    have f3_0 : w4.cell? ⟨w3.heap.size, 0, none⟩ = some (.int .i64 a) := (hb4.cell (p := ⟨w3.heap.size, 0, none⟩) (by simp)).trans (by simp [go_sem])
    have f3_1 : w4.cell? ⟨w3.heap.size, 1, none⟩ = some (.int .i64 b) := (hb4.cell (p := ⟨w3.heap.size, 1, none⟩) (by simp)).trans (by simp [go_sem])
    have l3 : w3.heap.size < w4.heap.size := by have := hb4.size; simp at this; omega
    replace f1_0 : w4.cell? ⟨w.heap.size, 0, none⟩ = some (.int .i64 a) := (hx.cell (p := ⟨w.heap.size, 0, none⟩) l1).trans f1_0
    replace f1_1 : w4.cell? ⟨w.heap.size, 1, none⟩ = some (.int .i64 b) := (hx.cell (p := ⟨w.heap.size, 1, none⟩) l1).trans f1_1
    replace f2_0 : w4.cell? ⟨w.heap.size + 1, 0, none⟩ = some (.int .i64 c) := (hx.cell (p := ⟨w.heap.size + 1, 0, none⟩) l2).trans f2_0
    replace f2_1 : w4.cell? ⟨w.heap.size + 1, 1, none⟩ = some (.int .i64 d) := (hx.cell (p := ⟨w.heap.size + 1, 1, none⟩) l2).trans f2_1
    replace f2_2 : w4.cell? ⟨w.heap.size + 1, 2, none⟩ = some (.int .i64 e0) := (hx.cell (p := ⟨w.heap.size + 1, 2, none⟩) l2).trans f2_2
    replace f2_3 : w4.cell? ⟨w.heap.size + 1, 3, none⟩ = some (.int .i64 f0) := (hx.cell (p := ⟨w.heap.size + 1, 3, none⟩) l2).trans f2_3
    replace l1 : w.heap.size < w4.heap.size := Nat.lt_of_lt_of_le l1 hx.size
    replace l2 : w.heap.size + 1 < w4.heap.size := Nat.lt_of_lt_of_le l2 hx.size
    replace hp1 := hp1.next hx
    replace hbel : Below w.heap.size w w4 := hbel.trans (hx.mono hbel.size)
    clear hx
    clear hb4
    by_cases hab : a = b
    · have hne' : (a != b) = false := by simp; omega
      have HAB := Lib.hid hab
      clear hab
      by_cases hS : Sp c d e0 f0
      · obtain ⟨⟨c1, c2, d1, d2, _⟩, ⟨e1, e2, f1, f2, _⟩, _⟩ := id hS
        have HS2 := Lib.hid hS
        have HS := Lib.hid (decide_eq_true hS)
        clear hS
        by_cases hI : c * b ≤ a * d ∧ a * f0 ≤ e0 * b
        · have HI := Lib.hid (decide_eq_true hI)
          clear hI
          go_wp2_with fail
          refine (fine_any c d e0 f0 true HS.out _).mono ?_
          rintro e w5 ⟨rfl, hb5⟩
          replace f1_0 : w5.cell? ⟨w.heap.size, 0, none⟩ = some (.int .i64 a) := (hb5.cell (p := ⟨w.heap.size, 0, none⟩) l1).trans f1_0
          replace f1_1 : w5.cell? ⟨w.heap.size, 1, none⟩ = some (.int .i64 b) := (hb5.cell (p := ⟨w.heap.size, 1, none⟩) l1).trans f1_1
          replace f2_0 : w5.cell? ⟨w.heap.size + 1, 0, none⟩ = some (.int .i64 c) := (hb5.cell (p := ⟨w.heap.size + 1, 0, none⟩) l2).trans f2_0
          replace f2_1 : w5.cell? ⟨w.heap.size + 1, 1, none⟩ = some (.int .i64 d) := (hb5.cell (p := ⟨w.heap.size + 1, 1, none⟩) l2).trans f2_1
          replace f2_2 : w5.cell? ⟨w.heap.size + 1, 2, none⟩ = some (.int .i64 e0) := (hb5.cell (p := ⟨w.heap.size + 1, 2, none⟩) l2).trans f2_2
          replace f2_3 : w5.cell? ⟨w.heap.size + 1, 3, none⟩ = some (.int .i64 f0) := (hb5.cell (p := ⟨w.heap.size + 1, 3, none⟩) l2).trans f2_3
          replace f3_0 : w5.cell? ⟨w3.heap.size, 0, none⟩ = some (.int .i64 a) := (hb5.cell (p := ⟨w3.heap.size, 0, none⟩) l3).trans f3_0
          replace f3_1 : w5.cell? ⟨w3.heap.size, 1, none⟩ = some (.int .i64 b) := (hb5.cell (p := ⟨w3.heap.size, 1, none⟩) l3).trans f3_1
          replace l1 : w.heap.size < w5.heap.size := Nat.lt_of_lt_of_le l1 hb5.size
          replace l2 : w.heap.size + 1 < w5.heap.size := Nat.lt_of_lt_of_le l2 hb5.size
          replace l3 : w3.heap.size < w5.heap.size := Nat.lt_of_lt_of_le l3 hb5.size
          replace hp1 := hp1.next hb5
          replace hp2 := hp2.next hb5
          replace hbel : Below w.heap.size w w5 := hbel.trans (hb5.mono hbel.size)
          clear hb5
          go_wp2_with fail
          refine (In_any a b c d e0 f0 true HI.out (by omega) (by omega) (by omega) (by omega) (by omega) (by omega) (by omega) (by omega) (by omega) (by omega) (by omega) (by omega) _).mono ?_
          rintro e w6 ⟨rfl, hb6⟩
          replace f1_0 : w6.cell? ⟨w.heap.size, 0, none⟩ = some (.int .i64 a) := (hb6.cell (p := ⟨w.heap.size, 0, none⟩) l1).trans f1_0
          replace f1_1 : w6.cell? ⟨w.heap.size, 1, none⟩ = some (.int .i64 b) := (hb6.cell (p := ⟨w.heap.size, 1, none⟩) l1).trans f1_1
          replace f2_0 : w6.cell? ⟨w.heap.size + 1, 0, none⟩ = some (.int .i64 c) := (hb6.cell (p := ⟨w.heap.size + 1, 0, none⟩) l2).trans f2_0
          replace f2_1 : w6.cell? ⟨w.heap.size + 1, 1, none⟩ = some (.int .i64 d) := (hb6.cell (p := ⟨w.heap.size + 1, 1, none⟩) l2).trans f2_1
          replace f2_2 : w6.cell? ⟨w.heap.size + 1, 2, none⟩ = some (.int .i64 e0) := (hb6.cell (p := ⟨w.heap.size + 1, 2, none⟩) l2).trans f2_2
          replace f2_3 : w6.cell? ⟨w.heap.size + 1, 3, none⟩ = some (.int .i64 f0) := (hb6.cell (p := ⟨w.heap.size + 1, 3, none⟩) l2).trans f2_3
          replace f3_0 : w6.cell? ⟨w3.heap.size, 0, none⟩ = some (.int .i64 a) := (hb6.cell (p := ⟨w3.heap.size, 0, none⟩) l3).trans f3_0
          replace f3_1 : w6.cell? ⟨w3.heap.size, 1, none⟩ = some (.int .i64 b) := (hb6.cell (p := ⟨w3.heap.size, 1, none⟩) l3).trans f3_1
          replace l1 : w.heap.size < w6.heap.size := Nat.lt_of_lt_of_le l1 hb6.size
          replace l2 : w.heap.size + 1 < w6.heap.size := Nat.lt_of_lt_of_le l2 hb6.size
          replace l3 : w3.heap.size < w6.heap.size := Nat.lt_of_lt_of_le l3 hb6.size
          replace hp1 := hp1.next hb6
          replace hp2 := hp2.next hb6
          replace hbel : Below w.heap.size w w6 := hbel.trans (hb6.mono hbel.size)
          clear hb6
          go_wp2_with fail
          refine (Simplest_ok c d e0 f0 HS2.out _).mono ?_
          rintro e w7 ⟨⟨x, y, rfl, hL⟩, hb7⟩
          have HLe := Lib.hid hL
          have HFy := Lib.hid hL.fr
          clear hL
          replace f1_0 : w7.cell? ⟨w.heap.size, 0, none⟩ = some (.int .i64 a) := (hb7.cell (p := ⟨w.heap.size, 0, none⟩) l1).trans f1_0
          replace f1_1 : w7.cell? ⟨w.heap.size, 1, none⟩ = some (.int .i64 b) := (hb7.cell (p := ⟨w.heap.size, 1, none⟩) l1).trans f1_1
          replace f2_0 : w7.cell? ⟨w.heap.size + 1, 0, none⟩ = some (.int .i64 c) := (hb7.cell (p := ⟨w.heap.size + 1, 0, none⟩) l2).trans f2_0
          replace f2_1 : w7.cell? ⟨w.heap.size + 1, 1, none⟩ = some (.int .i64 d) := (hb7.cell (p := ⟨w.heap.size + 1, 1, none⟩) l2).trans f2_1
          replace f2_2 : w7.cell? ⟨w.heap.size + 1, 2, none⟩ = some (.int .i64 e0) := (hb7.cell (p := ⟨w.heap.size + 1, 2, none⟩) l2).trans f2_2
          replace f2_3 : w7.cell? ⟨w.heap.size + 1, 3, none⟩ = some (.int .i64 f0) := (hb7.cell (p := ⟨w.heap.size + 1, 3, none⟩) l2).trans f2_3
          replace f3_0 : w7.cell? ⟨w3.heap.size, 0, none⟩ = some (.int .i64 a) := (hb7.cell (p := ⟨w3.heap.size, 0, none⟩) l3).trans f3_0
          replace f3_1 : w7.cell? ⟨w3.heap.size, 1, none⟩ = some (.int .i64 b) := (hb7.cell (p := ⟨w3.heap.size, 1, none⟩) l3).trans f3_1
          replace l1 : w.heap.size < w7.heap.size := Nat.lt_of_lt_of_le l1 hb7.size
          replace l2 : w.heap.size + 1 < w7.heap.size := Nat.lt_of_lt_of_le l2 hb7.size
          replace l3 : w3.heap.size < w7.heap.size := Nat.lt_of_lt_of_le l3 hb7.size
          replace hp1 := hp1.next hb7
          replace hp2 := hp2.next hb7
          replace hbel : Below w.heap.size w w7 := hbel.trans (hb7.mono hbel.size)
          clear hb7
          go_wp2_with fail
          refine (Path_ok x y HFy.out _).mono ?_
          rintro e w8 ⟨⟨v3, rfl, hp3⟩, hb8⟩
          obtain ⟨g3, off3, n3, cap3, rfl, q3, N3⟩ := sl_addr hp3 (path_fr HFy.out).1
          have hle : n3 ≤ n1 := by
            have := N3.out
            have := N1.out
            obtain ⟨i1, i2⟩ := of_decide_eq_true HI.out
            have s1 := HS2.out
            have := path_short 64 c d e0 f0 x y a b (least_w HLe.out) (by have := s1.1.1; omega) (by have := s1.1.2.2.1; omega) (by have := s1.2.1.2.2.1; omega) HF.out.1 HF.out.2.2.1 i1 i2
            omega
          have hleb : decide (n3 ≤ n1) = true := decide_eq_true hle
          have hx : Below w7.heap.size w7 w8 := (((Below.refl _ _).alloc (Nat.le_refl _) _) : Below w7.heap.size w7 (w7.alloc (.cells #[.int .i64 x, .int .i64 y] 23))).trans (hb8.mono (by simp))
          have f4_0 : w8.cell? ⟨w7.heap.size, 0, none⟩ = some (.int .i64 x) := (hb8.cell (p := ⟨w7.heap.size, 0, none⟩) (by simp)).trans (by simp [go_sem])
          have f4_1 : w8.cell? ⟨w7.heap.size, 1, none⟩ = some (.int .i64 y) := (hb8.cell (p := ⟨w7.heap.size, 1, none⟩) (by simp)).trans (by simp [go_sem])
          have l4 : w7.heap.size < w8.heap.size := by have := hb8.size; simp at this; omega
          replace f1_0 : w8.cell? ⟨w.heap.size, 0, none⟩ = some (.int .i64 a) := (hx.cell (p := ⟨w.heap.size, 0, none⟩) l1).trans f1_0
          replace f1_1 : w8.cell? ⟨w.heap.size, 1, none⟩ = some (.int .i64 b) := (hx.cell (p := ⟨w.heap.size, 1, none⟩) l1).trans f1_1
          replace f2_0 : w8.cell? ⟨w.heap.size + 1, 0, none⟩ = some (.int .i64 c) := (hx.cell (p := ⟨w.heap.size + 1, 0, none⟩) l2).trans f2_0
          replace f2_1 : w8.cell? ⟨w.heap.size + 1, 1, none⟩ = some (.int .i64 d) := (hx.cell (p := ⟨w.heap.size + 1, 1, none⟩) l2).trans f2_1
          replace f2_2 : w8.cell? ⟨w.heap.size + 1, 2, none⟩ = some (.int .i64 e0) := (hx.cell (p := ⟨w.heap.size + 1, 2, none⟩) l2).trans f2_2
          replace f2_3 : w8.cell? ⟨w.heap.size + 1, 3, none⟩ = some (.int .i64 f0) := (hx.cell (p := ⟨w.heap.size + 1, 3, none⟩) l2).trans f2_3
          replace f3_0 : w8.cell? ⟨w3.heap.size, 0, none⟩ = some (.int .i64 a) := (hx.cell (p := ⟨w3.heap.size, 0, none⟩) l3).trans f3_0
          replace f3_1 : w8.cell? ⟨w3.heap.size, 1, none⟩ = some (.int .i64 b) := (hx.cell (p := ⟨w3.heap.size, 1, none⟩) l3).trans f3_1
          replace l1 : w.heap.size < w8.heap.size := Nat.lt_of_lt_of_le l1 hx.size
          replace l2 : w.heap.size + 1 < w8.heap.size := Nat.lt_of_lt_of_le l2 hx.size
          replace l3 : w3.heap.size < w8.heap.size := Nat.lt_of_lt_of_le l3 hx.size
          replace hp1 := hp1.next hx
          replace hp2 := hp2.next hx
          replace hbel : Below w.heap.size w w8 := hbel.trans (hx.mono hbel.size)
          clear hx
          clear hb8
          go_wp2_with fail
          refine (Works_any _).mono ?_
          rintro e w9 ⟨rfl, hb9⟩
          replace f1_0 : w9.cell? ⟨w.heap.size, 0, none⟩ = some (.int .i64 a) := (hb9.cell (p := ⟨w.heap.size, 0, none⟩) l1).trans f1_0
          replace f1_1 : w9.cell? ⟨w.heap.size, 1, none⟩ = some (.int .i64 b) := (hb9.cell (p := ⟨w.heap.size, 1, none⟩) l1).trans f1_1
          replace f2_0 : w9.cell? ⟨w.heap.size + 1, 0, none⟩ = some (.int .i64 c) := (hb9.cell (p := ⟨w.heap.size + 1, 0, none⟩) l2).trans f2_0
          replace f2_1 : w9.cell? ⟨w.heap.size + 1, 1, none⟩ = some (.int .i64 d) := (hb9.cell (p := ⟨w.heap.size + 1, 1, none⟩) l2).trans f2_1
          replace f2_2 : w9.cell? ⟨w.heap.size + 1, 2, none⟩ = some (.int .i64 e0) := (hb9.cell (p := ⟨w.heap.size + 1, 2, none⟩) l2).trans f2_2
          replace f2_3 : w9.cell? ⟨w.heap.size + 1, 3, none⟩ = some (.int .i64 f0) := (hb9.cell (p := ⟨w.heap.size + 1, 3, none⟩) l2).trans f2_3
          replace f3_0 : w9.cell? ⟨w3.heap.size, 0, none⟩ = some (.int .i64 a) := (hb9.cell (p := ⟨w3.heap.size, 0, none⟩) l3).trans f3_0
          replace f3_1 : w9.cell? ⟨w3.heap.size, 1, none⟩ = some (.int .i64 b) := (hb9.cell (p := ⟨w3.heap.size, 1, none⟩) l3).trans f3_1
          replace f4_0 : w9.cell? ⟨w7.heap.size, 0, none⟩ = some (.int .i64 x) := (hb9.cell (p := ⟨w7.heap.size, 0, none⟩) l4).trans f4_0
          replace f4_1 : w9.cell? ⟨w7.heap.size, 1, none⟩ = some (.int .i64 y) := (hb9.cell (p := ⟨w7.heap.size, 1, none⟩) l4).trans f4_1
          replace l1 : w.heap.size < w9.heap.size := Nat.lt_of_lt_of_le l1 hb9.size
          replace l2 : w.heap.size + 1 < w9.heap.size := Nat.lt_of_lt_of_le l2 hb9.size
          replace l3 : w3.heap.size < w9.heap.size := Nat.lt_of_lt_of_le l3 hb9.size
          replace l4 : w7.heap.size < w9.heap.size := Nat.lt_of_lt_of_le l4 hb9.size
          replace hp1 := hp1.next hb9
          replace hp2 := hp2.next hb9
          replace hp3 := hp3.next hb9
          replace hbel : Below w.heap.size w w9 := hbel.trans (hb9.mono hbel.size)
          clear hb9
          go_wp2_with fail
          go_ret
          exact ⟨rfl, hbel⟩
        · have HI := Lib.hid (decide_eq_false hI)
          clear hI
          go_wp2_with fail
          refine (fine_any c d e0 f0 true HS.out _).mono ?_
          rintro e w5 ⟨rfl, hb5⟩
          replace f1_0 : w5.cell? ⟨w.heap.size, 0, none⟩ = some (.int .i64 a) := (hb5.cell (p := ⟨w.heap.size, 0, none⟩) l1).trans f1_0
          replace f1_1 : w5.cell? ⟨w.heap.size, 1, none⟩ = some (.int .i64 b) := (hb5.cell (p := ⟨w.heap.size, 1, none⟩) l1).trans f1_1
          replace f2_0 : w5.cell? ⟨w.heap.size + 1, 0, none⟩ = some (.int .i64 c) := (hb5.cell (p := ⟨w.heap.size + 1, 0, none⟩) l2).trans f2_0
          replace f2_1 : w5.cell? ⟨w.heap.size + 1, 1, none⟩ = some (.int .i64 d) := (hb5.cell (p := ⟨w.heap.size + 1, 1, none⟩) l2).trans f2_1
          replace f2_2 : w5.cell? ⟨w.heap.size + 1, 2, none⟩ = some (.int .i64 e0) := (hb5.cell (p := ⟨w.heap.size + 1, 2, none⟩) l2).trans f2_2
          replace f2_3 : w5.cell? ⟨w.heap.size + 1, 3, none⟩ = some (.int .i64 f0) := (hb5.cell (p := ⟨w.heap.size + 1, 3, none⟩) l2).trans f2_3
          replace f3_0 : w5.cell? ⟨w3.heap.size, 0, none⟩ = some (.int .i64 a) := (hb5.cell (p := ⟨w3.heap.size, 0, none⟩) l3).trans f3_0
          replace f3_1 : w5.cell? ⟨w3.heap.size, 1, none⟩ = some (.int .i64 b) := (hb5.cell (p := ⟨w3.heap.size, 1, none⟩) l3).trans f3_1
          replace l1 : w.heap.size < w5.heap.size := Nat.lt_of_lt_of_le l1 hb5.size
          replace l2 : w.heap.size + 1 < w5.heap.size := Nat.lt_of_lt_of_le l2 hb5.size
          replace l3 : w3.heap.size < w5.heap.size := Nat.lt_of_lt_of_le l3 hb5.size
          replace hp1 := hp1.next hb5
          replace hp2 := hp2.next hb5
          replace hbel : Below w.heap.size w w5 := hbel.trans (hb5.mono hbel.size)
          clear hb5
          go_wp2_with fail
          refine (In_any a b c d e0 f0 false HI.out (by omega) (by omega) (by omega) (by omega) (by omega) (by omega) (by omega) (by omega) (by omega) (by omega) (by omega) (by omega) _).mono ?_
          rintro e w6 ⟨rfl, hb6⟩
          replace f1_0 : w6.cell? ⟨w.heap.size, 0, none⟩ = some (.int .i64 a) := (hb6.cell (p := ⟨w.heap.size, 0, none⟩) l1).trans f1_0
          replace f1_1 : w6.cell? ⟨w.heap.size, 1, none⟩ = some (.int .i64 b) := (hb6.cell (p := ⟨w.heap.size, 1, none⟩) l1).trans f1_1
          replace f2_0 : w6.cell? ⟨w.heap.size + 1, 0, none⟩ = some (.int .i64 c) := (hb6.cell (p := ⟨w.heap.size + 1, 0, none⟩) l2).trans f2_0
          replace f2_1 : w6.cell? ⟨w.heap.size + 1, 1, none⟩ = some (.int .i64 d) := (hb6.cell (p := ⟨w.heap.size + 1, 1, none⟩) l2).trans f2_1
          replace f2_2 : w6.cell? ⟨w.heap.size + 1, 2, none⟩ = some (.int .i64 e0) := (hb6.cell (p := ⟨w.heap.size + 1, 2, none⟩) l2).trans f2_2
          replace f2_3 : w6.cell? ⟨w.heap.size + 1, 3, none⟩ = some (.int .i64 f0) := (hb6.cell (p := ⟨w.heap.size + 1, 3, none⟩) l2).trans f2_3
          replace f3_0 : w6.cell? ⟨w3.heap.size, 0, none⟩ = some (.int .i64 a) := (hb6.cell (p := ⟨w3.heap.size, 0, none⟩) l3).trans f3_0
          replace f3_1 : w6.cell? ⟨w3.heap.size, 1, none⟩ = some (.int .i64 b) := (hb6.cell (p := ⟨w3.heap.size, 1, none⟩) l3).trans f3_1
          replace l1 : w.heap.size < w6.heap.size := Nat.lt_of_lt_of_le l1 hb6.size
          replace l2 : w.heap.size + 1 < w6.heap.size := Nat.lt_of_lt_of_le l2 hb6.size
          replace l3 : w3.heap.size < w6.heap.size := Nat.lt_of_lt_of_le l3 hb6.size
          replace hp1 := hp1.next hb6
          replace hp2 := hp2.next hb6
          replace hbel : Below w.heap.size w w6 := hbel.trans (hb6.mono hbel.size)
          clear hb6
          go_wp2_with fail
          refine (Works_any _).mono ?_
          rintro e w7 ⟨rfl, hb7⟩
          replace f1_0 : w7.cell? ⟨w.heap.size, 0, none⟩ = some (.int .i64 a) := (hb7.cell (p := ⟨w.heap.size, 0, none⟩) l1).trans f1_0
          replace f1_1 : w7.cell? ⟨w.heap.size, 1, none⟩ = some (.int .i64 b) := (hb7.cell (p := ⟨w.heap.size, 1, none⟩) l1).trans f1_1
          replace f2_0 : w7.cell? ⟨w.heap.size + 1, 0, none⟩ = some (.int .i64 c) := (hb7.cell (p := ⟨w.heap.size + 1, 0, none⟩) l2).trans f2_0
          replace f2_1 : w7.cell? ⟨w.heap.size + 1, 1, none⟩ = some (.int .i64 d) := (hb7.cell (p := ⟨w.heap.size + 1, 1, none⟩) l2).trans f2_1
          replace f2_2 : w7.cell? ⟨w.heap.size + 1, 2, none⟩ = some (.int .i64 e0) := (hb7.cell (p := ⟨w.heap.size + 1, 2, none⟩) l2).trans f2_2
          replace f2_3 : w7.cell? ⟨w.heap.size + 1, 3, none⟩ = some (.int .i64 f0) := (hb7.cell (p := ⟨w.heap.size + 1, 3, none⟩) l2).trans f2_3
          replace f3_0 : w7.cell? ⟨w3.heap.size, 0, none⟩ = some (.int .i64 a) := (hb7.cell (p := ⟨w3.heap.size, 0, none⟩) l3).trans f3_0
          replace f3_1 : w7.cell? ⟨w3.heap.size, 1, none⟩ = some (.int .i64 b) := (hb7.cell (p := ⟨w3.heap.size, 1, none⟩) l3).trans f3_1
          replace l1 : w.heap.size < w7.heap.size := Nat.lt_of_lt_of_le l1 hb7.size
          replace l2 : w.heap.size + 1 < w7.heap.size := Nat.lt_of_lt_of_le l2 hb7.size
          replace l3 : w3.heap.size < w7.heap.size := Nat.lt_of_lt_of_le l3 hb7.size
          replace hp1 := hp1.next hb7
          replace hp2 := hp2.next hb7
          replace hbel : Below w.heap.size w w7 := hbel.trans (hb7.mono hbel.size)
          clear hb7
          go_wp2_with fail
          go_ret
          exact ⟨rfl, hbel⟩
      · have HS := Lib.hid (decide_eq_false hS)
        clear hS
        go_wp2_with fail
        refine (fine_any c d e0 f0 false HS.out _).mono ?_
        rintro e w5 ⟨rfl, hb5⟩
        replace f1_0 : w5.cell? ⟨w.heap.size, 0, none⟩ = some (.int .i64 a) := (hb5.cell (p := ⟨w.heap.size, 0, none⟩) l1).trans f1_0
        replace f1_1 : w5.cell? ⟨w.heap.size, 1, none⟩ = some (.int .i64 b) := (hb5.cell (p := ⟨w.heap.size, 1, none⟩) l1).trans f1_1
        replace f2_0 : w5.cell? ⟨w.heap.size + 1, 0, none⟩ = some (.int .i64 c) := (hb5.cell (p := ⟨w.heap.size + 1, 0, none⟩) l2).trans f2_0
        replace f2_1 : w5.cell? ⟨w.heap.size + 1, 1, none⟩ = some (.int .i64 d) := (hb5.cell (p := ⟨w.heap.size + 1, 1, none⟩) l2).trans f2_1
        replace f2_2 : w5.cell? ⟨w.heap.size + 1, 2, none⟩ = some (.int .i64 e0) := (hb5.cell (p := ⟨w.heap.size + 1, 2, none⟩) l2).trans f2_2
        replace f2_3 : w5.cell? ⟨w.heap.size + 1, 3, none⟩ = some (.int .i64 f0) := (hb5.cell (p := ⟨w.heap.size + 1, 3, none⟩) l2).trans f2_3
        replace f3_0 : w5.cell? ⟨w3.heap.size, 0, none⟩ = some (.int .i64 a) := (hb5.cell (p := ⟨w3.heap.size, 0, none⟩) l3).trans f3_0
        replace f3_1 : w5.cell? ⟨w3.heap.size, 1, none⟩ = some (.int .i64 b) := (hb5.cell (p := ⟨w3.heap.size, 1, none⟩) l3).trans f3_1
        replace l1 : w.heap.size < w5.heap.size := Nat.lt_of_lt_of_le l1 hb5.size
        replace l2 : w.heap.size + 1 < w5.heap.size := Nat.lt_of_lt_of_le l2 hb5.size
        replace l3 : w3.heap.size < w5.heap.size := Nat.lt_of_lt_of_le l3 hb5.size
        replace hp1 := hp1.next hb5
        replace hp2 := hp2.next hb5
        replace hbel : Below w.heap.size w w5 := hbel.trans (hb5.mono hbel.size)
        clear hb5
        go_wp2_with fail
        refine (Works_any _).mono ?_
        rintro e w6 ⟨rfl, hb6⟩
        replace f1_0 : w6.cell? ⟨w.heap.size, 0, none⟩ = some (.int .i64 a) := (hb6.cell (p := ⟨w.heap.size, 0, none⟩) l1).trans f1_0
        replace f1_1 : w6.cell? ⟨w.heap.size, 1, none⟩ = some (.int .i64 b) := (hb6.cell (p := ⟨w.heap.size, 1, none⟩) l1).trans f1_1
        replace f2_0 : w6.cell? ⟨w.heap.size + 1, 0, none⟩ = some (.int .i64 c) := (hb6.cell (p := ⟨w.heap.size + 1, 0, none⟩) l2).trans f2_0
        replace f2_1 : w6.cell? ⟨w.heap.size + 1, 1, none⟩ = some (.int .i64 d) := (hb6.cell (p := ⟨w.heap.size + 1, 1, none⟩) l2).trans f2_1
        replace f2_2 : w6.cell? ⟨w.heap.size + 1, 2, none⟩ = some (.int .i64 e0) := (hb6.cell (p := ⟨w.heap.size + 1, 2, none⟩) l2).trans f2_2
        replace f2_3 : w6.cell? ⟨w.heap.size + 1, 3, none⟩ = some (.int .i64 f0) := (hb6.cell (p := ⟨w.heap.size + 1, 3, none⟩) l2).trans f2_3
        replace f3_0 : w6.cell? ⟨w3.heap.size, 0, none⟩ = some (.int .i64 a) := (hb6.cell (p := ⟨w3.heap.size, 0, none⟩) l3).trans f3_0
        replace f3_1 : w6.cell? ⟨w3.heap.size, 1, none⟩ = some (.int .i64 b) := (hb6.cell (p := ⟨w3.heap.size, 1, none⟩) l3).trans f3_1
        replace l1 : w.heap.size < w6.heap.size := Nat.lt_of_lt_of_le l1 hb6.size
        replace l2 : w.heap.size + 1 < w6.heap.size := Nat.lt_of_lt_of_le l2 hb6.size
        replace l3 : w3.heap.size < w6.heap.size := Nat.lt_of_lt_of_le l3 hb6.size
        replace hp1 := hp1.next hb6
        replace hp2 := hp2.next hb6
        replace hbel : Below w.heap.size w w6 := hbel.trans (hb6.mono hbel.size)
        clear hb6
        go_wp2_with fail
        go_ret
        exact ⟨rfl, hbel⟩
    · by_cases hlt : a < b
      · have HM := Lib.hid (HM.out hlt)
        have c01 := sl_cell0 hp1 HM.out
        have k1 : cap1 ≠ 1 := by
          have := N1.out
          have h9 := congrArg List.length HM.out
          have := HT1.out
          simp at h9
          omega
        have k2 : 1 ≤ cap1 := by omega
        have hne' : (a != b) = true := by simp; omega
        go_wp2_with fail
        refine (longs_any _ _ (pathL 64 b a) (pathL 64 b a) true (by simp) (by have := HT2.out; omega) (by have := HT2.out; omega) _ hp2 (sl_tail hp1 HM.out)).mono ?_
        rintro e w5 ⟨rfl, hb5⟩
        clear c01
        replace f1_0 : w5.cell? ⟨w.heap.size, 0, none⟩ = some (.int .i64 a) := (hb5.cell (p := ⟨w.heap.size, 0, none⟩) l1).trans f1_0
        replace f1_1 : w5.cell? ⟨w.heap.size, 1, none⟩ = some (.int .i64 b) := (hb5.cell (p := ⟨w.heap.size, 1, none⟩) l1).trans f1_1
        replace f2_0 : w5.cell? ⟨w.heap.size + 1, 0, none⟩ = some (.int .i64 c) := (hb5.cell (p := ⟨w.heap.size + 1, 0, none⟩) l2).trans f2_0
        replace f2_1 : w5.cell? ⟨w.heap.size + 1, 1, none⟩ = some (.int .i64 d) := (hb5.cell (p := ⟨w.heap.size + 1, 1, none⟩) l2).trans f2_1
        replace f2_2 : w5.cell? ⟨w.heap.size + 1, 2, none⟩ = some (.int .i64 e0) := (hb5.cell (p := ⟨w.heap.size + 1, 2, none⟩) l2).trans f2_2
        replace f2_3 : w5.cell? ⟨w.heap.size + 1, 3, none⟩ = some (.int .i64 f0) := (hb5.cell (p := ⟨w.heap.size + 1, 3, none⟩) l2).trans f2_3
        replace f3_0 : w5.cell? ⟨w3.heap.size, 0, none⟩ = some (.int .i64 a) := (hb5.cell (p := ⟨w3.heap.size, 0, none⟩) l3).trans f3_0
        replace f3_1 : w5.cell? ⟨w3.heap.size, 1, none⟩ = some (.int .i64 b) := (hb5.cell (p := ⟨w3.heap.size, 1, none⟩) l3).trans f3_1
        replace l1 : w.heap.size < w5.heap.size := Nat.lt_of_lt_of_le l1 hb5.size
        replace l2 : w.heap.size + 1 < w5.heap.size := Nat.lt_of_lt_of_le l2 hb5.size
        replace l3 : w3.heap.size < w5.heap.size := Nat.lt_of_lt_of_le l3 hb5.size
        replace hp1 := hp1.next hb5
        replace hp2 := hp2.next hb5
        replace hbel : Below w.heap.size w w5 := hbel.trans (hb5.mono hbel.size)
        clear hb5
        have c01 := sl_cell0 hp1 HM.out
        by_cases hS : Sp c d e0 f0
        · obtain ⟨⟨c1, c2, d1, d2, _⟩, ⟨e1, e2, f1, f2, _⟩, _⟩ := id hS
          have HS2 := Lib.hid hS
          have HS := Lib.hid (decide_eq_true hS)
          clear hS
          by_cases hI : c * b ≤ a * d ∧ a * f0 ≤ e0 * b
          · have HI := Lib.hid (decide_eq_true hI)
            clear hI
            go_wp2_with fail
            refine (fine_any c d e0 f0 true HS.out _).mono ?_
            rintro e w6 ⟨rfl, hb6⟩
            replace f1_0 : w6.cell? ⟨w.heap.size, 0, none⟩ = some (.int .i64 a) := (hb6.cell (p := ⟨w.heap.size, 0, none⟩) l1).trans f1_0
            replace f1_1 : w6.cell? ⟨w.heap.size, 1, none⟩ = some (.int .i64 b) := (hb6.cell (p := ⟨w.heap.size, 1, none⟩) l1).trans f1_1
            replace f2_0 : w6.cell? ⟨w.heap.size + 1, 0, none⟩ = some (.int .i64 c) := (hb6.cell (p := ⟨w.heap.size + 1, 0, none⟩) l2).trans f2_0
            replace f2_1 : w6.cell? ⟨w.heap.size + 1, 1, none⟩ = some (.int .i64 d) := (hb6.cell (p := ⟨w.heap.size + 1, 1, none⟩) l2).trans f2_1
            replace f2_2 : w6.cell? ⟨w.heap.size + 1, 2, none⟩ = some (.int .i64 e0) := (hb6.cell (p := ⟨w.heap.size + 1, 2, none⟩) l2).trans f2_2
            replace f2_3 : w6.cell? ⟨w.heap.size + 1, 3, none⟩ = some (.int .i64 f0) := (hb6.cell (p := ⟨w.heap.size + 1, 3, none⟩) l2).trans f2_3
            replace f3_0 : w6.cell? ⟨w3.heap.size, 0, none⟩ = some (.int .i64 a) := (hb6.cell (p := ⟨w3.heap.size, 0, none⟩) l3).trans f3_0
            replace f3_1 : w6.cell? ⟨w3.heap.size, 1, none⟩ = some (.int .i64 b) := (hb6.cell (p := ⟨w3.heap.size, 1, none⟩) l3).trans f3_1
            replace l1 : w.heap.size < w6.heap.size := Nat.lt_of_lt_of_le l1 hb6.size
            replace l2 : w.heap.size + 1 < w6.heap.size := Nat.lt_of_lt_of_le l2 hb6.size
            replace l3 : w3.heap.size < w6.heap.size := Nat.lt_of_lt_of_le l3 hb6.size
            replace hp1 := hp1.next hb6
            replace hp2 := hp2.next hb6
            replace hbel : Below w.heap.size w w6 := hbel.trans (hb6.mono hbel.size)
            clear hb6
            go_wp2_with fail
            refine (In_any a b c d e0 f0 true HI.out (by omega) (by omega) (by omega) (by omega) (by omega) (by omega) (by omega) (by omega) (by omega) (by omega) (by omega) (by omega) _).mono ?_
            rintro e w7 ⟨rfl, hb7⟩
            replace f1_0 : w7.cell? ⟨w.heap.size, 0, none⟩ = some (.int .i64 a) := (hb7.cell (p := ⟨w.heap.size, 0, none⟩) l1).trans f1_0
            replace f1_1 : w7.cell? ⟨w.heap.size, 1, none⟩ = some (.int .i64 b) := (hb7.cell (p := ⟨w.heap.size, 1, none⟩) l1).trans f1_1
            replace f2_0 : w7.cell? ⟨w.heap.size + 1, 0, none⟩ = some (.int .i64 c) := (hb7.cell (p := ⟨w.heap.size + 1, 0, none⟩) l2).trans f2_0
            replace f2_1 : w7.cell? ⟨w.heap.size + 1, 1, none⟩ = some (.int .i64 d) := (hb7.cell (p := ⟨w.heap.size + 1, 1, none⟩) l2).trans f2_1
            replace f2_2 : w7.cell? ⟨w.heap.size + 1, 2, none⟩ = some (.int .i64 e0) := (hb7.cell (p := ⟨w.heap.size + 1, 2, none⟩) l2).trans f2_2
            replace f2_3 : w7.cell? ⟨w.heap.size + 1, 3, none⟩ = some (.int .i64 f0) := (hb7.cell (p := ⟨w.heap.size + 1, 3, none⟩) l2).trans f2_3
            replace f3_0 : w7.cell? ⟨w3.heap.size, 0, none⟩ = some (.int .i64 a) := (hb7.cell (p := ⟨w3.heap.size, 0, none⟩) l3).trans f3_0
            replace f3_1 : w7.cell? ⟨w3.heap.size, 1, none⟩ = some (.int .i64 b) := (hb7.cell (p := ⟨w3.heap.size, 1, none⟩) l3).trans f3_1
            replace l1 : w.heap.size < w7.heap.size := Nat.lt_of_lt_of_le l1 hb7.size
            replace l2 : w.heap.size + 1 < w7.heap.size := Nat.lt_of_lt_of_le l2 hb7.size
            replace l3 : w3.heap.size < w7.heap.size := Nat.lt_of_lt_of_le l3 hb7.size
            replace hp1 := hp1.next hb7
            replace hp2 := hp2.next hb7
            replace hbel : Below w.heap.size w w7 := hbel.trans (hb7.mono hbel.size)
            clear hb7
            go_wp2_with fail
            refine (Simplest_ok c d e0 f0 HS2.out _).mono ?_
            rintro e w8 ⟨⟨x, y, rfl, hL⟩, hb8⟩
            have HLe := Lib.hid hL
            have HFy := Lib.hid hL.fr
            clear hL
            replace f1_0 : w8.cell? ⟨w.heap.size, 0, none⟩ = some (.int .i64 a) := (hb8.cell (p := ⟨w.heap.size, 0, none⟩) l1).trans f1_0
            replace f1_1 : w8.cell? ⟨w.heap.size, 1, none⟩ = some (.int .i64 b) := (hb8.cell (p := ⟨w.heap.size, 1, none⟩) l1).trans f1_1
            replace f2_0 : w8.cell? ⟨w.heap.size + 1, 0, none⟩ = some (.int .i64 c) := (hb8.cell (p := ⟨w.heap.size + 1, 0, none⟩) l2).trans f2_0
            replace f2_1 : w8.cell? ⟨w.heap.size + 1, 1, none⟩ = some (.int .i64 d) := (hb8.cell (p := ⟨w.heap.size + 1, 1, none⟩) l2).trans f2_1
            replace f2_2 : w8.cell? ⟨w.heap.size + 1, 2, none⟩ = some (.int .i64 e0) := (hb8.cell (p := ⟨w.heap.size + 1, 2, none⟩) l2).trans f2_2
            replace f2_3 : w8.cell? ⟨w.heap.size + 1, 3, none⟩ = some (.int .i64 f0) := (hb8.cell (p := ⟨w.heap.size + 1, 3, none⟩) l2).trans f2_3
            replace f3_0 : w8.cell? ⟨w3.heap.size, 0, none⟩ = some (.int .i64 a) := (hb8.cell (p := ⟨w3.heap.size, 0, none⟩) l3).trans f3_0
            replace f3_1 : w8.cell? ⟨w3.heap.size, 1, none⟩ = some (.int .i64 b) := (hb8.cell (p := ⟨w3.heap.size, 1, none⟩) l3).trans f3_1
            replace l1 : w.heap.size < w8.heap.size := Nat.lt_of_lt_of_le l1 hb8.size
            replace l2 : w.heap.size + 1 < w8.heap.size := Nat.lt_of_lt_of_le l2 hb8.size
            replace l3 : w3.heap.size < w8.heap.size := Nat.lt_of_lt_of_le l3 hb8.size
            replace hp1 := hp1.next hb8
            replace hp2 := hp2.next hb8
            replace hbel : Below w.heap.size w w8 := hbel.trans (hb8.mono hbel.size)
            clear hb8
            go_wp2_with fail
            refine (Path_ok x y HFy.out _).mono ?_
            rintro e w9 ⟨⟨v3, rfl, hp3⟩, hb9⟩
            obtain ⟨g3, off3, n3, cap3, rfl, q3, N3⟩ := sl_addr hp3 (path_fr HFy.out).1
            have hle : n3 ≤ n1 := by
              have := N3.out
              have := N1.out
              obtain ⟨i1, i2⟩ := of_decide_eq_true HI.out
              have s1 := HS2.out
              have := path_short 64 c d e0 f0 x y a b (least_w HLe.out) (by have := s1.1.1; omega) (by have := s1.1.2.2.1; omega) (by have := s1.2.1.2.2.1; omega) HF.out.1 HF.out.2.2.1 i1 i2
              omega
            have hleb : decide (n3 ≤ n1) = true := decide_eq_true hle
            have hx : Below w8.heap.size w8 w9 := (((Below.refl _ _).alloc (Nat.le_refl _) _) : Below w8.heap.size w8 (w8.alloc (.cells #[.int .i64 x, .int .i64 y] 23))).trans (hb9.mono (by simp))
            have f4_0 : w9.cell? ⟨w8.heap.size, 0, none⟩ = some (.int .i64 x) := (hb9.cell (p := ⟨w8.heap.size, 0, none⟩) (by simp)).trans (by simp [go_sem])
            have f4_1 : w9.cell? ⟨w8.heap.size, 1, none⟩ = some (.int .i64 y) := (hb9.cell (p := ⟨w8.heap.size, 1, none⟩) (by simp)).trans (by simp [go_sem])
            have l4 : w8.heap.size < w9.heap.size := by have := hb9.size; simp at this; omega
            replace f1_0 : w9.cell? ⟨w.heap.size, 0, none⟩ = some (.int .i64 a) := (hx.cell (p := ⟨w.heap.size, 0, none⟩) l1).trans f1_0
            replace f1_1 : w9.cell? ⟨w.heap.size, 1, none⟩ = some (.int .i64 b) := (hx.cell (p := ⟨w.heap.size, 1, none⟩) l1).trans f1_1
            replace f2_0 : w9.cell? ⟨w.heap.size + 1, 0, none⟩ = some (.int .i64 c) := (hx.cell (p := ⟨w.heap.size + 1, 0, none⟩) l2).trans f2_0
            replace f2_1 : w9.cell? ⟨w.heap.size + 1, 1, none⟩ = some (.int .i64 d) := (hx.cell (p := ⟨w.heap.size + 1, 1, none⟩) l2).trans f2_1
            replace f2_2 : w9.cell? ⟨w.heap.size + 1, 2, none⟩ = some (.int .i64 e0) := (hx.cell (p := ⟨w.heap.size + 1, 2, none⟩) l2).trans f2_2
            replace f2_3 : w9.cell? ⟨w.heap.size + 1, 3, none⟩ = some (.int .i64 f0) := (hx.cell (p := ⟨w.heap.size + 1, 3, none⟩) l2).trans f2_3
            replace f3_0 : w9.cell? ⟨w3.heap.size, 0, none⟩ = some (.int .i64 a) := (hx.cell (p := ⟨w3.heap.size, 0, none⟩) l3).trans f3_0
            replace f3_1 : w9.cell? ⟨w3.heap.size, 1, none⟩ = some (.int .i64 b) := (hx.cell (p := ⟨w3.heap.size, 1, none⟩) l3).trans f3_1
            replace l1 : w.heap.size < w9.heap.size := Nat.lt_of_lt_of_le l1 hx.size
            replace l2 : w.heap.size + 1 < w9.heap.size := Nat.lt_of_lt_of_le l2 hx.size
            replace l3 : w3.heap.size < w9.heap.size := Nat.lt_of_lt_of_le l3 hx.size
            replace hp1 := hp1.next hx
            replace hp2 := hp2.next hx
            replace hbel : Below w.heap.size w w9 := hbel.trans (hx.mono hbel.size)
            clear hx
            clear hb9
            go_wp2_with fail
            refine (Works_any _).mono ?_
            rintro e w10 ⟨rfl, hb10⟩
            replace f1_0 : w10.cell? ⟨w.heap.size, 0, none⟩ = some (.int .i64 a) := (hb10.cell (p := ⟨w.heap.size, 0, none⟩) l1).trans f1_0
            replace f1_1 : w10.cell? ⟨w.heap.size, 1, none⟩ = some (.int .i64 b) := (hb10.cell (p := ⟨w.heap.size, 1, none⟩) l1).trans f1_1
            replace f2_0 : w10.cell? ⟨w.heap.size + 1, 0, none⟩ = some (.int .i64 c) := (hb10.cell (p := ⟨w.heap.size + 1, 0, none⟩) l2).trans f2_0
            replace f2_1 : w10.cell? ⟨w.heap.size + 1, 1, none⟩ = some (.int .i64 d) := (hb10.cell (p := ⟨w.heap.size + 1, 1, none⟩) l2).trans f2_1
            replace f2_2 : w10.cell? ⟨w.heap.size + 1, 2, none⟩ = some (.int .i64 e0) := (hb10.cell (p := ⟨w.heap.size + 1, 2, none⟩) l2).trans f2_2
            replace f2_3 : w10.cell? ⟨w.heap.size + 1, 3, none⟩ = some (.int .i64 f0) := (hb10.cell (p := ⟨w.heap.size + 1, 3, none⟩) l2).trans f2_3
            replace f3_0 : w10.cell? ⟨w3.heap.size, 0, none⟩ = some (.int .i64 a) := (hb10.cell (p := ⟨w3.heap.size, 0, none⟩) l3).trans f3_0
            replace f3_1 : w10.cell? ⟨w3.heap.size, 1, none⟩ = some (.int .i64 b) := (hb10.cell (p := ⟨w3.heap.size, 1, none⟩) l3).trans f3_1
            replace f4_0 : w10.cell? ⟨w8.heap.size, 0, none⟩ = some (.int .i64 x) := (hb10.cell (p := ⟨w8.heap.size, 0, none⟩) l4).trans f4_0
            replace f4_1 : w10.cell? ⟨w8.heap.size, 1, none⟩ = some (.int .i64 y) := (hb10.cell (p := ⟨w8.heap.size, 1, none⟩) l4).trans f4_1
            replace l1 : w.heap.size < w10.heap.size := Nat.lt_of_lt_of_le l1 hb10.size
            replace l2 : w.heap.size + 1 < w10.heap.size := Nat.lt_of_lt_of_le l2 hb10.size
            replace l3 : w3.heap.size < w10.heap.size := Nat.lt_of_lt_of_le l3 hb10.size
            replace l4 : w8.heap.size < w10.heap.size := Nat.lt_of_lt_of_le l4 hb10.size
            replace hp1 := hp1.next hb10
            replace hp2 := hp2.next hb10
            replace hp3 := hp3.next hb10
            replace hbel : Below w.heap.size w w10 := hbel.trans (hb10.mono hbel.size)
            clear hb10
            go_wp2_with fail
            go_ret
            exact ⟨rfl, hbel⟩
          · have HI := Lib.hid (decide_eq_false hI)
            clear hI
            go_wp2_with fail
            refine (fine_any c d e0 f0 true HS.out _).mono ?_
            rintro e w6 ⟨rfl, hb6⟩
            replace f1_0 : w6.cell? ⟨w.heap.size, 0, none⟩ = some (.int .i64 a) := (hb6.cell (p := ⟨w.heap.size, 0, none⟩) l1).trans f1_0
            replace f1_1 : w6.cell? ⟨w.heap.size, 1, none⟩ = some (.int .i64 b) := (hb6.cell (p := ⟨w.heap.size, 1, none⟩) l1).trans f1_1
            replace f2_0 : w6.cell? ⟨w.heap.size + 1, 0, none⟩ = some (.int .i64 c) := (hb6.cell (p := ⟨w.heap.size + 1, 0, none⟩) l2).trans f2_0
            replace f2_1 : w6.cell? ⟨w.heap.size + 1, 1, none⟩ = some (.int .i64 d) := (hb6.cell (p := ⟨w.heap.size + 1, 1, none⟩) l2).trans f2_1
            replace f2_2 : w6.cell? ⟨w.heap.size + 1, 2, none⟩ = some (.int .i64 e0) := (hb6.cell (p := ⟨w.heap.size + 1, 2, none⟩) l2).trans f2_2
            replace f2_3 : w6.cell? ⟨w.heap.size + 1, 3, none⟩ = some (.int .i64 f0) := (hb6.cell (p := ⟨w.heap.size + 1, 3, none⟩) l2).trans f2_3
            replace f3_0 : w6.cell? ⟨w3.heap.size, 0, none⟩ = some (.int .i64 a) := (hb6.cell (p := ⟨w3.heap.size, 0, none⟩) l3).trans f3_0
            replace f3_1 : w6.cell? ⟨w3.heap.size, 1, none⟩ = some (.int .i64 b) := (hb6.cell (p := ⟨w3.heap.size, 1, none⟩) l3).trans f3_1
            replace l1 : w.heap.size < w6.heap.size := Nat.lt_of_lt_of_le l1 hb6.size
            replace l2 : w.heap.size + 1 < w6.heap.size := Nat.lt_of_lt_of_le l2 hb6.size
            replace l3 : w3.heap.size < w6.heap.size := Nat.lt_of_lt_of_le l3 hb6.size
            replace hp1 := hp1.next hb6
            replace hp2 := hp2.next hb6
            replace hbel : Below w.heap.size w w6 := hbel.trans (hb6.mono hbel.size)
            clear hb6
            go_wp2_with fail
            refine (In_any a b c d e0 f0 false HI.out (by omega) (by omega) (by omega) (by omega) (by omega) (by omega) (by omega) (by omega) (by omega) (by omega) (by omega) (by omega) _).mono ?_
            rintro e w7 ⟨rfl, hb7⟩
            replace f1_0 : w7.cell? ⟨w.heap.size, 0, none⟩ = some (.int .i64 a) := (hb7.cell (p := ⟨w.heap.size, 0, none⟩) l1).trans f1_0
            replace f1_1 : w7.cell? ⟨w.heap.size, 1, none⟩ = some (.int .i64 b) := (hb7.cell (p := ⟨w.heap.size, 1, none⟩) l1).trans f1_1
            replace f2_0 : w7.cell? ⟨w.heap.size + 1, 0, none⟩ = some (.int .i64 c) := (hb7.cell (p := ⟨w.heap.size + 1, 0, none⟩) l2).trans f2_0
            replace f2_1 : w7.cell? ⟨w.heap.size + 1, 1, none⟩ = some (.int .i64 d) := (hb7.cell (p := ⟨w.heap.size + 1, 1, none⟩) l2).trans f2_1
            replace f2_2 : w7.cell? ⟨w.heap.size + 1, 2, none⟩ = some (.int .i64 e0) := (hb7.cell (p := ⟨w.heap.size + 1, 2, none⟩) l2).trans f2_2
            replace f2_3 : w7.cell? ⟨w.heap.size + 1, 3, none⟩ = some (.int .i64 f0) := (hb7.cell (p := ⟨w.heap.size + 1, 3, none⟩) l2).trans f2_3
            replace f3_0 : w7.cell? ⟨w3.heap.size, 0, none⟩ = some (.int .i64 a) := (hb7.cell (p := ⟨w3.heap.size, 0, none⟩) l3).trans f3_0
            replace f3_1 : w7.cell? ⟨w3.heap.size, 1, none⟩ = some (.int .i64 b) := (hb7.cell (p := ⟨w3.heap.size, 1, none⟩) l3).trans f3_1
            replace l1 : w.heap.size < w7.heap.size := Nat.lt_of_lt_of_le l1 hb7.size
            replace l2 : w.heap.size + 1 < w7.heap.size := Nat.lt_of_lt_of_le l2 hb7.size
            replace l3 : w3.heap.size < w7.heap.size := Nat.lt_of_lt_of_le l3 hb7.size
            replace hp1 := hp1.next hb7
            replace hp2 := hp2.next hb7
            replace hbel : Below w.heap.size w w7 := hbel.trans (hb7.mono hbel.size)
            clear hb7
            go_wp2_with fail
            refine (Works_any _).mono ?_
            rintro e w8 ⟨rfl, hb8⟩
            replace f1_0 : w8.cell? ⟨w.heap.size, 0, none⟩ = some (.int .i64 a) := (hb8.cell (p := ⟨w.heap.size, 0, none⟩) l1).trans f1_0
            replace f1_1 : w8.cell? ⟨w.heap.size, 1, none⟩ = some (.int .i64 b) := (hb8.cell (p := ⟨w.heap.size, 1, none⟩) l1).trans f1_1
            replace f2_0 : w8.cell? ⟨w.heap.size + 1, 0, none⟩ = some (.int .i64 c) := (hb8.cell (p := ⟨w.heap.size + 1, 0, none⟩) l2).trans f2_0
            replace f2_1 : w8.cell? ⟨w.heap.size + 1, 1, none⟩ = some (.int .i64 d) := (hb8.cell (p := ⟨w.heap.size + 1, 1, none⟩) l2).trans f2_1
            replace f2_2 : w8.cell? ⟨w.heap.size + 1, 2, none⟩ = some (.int .i64 e0) := (hb8.cell (p := ⟨w.heap.size + 1, 2, none⟩) l2).trans f2_2
            replace f2_3 : w8.cell? ⟨w.heap.size + 1, 3, none⟩ = some (.int .i64 f0) := (hb8.cell (p := ⟨w.heap.size + 1, 3, none⟩) l2).trans f2_3
            replace f3_0 : w8.cell? ⟨w3.heap.size, 0, none⟩ = some (.int .i64 a) := (hb8.cell (p := ⟨w3.heap.size, 0, none⟩) l3).trans f3_0
            replace f3_1 : w8.cell? ⟨w3.heap.size, 1, none⟩ = some (.int .i64 b) := (hb8.cell (p := ⟨w3.heap.size, 1, none⟩) l3).trans f3_1
            replace l1 : w.heap.size < w8.heap.size := Nat.lt_of_lt_of_le l1 hb8.size
            replace l2 : w.heap.size + 1 < w8.heap.size := Nat.lt_of_lt_of_le l2 hb8.size
            replace l3 : w3.heap.size < w8.heap.size := Nat.lt_of_lt_of_le l3 hb8.size
            replace hp1 := hp1.next hb8
            replace hp2 := hp2.next hb8
            replace hbel : Below w.heap.size w w8 := hbel.trans (hb8.mono hbel.size)
            clear hb8
            go_wp2_with fail
            go_ret
            exact ⟨rfl, hbel⟩
        · have HS := Lib.hid (decide_eq_false hS)
          clear hS
          go_wp2_with fail
          refine (fine_any c d e0 f0 false HS.out _).mono ?_
          rintro e w6 ⟨rfl, hb6⟩
          replace f1_0 : w6.cell? ⟨w.heap.size, 0, none⟩ = some (.int .i64 a) := (hb6.cell (p := ⟨w.heap.size, 0, none⟩) l1).trans f1_0
          replace f1_1 : w6.cell? ⟨w.heap.size, 1, none⟩ = some (.int .i64 b) := (hb6.cell (p := ⟨w.heap.size, 1, none⟩) l1).trans f1_1
          replace f2_0 : w6.cell? ⟨w.heap.size + 1, 0, none⟩ = some (.int .i64 c) := (hb6.cell (p := ⟨w.heap.size + 1, 0, none⟩) l2).trans f2_0
          replace f2_1 : w6.cell? ⟨w.heap.size + 1, 1, none⟩ = some (.int .i64 d) := (hb6.cell (p := ⟨w.heap.size + 1, 1, none⟩) l2).trans f2_1
          replace f2_2 : w6.cell? ⟨w.heap.size + 1, 2, none⟩ = some (.int .i64 e0) := (hb6.cell (p := ⟨w.heap.size + 1, 2, none⟩) l2).trans f2_2
          replace f2_3 : w6.cell? ⟨w.heap.size + 1, 3, none⟩ = some (.int .i64 f0) := (hb6.cell (p := ⟨w.heap.size + 1, 3, none⟩) l2).trans f2_3
          replace f3_0 : w6.cell? ⟨w3.heap.size, 0, none⟩ = some (.int .i64 a) := (hb6.cell (p := ⟨w3.heap.size, 0, none⟩) l3).trans f3_0
          replace f3_1 : w6.cell? ⟨w3.heap.size, 1, none⟩ = some (.int .i64 b) := (hb6.cell (p := ⟨w3.heap.size, 1, none⟩) l3).trans f3_1
          replace l1 : w.heap.size < w6.heap.size := Nat.lt_of_lt_of_le l1 hb6.size
          replace l2 : w.heap.size + 1 < w6.heap.size := Nat.lt_of_lt_of_le l2 hb6.size
          replace l3 : w3.heap.size < w6.heap.size := Nat.lt_of_lt_of_le l3 hb6.size
          replace hp1 := hp1.next hb6
          replace hp2 := hp2.next hb6
          replace hbel : Below w.heap.size w w6 := hbel.trans (hb6.mono hbel.size)
          clear hb6
          go_wp2_with fail
          refine (Works_any _).mono ?_
          rintro e w7 ⟨rfl, hb7⟩
          replace f1_0 : w7.cell? ⟨w.heap.size, 0, none⟩ = some (.int .i64 a) := (hb7.cell (p := ⟨w.heap.size, 0, none⟩) l1).trans f1_0
          replace f1_1 : w7.cell? ⟨w.heap.size, 1, none⟩ = some (.int .i64 b) := (hb7.cell (p := ⟨w.heap.size, 1, none⟩) l1).trans f1_1
          replace f2_0 : w7.cell? ⟨w.heap.size + 1, 0, none⟩ = some (.int .i64 c) := (hb7.cell (p := ⟨w.heap.size + 1, 0, none⟩) l2).trans f2_0
          replace f2_1 : w7.cell? ⟨w.heap.size + 1, 1, none⟩ = some (.int .i64 d) := (hb7.cell (p := ⟨w.heap.size + 1, 1, none⟩) l2).trans f2_1
          replace f2_2 : w7.cell? ⟨w.heap.size + 1, 2, none⟩ = some (.int .i64 e0) := (hb7.cell (p := ⟨w.heap.size + 1, 2, none⟩) l2).trans f2_2
          replace f2_3 : w7.cell? ⟨w.heap.size + 1, 3, none⟩ = some (.int .i64 f0) := (hb7.cell (p := ⟨w.heap.size + 1, 3, none⟩) l2).trans f2_3
          replace f3_0 : w7.cell? ⟨w3.heap.size, 0, none⟩ = some (.int .i64 a) := (hb7.cell (p := ⟨w3.heap.size, 0, none⟩) l3).trans f3_0
          replace f3_1 : w7.cell? ⟨w3.heap.size, 1, none⟩ = some (.int .i64 b) := (hb7.cell (p := ⟨w3.heap.size, 1, none⟩) l3).trans f3_1
          replace l1 : w.heap.size < w7.heap.size := Nat.lt_of_lt_of_le l1 hb7.size
          replace l2 : w.heap.size + 1 < w7.heap.size := Nat.lt_of_lt_of_le l2 hb7.size
          replace l3 : w3.heap.size < w7.heap.size := Nat.lt_of_lt_of_le l3 hb7.size
          replace hp1 := hp1.next hb7
          replace hp2 := hp2.next hb7
          replace hbel : Below w.heap.size w w7 := hbel.trans (hb7.mono hbel.size)
          clear hb7
          go_wp2_with fail
          go_ret
          exact ⟨rfl, hbel⟩
      · have HQ := Lib.hid (HQ.out (by omega))
        obtain ⟨z, zs, hz⟩ : ∃ z zs, pathL 64 a b = z :: zs ∧ 1 ≤ z := ⟨_, _, pathL_step _ _ _ (by omega), Int.le_ediv_of_mul_le (by omega) (by omega)⟩
        have hz1 := hz.2
        have HZ := Lib.hid hz.1
        clear hz
        have zne : (z == 0) = false := by simp; omega
        have zne' : (z != 0) = true := by simp; omega
        have c01 := sl_cell0 hp1 HZ.out
        have c02 := sl_cell0 hp2 HQ.out
        have k1 : cap2 ≠ 1 := by
          have := N2.out
          have h9 := congrArg List.length HQ.out
          have := HL1.out
          simp at h9
          omega
        have k2 : 1 ≤ cap2 := by omega
        have hne' : (a != b) = true := by simp; omega
        go_wp2_with fail
        refine (longs_any _ _ (pathL 64 a b) (pathL 64 a b) true (by simp) (by have := HL2.out; omega) (by have := HL2.out; omega) _ (sl_tail hp2 HQ.out) hp1).mono ?_
        rintro e w5 ⟨rfl, hb5⟩
        clear c01 c02
        replace f1_0 : w5.cell? ⟨w.heap.size, 0, none⟩ = some (.int .i64 a) := (hb5.cell (p := ⟨w.heap.size, 0, none⟩) l1).trans f1_0
        replace f1_1 : w5.cell? ⟨w.heap.size, 1, none⟩ = some (.int .i64 b) := (hb5.cell (p := ⟨w.heap.size, 1, none⟩) l1).trans f1_1
        replace f2_0 : w5.cell? ⟨w.heap.size + 1, 0, none⟩ = some (.int .i64 c) := (hb5.cell (p := ⟨w.heap.size + 1, 0, none⟩) l2).trans f2_0
        replace f2_1 : w5.cell? ⟨w.heap.size + 1, 1, none⟩ = some (.int .i64 d) := (hb5.cell (p := ⟨w.heap.size + 1, 1, none⟩) l2).trans f2_1
        replace f2_2 : w5.cell? ⟨w.heap.size + 1, 2, none⟩ = some (.int .i64 e0) := (hb5.cell (p := ⟨w.heap.size + 1, 2, none⟩) l2).trans f2_2
        replace f2_3 : w5.cell? ⟨w.heap.size + 1, 3, none⟩ = some (.int .i64 f0) := (hb5.cell (p := ⟨w.heap.size + 1, 3, none⟩) l2).trans f2_3
        replace f3_0 : w5.cell? ⟨w3.heap.size, 0, none⟩ = some (.int .i64 a) := (hb5.cell (p := ⟨w3.heap.size, 0, none⟩) l3).trans f3_0
        replace f3_1 : w5.cell? ⟨w3.heap.size, 1, none⟩ = some (.int .i64 b) := (hb5.cell (p := ⟨w3.heap.size, 1, none⟩) l3).trans f3_1
        replace l1 : w.heap.size < w5.heap.size := Nat.lt_of_lt_of_le l1 hb5.size
        replace l2 : w.heap.size + 1 < w5.heap.size := Nat.lt_of_lt_of_le l2 hb5.size
        replace l3 : w3.heap.size < w5.heap.size := Nat.lt_of_lt_of_le l3 hb5.size
        replace hp1 := hp1.next hb5
        replace hp2 := hp2.next hb5
        replace hbel : Below w.heap.size w w5 := hbel.trans (hb5.mono hbel.size)
        clear hb5
        by_cases hS : Sp c d e0 f0
        · obtain ⟨⟨c1, c2, d1, d2, _⟩, ⟨e1, e2, f1, f2, _⟩, _⟩ := id hS
          have HS2 := Lib.hid hS
          have HS := Lib.hid (decide_eq_true hS)
          clear hS
          by_cases hI : c * b ≤ a * d ∧ a * f0 ≤ e0 * b
          · have HI := Lib.hid (decide_eq_true hI)
            clear hI
            go_wp2_with fail
            refine (fine_any c d e0 f0 true HS.out _).mono ?_
            rintro e w6 ⟨rfl, hb6⟩
            replace f1_0 : w6.cell? ⟨w.heap.size, 0, none⟩ = some (.int .i64 a) := (hb6.cell (p := ⟨w.heap.size, 0, none⟩) l1).trans f1_0
            replace f1_1 : w6.cell? ⟨w.heap.size, 1, none⟩ = some (.int .i64 b) := (hb6.cell (p := ⟨w.heap.size, 1, none⟩) l1).trans f1_1
            replace f2_0 : w6.cell? ⟨w.heap.size + 1, 0, none⟩ = some (.int .i64 c) := (hb6.cell (p := ⟨w.heap.size + 1, 0, none⟩) l2).trans f2_0
            replace f2_1 : w6.cell? ⟨w.heap.size + 1, 1, none⟩ = some (.int .i64 d) := (hb6.cell (p := ⟨w.heap.size + 1, 1, none⟩) l2).trans f2_1
            replace f2_2 : w6.cell? ⟨w.heap.size + 1, 2, none⟩ = some (.int .i64 e0) := (hb6.cell (p := ⟨w.heap.size + 1, 2, none⟩) l2).trans f2_2
            replace f2_3 : w6.cell? ⟨w.heap.size + 1, 3, none⟩ = some (.int .i64 f0) := (hb6.cell (p := ⟨w.heap.size + 1, 3, none⟩) l2).trans f2_3
            replace f3_0 : w6.cell? ⟨w3.heap.size, 0, none⟩ = some (.int .i64 a) := (hb6.cell (p := ⟨w3.heap.size, 0, none⟩) l3).trans f3_0
            replace f3_1 : w6.cell? ⟨w3.heap.size, 1, none⟩ = some (.int .i64 b) := (hb6.cell (p := ⟨w3.heap.size, 1, none⟩) l3).trans f3_1
            replace l1 : w.heap.size < w6.heap.size := Nat.lt_of_lt_of_le l1 hb6.size
            replace l2 : w.heap.size + 1 < w6.heap.size := Nat.lt_of_lt_of_le l2 hb6.size
            replace l3 : w3.heap.size < w6.heap.size := Nat.lt_of_lt_of_le l3 hb6.size
            replace hp1 := hp1.next hb6
            replace hp2 := hp2.next hb6
            replace hbel : Below w.heap.size w w6 := hbel.trans (hb6.mono hbel.size)
            clear hb6
            go_wp2_with fail
            refine (In_any a b c d e0 f0 true HI.out (by omega) (by omega) (by omega) (by omega) (by omega) (by omega) (by omega) (by omega) (by omega) (by omega) (by omega) (by omega) _).mono ?_
            rintro e w7 ⟨rfl, hb7⟩
            replace f1_0 : w7.cell? ⟨w.heap.size, 0, none⟩ = some (.int .i64 a) := (hb7.cell (p := ⟨w.heap.size, 0, none⟩) l1).trans f1_0
            replace f1_1 : w7.cell? ⟨w.heap.size, 1, none⟩ = some (.int .i64 b) := (hb7.cell (p := ⟨w.heap.size, 1, none⟩) l1).trans f1_1
            replace f2_0 : w7.cell? ⟨w.heap.size + 1, 0, none⟩ = some (.int .i64 c) := (hb7.cell (p := ⟨w.heap.size + 1, 0, none⟩) l2).trans f2_0
            replace f2_1 : w7.cell? ⟨w.heap.size + 1, 1, none⟩ = some (.int .i64 d) := (hb7.cell (p := ⟨w.heap.size + 1, 1, none⟩) l2).trans f2_1
            replace f2_2 : w7.cell? ⟨w.heap.size + 1, 2, none⟩ = some (.int .i64 e0) := (hb7.cell (p := ⟨w.heap.size + 1, 2, none⟩) l2).trans f2_2
            replace f2_3 : w7.cell? ⟨w.heap.size + 1, 3, none⟩ = some (.int .i64 f0) := (hb7.cell (p := ⟨w.heap.size + 1, 3, none⟩) l2).trans f2_3
            replace f3_0 : w7.cell? ⟨w3.heap.size, 0, none⟩ = some (.int .i64 a) := (hb7.cell (p := ⟨w3.heap.size, 0, none⟩) l3).trans f3_0
            replace f3_1 : w7.cell? ⟨w3.heap.size, 1, none⟩ = some (.int .i64 b) := (hb7.cell (p := ⟨w3.heap.size, 1, none⟩) l3).trans f3_1
            replace l1 : w.heap.size < w7.heap.size := Nat.lt_of_lt_of_le l1 hb7.size
            replace l2 : w.heap.size + 1 < w7.heap.size := Nat.lt_of_lt_of_le l2 hb7.size
            replace l3 : w3.heap.size < w7.heap.size := Nat.lt_of_lt_of_le l3 hb7.size
            replace hp1 := hp1.next hb7
            replace hp2 := hp2.next hb7
            replace hbel : Below w.heap.size w w7 := hbel.trans (hb7.mono hbel.size)
            clear hb7
            go_wp2_with fail
            refine (Simplest_ok c d e0 f0 HS2.out _).mono ?_
            rintro e w8 ⟨⟨x, y, rfl, hL⟩, hb8⟩
            have HLe := Lib.hid hL
            have HFy := Lib.hid hL.fr
            clear hL
            replace f1_0 : w8.cell? ⟨w.heap.size, 0, none⟩ = some (.int .i64 a) := (hb8.cell (p := ⟨w.heap.size, 0, none⟩) l1).trans f1_0
            replace f1_1 : w8.cell? ⟨w.heap.size, 1, none⟩ = some (.int .i64 b) := (hb8.cell (p := ⟨w.heap.size, 1, none⟩) l1).trans f1_1
            replace f2_0 : w8.cell? ⟨w.heap.size + 1, 0, none⟩ = some (.int .i64 c) := (hb8.cell (p := ⟨w.heap.size + 1, 0, none⟩) l2).trans f2_0
            replace f2_1 : w8.cell? ⟨w.heap.size + 1, 1, none⟩ = some (.int .i64 d) := (hb8.cell (p := ⟨w.heap.size + 1, 1, none⟩) l2).trans f2_1
            replace f2_2 : w8.cell? ⟨w.heap.size + 1, 2, none⟩ = some (.int .i64 e0) := (hb8.cell (p := ⟨w.heap.size + 1, 2, none⟩) l2).trans f2_2
            replace f2_3 : w8.cell? ⟨w.heap.size + 1, 3, none⟩ = some (.int .i64 f0) := (hb8.cell (p := ⟨w.heap.size + 1, 3, none⟩) l2).trans f2_3
            replace f3_0 : w8.cell? ⟨w3.heap.size, 0, none⟩ = some (.int .i64 a) := (hb8.cell (p := ⟨w3.heap.size, 0, none⟩) l3).trans f3_0
            replace f3_1 : w8.cell? ⟨w3.heap.size, 1, none⟩ = some (.int .i64 b) := (hb8.cell (p := ⟨w3.heap.size, 1, none⟩) l3).trans f3_1
            replace l1 : w.heap.size < w8.heap.size := Nat.lt_of_lt_of_le l1 hb8.size
            replace l2 : w.heap.size + 1 < w8.heap.size := Nat.lt_of_lt_of_le l2 hb8.size
            replace l3 : w3.heap.size < w8.heap.size := Nat.lt_of_lt_of_le l3 hb8.size
            replace hp1 := hp1.next hb8
            replace hp2 := hp2.next hb8
            replace hbel : Below w.heap.size w w8 := hbel.trans (hb8.mono hbel.size)
            clear hb8
            go_wp2_with fail
            refine (Path_ok x y HFy.out _).mono ?_
            rintro e w9 ⟨⟨v3, rfl, hp3⟩, hb9⟩
            obtain ⟨g3, off3, n3, cap3, rfl, q3, N3⟩ := sl_addr hp3 (path_fr HFy.out).1
            have hle : n3 ≤ n1 := by
              have := N3.out
              have := N1.out
              obtain ⟨i1, i2⟩ := of_decide_eq_true HI.out
              have s1 := HS2.out
              have := path_short 64 c d e0 f0 x y a b (least_w HLe.out) (by have := s1.1.1; omega) (by have := s1.1.2.2.1; omega) (by have := s1.2.1.2.2.1; omega) HF.out.1 HF.out.2.2.1 i1 i2
              omega
            have hleb : decide (n3 ≤ n1) = true := decide_eq_true hle
            have hx : Below w8.heap.size w8 w9 := (((Below.refl _ _).alloc (Nat.le_refl _) _) : Below w8.heap.size w8 (w8.alloc (.cells #[.int .i64 x, .int .i64 y] 23))).trans (hb9.mono (by simp))
            have f4_0 : w9.cell? ⟨w8.heap.size, 0, none⟩ = some (.int .i64 x) := (hb9.cell (p := ⟨w8.heap.size, 0, none⟩) (by simp)).trans (by simp [go_sem])
            have f4_1 : w9.cell? ⟨w8.heap.size, 1, none⟩ = some (.int .i64 y) := (hb9.cell (p := ⟨w8.heap.size, 1, none⟩) (by simp)).trans (by simp [go_sem])
            have l4 : w8.heap.size < w9.heap.size := by have := hb9.size; simp at this; omega
            replace f1_0 : w9.cell? ⟨w.heap.size, 0, none⟩ = some (.int .i64 a) := (hx.cell (p := ⟨w.heap.size, 0, none⟩) l1).trans f1_0
            replace f1_1 : w9.cell? ⟨w.heap.size, 1, none⟩ = some (.int .i64 b) := (hx.cell (p := ⟨w.heap.size, 1, none⟩) l1).trans f1_1
            replace f2_0 : w9.cell? ⟨w.heap.size + 1, 0, none⟩ = some (.int .i64 c) := (hx.cell (p := ⟨w.heap.size + 1, 0, none⟩) l2).trans f2_0
            replace f2_1 : w9.cell? ⟨w.heap.size + 1, 1, none⟩ = some (.int .i64 d) := (hx.cell (p := ⟨w.heap.size + 1, 1, none⟩) l2).trans f2_1
            replace f2_2 : w9.cell? ⟨w.heap.size + 1, 2, none⟩ = some (.int .i64 e0) := (hx.cell (p := ⟨w.heap.size + 1, 2, none⟩) l2).trans f2_2
            replace f2_3 : w9.cell? ⟨w.heap.size + 1, 3, none⟩ = some (.int .i64 f0) := (hx.cell (p := ⟨w.heap.size + 1, 3, none⟩) l2).trans f2_3
            replace f3_0 : w9.cell? ⟨w3.heap.size, 0, none⟩ = some (.int .i64 a) := (hx.cell (p := ⟨w3.heap.size, 0, none⟩) l3).trans f3_0
            replace f3_1 : w9.cell? ⟨w3.heap.size, 1, none⟩ = some (.int .i64 b) := (hx.cell (p := ⟨w3.heap.size, 1, none⟩) l3).trans f3_1
            replace l1 : w.heap.size < w9.heap.size := Nat.lt_of_lt_of_le l1 hx.size
            replace l2 : w.heap.size + 1 < w9.heap.size := Nat.lt_of_lt_of_le l2 hx.size
            replace l3 : w3.heap.size < w9.heap.size := Nat.lt_of_lt_of_le l3 hx.size
            replace hp1 := hp1.next hx
            replace hp2 := hp2.next hx
            replace hbel : Below w.heap.size w w9 := hbel.trans (hx.mono hbel.size)
            clear hx
            clear hb9
            go_wp2_with fail
            refine (Works_any _).mono ?_
            rintro e w10 ⟨rfl, hb10⟩
            replace f1_0 : w10.cell? ⟨w.heap.size, 0, none⟩ = some (.int .i64 a) := (hb10.cell (p := ⟨w.heap.size, 0, none⟩) l1).trans f1_0
            replace f1_1 : w10.cell? ⟨w.heap.size, 1, none⟩ = some (.int .i64 b) := (hb10.cell (p := ⟨w.heap.size, 1, none⟩) l1).trans f1_1
            replace f2_0 : w10.cell? ⟨w.heap.size + 1, 0, none⟩ = some (.int .i64 c) := (hb10.cell (p := ⟨w.heap.size + 1, 0, none⟩) l2).trans f2_0
            replace f2_1 : w10.cell? ⟨w.heap.size + 1, 1, none⟩ = some (.int .i64 d) := (hb10.cell (p := ⟨w.heap.size + 1, 1, none⟩) l2).trans f2_1
            replace f2_2 : w10.cell? ⟨w.heap.size + 1, 2, none⟩ = some (.int .i64 e0) := (hb10.cell (p := ⟨w.heap.size + 1, 2, none⟩) l2).trans f2_2
            replace f2_3 : w10.cell? ⟨w.heap.size + 1, 3, none⟩ = some (.int .i64 f0) := (hb10.cell (p := ⟨w.heap.size + 1, 3, none⟩) l2).trans f2_3
            replace f3_0 : w10.cell? ⟨w3.heap.size, 0, none⟩ = some (.int .i64 a) := (hb10.cell (p := ⟨w3.heap.size, 0, none⟩) l3).trans f3_0
            replace f3_1 : w10.cell? ⟨w3.heap.size, 1, none⟩ = some (.int .i64 b) := (hb10.cell (p := ⟨w3.heap.size, 1, none⟩) l3).trans f3_1
            replace f4_0 : w10.cell? ⟨w8.heap.size, 0, none⟩ = some (.int .i64 x) := (hb10.cell (p := ⟨w8.heap.size, 0, none⟩) l4).trans f4_0
            replace f4_1 : w10.cell? ⟨w8.heap.size, 1, none⟩ = some (.int .i64 y) := (hb10.cell (p := ⟨w8.heap.size, 1, none⟩) l4).trans f4_1
            replace l1 : w.heap.size < w10.heap.size := Nat.lt_of_lt_of_le l1 hb10.size
            replace l2 : w.heap.size + 1 < w10.heap.size := Nat.lt_of_lt_of_le l2 hb10.size
            replace l3 : w3.heap.size < w10.heap.size := Nat.lt_of_lt_of_le l3 hb10.size
            replace l4 : w8.heap.size < w10.heap.size := Nat.lt_of_lt_of_le l4 hb10.size
            replace hp1 := hp1.next hb10
            replace hp2 := hp2.next hb10
            replace hp3 := hp3.next hb10
            replace hbel : Below w.heap.size w w10 := hbel.trans (hb10.mono hbel.size)
            clear hb10
            go_wp2_with fail
            go_ret
            exact ⟨rfl, hbel⟩
          · have HI := Lib.hid (decide_eq_false hI)
            clear hI
            go_wp2_with fail
            refine (fine_any c d e0 f0 true HS.out _).mono ?_
            rintro e w6 ⟨rfl, hb6⟩
            replace f1_0 : w6.cell? ⟨w.heap.size, 0, none⟩ = some (.int .i64 a) := (hb6.cell (p := ⟨w.heap.size, 0, none⟩) l1).trans f1_0
            replace f1_1 : w6.cell? ⟨w.heap.size, 1, none⟩ = some (.int .i64 b) := (hb6.cell (p := ⟨w.heap.size, 1, none⟩) l1).trans f1_1
            replace f2_0 : w6.cell? ⟨w.heap.size + 1, 0, none⟩ = some (.int .i64 c) := (hb6.cell (p := ⟨w.heap.size + 1, 0, none⟩) l2).trans f2_0
            replace f2_1 : w6.cell? ⟨w.heap.size + 1, 1, none⟩ = some (.int .i64 d) := (hb6.cell (p := ⟨w.heap.size + 1, 1, none⟩) l2).trans f2_1
            replace f2_2 : w6.cell? ⟨w.heap.size + 1, 2, none⟩ = some (.int .i64 e0) := (hb6.cell (p := ⟨w.heap.size + 1, 2, none⟩) l2).trans f2_2
            replace f2_3 : w6.cell? ⟨w.heap.size + 1, 3, none⟩ = some (.int .i64 f0) := (hb6.cell (p := ⟨w.heap.size + 1, 3, none⟩) l2).trans f2_3
            replace f3_0 : w6.cell? ⟨w3.heap.size, 0, none⟩ = some (.int .i64 a) := (hb6.cell (p := ⟨w3.heap.size, 0, none⟩) l3).trans f3_0
            replace f3_1 : w6.cell? ⟨w3.heap.size, 1, none⟩ = some (.int .i64 b) := (hb6.cell (p := ⟨w3.heap.size, 1, none⟩) l3).trans f3_1
            replace l1 : w.heap.size < w6.heap.size := Nat.lt_of_lt_of_le l1 hb6.size
            replace l2 : w.heap.size + 1 < w6.heap.size := Nat.lt_of_lt_of_le l2 hb6.size
            replace l3 : w3.heap.size < w6.heap.size := Nat.lt_of_lt_of_le l3 hb6.size
            replace hp1 := hp1.next hb6
            replace hp2 := hp2.next hb6
            replace hbel : Below w.heap.size w w6 := hbel.trans (hb6.mono hbel.size)
            clear hb6
            go_wp2_with fail
            refine (In_any a b c d e0 f0 false HI.out (by omega) (by omega) (by omega) (by omega) (by omega) (by omega) (by omega) (by omega) (by omega) (by omega) (by omega) (by omega) _).mono ?_
            rintro e w7 ⟨rfl, hb7⟩
            replace f1_0 : w7.cell? ⟨w.heap.size, 0, none⟩ = some (.int .i64 a) := (hb7.cell (p := ⟨w.heap.size, 0, none⟩) l1).trans f1_0
            replace f1_1 : w7.cell? ⟨w.heap.size, 1, none⟩ = some (.int .i64 b) := (hb7.cell (p := ⟨w.heap.size, 1, none⟩) l1).trans f1_1
            replace f2_0 : w7.cell? ⟨w.heap.size + 1, 0, none⟩ = some (.int .i64 c) := (hb7.cell (p := ⟨w.heap.size + 1, 0, none⟩) l2).trans f2_0
            replace f2_1 : w7.cell? ⟨w.heap.size + 1, 1, none⟩ = some (.int .i64 d) := (hb7.cell (p := ⟨w.heap.size + 1, 1, none⟩) l2).trans f2_1
            replace f2_2 : w7.cell? ⟨w.heap.size + 1, 2, none⟩ = some (.int .i64 e0) := (hb7.cell (p := ⟨w.heap.size + 1, 2, none⟩) l2).trans f2_2
            replace f2_3 : w7.cell? ⟨w.heap.size + 1, 3, none⟩ = some (.int .i64 f0) := (hb7.cell (p := ⟨w.heap.size + 1, 3, none⟩) l2).trans f2_3
            replace f3_0 : w7.cell? ⟨w3.heap.size, 0, none⟩ = some (.int .i64 a) := (hb7.cell (p := ⟨w3.heap.size, 0, none⟩) l3).trans f3_0
            replace f3_1 : w7.cell? ⟨w3.heap.size, 1, none⟩ = some (.int .i64 b) := (hb7.cell (p := ⟨w3.heap.size, 1, none⟩) l3).trans f3_1
            replace l1 : w.heap.size < w7.heap.size := Nat.lt_of_lt_of_le l1 hb7.size
            replace l2 : w.heap.size + 1 < w7.heap.size := Nat.lt_of_lt_of_le l2 hb7.size
            replace l3 : w3.heap.size < w7.heap.size := Nat.lt_of_lt_of_le l3 hb7.size
            replace hp1 := hp1.next hb7
            replace hp2 := hp2.next hb7
            replace hbel : Below w.heap.size w w7 := hbel.trans (hb7.mono hbel.size)
            clear hb7
            go_wp2_with fail
            refine (Works_any _).mono ?_
            rintro e w8 ⟨rfl, hb8⟩
            replace f1_0 : w8.cell? ⟨w.heap.size, 0, none⟩ = some (.int .i64 a) := (hb8.cell (p := ⟨w.heap.size, 0, none⟩) l1).trans f1_0
            replace f1_1 : w8.cell? ⟨w.heap.size, 1, none⟩ = some (.int .i64 b) := (hb8.cell (p := ⟨w.heap.size, 1, none⟩) l1).trans f1_1
            replace f2_0 : w8.cell? ⟨w.heap.size + 1, 0, none⟩ = some (.int .i64 c) := (hb8.cell (p := ⟨w.heap.size + 1, 0, none⟩) l2).trans f2_0
            replace f2_1 : w8.cell? ⟨w.heap.size + 1, 1, none⟩ = some (.int .i64 d) := (hb8.cell (p := ⟨w.heap.size + 1, 1, none⟩) l2).trans f2_1
            replace f2_2 : w8.cell? ⟨w.heap.size + 1, 2, none⟩ = some (.int .i64 e0) := (hb8.cell (p := ⟨w.heap.size + 1, 2, none⟩) l2).trans f2_2
            replace f2_3 : w8.cell? ⟨w.heap.size + 1, 3, none⟩ = some (.int .i64 f0) := (hb8.cell (p := ⟨w.heap.size + 1, 3, none⟩) l2).trans f2_3
            replace f3_0 : w8.cell? ⟨w3.heap.size, 0, none⟩ = some (.int .i64 a) := (hb8.cell (p := ⟨w3.heap.size, 0, none⟩) l3).trans f3_0
            replace f3_1 : w8.cell? ⟨w3.heap.size, 1, none⟩ = some (.int .i64 b) := (hb8.cell (p := ⟨w3.heap.size, 1, none⟩) l3).trans f3_1
            replace l1 : w.heap.size < w8.heap.size := Nat.lt_of_lt_of_le l1 hb8.size
            replace l2 : w.heap.size + 1 < w8.heap.size := Nat.lt_of_lt_of_le l2 hb8.size
            replace l3 : w3.heap.size < w8.heap.size := Nat.lt_of_lt_of_le l3 hb8.size
            replace hp1 := hp1.next hb8
            replace hp2 := hp2.next hb8
            replace hbel : Below w.heap.size w w8 := hbel.trans (hb8.mono hbel.size)
            clear hb8
            go_wp2_with fail
            go_ret
            exact ⟨rfl, hbel⟩
        · have HS := Lib.hid (decide_eq_false hS)
          clear hS
          go_wp2_with fail
          refine (fine_any c d e0 f0 false HS.out _).mono ?_
          rintro e w6 ⟨rfl, hb6⟩
          replace f1_0 : w6.cell? ⟨w.heap.size, 0, none⟩ = some (.int .i64 a) := (hb6.cell (p := ⟨w.heap.size, 0, none⟩) l1).trans f1_0
          replace f1_1 : w6.cell? ⟨w.heap.size, 1, none⟩ = some (.int .i64 b) := (hb6.cell (p := ⟨w.heap.size, 1, none⟩) l1).trans f1_1
          replace f2_0 : w6.cell? ⟨w.heap.size + 1, 0, none⟩ = some (.int .i64 c) := (hb6.cell (p := ⟨w.heap.size + 1, 0, none⟩) l2).trans f2_0
          replace f2_1 : w6.cell? ⟨w.heap.size + 1, 1, none⟩ = some (.int .i64 d) := (hb6.cell (p := ⟨w.heap.size + 1, 1, none⟩) l2).trans f2_1
          replace f2_2 : w6.cell? ⟨w.heap.size + 1, 2, none⟩ = some (.int .i64 e0) := (hb6.cell (p := ⟨w.heap.size + 1, 2, none⟩) l2).trans f2_2
          replace f2_3 : w6.cell? ⟨w.heap.size + 1, 3, none⟩ = some (.int .i64 f0) := (hb6.cell (p := ⟨w.heap.size + 1, 3, none⟩) l2).trans f2_3
          replace f3_0 : w6.cell? ⟨w3.heap.size, 0, none⟩ = some (.int .i64 a) := (hb6.cell (p := ⟨w3.heap.size, 0, none⟩) l3).trans f3_0
          replace f3_1 : w6.cell? ⟨w3.heap.size, 1, none⟩ = some (.int .i64 b) := (hb6.cell (p := ⟨w3.heap.size, 1, none⟩) l3).trans f3_1
          replace l1 : w.heap.size < w6.heap.size := Nat.lt_of_lt_of_le l1 hb6.size
          replace l2 : w.heap.size + 1 < w6.heap.size := Nat.lt_of_lt_of_le l2 hb6.size
          replace l3 : w3.heap.size < w6.heap.size := Nat.lt_of_lt_of_le l3 hb6.size
          replace hp1 := hp1.next hb6
          replace hp2 := hp2.next hb6
          replace hbel : Below w.heap.size w w6 := hbel.trans (hb6.mono hbel.size)
          clear hb6
          go_wp2_with fail
          refine (Works_any _).mono ?_
          rintro e w7 ⟨rfl, hb7⟩
          replace f1_0 : w7.cell? ⟨w.heap.size, 0, none⟩ = some (.int .i64 a) := (hb7.cell (p := ⟨w.heap.size, 0, none⟩) l1).trans f1_0
          replace f1_1 : w7.cell? ⟨w.heap.size, 1, none⟩ = some (.int .i64 b) := (hb7.cell (p := ⟨w.heap.size, 1, none⟩) l1).trans f1_1
          replace f2_0 : w7.cell? ⟨w.heap.size + 1, 0, none⟩ = some (.int .i64 c) := (hb7.cell (p := ⟨w.heap.size + 1, 0, none⟩) l2).trans f2_0
          replace f2_1 : w7.cell? ⟨w.heap.size + 1, 1, none⟩ = some (.int .i64 d) := (hb7.cell (p := ⟨w.heap.size + 1, 1, none⟩) l2).trans f2_1
          replace f2_2 : w7.cell? ⟨w.heap.size + 1, 2, none⟩ = some (.int .i64 e0) := (hb7.cell (p := ⟨w.heap.size + 1, 2, none⟩) l2).trans f2_2
          replace f2_3 : w7.cell? ⟨w.heap.size + 1, 3, none⟩ = some (.int .i64 f0) := (hb7.cell (p := ⟨w.heap.size + 1, 3, none⟩) l2).trans f2_3
          replace f3_0 : w7.cell? ⟨w3.heap.size, 0, none⟩ = some (.int .i64 a) := (hb7.cell (p := ⟨w3.heap.size, 0, none⟩) l3).trans f3_0
          replace f3_1 : w7.cell? ⟨w3.heap.size, 1, none⟩ = some (.int .i64 b) := (hb7.cell (p := ⟨w3.heap.size, 1, none⟩) l3).trans f3_1
          replace l1 : w.heap.size < w7.heap.size := Nat.lt_of_lt_of_le l1 hb7.size
          replace l2 : w.heap.size + 1 < w7.heap.size := Nat.lt_of_lt_of_le l2 hb7.size
          replace l3 : w3.heap.size < w7.heap.size := Nat.lt_of_lt_of_le l3 hb7.size
          replace hp1 := hp1.next hb7
          replace hp2 := hp2.next hb7
          replace hbel : Below w.heap.size w w7 := hbel.trans (hb7.mono hbel.size)
          clear hb7
          go_wp2_with fail
          go_ret
          exact ⟨rfl, hbel⟩
  · have HFb := Lib.hid (decide_eq_false hF)
    have HF := Lib.hid hF
    clear hF
    go_enter Try.func11, Try.ntmps11
    go_wp2_with fail
    refine (Path_bad a b HF.out _).mono ?_
    rintro e w1 ⟨rfl, hb1⟩
    have hx : Below w.heap.size w w1 := ((((Below.refl _ _).alloc (Nat.le_refl _) _).alloc (by simp) _) : Below w.heap.size w ((w.alloc (.cells #[.int .i64 a, .int .i64 b] 23)).alloc (.cells #[.int .i64 c, .int .i64 d, .int .i64 e0, .int .i64 f0] 25))).trans (hb1.mono (by simp; omega))
    have f1_0 : w1.cell? ⟨w.heap.size, 0, none⟩ = some (.int .i64 a) := (hb1.cell (p := ⟨w.heap.size, 0, none⟩) (by (try simp) <;> omega)).trans (by simp [go_sem])
    have f1_1 : w1.cell? ⟨w.heap.size, 1, none⟩ = some (.int .i64 b) := (hb1.cell (p := ⟨w.heap.size, 1, none⟩) (by (try simp) <;> omega)).trans (by simp [go_sem])
    have l1 : w.heap.size < w1.heap.size := by have := hb1.size; simp at this; omega
    have f2_0 : w1.cell? ⟨w.heap.size + 1, 0, none⟩ = some (.int .i64 c) := (hb1.cell (p := ⟨w.heap.size + 1, 0, none⟩) (by simp)).trans (by simp [go_sem])
    have f2_1 : w1.cell? ⟨w.heap.size + 1, 1, none⟩ = some (.int .i64 d) := (hb1.cell (p := ⟨w.heap.size + 1, 1, none⟩) (by simp)).trans (by simp [go_sem])
    have f2_2 : w1.cell? ⟨w.heap.size + 1, 2, none⟩ = some (.int .i64 e0) := (hb1.cell (p := ⟨w.heap.size + 1, 2, none⟩) (by simp)).trans (by simp [go_sem])
    have f2_3 : w1.cell? ⟨w.heap.size + 1, 3, none⟩ = some (.int .i64 f0) := (hb1.cell (p := ⟨w.heap.size + 1, 3, none⟩) (by simp)).trans (by simp [go_sem])
    have l2 : w.heap.size + 1 < w1.heap.size := by have := hb1.size; simp at this; omega
    have hbel : Below w.heap.size w w1 := hx
    clear hx
    clear hb1
    go_wp2_with fail
    refine (IsFraction_any a b false HFb.out _).mono ?_
    rintro e w2 ⟨rfl, hb2⟩
    replace f1_0 : w2.cell? ⟨w.heap.size, 0, none⟩ = some (.int .i64 a) := (hb2.cell (p := ⟨w.heap.size, 0, none⟩) l1).trans f1_0
    replace f1_1 : w2.cell? ⟨w.heap.size, 1, none⟩ = some (.int .i64 b) := (hb2.cell (p := ⟨w.heap.size, 1, none⟩) l1).trans f1_1
    replace f2_0 : w2.cell? ⟨w.heap.size + 1, 0, none⟩ = some (.int .i64 c) := (hb2.cell (p := ⟨w.heap.size + 1, 0, none⟩) l2).trans f2_0
    replace f2_1 : w2.cell? ⟨w.heap.size + 1, 1, none⟩ = some (.int .i64 d) := (hb2.cell (p := ⟨w.heap.size + 1, 1, none⟩) l2).trans f2_1
    replace f2_2 : w2.cell? ⟨w.heap.size + 1, 2, none⟩ = some (.int .i64 e0) := (hb2.cell (p := ⟨w.heap.size + 1, 2, none⟩) l2).trans f2_2
    replace f2_3 : w2.cell? ⟨w.heap.size + 1, 3, none⟩ = some (.int .i64 f0) := (hb2.cell (p := ⟨w.heap.size + 1, 3, none⟩) l2).trans f2_3
    replace l1 : w.heap.size < w2.heap.size := Nat.lt_of_lt_of_le l1 hb2.size
    replace l2 : w.heap.size + 1 < w2.heap.size := Nat.lt_of_lt_of_le l2 hb2.size
    replace hbel : Below w.heap.size w w2 := hbel.trans (hb2.mono hbel.size)
    clear hb2
    go_wp2_with fail
    refine (Works_any _).mono ?_
    rintro e w3 ⟨rfl, hb3⟩
    replace f1_0 : w3.cell? ⟨w.heap.size, 0, none⟩ = some (.int .i64 a) := (hb3.cell (p := ⟨w.heap.size, 0, none⟩) l1).trans f1_0
    replace f1_1 : w3.cell? ⟨w.heap.size, 1, none⟩ = some (.int .i64 b) := (hb3.cell (p := ⟨w.heap.size, 1, none⟩) l1).trans f1_1
    replace f2_0 : w3.cell? ⟨w.heap.size + 1, 0, none⟩ = some (.int .i64 c) := (hb3.cell (p := ⟨w.heap.size + 1, 0, none⟩) l2).trans f2_0
    replace f2_1 : w3.cell? ⟨w.heap.size + 1, 1, none⟩ = some (.int .i64 d) := (hb3.cell (p := ⟨w.heap.size + 1, 1, none⟩) l2).trans f2_1
    replace f2_2 : w3.cell? ⟨w.heap.size + 1, 2, none⟩ = some (.int .i64 e0) := (hb3.cell (p := ⟨w.heap.size + 1, 2, none⟩) l2).trans f2_2
    replace f2_3 : w3.cell? ⟨w.heap.size + 1, 3, none⟩ = some (.int .i64 f0) := (hb3.cell (p := ⟨w.heap.size + 1, 3, none⟩) l2).trans f2_3
    replace l1 : w.heap.size < w3.heap.size := Nat.lt_of_lt_of_le l1 hb3.size
    replace l2 : w.heap.size + 1 < w3.heap.size := Nat.lt_of_lt_of_le l2 hb3.size
    replace hbel : Below w.heap.size w w3 := hbel.trans (hb3.mono hbel.size)
    clear hb3
    go_wp2_with fail
    go_ret
    exact ⟨rfl, hbel⟩
end Go.Proofs.Ytbdjllgngblfoaa
