import Derived.Test.YtbdjllgngblfoaaUk
namespace Go.Proofs.Ytbdjllgngblfoaa
set_option linter.unusedVariables false
set_option linter.unusedSimpArgs false
open Go.RowKit

set_option maxHeartbeats 4000000 in
theorem CheckProofR_any (a b c d l m r s v k : Int) (hv : chkProof a b c d l m r s = (v, k)) (w : World) :
    Calls Try.prog 21 #[.agg #[.int .i64 a, .int .i64 b, .int .i64 c, .int .i64 d], .agg #[.int .i64 l, .int .i64 m, .int .i64 r, .int .i64 s]] w fun e w' => e = .returned (.tuple #[.int .i64 v, .int .i64 k]) ∧ Below w.heap.size w w' := by
  by_cases hS : Sp a b c d
  · have H := Lib.hid (show (if Sp a b c d then (0:Int) else 2) = 0 from if_pos hS)
    by_cases h0 : 0 ≤ l ∧ l ≤ 1000000000
    · have H0 := Lib.hid (decide_eq_true h0)
      by_cases h1 : 1 ≤ m ∧ m ≤ 1000000000
      · have H1 := Lib.hid (decide_eq_true h1)
        by_cases h2 : 1 ≤ r ∧ r ≤ 1000000000
        · have H2 := Lib.hid (decide_eq_true h2)
          by_cases h3 : 0 ≤ s ∧ s ≤ 1000000000
          · have H3 := Lib.hid (decide_eq_true h3)
            have hP : Pn l m r s := ⟨h0, h1, h2, h3⟩
            have hPP := hP
            obtain ⟨⟨m1, m2⟩, ⟨m3, m4⟩, ⟨m5, m6⟩, ⟨m7, m8⟩, ⟨m9, m10⟩, m11, m12⟩ := pn_mul hS hP
            obtain ⟨⟨p1, p2⟩, ⟨p3, p4⟩, ⟨p5, p6⟩, p7, p8⟩ := hP
            by_cases g1 : l * b < a * m
            · have HL := Lib.hid (decide_eq_true g1)
              by_cases g2 : c * s < r * d
              · by_cases g3 : m * r - l * s = 1
                · obtain ⟨rfl, rfl⟩ : m + s = v ∧ 0 = k := by unfold chkProof at hv; rw [if_pos hS, if_pos hPP, if_pos ⟨g1, g2, g3⟩] at hv; simpa using hv
                  have hq : (m * r - l * s != 1) = false := by simpa using g3
                  clear hS hv hPP g3 h0 h1 h2 h3
                  go_enter Try.func21, Try.ntmps21
                  go_wp2_with fail
                  refine (CheckSpanR_any _ _ _ _ _ H.out _).mono ?_
                  rintro e w1 ⟨rfl, hb1⟩
                  obtain ⟨hc1, hf1⟩ := bcell hb1
                  have hz1_0 : w.heap.size < w1.heap.size := by have := hb1.size; (try simp at this); omega
                  have hz1_1 : w.heap.size + 1 < w1.heap.size := by have := hb1.size; (try simp at this); omega
                  go_wp2_with fail
                  refine (within_any _ _ _ true H0.out _).mono ?_
                  rintro e w' ⟨rfl, rfl⟩
                  go_wp2_with fail
                  refine (within_any _ _ _ true H1.out _).mono ?_
                  rintro e w' ⟨rfl, rfl⟩
                  go_wp2_with fail
                  refine (within_any _ _ _ true H2.out _).mono ?_
                  rintro e w' ⟨rfl, rfl⟩
                  go_wp2_with fail
                  refine (within_any _ _ _ true H3.out _).mono ?_
                  rintro e w' ⟨rfl, rfl⟩
                  go_wp2_with fail
                  refine (less_any _ _ _ _ true HL.out (by omega) (by omega) (by omega) (by omega) _).mono ?_
                  rintro e w2 ⟨rfl, hb2⟩
                  obtain ⟨hc2, hf2⟩ := bcell hb2
                  have hz2_0 : w.heap.size < w2.heap.size := by have := hb2.size; (try simp at this); omega
                  have hz2_1 : w.heap.size + 1 < w2.heap.size := by have := hb2.size; (try simp at this); omega
                  go_wp2
                  go_ret2
                  exact ⟨rfl, (by repeat (first | exact Below.refl _ _ | (with_reducible refine Below.trans ?_ (hb2.mono (by first | omega | (simp; done) | (simp; omega)))) | (with_reducible refine Below.trans ?_ (hb1.mono (by first | omega | (simp; done) | (simp; omega)))) | (refine Below.alloc ?_ (by first | omega | (simp; done) | (simp; omega)) _) | (refine Below.setCell ?_ (by first | omega | (simp; done) | (simp; omega)) _) | refine Below.drew ?_))⟩
                · obtain ⟨rfl, rfl⟩ : 0 = v ∧ 14 = k := by unfold chkProof at hv; rw [if_pos hS, if_pos hPP, if_neg (fun h => g3 h.2.2)] at hv; simpa using hv
                  have hq : (m * r - l * s != 1) = true := by simpa using g3
                  clear hS hv hPP g3 h0 h1 h2 h3
                  go_enter Try.func21, Try.ntmps21
                  go_wp2_with fail
                  refine (CheckSpanR_any _ _ _ _ _ H.out _).mono ?_
                  rintro e w1 ⟨rfl, hb1⟩
                  obtain ⟨hc1, hf1⟩ := bcell hb1
                  have hz1_0 : w.heap.size < w1.heap.size := by have := hb1.size; (try simp at this); omega
                  have hz1_1 : w.heap.size + 1 < w1.heap.size := by have := hb1.size; (try simp at this); omega
                  go_wp2_with fail
                  refine (within_any _ _ _ true H0.out _).mono ?_
                  rintro e w' ⟨rfl, rfl⟩
                  go_wp2_with fail
                  refine (within_any _ _ _ true H1.out _).mono ?_
                  rintro e w' ⟨rfl, rfl⟩
                  go_wp2_with fail
                  refine (within_any _ _ _ true H2.out _).mono ?_
                  rintro e w' ⟨rfl, rfl⟩
                  go_wp2_with fail
                  refine (within_any _ _ _ true H3.out _).mono ?_
                  rintro e w' ⟨rfl, rfl⟩
                  go_wp2_with fail
                  refine (less_any _ _ _ _ true HL.out (by omega) (by omega) (by omega) (by omega) _).mono ?_
                  rintro e w2 ⟨rfl, hb2⟩
                  obtain ⟨hc2, hf2⟩ := bcell hb2
                  have hz2_0 : w.heap.size < w2.heap.size := by have := hb2.size; (try simp at this); omega
                  have hz2_1 : w.heap.size + 1 < w2.heap.size := by have := hb2.size; (try simp at this); omega
                  go_wp2
                  go_ret2
                  exact ⟨rfl, (by repeat (first | exact Below.refl _ _ | (with_reducible refine Below.trans ?_ (hb2.mono (by first | omega | (simp; done) | (simp; omega)))) | (with_reducible refine Below.trans ?_ (hb1.mono (by first | omega | (simp; done) | (simp; omega)))) | (refine Below.alloc ?_ (by first | omega | (simp; done) | (simp; omega)) _) | (refine Below.setCell ?_ (by first | omega | (simp; done) | (simp; omega)) _) | refine Below.drew ?_))⟩
              · obtain ⟨rfl, rfl⟩ : 0 = v ∧ 14 = k := by unfold chkProof at hv; rw [if_pos hS, if_pos hPP, if_neg (fun h => g2 h.2.1)] at hv; simpa using hv
                clear hS hv hPP h0 h1 h2 h3
                go_enter Try.func21, Try.ntmps21
                go_wp2_with fail
                refine (CheckSpanR_any _ _ _ _ _ H.out _).mono ?_
                rintro e w1 ⟨rfl, hb1⟩
                obtain ⟨hc1, hf1⟩ := bcell hb1
                have hz1_0 : w.heap.size < w1.heap.size := by have := hb1.size; (try simp at this); omega
                have hz1_1 : w.heap.size + 1 < w1.heap.size := by have := hb1.size; (try simp at this); omega
                go_wp2_with fail
                refine (within_any _ _ _ true H0.out _).mono ?_
                rintro e w' ⟨rfl, rfl⟩
                go_wp2_with fail
                refine (within_any _ _ _ true H1.out _).mono ?_
                rintro e w' ⟨rfl, rfl⟩
                go_wp2_with fail
                refine (within_any _ _ _ true H2.out _).mono ?_
                rintro e w' ⟨rfl, rfl⟩
                go_wp2_with fail
                refine (within_any _ _ _ true H3.out _).mono ?_
                rintro e w' ⟨rfl, rfl⟩
                go_wp2_with fail
                refine (less_any _ _ _ _ true HL.out (by omega) (by omega) (by omega) (by omega) _).mono ?_
                rintro e w2 ⟨rfl, hb2⟩
                obtain ⟨hc2, hf2⟩ := bcell hb2
                have hz2_0 : w.heap.size < w2.heap.size := by have := hb2.size; (try simp at this); omega
                have hz2_1 : w.heap.size + 1 < w2.heap.size := by have := hb2.size; (try simp at this); omega
                go_wp2
                go_ret2
                exact ⟨rfl, (by repeat (first | exact Below.refl _ _ | (with_reducible refine Below.trans ?_ (hb2.mono (by first | omega | (simp; done) | (simp; omega)))) | (with_reducible refine Below.trans ?_ (hb1.mono (by first | omega | (simp; done) | (simp; omega)))) | (refine Below.alloc ?_ (by first | omega | (simp; done) | (simp; omega)) _) | (refine Below.setCell ?_ (by first | omega | (simp; done) | (simp; omega)) _) | refine Below.drew ?_))⟩
            · have HL := Lib.hid (decide_eq_false g1)
              obtain ⟨rfl, rfl⟩ : 0 = v ∧ 14 = k := by unfold chkProof at hv; rw [if_pos hS, if_pos hPP, if_neg (fun h => g1 h.1)] at hv; simpa using hv
              clear hS hv hPP h0 h1 h2 h3
              go_enter Try.func21, Try.ntmps21
              go_wp2_with fail
              refine (CheckSpanR_any _ _ _ _ _ H.out _).mono ?_
              rintro e w1 ⟨rfl, hb1⟩
              obtain ⟨hc1, hf1⟩ := bcell hb1
              have hz1_0 : w.heap.size < w1.heap.size := by have := hb1.size; (try simp at this); omega
              have hz1_1 : w.heap.size + 1 < w1.heap.size := by have := hb1.size; (try simp at this); omega
              go_wp2_with fail
              refine (within_any _ _ _ true H0.out _).mono ?_
              rintro e w' ⟨rfl, rfl⟩
              go_wp2_with fail
              refine (within_any _ _ _ true H1.out _).mono ?_
              rintro e w' ⟨rfl, rfl⟩
              go_wp2_with fail
              refine (within_any _ _ _ true H2.out _).mono ?_
              rintro e w' ⟨rfl, rfl⟩
              go_wp2_with fail
              refine (within_any _ _ _ true H3.out _).mono ?_
              rintro e w' ⟨rfl, rfl⟩
              go_wp2_with fail
              refine (less_any _ _ _ _ false HL.out (by omega) (by omega) (by omega) (by omega) _).mono ?_
              rintro e w2 ⟨rfl, hb2⟩
              obtain ⟨hc2, hf2⟩ := bcell hb2
              have hz2_0 : w.heap.size < w2.heap.size := by have := hb2.size; (try simp at this); omega
              have hz2_1 : w.heap.size + 1 < w2.heap.size := by have := hb2.size; (try simp at this); omega
              go_wp2
              go_ret2
              exact ⟨rfl, (by repeat (first | exact Below.refl _ _ | (with_reducible refine Below.trans ?_ (hb2.mono (by first | omega | (simp; done) | (simp; omega)))) | (with_reducible refine Below.trans ?_ (hb1.mono (by first | omega | (simp; done) | (simp; omega)))) | (refine Below.alloc ?_ (by first | omega | (simp; done) | (simp; omega)) _) | (refine Below.setCell ?_ (by first | omega | (simp; done) | (simp; omega)) _) | refine Below.drew ?_))⟩
          · have H3 := Lib.hid (decide_eq_false h3)
            obtain ⟨rfl, rfl⟩ : 0 = v ∧ 3 = k := by unfold chkProof at hv; rw [if_pos hS, if_neg (fun h => h3 h.2.2.2)] at hv; simpa using hv
            clear hv hS h0 h1 h2 h3
            go_enter Try.func21, Try.ntmps21
            go_wp2_with fail
            refine (CheckSpanR_any _ _ _ _ _ H.out _).mono ?_
            rintro e w1 ⟨rfl, hb1⟩
            obtain ⟨hc1, hf1⟩ := bcell hb1
            have hz1_0 : w.heap.size < w1.heap.size := by have := hb1.size; (try simp at this); omega
            have hz1_1 : w.heap.size + 1 < w1.heap.size := by have := hb1.size; (try simp at this); omega
            go_wp2_with fail
            refine (within_any _ _ _ true H0.out _).mono ?_
            rintro e w' ⟨rfl, rfl⟩
            go_wp2_with fail
            refine (within_any _ _ _ true H1.out _).mono ?_
            rintro e w' ⟨rfl, rfl⟩
            go_wp2_with fail
            refine (within_any _ _ _ true H2.out _).mono ?_
            rintro e w' ⟨rfl, rfl⟩
            go_wp2_with fail
            refine (within_any _ _ _ false H3.out _).mono ?_
            rintro e w' ⟨rfl, rfl⟩
            go_wp2
            go_ret2
            exact ⟨rfl, (by repeat (first | exact Below.refl _ _ | (with_reducible refine Below.trans ?_ (hb1.mono (by first | omega | (simp; done) | (simp; omega)))) | (refine Below.alloc ?_ (by first | omega | (simp; done) | (simp; omega)) _) | (refine Below.setCell ?_ (by first | omega | (simp; done) | (simp; omega)) _) | refine Below.drew ?_))⟩
        · have H2 := Lib.hid (decide_eq_false h2)
          obtain ⟨rfl, rfl⟩ : 0 = v ∧ 3 = k := by unfold chkProof at hv; rw [if_pos hS, if_neg (fun h => h2 h.2.2.1)] at hv; simpa using hv
          clear hv hS h0 h1 h2
          go_enter Try.func21, Try.ntmps21
          go_wp2_with fail
          refine (CheckSpanR_any _ _ _ _ _ H.out _).mono ?_
          rintro e w1 ⟨rfl, hb1⟩
          obtain ⟨hc1, hf1⟩ := bcell hb1
          have hz1_0 : w.heap.size < w1.heap.size := by have := hb1.size; (try simp at this); omega
          have hz1_1 : w.heap.size + 1 < w1.heap.size := by have := hb1.size; (try simp at this); omega
          go_wp2_with fail
          refine (within_any _ _ _ true H0.out _).mono ?_
          rintro e w' ⟨rfl, rfl⟩
          go_wp2_with fail
          refine (within_any _ _ _ true H1.out _).mono ?_
          rintro e w' ⟨rfl, rfl⟩
          go_wp2_with fail
          refine (within_any _ _ _ false H2.out _).mono ?_
          rintro e w' ⟨rfl, rfl⟩
          go_wp2
          go_ret2
          exact ⟨rfl, (by repeat (first | exact Below.refl _ _ | (with_reducible refine Below.trans ?_ (hb1.mono (by first | omega | (simp; done) | (simp; omega)))) | (refine Below.alloc ?_ (by first | omega | (simp; done) | (simp; omega)) _) | (refine Below.setCell ?_ (by first | omega | (simp; done) | (simp; omega)) _) | refine Below.drew ?_))⟩
      · have H1 := Lib.hid (decide_eq_false h1)
        obtain ⟨rfl, rfl⟩ : 0 = v ∧ 3 = k := by unfold chkProof at hv; rw [if_pos hS, if_neg (fun h => h1 h.2.1)] at hv; simpa using hv
        clear hv hS h0 h1
        go_enter Try.func21, Try.ntmps21
        go_wp2_with fail
        refine (CheckSpanR_any _ _ _ _ _ H.out _).mono ?_
        rintro e w1 ⟨rfl, hb1⟩
        obtain ⟨hc1, hf1⟩ := bcell hb1
        have hz1_0 : w.heap.size < w1.heap.size := by have := hb1.size; (try simp at this); omega
        have hz1_1 : w.heap.size + 1 < w1.heap.size := by have := hb1.size; (try simp at this); omega
        go_wp2_with fail
        refine (within_any _ _ _ true H0.out _).mono ?_
        rintro e w' ⟨rfl, rfl⟩
        go_wp2_with fail
        refine (within_any _ _ _ false H1.out _).mono ?_
        rintro e w' ⟨rfl, rfl⟩
        go_wp2
        go_ret2
        exact ⟨rfl, (by repeat (first | exact Below.refl _ _ | (with_reducible refine Below.trans ?_ (hb1.mono (by first | omega | (simp; done) | (simp; omega)))) | (refine Below.alloc ?_ (by first | omega | (simp; done) | (simp; omega)) _) | (refine Below.setCell ?_ (by first | omega | (simp; done) | (simp; omega)) _) | refine Below.drew ?_))⟩
    · have H0 := Lib.hid (decide_eq_false h0)
      obtain ⟨rfl, rfl⟩ : 0 = v ∧ 3 = k := by unfold chkProof at hv; rw [if_pos hS, if_neg (fun h => h0 h.1)] at hv; simpa using hv
      clear hv hS h0
      go_enter Try.func21, Try.ntmps21
      go_wp2_with fail
      refine (CheckSpanR_any _ _ _ _ _ H.out _).mono ?_
      rintro e w1 ⟨rfl, hb1⟩
      obtain ⟨hc1, hf1⟩ := bcell hb1
      have hz1_0 : w.heap.size < w1.heap.size := by have := hb1.size; (try simp at this); omega
      have hz1_1 : w.heap.size + 1 < w1.heap.size := by have := hb1.size; (try simp at this); omega
      go_wp2_with fail
      refine (within_any _ _ _ false H0.out _).mono ?_
      rintro e w' ⟨rfl, rfl⟩
      go_wp2
      go_ret2
      exact ⟨rfl, (by repeat (first | exact Below.refl _ _ | (with_reducible refine Below.trans ?_ (hb1.mono (by first | omega | (simp; done) | (simp; omega)))) | (refine Below.alloc ?_ (by first | omega | (simp; done) | (simp; omega)) _) | (refine Below.setCell ?_ (by first | omega | (simp; done) | (simp; omega)) _) | refine Below.drew ?_))⟩
  · have H := Lib.hid (show (if Sp a b c d then (0:Int) else 2) = 2 from if_neg hS)
    obtain ⟨rfl, rfl⟩ : 0 = v ∧ 2 = k := by unfold chkProof at hv; rw [if_neg hS] at hv; simpa using hv
    clear hS hv
    go_enter Try.func21, Try.ntmps21
    go_wp2_with fail
    refine (CheckSpanR_any _ _ _ _ _ H.out _).mono ?_
    rintro e w1 ⟨rfl, hb1⟩
    obtain ⟨hc1, hf1⟩ := bcell hb1
    have hz1_0 : w.heap.size < w1.heap.size := by have := hb1.size; (try simp at this); omega
    have hz1_1 : w.heap.size + 1 < w1.heap.size := by have := hb1.size; (try simp at this); omega
    go_wp2_with fail
    refine (CheckSpanR_any _ _ _ _ _ H.out _).mono ?_
    rintro e w2 ⟨rfl, hb2⟩
    obtain ⟨hc2, hf2⟩ := bcell hb2
    have hz2_0 : w.heap.size < w2.heap.size := by have := hb2.size; (try simp at this); omega
    have hz2_1 : w.heap.size + 1 < w2.heap.size := by have := hb2.size; (try simp at this); omega
    go_wp2
    go_ret2
    exact ⟨rfl, (by repeat (first | exact Below.refl _ _ | (with_reducible refine Below.trans ?_ (hb2.mono (by first | omega | (simp; done) | (simp; omega)))) | (with_reducible refine Below.trans ?_ (hb1.mono (by first | omega | (simp; done) | (simp; omega)))) | (refine Below.alloc ?_ (by first | omega | (simp; done) | (simp; omega)) _) | (refine Below.setCell ?_ (by first | omega | (simp; done) | (simp; omega)) _) | refine Below.drew ?_))⟩

end Go.Proofs.Ytbdjllgngblfoaa
