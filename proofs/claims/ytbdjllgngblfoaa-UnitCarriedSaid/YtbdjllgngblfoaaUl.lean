import Derived.Test.YtbdjllgngblfoaaUk
namespace Go.Proofs.Ytbdjllgngblfoaa
set_option linter.unusedVariables false
set_option linter.unusedSimpArgs false
open Go.RowKit

theorem CheckProof_any (a b c d l m r s v k : Int) (hv : chkProof a b c d l m r s = (v, k)) (w : World) :
    Calls Try.prog 20 #[.agg #[.int .i64 a, .int .i64 b, .int .i64 c, .int .i64 d], .agg #[.int .i64 l, .int .i64 m, .int .i64 r, .int .i64 s]] w fun e w' => e = .returned (.tuple #[.int .i64 v, .int .i64 k]) ∧ Below w.heap.size w w' := by
  by_cases hS : Sp a b c d
  · have H := Lib.hid (show (if Sp a b c d then (0:Int) else 2) = 0 from if_pos hS)
    have HS := Lib.hid hS
    by_cases hP : Pn l m r s
    · have HP := Lib.hid (decide_eq_true hP)
      have HP' := Lib.hid hP
      by_cases hR : Rt a b c d l m r s
      · have HR := Lib.hid (decide_eq_true hR)
        obtain ⟨rfl, rfl⟩ : m + s = v ∧ 0 = k := by unfold chkProof at hv; rw [if_pos hS, if_pos hP, if_pos hR] at hv; simpa using hv
        obtain ⟨⟨p1, p2⟩, ⟨p3, p4⟩, ⟨p5, p6⟩, p7, p8⟩ := hP
        clear hS hv hR
        go_enter Try.func20, Try.ntmps20
        go_wp2_with fail
        refine (CheckSpan_any _ _ _ _ _ H.out _).mono ?_
        rintro e w1 ⟨rfl, hb1⟩
        obtain ⟨hc1, hf1⟩ := bcell hb1
        have hz1_0 : w.heap.size < w1.heap.size := by have := hb1.size; (try simp at this); omega
        have hz1_1 : w.heap.size + 1 < w1.heap.size := by have := hb1.size; (try simp at this); omega
        go_wp2_with fail
        refine (areProofNumbers_any _ _ _ _ true HP.out _).mono ?_
        rintro e w2 ⟨rfl, hb2⟩
        obtain ⟨hc2, hf2⟩ := bcell hb2
        have hz2_0 : w.heap.size < w2.heap.size := by have := hb2.size; (try simp at this); omega
        have hz2_1 : w.heap.size + 1 < w2.heap.size := by have := hb2.size; (try simp at this); omega
        go_wp2_with fail
        refine (isRight_any _ _ _ _ _ _ _ _ HS.out HP'.out true HR.out _).mono ?_
        rintro e w3 ⟨rfl, hb3⟩
        obtain ⟨hc3, hf3⟩ := bcell hb3
        have hz3_0 : w.heap.size < w3.heap.size := by have := hb3.size; (try simp at this); omega
        have hz3_1 : w.heap.size + 1 < w3.heap.size := by have := hb3.size; (try simp at this); omega
        go_wp2
        go_ret2
        exact ⟨rfl, (by repeat (first | exact Below.refl _ _ | (with_reducible refine Below.trans ?_ (hb3.mono (by first | omega | (simp; done) | (simp; omega)))) | (with_reducible refine Below.trans ?_ (hb2.mono (by first | omega | (simp; done) | (simp; omega)))) | (with_reducible refine Below.trans ?_ (hb1.mono (by first | omega | (simp; done) | (simp; omega)))) | (refine Below.alloc ?_ (by first | omega | (simp; done) | (simp; omega)) _) | (refine Below.setCell ?_ (by first | omega | (simp; done) | (simp; omega)) _) | refine Below.drew ?_))⟩
      · have HR := Lib.hid (decide_eq_false hR)
        obtain ⟨rfl, rfl⟩ : 0 = v ∧ 14 = k := by unfold chkProof at hv; rw [if_pos hS, if_pos hP, if_neg hR] at hv; simpa using hv
        clear hS hv hR hP
        go_enter Try.func20, Try.ntmps20
        go_wp2_with fail
        refine (CheckSpan_any _ _ _ _ _ H.out _).mono ?_
        rintro e w1 ⟨rfl, hb1⟩
        obtain ⟨hc1, hf1⟩ := bcell hb1
        have hz1_0 : w.heap.size < w1.heap.size := by have := hb1.size; (try simp at this); omega
        have hz1_1 : w.heap.size + 1 < w1.heap.size := by have := hb1.size; (try simp at this); omega
        go_wp2_with fail
        refine (areProofNumbers_any _ _ _ _ true HP.out _).mono ?_
        rintro e w2 ⟨rfl, hb2⟩
        obtain ⟨hc2, hf2⟩ := bcell hb2
        have hz2_0 : w.heap.size < w2.heap.size := by have := hb2.size; (try simp at this); omega
        have hz2_1 : w.heap.size + 1 < w2.heap.size := by have := hb2.size; (try simp at this); omega
        go_wp2_with fail
        refine (isRight_any _ _ _ _ _ _ _ _ HS.out HP'.out false HR.out _).mono ?_
        rintro e w3 ⟨rfl, hb3⟩
        obtain ⟨hc3, hf3⟩ := bcell hb3
        have hz3_0 : w.heap.size < w3.heap.size := by have := hb3.size; (try simp at this); omega
        have hz3_1 : w.heap.size + 1 < w3.heap.size := by have := hb3.size; (try simp at this); omega
        go_wp2
        go_ret2
        exact ⟨rfl, (by repeat (first | exact Below.refl _ _ | (with_reducible refine Below.trans ?_ (hb3.mono (by first | omega | (simp; done) | (simp; omega)))) | (with_reducible refine Below.trans ?_ (hb2.mono (by first | omega | (simp; done) | (simp; omega)))) | (with_reducible refine Below.trans ?_ (hb1.mono (by first | omega | (simp; done) | (simp; omega)))) | (refine Below.alloc ?_ (by first | omega | (simp; done) | (simp; omega)) _) | (refine Below.setCell ?_ (by first | omega | (simp; done) | (simp; omega)) _) | refine Below.drew ?_))⟩
    · have HP := Lib.hid (decide_eq_false hP)
      obtain ⟨rfl, rfl⟩ : 0 = v ∧ 3 = k := by unfold chkProof at hv; rw [if_pos hS, if_neg hP] at hv; simpa using hv
      clear hS hv hP
      go_enter Try.func20, Try.ntmps20
      go_wp2_with fail
      refine (CheckSpan_any _ _ _ _ _ H.out _).mono ?_
      rintro e w1 ⟨rfl, hb1⟩
      obtain ⟨hc1, hf1⟩ := bcell hb1
      have hz1_0 : w.heap.size < w1.heap.size := by have := hb1.size; (try simp at this); omega
      have hz1_1 : w.heap.size + 1 < w1.heap.size := by have := hb1.size; (try simp at this); omega
      go_wp2_with fail
      refine (areProofNumbers_any _ _ _ _ false HP.out _).mono ?_
      rintro e w2 ⟨rfl, hb2⟩
      obtain ⟨hc2, hf2⟩ := bcell hb2
      have hz2_0 : w.heap.size < w2.heap.size := by have := hb2.size; (try simp at this); omega
      have hz2_1 : w.heap.size + 1 < w2.heap.size := by have := hb2.size; (try simp at this); omega
      go_wp2
      go_ret2
      exact ⟨rfl, (by repeat (first | exact Below.refl _ _ | (with_reducible refine Below.trans ?_ (hb2.mono (by first | omega | (simp; done) | (simp; omega)))) | (with_reducible refine Below.trans ?_ (hb1.mono (by first | omega | (simp; done) | (simp; omega)))) | (refine Below.alloc ?_ (by first | omega | (simp; done) | (simp; omega)) _) | (refine Below.setCell ?_ (by first | omega | (simp; done) | (simp; omega)) _) | refine Below.drew ?_))⟩
  · have H := Lib.hid (show (if Sp a b c d then (0:Int) else 2) = 2 from if_neg hS)
    obtain ⟨rfl, rfl⟩ : 0 = v ∧ 2 = k := by unfold chkProof at hv; rw [if_neg hS] at hv; simpa using hv
    clear hS hv
    go_enter Try.func20, Try.ntmps20
    go_wp2_with fail
    refine (CheckSpan_any _ _ _ _ _ H.out _).mono ?_
    rintro e w1 ⟨rfl, hb1⟩
    obtain ⟨hc1, hf1⟩ := bcell hb1
    have hz1_0 : w.heap.size < w1.heap.size := by have := hb1.size; (try simp at this); omega
    have hz1_1 : w.heap.size + 1 < w1.heap.size := by have := hb1.size; (try simp at this); omega
    go_wp2
    go_ret2
    exact ⟨rfl, (by repeat (first | exact Below.refl _ _ | (with_reducible refine Below.trans ?_ (hb1.mono (by first | omega | (simp; done) | (simp; omega)))) | (refine Below.alloc ?_ (by first | omega | (simp; done) | (simp; omega)) _) | (refine Below.setCell ?_ (by first | omega | (simp; done) | (simp; omega)) _) | refine Below.drew ?_))⟩

end Go.Proofs.Ytbdjllgngblfoaa
