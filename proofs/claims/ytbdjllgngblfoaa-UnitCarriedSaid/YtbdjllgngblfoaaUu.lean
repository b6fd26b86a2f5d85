import Derived.Test.YtbdjllgngblfoaaUt
import Derived.Test.YtbdjllgngblfoaaUd
namespace Go.Proofs.Ytbdjllgngblfoaa
set_option linter.unusedVariables false
set_option linter.unusedSimpArgs false
open Go.RowKit

/-- The world in a round of Carry and of Back. -/
structure CW (w wr : World) (C : Nat) (s : S4) : Prop where
  bel : Below w.heap.size w wr
  at1 : w.heap.size + 1 < C
  at2 : C < wr.heap.size
  r0 : wr.cell? ⟨w.heap.size + 1, 0, none⟩ = some (.int .i64 0)
  r1 : wr.cell? ⟨w.heap.size + 1, 1, none⟩ = some (.int .i64 0)
  r2 : wr.cell? ⟨w.heap.size + 1, 2, none⟩ = some (.int .i64 0)
  r3 : wr.cell? ⟨w.heap.size + 1, 3, none⟩ = some (.int .i64 0)
  rf : ∀ o, wr.frozen? ⟨w.heap.size + 1, o, none⟩ = false
  c0 : wr.cell? ⟨C, 0, none⟩ = some (.int .i64 s.1)
  c1 : wr.cell? ⟨C, 1, none⟩ = some (.int .i64 s.2.1)
  c2 : wr.cell? ⟨C, 2, none⟩ = some (.int .i64 s.2.2.1)
  c3 : wr.cell? ⟨C, 3, none⟩ = some (.int .i64 s.2.2.2)
  cf : ∀ o, wr.frozen? ⟨C, o, none⟩ = false

theorem CW.next {w wr w' : World} {C : Nat} {s : S4} (h : CW w wr C s) (hb : Below wr.heap.size wr w') : CW w w' C s := by
  have h1 := h.at1
  have h2 := h.at2
  have k : ∀ B, B ≤ C → ∀ o, w'.cell? ⟨B, o, none⟩ = wr.cell? ⟨B, o, none⟩ := fun B hB o => hb.cell (Nat.lt_of_le_of_lt hB h2)
  have kf : ∀ B, B ≤ C → ∀ o, w'.frozen? ⟨B, o, none⟩ = wr.frozen? ⟨B, o, none⟩ := fun B hB o => hb.frozen (Nat.lt_of_le_of_lt hB h2)
  exact ⟨h.bel.trans (hb.mono (by omega)), h1, Nat.lt_of_lt_of_le h2 hb.size, (k _ (by omega) _).trans h.r0, (k _ (by omega) _).trans h.r1, (k _ (by omega) _).trans h.r2, (k _ (by omega) _).trans h.r3, fun o => (kf _ (by omega) _).trans (h.rf o), (k _ (by omega) _).trans h.c0, (k _ (by omega) _).trans h.c1, (k _ (by omega) _).trans h.c2, (k _ (by omega) _).trans h.c3, fun o => (kf _ (by omega) _).trans (h.cf o)⟩

theorem CW.mul {w wr w' : World} {C : Nat} {s : S4} {x y z u : Int} (h : CW w wr C s) (m : Mul wr w' C x y z u) : CW w w' C (x, y, z, u) := by
  have h1 := h.at1
  have h2 := h.at2
  have k : ∀ B, B < C → ∀ o, w'.cell? ⟨B, o, none⟩ = wr.cell? ⟨B, o, none⟩ := fun B hB o => World.cell?_of_block (w := wr) (m.block B (by omega) (by omega))
  have kf : ∀ B, B < C → ∀ o, w'.frozen? ⟨B, o, none⟩ = wr.frozen? ⟨B, o, none⟩ := fun B hB o => World.frozen?_of_block (w := wr) (m.block B (by omega) (by omega))
  have hb : Below w.heap.size wr w' := ⟨m.os, m.tape, m.output, m.size, fun i hi => m.block i (by have := h.bel.size; omega) (by omega)⟩
  exact ⟨h.bel.trans hb, h1, Nat.lt_of_lt_of_le h2 m.size, (k _ (by omega) _).trans h.r0, (k _ (by omega) _).trans h.r1, (k _ (by omega) _).trans h.r2, (k _ (by omega) _).trans h.r3, fun o => (kf _ (by omega) _).trans (h.rf o), m.c0, m.c1, m.c2, m.c3, m.fr⟩

theorem CW.start {w w1 : World} {a b c d : Int} {T1 T2 T3 : TypeId} (hb : Below ((w.alloc (.cells #[.int .i64 a, .int .i64 b, .int .i64 c, .int .i64 d] T1)).alloc (.cells #[.int .i64 0, .int .i64 0, .int .i64 0, .int .i64 0] T2)).heap.size ((w.alloc (.cells #[.int .i64 a, .int .i64 b, .int .i64 c, .int .i64 d] T1)).alloc (.cells #[.int .i64 0, .int .i64 0, .int .i64 0, .int .i64 0] T2)) w1) :
    CW w (w1.alloc (.cells #[.int .i64 a, .int .i64 b, .int .i64 c, .int .i64 d] T3)) w1.heap.size (a, b, c, d) := by
  obtain ⟨hc, hf⟩ := bcell hb
  have hz : w.heap.size + 1 < w1.heap.size := by have := hb.size; simp at this; omega
  exact ⟨((((Below.refl _ _).alloc (Nat.le_refl _) _).alloc (by simp) _).trans (hb.mono (by simp; omega))).alloc (by omega) _, hz, by simp, by simp [go_sem, hc, hz], by simp [go_sem, hc, hz], by simp [go_sem, hc, hz], by simp [go_sem, hc, hz], by intro o; simp [go_sem, hf, hz], by simp [go_sem], by simp [go_sem], by simp [go_sem], by simp [go_sem], by intro o; simp [go_sem]⟩

theorem pr_of {a b c d : Int} (h : Fr a b) (k : Fr c d) : PR a b c d (if Wn (numR a b c d) (denR a b c d) then numR a b c d else 0) (if Wn (numR a b c d) (denR a b c d) then denR a b c d else 0) (decide (Wn (numR a b c d) (denR a b c d))) := by
  refine ⟨h, k, _, _, red_R a b c d, ?_⟩
  by_cases hw : Wn (numR a b c d) (denR a b c d)
  · left; simp [hw]
  · right; simp [hw]

/-- What Carry returns. -/
def resC (s : S4) (L : List S4) (c : Option S4) : S4 × Int := if chkC s L = 0 then match c with | some x => (x, 0) | none => ((0, 0, 0, 0), 4) else ((0, 0, 0, 0), chkC s L)

set_option maxHeartbeats 4000000 in
theorem Carry_any (s : S4) (L : List S4) (v : Value) (q : S4) (k0 : Int) (hq : resC s L (carryL s L) = (q, k0)) (hmax : L.length ≤ 4000000000000000000) (w : World) (hL : SlS w v L) :
    Calls Try.prog 32 #[.agg #[.int .i64 s.1, .int .i64 s.2.1, .int .i64 s.2.2.1, .int .i64 s.2.2.2], v] w fun e w' => e = .returned (.tuple #[.agg #[.int .i64 q.1, .int .i64 q.2.1, .int .i64 q.2.2.1, .int .i64 q.2.2.2], .int .i64 k0]) ∧ Below w.heap.size w w' := by
  by_cases h0 : chkC s L = 0
  · have hS : SpS s := by
      unfold chkC at h0
      split at h0
      · assumption
      · omega
    have hA : ∀ t ∈ L, SpS t := by
      unfold chkC at h0
      rw [if_pos hS] at h0
      split at h0
      · omega
      · split at h0
        · assumption
        · omega
    have H0 := Lib.hid h0
    obtain ⟨a, b, c, d⟩ := s
    have HS := Lib.hid hS
    have HA := Lib.hid hA
    have HQ := Lib.hid hq
    have HL := Lib.hid hL
    clear h0 hS hA hq
    obtain ⟨o, cap, rfl, hcap, hK⟩ := hL
    have HK := Lib.hid hK
    clear hK
    go_enter Try.func32, Try.ntmps32
    go_wp2_with fail
    refine (checkCarried_any (a, b, c, d) L _ 0 H0.out hmax _ ((HL.out.next (below_alloc _ _)).next (below_alloc _ _))).mono ?_
    rintro e w1 ⟨rfl, hb1⟩
    obtain ⟨hc1, hf1⟩ := bcell hb1
    have hz1_0 : w.heap.size < w1.heap.size := by have := hb1.size; simp at this; omega
    have hz1_1 : w.heap.size + 1 < w1.heap.size := by have := hb1.size; simp at this; omega
    go_wp2_with fail
    clear hc1 hf1
    go_loopw [21] (fun v wr => ∃ (k : Nat) (cur : S4), v = .int .i64 k ∧ k ≤ L.length ∧ CW w wr w1.heap.size cur ∧ FrS cur ∧ Hid (carryL cur (L.drop k) = carryL (a, b, c, d) L)) (fun v _ => L.length - (intOf v).toNat)
    case atStart => exact ⟨0, (a, b, c, d), rfl, Nat.zero_le _, CW.start hb1, frS_of HS.out, Lib.hid (by simp)⟩
    case round =>
      obtain ⟨k, cur, rfl, hk, hW, hFr, hcar⟩ := hrel
      by_cases hlt : k < L.length
      · obtain ⟨g, off, rfl, hcell⟩ := HK.out (by omega)
        obtain ⟨t, ht⟩ : ∃ t, L[k]? = some t := ⟨_, List.getElem?_eq_getElem hlt⟩
        obtain ⟨e0, e1, e2, e3⟩ := hcell k t ht
        have hg := lt_of_cell0 e0
        have hbl := hW.bel
        have e0 := (hbl.cell (p := ⟨g, off + k * 4, none⟩) hg).trans e0
        have e1 := (hbl.cell (p := ⟨g, off + k * 4 + 1, none⟩) hg).trans e1
        have e2 := (hbl.cell (p := ⟨g, off + k * 4 + 2, none⟩) hg).trans e2
        have e3 := (hbl.cell (p := ⟨g, off + k * 4 + 3, none⟩) hg).trans e3
        have hT := HA.out t (List.mem_of_getElem? ht)
        have HT := Lib.hid ht
        have HTs := Lib.hid hT
        clear hcell ht hT
        obtain ⟨t0, t1, t2, t3⟩ := t
        simp only at e0 e1 e2 e3
        have i1 : (0 : Int) ≤ k := by omega
        have i2 : (k : Int) < L.length := by omega
        have n1 : g ≠ wr.heap.size := by have := hbl.size; omega
        have n2 : g < wr.heap.size := by have := hbl.size; omega
        obtain ⟨s0, s1, s2, s3⟩ := cur
        have z1 := hW.at1
        have z2 := hW.at2
        clear hbl
        have HW := Lib.hid hW
        clear hW
        have HFr := Lib.hid hFr
        have P1 := Lib.hid (pr_of (c := t0) (d := t1) hFr.1 (frS_of HTs.out).1)
        have P2 := Lib.hid (pr_of (c := t2) (d := t3) hFr.2 (frS_of HTs.out).2)
        clear hFr
        go_wp2_with fail
        have hW3 := HW.out.next (below_alloc wr (.cells #[.int .i64 t0, .int .i64 t1, .int .i64 t2, .int .i64 t3] 25))
        have HW3 := Lib.hid hW3
        refine (multiply_any s0 s1 s2 s3 t0 t1 t2 t3 _ _ _ _ _ _ w1.heap.size P1.out P2.out _ (by first | exact hW3.c0 | simpa using hW3.c0) (by first | exact hW3.c1 | simpa using hW3.c1) (by first | exact hW3.c2 | simpa using hW3.c2) (by first | exact hW3.c3 | simpa using hW3.c3) (by first | exact hW3.cf | simpa using hW3.cf)).mono ?_
        rintro e w4 ⟨rfl, hyes, hno⟩
        by_cases hw : Wn (numR s0 s1 t0 t1) (denR s0 s1 t0 t1) ∧ Wn (numR s2 s3 t2 t3) (denR s2 s3 t2 t3)
        · obtain ⟨x, hx⟩ : ∃ x, x = (numR s0 s1 t0 t1, denR s0 s1 t0 t1, numR s2 s3 t2 t3, denR s2 s3 t2 t3) := ⟨_, rfl⟩
          have HM : Hid (mulS (s0, s1, s2, s3) ((t0, t1, t2, t3)) = some x) := Lib.hid (by unfold mulS; rw [hx]; exact if_pos hw)
          have hM := hyes (by simp [hw.1, hw.2])
          rw [if_pos hw.1, if_pos hw.1, if_pos hw.2, if_pos hw.2] at hM
          have HC : Hid (CW w w4 w1.heap.size x) := Lib.hid (by rw [hx]; exact hW3.mul hM)
          have ht : (decide (Wn (numR s0 s1 t0 t1) (denR s0 s1 t0 t1)) && decide (Wn (numR s2 s3 t2 t3) (denR s2 s3 t2 t3))) = true := by simp [hw.1, hw.2]
          rw [ht]
          clear hM hyes hno hw hW3 ht hx
          go_wp2_with fail
          go_roundw
          case rel => exact ⟨k + 1, x, by go_num, by omega, HC.out, mulS_fr HFr.out (frS_of HTs.out) HM.out, Lib.hid (by rw [← hcar.out, List.drop_eq_getElem_cons hlt]; have : L[k] = (t0, t1, t2, t3) := (by have := HT.out; rw [List.getElem?_eq_getElem hlt] at this; exact Option.some.inj this); rw [this]; simp [carryL, HM.out])⟩
          case measure => (try simp [intOf]) <;> omega
        · have HM : Hid (mulS (s0, s1, s2, s3) ((t0, t1, t2, t3)) = none) := Lib.hid (by unfold mulS; exact if_neg hw)
          have ht : (decide (Wn (numR s0 s1 t0 t1) (denR s0 s1 t0 t1)) && decide (Wn (numR s2 s3 t2 t3) (denR s2 s3 t2 t3))) = false := by simpa using fun h => fun h2 => hw ⟨h, h2⟩
          have hB := hno ht
          rw [ht]
          have hW4 := hW3.next hB
          have HW4 := Lib.hid hW4
          have r0 := hW4.r0
          have r1 := hW4.r1
          have r2 := hW4.r2
          have r3 := hW4.r3
          have rf := hW4.rf
          clear hyes hno hw hW3 ht hB hW4
          have hq := HQ.out
          have hnone : carryL (a, b, c, d) L = none := by
            rw [← hcar.out, List.drop_eq_getElem_cons hlt]; have : L[k] = (t0, t1, t2, t3) := (by have := HT.out; rw [List.getElem?_eq_getElem hlt] at this; exact Option.some.inj this); rw [this]; simp [carryL, HM.out]
          unfold resC at hq
          rw [if_pos H0.out, hnone] at hq
          obtain ⟨rfl, rfl⟩ : q = (0, 0, 0, 0) ∧ k0 = 4 := ⟨(congrArg Prod.fst hq).symm, (congrArg Prod.snd hq).symm⟩
          clear hq hnone
          go_wp2
          exact bodyPost_ret (v := .tuple #[.agg #[.int .i64 0, .int .i64 0, .int .i64 0, .int .i64 0], .int .i64 4]) (by simp [results, Try.results32, go_sem, r0, r1, r2, r3, rf]) rfl ⟨rfl, (by repeat (first | exact HW4.out.bel | (refine Below.setCell ?_ (by first | omega | (simp; done) | (simp; omega)) _) | (refine Below.alloc ?_ (by first | omega | (simp; done) | (simp; omega)) _)))⟩
      · obtain ⟨s0, s1, s2, s3⟩ := cur
        have c0 := hW.c0
        have c1 := hW.c1
        have c2 := hW.c2
        have c3 := hW.c3
        have cf := hW.cf
        have r0 := hW.r0
        have r1 := hW.r1
        have r2 := hW.r2
        have r3 := hW.r3
        have rf := hW.rf
        simp only at c0 c1 c2 c3
        have z1 := hW.at1
        have z2 := hW.at2
        have HW := Lib.hid hW
        have hq := HQ.out
        rw [List.drop_eq_nil_of_le (by omega)] at hcar
        unfold resC at hq
        rw [if_pos H0.out, ← hcar.out] at hq
        obtain ⟨rfl, rfl⟩ : q = (s0, s1, s2, s3) ∧ k0 = 0 := ⟨(congrArg Prod.fst hq).symm, (congrArg Prod.snd hq).symm⟩
        clear hW hq hFr
        go_wp2
        exact bodyPost_ret (v := .tuple #[.agg #[.int .i64 s0, .int .i64 s1, .int .i64 s2, .int .i64 s3], .int .i64 0]) (by simp [results, Try.results32, go_sem, r0, r1, r2, r3, rf]) rfl ⟨rfl, (by repeat (first | exact HW.out.bel | (refine Below.setCell ?_ (by first | omega | (simp; done) | (simp; omega)) _) | (refine Below.alloc ?_ (by first | omega | (simp; done) | (simp; omega)) _)))⟩
  · have hn : chkC s L = 2 ∨ chkC s L = 6 := by
      unfold chkC at h0 ⊢
      split
      · split
        · right; rfl
        · split
          · rename_i h1 h2 h3; exact absurd (by rw [if_pos h1, if_neg h2, if_pos h3]) h0
          · left; rfl
      · left; rfl
    obtain ⟨rfl, rfl⟩ : q = (0, 0, 0, 0) ∧ k0 = chkC s L := by
      unfold resC at hq
      rw [if_neg h0] at hq
      exact ⟨(congrArg Prod.fst hq).symm, (congrArg Prod.snd hq).symm⟩
    obtain ⟨a, b, c, d⟩ := s
    have HL := Lib.hid hL
    have HC := Lib.hid (rfl : chkC (a, b, c, d) L = chkC (a, b, c, d) L)
    obtain ⟨e0, he0⟩ : ∃ e, e = chkC (a, b, c, d) L := ⟨_, rfl⟩
    rw [← he0] at hn ⊢
    have HE := Lib.hid he0
    clear he0 h0 hq hL
    go_enter Try.func32, Try.ntmps32
    rcases hn with rfl | rfl
    · go_wp2_with fail
      refine (checkCarried_any (a, b, c, d) L _ _ HE.out.symm hmax _ ((HL.out.next (below_alloc _ _)).next (below_alloc _ _))).mono ?_
      rintro e w1 ⟨rfl, hb1⟩
      obtain ⟨hc1, hf1⟩ := bcell hb1
      have hz1_0 : w.heap.size < w1.heap.size := by have := hb1.size; simp at this; omega
      have hz1_1 : w.heap.size + 1 < w1.heap.size := by have := hb1.size; simp at this; omega
      go_wp2
      exact bodyPost_ret (v := .tuple #[.agg #[.int .i64 0, .int .i64 0, .int .i64 0, .int .i64 0], .int .i64 2]) (by simp [results, Try.results32, go_sem, hc1, hf1, hz1_0, hz1_1]) rfl ⟨rfl, (by repeat (first | exact Below.refl _ _ | (with_reducible refine Below.trans ?_ (hb1.mono (by first | omega | (simp; done) | (simp; omega)))) | (refine Below.alloc ?_ (by first | omega | (simp; done) | (simp; omega)) _) | (refine Below.setCell ?_ (by first | omega | (simp; done) | (simp; omega)) _) | refine Below.drew ?_))⟩
    · go_wp2_with fail
      refine (checkCarried_any (a, b, c, d) L _ _ HE.out.symm hmax _ ((HL.out.next (below_alloc _ _)).next (below_alloc _ _))).mono ?_
      rintro e w1 ⟨rfl, hb1⟩
      obtain ⟨hc1, hf1⟩ := bcell hb1
      have hz1_0 : w.heap.size < w1.heap.size := by have := hb1.size; simp at this; omega
      have hz1_1 : w.heap.size + 1 < w1.heap.size := by have := hb1.size; simp at this; omega
      go_wp2
      exact bodyPost_ret (v := .tuple #[.agg #[.int .i64 0, .int .i64 0, .int .i64 0, .int .i64 0], .int .i64 6]) (by simp [results, Try.results32, go_sem, hc1, hf1, hz1_0, hz1_1]) rfl ⟨rfl, (by repeat (first | exact Below.refl _ _ | (with_reducible refine Below.trans ?_ (hb1.mono (by first | omega | (simp; done) | (simp; omega)))) | (refine Below.alloc ?_ (by first | omega | (simp; done) | (simp; omega)) _) | (refine Below.setCell ?_ (by first | omega | (simp; done) | (simp; omega)) _) | refine Below.drew ?_))⟩

end Go.Proofs.Ytbdjllgngblfoaa
