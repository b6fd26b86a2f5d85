import Derived.Test.YtbdjllgngblfoaaUv
import Derived.Test.YtbdjllgngblfoaaUw
import Derived.Test.YtbdjllgngblfoaaUe
import Derived.Test.YtbdjllgngblfoaaUm4
namespace Go.Proofs.Ytbdjllgngblfoaa
set_option linter.unusedVariables false
set_option linter.unusedSimpArgs false
open Go.RowKit Go.Shelf

attribute [local go_sem] Oper.semAt_some

theorem steps_any (o : Option Addr) (len cap : Nat) (w : World) : Calls Try.prog 53 #[.slice o len cap] w fun e w' => e = .returned (.func (.func 69) #[] #[.pointer (some ⟨w.heap.size, 0, none⟩)]) ∧ w' = w.alloc (.cells #[.slice o len cap] 43) := by
  go_enter Try.func53, Try.ntmps53
  go_wp2_with fail
  go_ret
  exact ⟨rfl, rfl⟩

/-- The world in a round of the iterator. -/
structure IW (W wr : World) (A E D l : Nat) (s : S4) : Prop where
  lv : Leaves (fun k => k = E ∨ k = D ∨ k = l) W wr
  at1 : W.heap.size ≤ A
  at2 : A < wr.heap.size
  c0 : wr.cell? ⟨A, 0, none⟩ = some (.int .i64 s.1)
  c1 : wr.cell? ⟨A, 1, none⟩ = some (.int .i64 s.2.1)
  c2 : wr.cell? ⟨A, 2, none⟩ = some (.int .i64 s.2.2.1)
  c3 : wr.cell? ⟨A, 3, none⟩ = some (.int .i64 s.2.2.2)
  cf : ∀ o, wr.frozen? ⟨A, o, none⟩ = false

theorem IW.next {W wr w' : World} {A E D l : Nat} {s : S4} (h : IW W wr A E D l s) (hb : Below wr.heap.size wr w') : IW W w' A E D l s := by
  have h2 := h.at2
  exact ⟨h.lv.trans (Leaves.of_below hb), h.at1, Nat.lt_of_lt_of_le h2 hb.size, (hb.cell (p := ⟨A, 0, none⟩) h2).trans h.c0, (hb.cell (p := ⟨A, 1, none⟩) h2).trans h.c1, (hb.cell (p := ⟨A, 2, none⟩) h2).trans h.c2, (hb.cell (p := ⟨A, 3, none⟩) h2).trans h.c3, fun o => (hb.frozen (p := ⟨A, o, none⟩) h2).trans (h.cf o)⟩

theorem IW.turn {W wr w' : World} {A E D l : Nat} {s : S4} (h : IW W wr A E D l s) (hE : E < W.heap.size) (hD : D < W.heap.size) (hl : l < W.heap.size) (hb : Leaves (fun k => k = E ∨ k = D ∨ k = l) wr w') : IW W w' A E D l s := by
  have h1 := h.at1
  have h2 := h.at2
  have hx : ¬ (A = E ∨ A = D ∨ A = l) := by omega
  exact ⟨h.lv.trans hb, h.at1, Nat.lt_of_lt_of_le h2 hb.size, (hb.cell h2 hx 0).trans h.c0, (hb.cell h2 hx 1).trans h.c1, (hb.cell h2 hx 2).trans h.c2, (hb.cell h2 hx 3).trans h.c3, fun o => (hb.frozen h2 hx o).trans (h.cf o)⟩

theorem IW.set {W wr : World} {A E D l : Nat} {s : S4} (h : IW W wr A E D l s) (x y z u : Int) :
    IW W ((((wr.setCell ⟨A, 0, none⟩ (.int .i64 x)).setCell ⟨A, 1, none⟩ (.int .i64 y)).setCell ⟨A, 2, none⟩ (.int .i64 z)).setCell ⟨A, 3, none⟩ (.int .i64 u)) A E D l (x, y, z, u) := by
  have h1 := h.at1
  have h2 := h.at2
  have c0 := h.c0
  have c1 := h.c1
  have c2 := h.c2
  have c3 := h.c3
  have cf := h.cf
  have hb : Below W.heap.size wr ((((wr.setCell ⟨A, 0, none⟩ (.int .i64 x)).setCell ⟨A, 1, none⟩ (.int .i64 y)).setCell ⟨A, 2, none⟩ (.int .i64 z)).setCell ⟨A, 3, none⟩ (.int .i64 u)) :=
    ((((Below.refl _ _).setCell (by simpa using h1) _).setCell (by simpa using h1) _).setCell (by simpa using h1) _).setCell (by simpa using h1) _
  have hlv := h.lv
  exact ⟨⟨hb.os.trans hlv.os, hb.tape.trans hlv.tape, hb.output.trans hlv.output, by simpa using hlv.size, fun k hk hx => (hb.block k hk).trans (hlv.block k hk hx)⟩, h1, by simpa using h2, by simp [go_sem, c0, c1, c2, c3], by simp [go_sem, c0, c1, c2, c3], by simp [go_sem, c0, c1, c2, c3], by simp [go_sem, c0, c1, c2, c3], by intro o; simp [go_sem, cf]⟩

theorem IW.below_set {W wr : World} {A E D l : Nat} {s : S4} (h : IW W wr A E D l s) (x y z u : Int) :
    Below W.heap.size wr ((((wr.setCell ⟨A, 0, none⟩ (.int .i64 x)).setCell ⟨A, 1, none⟩ (.int .i64 y)).setCell ⟨A, 2, none⟩ (.int .i64 z)).setCell ⟨A, 3, none⟩ (.int .i64 u)) := by
  have h1 := h.at1
  exact ((((Below.refl _ _).setCell (by simpa using h1) _).setCell (by simpa using h1) _).setCell (by simpa using h1) _).setCell (by simpa using h1) _

set_option maxHeartbeats 4000000 in
theorem steps1_in (n : Nat) (L : List Int) (hL0 : L.length ≤ 4000000000000000000) (hnn : ∀ i, i < L.length → 0 ≤ L.getD i 0) (E D l Bx : Nat) (J Jx : List S4 → World → Prop) (W : World) (v : Value)
    (hE : E < W.heap.size) (hD : D < W.heap.size) (hl : l < W.heap.size) (hBE : Bx ≠ E) (hBD : Bx ≠ D) (hBl : Bx ≠ l)
    (hJ : ∀ s A B, J s A → Below W.heap.size A B → J s B)
    (hY : ∀ pre x W1, J pre W1 → YieldAt Fence.wide (n - 1) Try.prog l #[.agg #[.int .i64 x.1, .int .i64 x.2.1, .int .i64 x.2.2.1, .int .i64 x.2.2.2]] W1 fun e W' =>
        (e = .returned (.bool true) ∧ J (pre ++ [x]) W' ∧ Leaves (fun k => k = E ∨ k = D ∨ k = l) W1 W') ∨ (e = .returned (.bool false) ∧ Jx (pre ++ [x]) W'))
    (hv : W.cell? ⟨Bx, 0, none⟩ = some v) (hs : Sl W v L) (hsE : ∀ g off cap k, v = .slice (some ⟨g, off, none⟩) k cap → g ≠ E ∧ g ≠ D ∧ g ≠ l) (h0 : J [] W) :
    CallsIn Fence.wide n Try.prog 69 #[.func (.yield l) #[] #[], .pointer (some ⟨Bx, 0, none⟩)] W fun e W' => (∃ v, e = .returned v) ∧
      ((∃ xs, xs = stepsL 0 S0 L ∧ J xs W') ∨ (∃ pre, pre <+: stepsL 0 S0 L ∧ Jx pre W')) := by
  obtain ⟨o1, c1, rfl, hc1, k1⟩ := hs.form
  clear hs
  have K1 := Lib.hid k1
  clear k1
  refine callsIn_of_wp Try.func69 rfl trivial ?_ rfl
  simp only [Try.ntmps69, List.size_toArray, List.length_cons, List.length_nil, Nat.reduceAdd, Nat.reduceSub, Array.replicate_succ, Array.replicate_zero, List.push_toArray, List.append_toArray, List.nil_append, List.cons_append]
  gi_wp2_with fail
  refine ⟨trivial, fun h => (by cases h), (callsIn_wide.2 (first_any _)).mono ?_⟩
  rintro e w1 ⟨rfl, hb1⟩
  have hv1 : w1.cell? ⟨Bx, 0, none⟩ = _ := (hb1.cell (p := ⟨Bx, 0, none⟩) (lt_of_cell' hv)).trans hv
  have hBx : Bx < w1.heap.size := Nat.lt_of_lt_of_le (lt_of_cell' hv) hb1.size
  have hBn : Bx ≠ w1.heap.size := Nat.ne_of_lt hBx
  have HY := Lib.hid hY
  have HJ := Lib.hid hJ
  clear hY hJ
  gi_wp2_with fail
  gi_loopw [9] (fun v wr => ∃ (k : Nat) (pre : List S4) (cur : S4), v = .int .i64 k ∧ k ≤ L.length ∧ J pre wr ∧ IW W wr w1.heap.size E D l cur ∧ nnS cur ∧ ¬ overS cur ∧ Hid (pre ++ stepsL k cur (L.drop k) = stepsL 0 S0 L)) (fun v _ => L.length - (intOf v).toNat)
  case atStart =>
    exact ⟨0, [], S0, rfl, Nat.zero_le _, HJ.out _ _ _ h0 ((hb1.alloc hb1.size _)), ⟨Leaves.of_below (hb1.alloc hb1.size _), hb1.size, by simp, by simp [go_sem], by simp [go_sem], by simp [go_sem], by simp [go_sem], by intro o; simp [go_sem]⟩, ⟨by decide, by decide, by decide, by decide⟩, by decide, Lib.hid (by simp)⟩
  case round =>
    obtain ⟨k, pre, cur, rfl, hk, hj, hI, hN, hO, hpre⟩ := hrel
    by_cases hlt : k < L.length
    · obtain ⟨g1, f1, rfl, e1⟩ := K1.out (by omega)
      obtain ⟨hgE, hgD, hgl⟩ := hsE g1 f1 _ _ rfl
      have q1 : wr.cell? ⟨g1, f1 + k, none⟩ = some (.int .i64 (L.getD k 0)) := (hI.lv.cell (k := g1) (lt_of_cell' (e1 k hlt)) (show ¬ (g1 = E ∨ g1 = D ∨ g1 = l) by omega) _).trans (e1 k hlt)
      have n1 : g1 < W.heap.size := lt_of_cell' (e1 k hlt)
      clear e1
      have hx0 := hnn k hlt
      generalize hx : L.getD k 0 = x at *
      have HX := Lib.hid hx
      clear hx
      have i1 : (0 : Int) ≤ k := by omega
      have i2 : (k : Int) < L.length := by omega
      obtain ⟨s0, s1, s2, s3⟩ := cur
      have c0 := hI.c0
      have c1' := hI.c1
      have c2 := hI.c2
      have c3 := hI.c3
      have cf := hI.cf
      have z1 := hI.at1
      have z2 := hI.at2
      have HI := Lib.hid hI
      have HN := Lib.hid hN
      have HO := Lib.hid hO
      have HV := Lib.hid (not_over hO)
      simp only at c0 c1' c2 c3
      obtain ⟨m, hm⟩ : ∃ m, min x 1000000001 = m := ⟨_, rfl⟩
      have hm0 : 0 ≤ m := by omega
      have hm1 : m ≤ 1000000001 := by omega
      have HM := Lib.hid hm
      have HGX : Hid (L[k] = x) := Lib.hid (by rw [← HX.out, List.getD_eq_getElem?_getD, List.getElem?_eq_getElem hlt]; rfl)
      clear hI hN hO
      have hmi : (if (1000000001 : Int) < x then 1000000001 else x) = m := by rw [← hm]; split <;> omega
      by_cases hp : k % 2 = 0
      · have hp2 : ((k : Int) % 2 == 0) = true := by simp; omega
        obtain ⟨t, ht⟩ : ∃ t, t = (s0 + m * s2, s1 + m * s3, s2, s3) := ⟨_, rfl⟩
        have HT : Hid (stp k (min x 1000000001) (s0, s1, s2, s3) = t) := Lib.hid (by rw [HM.out, ht]; unfold stp; rw [if_pos (by omega)])
        gi_wp2_with fail
        refine ⟨trivial, fun h => (by cases h), (callsIn_wide.2 (up_any s0 s1 s2 s3 m HN.out.1 (Int.le_trans HV.out.1 (by decide)) HN.out.2.1 (Int.le_trans HV.out.2.1 (by decide)) HN.out.2.2.1 (Int.le_trans HV.out.2.2.1 (by decide)) HN.out.2.2.2 (Int.le_trans HV.out.2.2.2 (by decide)) (mulN hm0 hm1 HN.out.2.2.1 HV.out.2.2.1).1 (mulN hm0 hm1 HN.out.2.2.1 HV.out.2.2.1).2 (mulN hm0 hm1 HN.out.2.2.2 HV.out.2.2.2).1 (mulN hm0 hm1 HN.out.2.2.2 HV.out.2.2.2).2 _)).mono ?_⟩
        rintro e w2 ⟨rfl, hb2⟩
        have hI2 := HI.out.next hb2
        have d0 := hI2.c0
        have d1 := hI2.c1
        have d2 := hI2.c2
        have d3 := hI2.c3
        have df := hI2.cf
        have HI2 := Lib.hid hI2
        clear hI2
        gi_wp2_with fail
        have hI3 := HI2.out.set (s0 + m * s2) (s1 + m * s3) (s2) (s3)
        have hj3 := HJ.out _ _ _ hj ((hb2.mono (by have := HI.out.at1; have := HI.out.at2; omega)).trans (HI2.out.below_set (s0 + m * s2) (s1 + m * s3) (s2) (s3)))
        generalize hw3 : ((((w2.setCell ⟨w1.heap.size, 0, none⟩ (.int .i64 (s0 + m * s2))).setCell ⟨w1.heap.size, 1, none⟩ (.int .i64 (s1 + m * s3))).setCell ⟨w1.heap.size, 2, none⟩ (.int .i64 (s2))).setCell ⟨w1.heap.size, 3, none⟩ (.int .i64 (s3))) = w3 at hI3 hj3 ⊢
        have hnt : nnS t := by have := HT.out; rw [← this]; exact stp_nn (by rw [HM.out]; exact hm0) HN.out
        have HNt := Lib.hid hnt
        clear hnt hw3 d0 d1 d2 d3 df c0 c1' c2 c3 cf HI2 hb2 HI HN HO HV
        rw [← ht] at hI3
        obtain ⟨fn, tmps, assign, body, hy, hR⟩ := HY.out pre t w3 hj3
        rw [ht] at hy
        simp only at hy
        rw [hy]
        clear hy
        refine ⟨fun h => (by cases h), hR.mono ?_⟩
        clear hR
        rintro e w4 (⟨rfl, hJ4, hk4⟩ | ⟨rfl, hJx4⟩)
        · have hI4 := hI3.turn hE hD hl hk4
          rw [ht] at hI4
          have d0 := hI4.c0
          have d1 := hI4.c1
          have d2 := hI4.c2
          have d3 := hI4.c3
          have df := hI4.cf
          have z4 := hI4.at2
          simp only at d0 d1 d2 d3
          rw [← ht] at hI4
          have HI4 := Lib.hid hI4
          clear hI4 hI3 hk4 hj3
          by_cases hov : overS t
          · have HO := Lib.hid hov
            have hov2 := hov
            rw [ht] at hov2
            unfold overS at hov2
            simp only at hov2
            have HO2 := Lib.hid (decide_eq_true hov2)
            clear hov hov2
            have HTT := Lib.hid ht
            clear ht
            gi_wp2_with fail
            refine ⟨trivial, fun h => (by cases h), (callsIn_wide.2 (isOver_any _ _ _ _ true HO2.out _)).mono ?_⟩
            rintro e w5 ⟨rfl, hb5⟩
            gi_wp2_with fail
            refine bodyPost_ret (results_none rfl _ _ _) rfl ?_
            exact ⟨⟨_, rfl⟩, .inl ⟨pre ++ [t], by rw [← hpre.out, List.drop_eq_getElem_cons hlt, HGX.out, stepsL_over _ _ _ _ t HT.out HO.out], HJ.out _ _ _ hJ4 (hb5.mono (by have := HI4.out.at1; omega))⟩⟩
          · have HO := Lib.hid hov
            have hov2 := hov
            rw [ht] at hov2
            unfold overS at hov2
            simp only at hov2
            have HO2 := Lib.hid (decide_eq_false hov2)
            clear hov hov2
            have HTT := Lib.hid ht
            clear ht
            gi_wp2_with fail
            refine ⟨trivial, fun h => (by cases h), (callsIn_wide.2 (isOver_any _ _ _ _ false HO2.out _)).mono ?_⟩
            rintro e w5 ⟨rfl, hb5⟩
            gi_wp2_with fail
            go_roundw
            case rel => exact ⟨k + 1, pre ++ [t], t, by go_num, by omega, HJ.out _ _ _ hJ4 (hb5.mono (by have := HI4.out.at1; omega)), HI4.out.next hb5, HNt.out, HO.out, Lib.hid (by rw [← hpre.out, List.drop_eq_getElem_cons hlt, HGX.out, stepsL_cons _ _ _ _ t HT.out HO.out]; simp)⟩
            case measure => (try simp [intOf]) <;> omega
        · gi_wp2_with fail
          refine ⟨trivial, ?_⟩
          gi_wp2_with fail
          refine bodyPost_ret (results_none rfl _ _ _) rfl ?_
          exact ⟨⟨_, rfl⟩, .inr ⟨pre ++ [t], by (rw [← hpre.out, List.drop_eq_getElem_cons hlt, HGX.out]; obtain ⟨r, hr⟩ := stepsL_head k (s0, s1, s2, s3) x (L.drop (k + 1)); rw [hr, HT.out]; exact ⟨r, by simp⟩), hJx4⟩⟩
      · have hp2 : ((k : Int) % 2 == 0) = false := by simp; omega
        obtain ⟨t, ht⟩ : ∃ t, t = (s0, s1, s2 + m * s0, s3 + m * s1) := ⟨_, rfl⟩
        have HT : Hid (stp k (min x 1000000001) (s0, s1, s2, s3) = t) := Lib.hid (by rw [HM.out, ht]; unfold stp; rw [if_neg (by omega)])
        gi_wp2_with fail
        refine ⟨trivial, fun h => (by cases h), (callsIn_wide.2 (down_any s0 s1 s2 s3 m HN.out.1 (Int.le_trans HV.out.1 (by decide)) HN.out.2.1 (Int.le_trans HV.out.2.1 (by decide)) HN.out.2.2.1 (Int.le_trans HV.out.2.2.1 (by decide)) HN.out.2.2.2 (Int.le_trans HV.out.2.2.2 (by decide)) (mulN hm0 hm1 HN.out.1 HV.out.1).1 (mulN hm0 hm1 HN.out.1 HV.out.1).2 (mulN hm0 hm1 HN.out.2.1 HV.out.2.1).1 (mulN hm0 hm1 HN.out.2.1 HV.out.2.1).2 _)).mono ?_⟩
        rintro e w2 ⟨rfl, hb2⟩
        have hI2 := HI.out.next hb2
        have d0 := hI2.c0
        have d1 := hI2.c1
        have d2 := hI2.c2
        have d3 := hI2.c3
        have df := hI2.cf
        have HI2 := Lib.hid hI2
        clear hI2
        gi_wp2_with fail
        have hI3 := HI2.out.set (s0) (s1) (s2 + m * s0) (s3 + m * s1)
        have hj3 := HJ.out _ _ _ hj ((hb2.mono (by have := HI.out.at1; have := HI.out.at2; omega)).trans (HI2.out.below_set (s0) (s1) (s2 + m * s0) (s3 + m * s1)))
        generalize hw3 : ((((w2.setCell ⟨w1.heap.size, 0, none⟩ (.int .i64 (s0))).setCell ⟨w1.heap.size, 1, none⟩ (.int .i64 (s1))).setCell ⟨w1.heap.size, 2, none⟩ (.int .i64 (s2 + m * s0))).setCell ⟨w1.heap.size, 3, none⟩ (.int .i64 (s3 + m * s1))) = w3 at hI3 hj3 ⊢
        have hnt : nnS t := by have := HT.out; rw [← this]; exact stp_nn (by rw [HM.out]; exact hm0) HN.out
        have HNt := Lib.hid hnt
        clear hnt hw3 d0 d1 d2 d3 df c0 c1' c2 c3 cf HI2 hb2 HI HN HO HV
        rw [← ht] at hI3
        obtain ⟨fn, tmps, assign, body, hy, hR⟩ := HY.out pre t w3 hj3
        rw [ht] at hy
        simp only at hy
        rw [hy]
        clear hy
        refine ⟨fun h => (by cases h), hR.mono ?_⟩
        clear hR
        rintro e w4 (⟨rfl, hJ4, hk4⟩ | ⟨rfl, hJx4⟩)
        · have hI4 := hI3.turn hE hD hl hk4
          rw [ht] at hI4
          have d0 := hI4.c0
          have d1 := hI4.c1
          have d2 := hI4.c2
          have d3 := hI4.c3
          have df := hI4.cf
          have z4 := hI4.at2
          simp only at d0 d1 d2 d3
          rw [← ht] at hI4
          have HI4 := Lib.hid hI4
          clear hI4 hI3 hk4 hj3
          by_cases hov : overS t
          · have HO := Lib.hid hov
            have hov2 := hov
            rw [ht] at hov2
            unfold overS at hov2
            simp only at hov2
            have HO2 := Lib.hid (decide_eq_true hov2)
            clear hov hov2
            have HTT := Lib.hid ht
            clear ht
            gi_wp2_with fail
            refine ⟨trivial, fun h => (by cases h), (callsIn_wide.2 (isOver_any _ _ _ _ true HO2.out _)).mono ?_⟩
            rintro e w5 ⟨rfl, hb5⟩
            gi_wp2_with fail
            refine bodyPost_ret (results_none rfl _ _ _) rfl ?_
            exact ⟨⟨_, rfl⟩, .inl ⟨pre ++ [t], by rw [← hpre.out, List.drop_eq_getElem_cons hlt, HGX.out, stepsL_over _ _ _ _ t HT.out HO.out], HJ.out _ _ _ hJ4 (hb5.mono (by have := HI4.out.at1; omega))⟩⟩
          · have HO := Lib.hid hov
            have hov2 := hov
            rw [ht] at hov2
            unfold overS at hov2
            simp only at hov2
            have HO2 := Lib.hid (decide_eq_false hov2)
            clear hov hov2
            have HTT := Lib.hid ht
            clear ht
            gi_wp2_with fail
            refine ⟨trivial, fun h => (by cases h), (callsIn_wide.2 (isOver_any _ _ _ _ false HO2.out _)).mono ?_⟩
            rintro e w5 ⟨rfl, hb5⟩
            gi_wp2_with fail
            go_roundw
            case rel => exact ⟨k + 1, pre ++ [t], t, by go_num, by omega, HJ.out _ _ _ hJ4 (hb5.mono (by have := HI4.out.at1; omega)), HI4.out.next hb5, HNt.out, HO.out, Lib.hid (by rw [← hpre.out, List.drop_eq_getElem_cons hlt, HGX.out, stepsL_cons _ _ _ _ t HT.out HO.out]; simp)⟩
            case measure => (try simp [intOf]) <;> omega
        · gi_wp2_with fail
          refine ⟨trivial, ?_⟩
          gi_wp2_with fail
          refine bodyPost_ret (results_none rfl _ _ _) rfl ?_
          exact ⟨⟨_, rfl⟩, .inr ⟨pre ++ [t], by (rw [← hpre.out, List.drop_eq_getElem_cons hlt, HGX.out]; obtain ⟨r, hr⟩ := stepsL_head k (s0, s1, s2, s3) x (L.drop (k + 1)); rw [hr, HT.out]; exact ⟨r, by simp⟩), hJx4⟩⟩
    · gi_wp2_with fail
      go_end0
      exact ⟨⟨_, rfl⟩, .inl ⟨pre, by (rw [List.drop_eq_nil_of_le (by omega)] at hpre; have := hpre.out; simpa [stepsL] using this), hj⟩⟩

end Go.Proofs.Ytbdjllgngblfoaa
