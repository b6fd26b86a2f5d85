import Derived.Test.YtbdjllgngblfoaaUz2
import Derived.Test.YtbdjllgngblfoaaHv
namespace Go.Proofs.Ytbdjllgngblfoaa
set_option linter.unusedVariables false
set_option linter.unusedSimpArgs false
open Go.RowKit

/-- The best Num and Den below a Den. -/
def BN (N D k x y : Int) : Prop := (k = 1 ∧ x = 0 ∧ y = 0) ∨ (2 ≤ k ∧ 1 ≤ y ∧ y ≤ k - 1 ∧ 1 ≤ x ∧ x ≤ 1000000000 ∧ N * y < x * D ∧ ∀ n d, 1 ≤ d → d < k → N * d < n * D → x * d ≤ n * y)

theorem below_trans_alloc {W w' : World} {o : Obj} (h : Below (W.alloc o).heap.size (W.alloc o) w') : Below W.heap.size W w' := ((Below.refl _ _).alloc (Nat.le_refl _) o).trans (h.mono (by simp))
theorem next_num {N D k : Int} (h1 : 1 ≤ N) (h2 : N ≤ 999999) (h3 : 1 ≤ D) (h4 : D ≤ 1000000000) (h5 : 1 ≤ k) (h6 : k ≤ 1000) : 0 ≤ N * k ∧ N * k ≤ 999999000 ∧ 0 ≤ N * k / D ∧ N * k / D ≤ 999999000 ∧ N * k < (N * k / D + 1) * D ∧ ∀ n, N * k < n * D → N * k / D + 1 ≤ n := by
  have p0 := Int.mul_nonneg (show 0 ≤ N by omega) (show 0 ≤ k by omega)
  have p1 := @mul_le N k 999999 1000 (by omega) (by omega) h2 h6
  have e := Int.emod_add_mul_ediv (N * k) D
  have e0 := Int.emod_nonneg (N * k) (show D ≠ 0 by omega)
  have e1 := Int.emod_lt_of_pos (N * k) (show 0 < D by omega)
  have q0 : 0 ≤ N * k / D := Int.ediv_nonneg (by omega) (by omega)
  have q1 : N * k / D ≤ N * k := Int.ediv_le_self _ p0
  generalize N * k / D = q at *
  have t : (q + 1) * D = D * q + D := by grind
  refine ⟨p0, by omega, q0, by omega, by omega, fun n hn => ?_⟩
  apply Decidable.byContradiction
  intro hlt
  have t1 : n * D ≤ q * D := Int.mul_le_mul_of_nonneg_right (by omega) (by omega)
  have t2 : q * D = D * q := Int.mul_comm _ _
  omega

theorem BN.new {N D k x y : Int} (h : BN N D k x y) (h1 : 1 ≤ N) (h2 : N ≤ 999999) (h3 : 1 ≤ D) (h4 : D ≤ 1000000000) (h5 : 1 ≤ k) (h6 : k ≤ 1000) (hc : k = 1 ∨ (N * k / D + 1) * y < x * k) : BN N D (k + 1) (N * k / D + 1) k := by
  obtain ⟨p0, p1, q0, q1, q2, q3⟩ := next_num h1 h2 h3 h4 h5 h6
  have z1 : 1 ≤ N * k / D + 1 ∧ N * k / D + 1 ≤ 999999001 := by omega
  generalize N * k / D + 1 = z at *
  refine .inr ⟨by omega, h5, by omega, by omega, by omega, q2, fun n d g1 g2 g3 => ?_⟩
  by_cases hd : d = k
  · subst hd
    exact Int.mul_le_mul_of_nonneg_right (q3 n g3) (by omega)
  · rcases h with ⟨k1, _, _⟩ | ⟨k2, y1, y2, x1, x2, b1, b2⟩
    · omega
    · have hlt : z * y < x * k := by omega
      have := b2 n d g1 (by omega) g3
      -- z / k < x / y ≤ n / d
      have t1 : (z * y) * d ≤ (x * k) * d := Int.mul_le_mul_of_nonneg_right (by omega) (by omega)
      have t2 : (x * d) * k ≤ (n * y) * k := Int.mul_le_mul_of_nonneg_right this (by omega)
      have t3 : (z * d) * y ≤ (n * k) * y := by grind
      exact Int.le_of_mul_le_mul_right t3 (by omega)

theorem BN.old {N D k x y : Int} (h : BN N D k x y) (h1 : 1 ≤ N) (h2 : N ≤ 999999) (h3 : 1 ≤ D) (h4 : D ≤ 1000000000) (h5 : 1 ≤ k) (h6 : k ≤ 1000) (hk : k ≠ 1) (hc : ¬ (N * k / D + 1) * y < x * k) : BN N D (k + 1) x y := by
  obtain ⟨p0, p1, q0, q1, q2, q3⟩ := next_num h1 h2 h3 h4 h5 h6
  generalize N * k / D + 1 = z at *
  rcases h with ⟨k1, _, _⟩ | ⟨k2, y1, y2, x1, x2, b1, b2⟩
  · omega
  · refine .inr ⟨by omega, y1, by omega, x1, x2, b1, fun n d g1 g2 g3 => ?_⟩
    by_cases hd : d = k
    · subst hd
      have t1 : z * y ≤ n * y := Int.mul_le_mul_of_nonneg_right (q3 n g3) (by omega)
      omega
    · exact b2 n d g1 (by omega) g3

theorem BN.red {N D dn x y c d : Int} (h : BN N D (dn + 1) x y) (hd : 1 ≤ dn) (hP : NextP N D dn c d) : 1 ≤ x ∧ x ≤ 1000000000 ∧ 1 ≤ y ∧ y ≤ dn ∧ Red x y c d := by
  rcases h with ⟨k1, _, _⟩ | ⟨k2, y1, y2, x1, x2, b1, b2⟩
  · omega
  have m1 := hP.min x y y1 (by omega) b1
  have m2 := b2 c d hP.fr.2.2.1 (by have := hP.den; omega) hP.gt
  obtain ⟨e1, e2⟩ := (Red.mk' x y).mul x1 y1
  have eg := (Red.mk' x y).gcd x1
  have hb := (Red.mk' x y).bd x1 y1
  refine ⟨x1, x2, y1, by omega, ?_⟩
  have g1 := @gcd_pos x y x1
  unfold Red.mk' at *
  generalize hxx : x / ((Int.gcd x y : Nat) : Int) = x' at *
  generalize hyy : y / ((Int.gcd x y : Nat) : Int) = y' at *
  have key : x' * d = c * y' := by
    have t : ((Int.gcd x y : Nat) : Int) * (x' * d) = ((Int.gcd x y : Nat) : Int) * (c * y') := by
      have t1 : x * d = c * y := by omega
      generalize ((Int.gcd x y : Nat) : Int) = g at *
      grind
    exact Int.eq_of_mul_eq_mul_left (by omega) t
  have f5 := hP.fr.2.2.2.2
  have dv1 : x' ∣ c := dvd_cop eg ⟨d, by rw [Int.mul_comm]; exact key.symm⟩
  have dv2 : c ∣ x' := dvd_cop f5 ⟨y', by rw [Int.mul_comm]; exact key⟩
  have hx : x' = c := by
    have := hP.fr.1
    have l1 := Int.le_of_dvd (by omega) dv1
    have l2 := Int.le_of_dvd (by omega) dv2
    omega
  subst hx
  have hy : y' = d := by
    have : x' * d = x' * y' := key
    exact (Int.eq_of_mul_eq_mul_left (by omega) this).symm
  exact ⟨hxx, hyy.trans hy⟩

set_option maxHeartbeats 4000000 in
theorem NextR_bad (N D dn : Int) (hF : ¬ Fr N D) (w : World) :
    Calls Try.prog 29 #[.agg #[.int .i64 N, .int .i64 D], .int .i64 dn] w fun e w' => e = .returned (.tuple #[.agg #[.int .i64 0, .int .i64 0], .int .i64 2]) ∧ Below w.heap.size w w' := by
  have H := Lib.hid (decide_eq_false hF)
  clear hF
  go_enter Try.func29, Try.ntmps29
  go_wp2_with fail
  refine (IsFraction_any _ _ _ H.out _).mono ?_
  rintro e w1 ⟨rfl, hb1⟩
  obtain ⟨hc1, hf1⟩ := bcell hb1
  have hz1_0 : w.heap.size < w1.heap.size := by have := hb1.size; (try simp at this); omega
  have hz1_1 : w.heap.size + 1 < w1.heap.size := by have := hb1.size; (try simp at this); omega
  go_wp2
  exact bodyPost_ret (v := .tuple #[.agg #[.int .i64 0, .int .i64 0], .int .i64 2]) (by simp [results, Try.results29, go_sem, hc1, hf1, hz1_0, hz1_1]) rfl ⟨rfl, (by repeat (first | exact Below.refl _ _ | (with_reducible refine Below.trans ?_ (hb1.mono (by first | omega | (simp; done) | (simp; omega)))) | (refine Below.alloc ?_ (by first | omega | (simp; done) | (simp; omega)) _) | (refine Below.setCell ?_ (by first | omega | (simp; done) | (simp; omega)) _) | refine Below.drew ?_))⟩

set_option maxHeartbeats 4000000 in
theorem NextR_range (N D dn : Int) (hF : Fr N D) (hR : ¬ ((1 ≤ dn ∧ dn ≤ 1000) ∧ N ≤ 999999)) (w : World) :
    Calls Try.prog 29 #[.agg #[.int .i64 N, .int .i64 D], .int .i64 dn] w fun e w' => e = .returned (.tuple #[.agg #[.int .i64 0, .int .i64 0], .int .i64 3]) ∧ Below w.heap.size w w' := by
  have H := Lib.hid (decide_eq_true hF)
  clear hF
  by_cases hd : 1 ≤ dn ∧ dn ≤ 1000
  · have hN : decide (999999 < N) = true := by simp; omega
    have HD := Lib.hid (decide_eq_true hd)
    clear hR hd
    go_enter Try.func29, Try.ntmps29
    go_wp2_with fail
    refine (IsFraction_any _ _ _ H.out _).mono ?_
    rintro e w1 ⟨rfl, hb1⟩
    obtain ⟨hc1, hf1⟩ := bcell hb1
    have hz1_0 : w.heap.size < w1.heap.size := by have := hb1.size; (try simp at this); omega
    have hz1_1 : w.heap.size + 1 < w1.heap.size := by have := hb1.size; (try simp at this); omega
    go_wp2_with fail
    refine (within_any _ _ _ _ HD.out _).mono ?_
    rintro e w' ⟨rfl, rfl⟩
    go_wp2
    exact bodyPost_ret (v := .tuple #[.agg #[.int .i64 0, .int .i64 0], .int .i64 3]) (by simp [results, Try.results29, go_sem, hc1, hf1, hz1_0, hz1_1]) rfl ⟨rfl, (by repeat (first | exact Below.refl _ _ | (with_reducible refine Below.trans ?_ (hb1.mono (by first | omega | (simp; done) | (simp; omega)))) | (refine Below.alloc ?_ (by first | omega | (simp; done) | (simp; omega)) _) | (refine Below.setCell ?_ (by first | omega | (simp; done) | (simp; omega)) _) | refine Below.drew ?_))⟩
  · have HD := Lib.hid (decide_eq_false hd)
    clear hR hd
    go_enter Try.func29, Try.ntmps29
    go_wp2_with fail
    refine (IsFraction_any _ _ _ H.out _).mono ?_
    rintro e w1 ⟨rfl, hb1⟩
    obtain ⟨hc1, hf1⟩ := bcell hb1
    have hz1_0 : w.heap.size < w1.heap.size := by have := hb1.size; (try simp at this); omega
    have hz1_1 : w.heap.size + 1 < w1.heap.size := by have := hb1.size; (try simp at this); omega
    go_wp2_with fail
    refine (within_any _ _ _ _ HD.out _).mono ?_
    rintro e w' ⟨rfl, rfl⟩
    go_wp2
    exact bodyPost_ret (v := .tuple #[.agg #[.int .i64 0, .int .i64 0], .int .i64 3]) (by simp [results, Try.results29, go_sem, hc1, hf1, hz1_0, hz1_1]) rfl ⟨rfl, (by repeat (first | exact Below.refl _ _ | (with_reducible refine Below.trans ?_ (hb1.mono (by first | omega | (simp; done) | (simp; omega)))) | (refine Below.alloc ?_ (by first | omega | (simp; done) | (simp; omega)) _) | (refine Below.setCell ?_ (by first | omega | (simp; done) | (simp; omega)) _) | refine Below.drew ?_))⟩

set_option maxHeartbeats 4000000 in
theorem NextR_ok (N D dn : Int) (c d : Int) (hF : Fr N D) (hD : 1 ≤ dn ∧ dn ≤ 1000) (hN : N ≤ 999999) (hP : NextP N D dn c d) (w : World) :
    Calls Try.prog 29 #[.agg #[.int .i64 N, .int .i64 D], .int .i64 dn] w fun e w' => e = .returned (.tuple #[.agg #[.int .i64 c, .int .i64 d], .int .i64 0]) ∧ Below w.heap.size w w' := by
  have H := Lib.hid (decide_eq_true hF)
  have H1 := Lib.hid (decide_eq_true hD)
  have HP := Lib.hid hP
  have N1 := hF.1
  have D1 := hF.2.2.1
  have D2 := hF.2.2.2.1
  have hN' : decide (999999 < N) = false := by simp; omega
  have bz : (D == 0) = false := by simp; omega
  obtain ⟨d1, d2⟩ := hD
  clear hF hP
  go_enter Try.func29, Try.ntmps29
  go_wp2_with fail
  refine (IsFraction_any _ _ _ H.out _).mono ?_
  rintro e w1 ⟨rfl, hb1⟩
  obtain ⟨hc1, hf1⟩ := bcell hb1
  have hz1_0 : w.heap.size < w1.heap.size := by have := hb1.size; (try simp at this); omega
  have hz1_1 : w.heap.size + 1 < w1.heap.size := by have := hb1.size; (try simp at this); omega
  go_wp2_with fail
  refine (within_any _ _ _ _ H1.out _).mono ?_
  rintro e w' ⟨rfl, rfl⟩
  go_wp2
  have hp : Has w1 w.heap.size [.int .i64 N, .int .i64 D] := (((Has.new2 w _ _ _).alloc _).below hb1)
  have hq : Has w1 (w.heap.size + 1) [.int .i64 0, .int .i64 0] := (by
    have := Has.new2 (w.alloc (.cells #[.int .i64 N, .int .i64 D] 23)) (.int .i64 0) (.int .i64 0) 23
    rw [World.size_alloc] at this
    exact this.below hb1)
  have hbl : Below w.heap.size w w1 := (((Below.refl _ _).alloc (Nat.le_refl _) _).alloc (by simp) _).trans (hb1.mono (by simp; omega))
  clear hb1 hc1 hf1
  go_loopw [7] (fun u wr => ∃ k x y : Int, 1 ≤ k ∧ k ≤ dn + 1 ∧ u = .int .i64 k ∧ BN N D k x y ∧ Below w.heap.size w wr ∧ Has wr w.heap.size [.int .i64 N, .int .i64 D] ∧ Has wr (w.heap.size + 1) [.int .i64 0, .int .i64 0] ∧ Has wr w1.heap.size [.int .i64 x, .int .i64 y]) (fun u _ => (1001 - intOf u).toNat)
  case atStart => exact ⟨1, 0, 0, by omega, by omega, rfl, .inl ⟨rfl, rfl, rfl⟩, hbl.alloc (by omega) _, hp.alloc _, hq.alloc _, Has.new2 _ _ _ _⟩
  case round =>
    obtain ⟨k, x, y, k1, k2, rfl, hB, hw, hp1, hq1, hx1⟩ := hrel
    have y0 := hp1.c0
    have y1 := hp1.c1
    have x0 := hx1.c0
    have x1 := hx1.c1
    have HB := Lib.hid hB
    have HQ := Lib.hid hq1
    have HPP := Lib.hid hp1
    have HX := Lib.hid hx1
    have z0 := hq1.lt
    have z1 := hx1.lt
    have z2 := hp1.lt
    clear hp1 hq1 hx1 hp hq hbl
    have hs1 := hw.size
    have xf := HX.out.free
    have qf := HQ.out.free
    by_cases hk : k ≤ dn
    · obtain ⟨p0, p1, q0, q1, q2, _⟩ := next_num N1 hN D1 D2 k1 (show k ≤ 1000 by omega)
      have xyb : 0 ≤ x ∧ x ≤ 1000000000 ∧ 0 ≤ y ∧ y ≤ 1000 := by
        rcases hB with ⟨_, rfl, rfl⟩ | ⟨_, _, _, _, _, _⟩ <;> omega
      obtain ⟨u0, u1, v0, v1⟩ := xyb
      by_cases hk1 : k = 1
      · have hkb : (k == 1) = true := by simp [hk1]
        have hn := HB.out.new N1 hN D1 D2 k1 (show k ≤ 1000 by omega) (.inl hk1)
        have HN := Lib.hid hn
        clear hB hn hk1
        go_wp2
        go_roundw
        case rel => exact ⟨k + 1, _, _, by omega, by omega, rfl, HN.out, (by repeat (first | exact hw | refine Below.drew ?_ | refine below_drewN ?_ _ | (refine Below.alloc ?_ (by first | omega | (simp; done) | (simp; omega)) _) | (refine Below.setCell ?_ (by first | omega | (simp; done) | (simp; omega)) _))), (by repeat (first | exact HPP.out | refine Has.drew ?_ | refine Has.drewN ?_ _ | refine Has.alloc ?_ _ | refine Has.other ?_ (by first | omega | (simp; done) | (simp; omega) | (intro hne; simp at hne; omega)) _)), (by repeat (first | exact HQ.out | refine Has.drew ?_ | refine Has.drewN ?_ _ | refine Has.alloc ?_ _ | refine Has.other ?_ (by first | omega | (simp; done) | (simp; omega) | (intro hne; simp at hne; omega)) _)), (by repeat (first | exact (HX.out).put2 _ _ | exact ((HX.out).alloc _).put2 _ _ | exact HX.out | refine Has.drew ?_ | refine Has.drewN ?_ _ | refine Has.alloc ?_ _ | refine Has.other ?_ (by first | omega | (simp; done) | (simp; omega) | (intro hne; simp at hne; omega)) _))⟩
        case measure => simp [intOf]; omega
      · have hkb : (k == 1) = false := by simp [hk1]
        have t1 := @mul_le (N * k / D + 1) y 1000000000 1000 (by omega) v0 (by omega) v1
        have t0 := Int.mul_nonneg (show 0 ≤ N * k / D + 1 by omega) v0
        have t3 := @mul_le x k 1000000000 1000 u0 (by omega) u1 (by omega)
        have t2 := Int.mul_nonneg u0 (show 0 ≤ k by omega)
        by_cases hc : (N * k / D + 1) * y < x * k
        · have hn := HB.out.new N1 hN D1 D2 k1 (show k ≤ 1000 by omega) (.inr hc)
          have HN := Lib.hid hn
          have HC := Lib.hid (decide_eq_true hc)
          clear hB hn hk1 hc
          go_wp2_with fail
          refine (less_any _ _ _ _ _ HC.out t0 (by omega) t2 (by omega) _).mono ?_
          rintro e w2 ⟨rfl, hb2⟩
          have xf2 := (HX.out.alloc _).below hb2 |>.free
          have x02 := (HX.out.alloc _).below hb2 |>.c0
          have x12 := (HX.out.alloc _).below hb2 |>.c1
          have hf2 := (Has.new2 _ _ _ _).below hb2
          have f02 := hf2.c0
          have f12 := hf2.c1
          have fl2 := hf2.lt
          have hbw := below_trans_alloc hb2
          have hs2 := hbw.size
          clear hb2
          go_wp2_with fail
          go_roundw
          case rel => exact ⟨k + 1, _, _, by omega, by omega, rfl, HN.out, (by repeat (first | exact (hw.trans (hbw.mono hs1)) | refine Below.drew ?_ | refine below_drewN ?_ _ | (refine Below.alloc ?_ (by first | omega | (simp; done) | (simp; omega)) _) | (refine Below.setCell ?_ (by first | omega | (simp; done) | (simp; omega)) _))), (by repeat (first | exact (HPP.out.below hbw) | refine Has.drew ?_ | refine Has.drewN ?_ _ | refine Has.alloc ?_ _ | refine Has.other ?_ (by first | omega | (simp; done) | (simp; omega) | (intro hne; simp at hne; omega)) _)), (by repeat (first | exact (HQ.out.below hbw) | refine Has.drew ?_ | refine Has.drewN ?_ _ | refine Has.alloc ?_ _ | refine Has.other ?_ (by first | omega | (simp; done) | (simp; omega) | (intro hne; simp at hne; omega)) _)), (by repeat (first | exact ((HX.out.below hbw)).put2 _ _ | exact (((HX.out.below hbw)).alloc _).put2 _ _ | exact (HX.out.below hbw) | refine Has.drew ?_ | refine Has.drewN ?_ _ | refine Has.alloc ?_ _ | refine Has.other ?_ (by first | omega | (simp; done) | (simp; omega) | (intro hne; simp at hne; omega)) _))⟩
          case measure => simp [intOf]; omega
        · have hn := HB.out.old N1 hN D1 D2 k1 (show k ≤ 1000 by omega) hk1 hc
          have HN := Lib.hid hn
          have HC := Lib.hid (decide_eq_false hc)
          clear hB hn hk1 hc
          go_wp2_with fail
          refine (less_any _ _ _ _ _ HC.out t0 (by omega) t2 (by omega) _).mono ?_
          rintro e w2 ⟨rfl, hb2⟩
          have hbw := below_trans_alloc hb2
          clear hb2
          go_wp2_with fail
          go_roundw
          case rel => exact ⟨k + 1, _, _, by omega, by omega, rfl, HN.out, (by repeat (first | exact (hw.trans (hbw.mono hs1)) | refine Below.drew ?_ | refine below_drewN ?_ _ | (refine Below.alloc ?_ (by first | omega | (simp; done) | (simp; omega)) _) | (refine Below.setCell ?_ (by first | omega | (simp; done) | (simp; omega)) _))), (by repeat (first | exact (HPP.out.below hbw) | refine Has.drew ?_ | refine Has.drewN ?_ _ | refine Has.alloc ?_ _ | refine Has.other ?_ (by first | omega | (simp; done) | (simp; omega) | (intro hne; simp at hne; omega)) _)), (by repeat (first | exact (HQ.out.below hbw) | refine Has.drew ?_ | refine Has.drewN ?_ _ | refine Has.alloc ?_ _ | refine Has.other ?_ (by first | omega | (simp; done) | (simp; omega) | (intro hne; simp at hne; omega)) _)), (by repeat (first | exact (HX.out.below hbw) | refine Has.drew ?_ | refine Has.drewN ?_ _ | refine Has.alloc ?_ _ | refine Has.other ?_ (by first | omega | (simp; done) | (simp; omega) | (intro hne; simp at hne; omega)) _))⟩
          case measure => simp [intOf]; omega
    · have hkd : k = dn + 1 := by omega
      obtain ⟨x1', x2', y1', y2', hR⟩ := BN.red (hkd ▸ HB.out) d1 HP.out
      have HR := Lib.hid hR
      clear hR hkd hB
      go_wp2_with fail
      refine (Reduced_any x y c d HR.out (by omega) (by omega) (by omega) (by omega) _).mono ?_
      rintro e w2 ⟨rfl, hb2⟩
      have hq2 := HQ.out.below hb2
      have q02 := hq2.c0
      have q12 := hq2.c1
      have qf2 := hq2.free
      have hbw := hw.trans (hb2.mono hs1)
      clear hb2
      go_wp2_with fail
      exact bodyPost_ret (v := .tuple #[.agg #[.int .i64 c, .int .i64 d], .int .i64 0]) (by simp [results, Try.results29, go_sem, q02, q12]) rfl ⟨rfl, (by repeat (first | exact hbw | refine Below.drew ?_ | refine below_drewN ?_ _ | (refine Below.alloc ?_ (by first | omega | (simp; done) | (simp; omega)) _) | (refine Below.setCell ?_ (by first | omega | (simp; done) | (simp; omega)) _)))⟩

end Go.Proofs.Ytbdjllgngblfoaa
