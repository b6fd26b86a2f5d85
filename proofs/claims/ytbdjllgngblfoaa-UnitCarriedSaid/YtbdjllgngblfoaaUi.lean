import Derived.Test.YtbdjllgngblfoaaUh
import Derived.Deep.DrawnRows
namespace Go.Proofs.Ytbdjllgngblfoaa
set_option linter.unusedVariables false
set_option linter.unusedSimpArgs false
open Go.RowKit

attribute [local go_sem ↓] Go.wp_at_zero Go.wp_at_succ
/-- The world in a round of the search. -/
structure DW (w wr : World) (A : Nat) (sv : Value) (a b c d : Int) : Prop where
  bel : Below w.heap.size w wr
  at1 : w.heap.size + 1 < A
  at2 : A < wr.heap.size
  side : wr.cell? ⟨w.heap.size, 0, none⟩ = some sv
  r0 : wr.cell? ⟨w.heap.size + 1, 0, none⟩ = some (.int .i64 0)
  r1 : wr.cell? ⟨w.heap.size + 1, 1, none⟩ = some (.int .i64 0)
  r2 : wr.cell? ⟨w.heap.size + 1, 2, none⟩ = some (.int .i64 0)
  r3 : wr.cell? ⟨w.heap.size + 1, 3, none⟩ = some (.int .i64 0)
  rf : ∀ o, wr.frozen? ⟨w.heap.size + 1, o, none⟩ = false
  c0 : wr.cell? ⟨A, 0, none⟩ = some (.int .i64 a)
  c1 : wr.cell? ⟨A, 1, none⟩ = some (.int .i64 b)
  c2 : wr.cell? ⟨A, 2, none⟩ = some (.int .i64 c)
  c3 : wr.cell? ⟨A, 3, none⟩ = some (.int .i64 d)
  af : ∀ o, wr.frozen? ⟨A, o, none⟩ = false

theorem DW.next {w wr w' : World} {A : Nat} {sv : Value} {a b c d : Int} (h : DW w wr A sv a b c d) (hb : Below wr.heap.size wr w') : DW w w' A sv a b c d := by
  have h1 := h.at1
  have h2 := h.at2
  have k : ∀ B, B ≤ A → ∀ o, w'.cell? ⟨B, o, none⟩ = wr.cell? ⟨B, o, none⟩ := fun B hB o => hb.cell (Nat.lt_of_le_of_lt hB h2)
  have kf : ∀ B, B ≤ A → ∀ o, w'.frozen? ⟨B, o, none⟩ = wr.frozen? ⟨B, o, none⟩ := fun B hB o => hb.frozen (Nat.lt_of_le_of_lt hB h2)
  exact ⟨h.bel.trans (hb.mono (by omega)), h1, Nat.lt_of_lt_of_le h2 hb.size, (k _ (by omega) _).trans h.side, (k _ (by omega) _).trans h.r0, (k _ (by omega) _).trans h.r1, (k _ (by omega) _).trans h.r2, (k _ (by omega) _).trans h.r3, fun o => (kf _ (by omega) _).trans (h.rf o), (k _ (by omega) _).trans h.c0, (k _ (by omega) _).trans h.c1, (k _ (by omega) _).trans h.c2, (k _ (by omega) _).trans h.c3, fun o => (kf _ (by omega) _).trans (h.af o)⟩

theorem DW.set {w wr : World} {A : Nat} {sv : Value} {a b c d x y z u : Int} (h : DW w wr A sv a b c d) :
    DW w ((((wr.setCell ⟨A, 0, none⟩ (.int .i64 x)).setCell ⟨A, 1, none⟩ (.int .i64 y)).setCell ⟨A, 2, none⟩ (.int .i64 z)).setCell ⟨A, 3, none⟩ (.int .i64 u)) A sv x y z u := by
  have h1 := h.at1
  have h2 := h.at2
  have e1 : ∀ (o o' : Nat), (⟨A, o, none⟩ : Addr) ≠ ⟨w.heap.size, o', none⟩ := fun o o' e => by injection e; omega
  have e2 : ∀ (o o' : Nat), (⟨A, o, none⟩ : Addr) ≠ ⟨w.heap.size + 1, o', none⟩ := fun o o' e => by injection e; omega
  exact ⟨(((h.bel.setCell (by show _ ≤ A; omega) _).setCell (by show _ ≤ A; omega) _).setCell (by show _ ≤ A; omega) _).setCell (by show _ ≤ A; omega) _, h1, by simpa [World.setCell] using h2,
    by simp [World.cell?_setCell_other, e1, h.side], by simp [World.cell?_setCell_other, e2, h.r0], by simp [World.cell?_setCell_other, e2, h.r1], by simp [World.cell?_setCell_other, e2, h.r2], by simp [World.cell?_setCell_other, e2, h.r3], fun o => by simp [h.rf],
    by simp [go_sem, h.c0], by simp [go_sem, h.c1], by simp [go_sem, h.c2], by simp [go_sem, h.c3], fun o => by simp [h.af]⟩

theorem wr_next {wr W : World} {o : Obj} {Q : Prop} (hh : Hold (wr.heap.size + 1) (wr.alloc o) W ∧ Q) : Below wr.heap.size wr W :=
  ((Below.refl _ _).alloc (Nat.le_refl _) o).trans (hh.1.2.mono (Nat.le_succ _))

theorem bcell' {W w1 : World} (hb : Below W.heap.size W w1) : (∀ b o, b < W.heap.size → w1.cell? ⟨b, o, none⟩ = W.cell? ⟨b, o, none⟩) ∧ (∀ b o, b < W.heap.size → w1.frozen? ⟨b, o, none⟩ = W.frozen? ⟨b, o, none⟩) := bcell hb

theorem dw_start {w w1 : World} {sv : Value} {T1 T2 T3 : TypeId} (hb : Below ((w.alloc (.cells #[sv] T1)).alloc (.cells #[.int .i64 0, .int .i64 0, .int .i64 0, .int .i64 0] T2)).heap.size ((w.alloc (.cells #[sv] T1)).alloc (.cells #[.int .i64 0, .int .i64 0, .int .i64 0, .int .i64 0] T2)) w1) :
    DW w (w1.alloc (.cells #[.int .i64 0, .int .i64 1, .int .i64 1, .int .i64 0] T3)) w1.heap.size sv 0 1 1 0 := by
  obtain ⟨hc, hf⟩ := bcell' hb
  have hz : w.heap.size + 1 < w1.heap.size := by have := hb.size; simp at this; omega
  have hz' : w.heap.size < w1.heap.size := by omega
  exact ⟨((((Below.refl _ _).alloc (Nat.le_refl _) _).alloc (by simp) _).trans (hb.mono (by simp; omega))).alloc (by omega) _, hz, by simp, by simp [go_sem, hc, hz, hz'], by simp [go_sem, hc, hz, hz'], by simp [go_sem, hc, hz, hz'], by simp [go_sem, hc, hz, hz'], by simp [go_sem, hc, hz, hz'], by intro o; simp [go_sem, hf, hz, hz'], by simp [go_sem], by simp [go_sem], by simp [go_sem], by simp [go_sem], by intro o; simp [go_sem]⟩

theorem hold_drew {k : Nat} {W0 w' : World} (h : Hold k W0 w') : Hold k W0 w'.drew := ⟨h.1, h.2.drew⟩

theorem below_of_drew {w w' : World} (h : Below w.drew.heap.size w.drew w') : Below w.heap.size w w' := ((Below.refl _ _).drew).trans h

theorem hold_in2 {B0 : Nat} {w0 w wr W : World} {o : Obj} {Q : Prop} (h : Hold B0 w0 w) (hb : Below w.heap.size w wr) (hh : Hold (wr.heap.size + 1) (wr.alloc o) W ∧ Q) : Hold B0 w0 W := by
  have hs := hb.size
  refine ⟨Nat.le_trans h.1 (Nat.le_trans hs (Nat.le_trans (Nat.le_succ _) hh.1.1)), h.2.trans ((hb.mono h.1).trans ?_)⟩
  exact ((Below.refl _ _).alloc (Nat.le_trans h.1 hs) o).trans (hh.1.2.mono (Nat.le_trans h.1 (Nat.le_trans hs (Nat.le_succ _))))

set_option maxHeartbeats 4000000 in
theorem descend_any (f : Nat) (fb fc : Array Value) (sd : Int → Int → Int) (p q : Int) (B0 : Nat) (w0 : World) (hs : Side f fb fc sd (2 * p) (2 * q) B0 w0) (hsd : Sd sd p q) (hp : p ≤ 2000000000000) (hq : q ≤ 2000000000000) (w : World) (hH : Hold B0 w0 w) :
    Calls Try.prog 40 #[.func (.func f) fb fc] w fun e w' => (∃ a b c d : Int, e = .returned (.agg #[.int .i64 a, .int .i64 b, .int .i64 c, .int .i64 d]) ∧ Nb sd p q a b c d ∧ sd (a + c) (b + d) ≠ -1 ∧ sd (a + c) (b + d) ≠ 1) ∧ Below w.heap.size w w' := by
  have hen := hs.enter
  have HS := Lib.hid hs
  have HD := Lib.hid hsd
  have HH := Lib.hid hH
  clear hs hsd hH
  go_enter Try.func40, Try.ntmps40
  go_wp2_with fail
  go_step3
  go_wp2_with fail
  refine (first_any _).mono ?_
  rintro e w1 ⟨rfl, hb1⟩
  go_wp2_with fail
  go_step3
  go_wp2_with fail
  have hz1 : w.heap.size + 1 < w1.heap.size := by have := hb1.size; simp at this; omega
  go_loopg [] ((p + q).toNat) (fun k wr => ∃ a b c d : Int, Nb sd p q a b c d ∧ DW w wr w1.heap.size (.func (.func f) fb fc) a b c d ∧ (p + q - (a + b + c + d)).toNat < k)
  case atStart =>
    refine ⟨0, 1, 1, 0, Nb.start HD.out, dw_start hb1, ?_⟩
    have := HD.out.p1
    have := HD.out.q1
    omega
  case round =>
    obtain ⟨a, b, c, d, hN, hW, hk⟩ := hrel
    have hle := hN.le
    have l1 := hN.a0
    have l2 : 0 ≤ b := by have := hN.b1; omega
    have l3 : 0 ≤ c := by have := hN.c1; omega
    have l4 := hN.d0
    have z1 := hW.at1
    have z2 := hW.at2
    have c0 := hW.c0
    have c1 := hW.c1
    have c2 := hW.c2
    have c3 := hW.c3
    have cs := hW.side
    have HWb := Lib.hid hW.bel
    have HW := Lib.hid hW
    have HN := Lib.hid hN
    clear hW hN hb1 hz1
    by_cases m1 : sd (a + c) (b + d) = -1
    · have HM := Lib.hid m1
      go_wp2_with fail
      go_region_held3 (fun w' => Hold (wr.heap.size + 1) (wr.alloc (Obj.cells #[.int .i64 a, .int .i64 b, .int .i64 c, .int .i64 d] 68)) w' ∧ w'.cell? ⟨w.heap.size, 0, none⟩ = some (.func (.func f) fb fc) ∧ w'.cell? ⟨wr.heap.size, 0, none⟩ = some (.int .i64 a) ∧ w'.cell? ⟨wr.heap.size, 1, none⟩ = some (.int .i64 b) ∧ w'.cell? ⟨wr.heap.size, 2, none⟩ = some (.int .i64 c) ∧ w'.cell? ⟨wr.heap.size, 3, none⟩ = some (.int .i64 d)) (first | exact ⟨⟨by simp, (Below.refl _ _).drew⟩, by go_keep⟩ | exact hold5 (by omega) (by omega) (by assumption) hb3 | exact hold5 (by omega) (by omega) (by assumption) hb2) (first
        | (go_at_call 42; refine (middle_any _ _ _ _ l1 (by omega) l2 (by omega) l3 (by omega) l4 (by omega) _).mono ?_; rintro e w2 ⟨rfl, hb2⟩)
        | (refine (HS.out.call _ _ _ (by omega) (by omega) (by omega) (by omega) (hold_in2 HH.out HWb.out (by assumption))).mono ?_; rintro e w3 ⟨rfl, hb3⟩))
      rename_i hHeld
      have HC := Lib.hid hHeld
      have zf : wr.heap.size < w3.heap.size := hHeld.1.1
      have HA := Lib.hid (hold_in2 HH.out HWb.out hHeld)
      have hW4 := HW.out.next (wr_next hHeld)
      have d0 := hW4.c0
      have d1 := hW4.c1
      have d2 := hW4.c2
      have d3 := hW4.c3
      have df := hW4.af
      have z4 := hW4.at2
      have HW4 := Lib.hid hW4
      clear hW4 c0 c1 c2 c3 cs
      go_wp2_with fail
      go_region_with (first
        | (go_at_call 63; refine (mostUp f fb fc sd p q B0 w0 HS.out HD.out hp hq _ _ a b c d HN.out HM.out _ (hold_drew HA.out) (by exact HC.out.2.1) (by exact HC.out.2.2.1) (by exact HC.out.2.2.2.1) (by exact HC.out.2.2.2.2.1) (by exact HC.out.2.2.2.2.2)).mono ?_; rintro e w5 ⟨⟨n, rfl, hn1, hn2⟩, hb5⟩; have hb5 := below_of_drew hb5; obtain ⟨hc5, hf5⟩ := bcell hb5; obtain ⟨u1, u2, u3, u4, u5, u6⟩ := HN.out.nn hn1; obtain ⟨v1, v2⟩ := (HN.out.up HD.out hn1 hn2).le; have hz5 : w1.heap.size < w5.heap.size := (by have := hb5.size; (try simp at this); omega))
        | (go_at_call 62; refine (up_any _ _ _ _ _ l1 (by omega) l2 (by omega) l3 (by omega) l4 (by omega) (by omega) (by omega) (by omega) (by omega) _).mono ?_; rintro e w6 ⟨rfl, hb6⟩; obtain ⟨hc6, hf6⟩ := bcell hb6; have hz6 : w1.heap.size < w6.heap.size := (by have := hb6.size; (try simp at this); omega)))
      all_goals go_wp2_with fail
      all_goals go_roundg (gk - 1)
      all_goals first
        | exact ⟨a + n * c, b + n * d, c, d, HN.out.up HD.out hn1 hn2, ((HW4.out.next hb5).next hb6).set, by omega⟩
        | omega
    · by_cases m2 : sd (a + c) (b + d) = 1
      · have HM := Lib.hid m2
        go_wp2_with fail
        go_region_held3 (fun w' => Hold (wr.heap.size + 1) (wr.alloc (Obj.cells #[.int .i64 a, .int .i64 b, .int .i64 c, .int .i64 d] 68)) w' ∧ w'.cell? ⟨w.heap.size, 0, none⟩ = some (.func (.func f) fb fc) ∧ w'.cell? ⟨wr.heap.size, 0, none⟩ = some (.int .i64 a) ∧ w'.cell? ⟨wr.heap.size, 1, none⟩ = some (.int .i64 b) ∧ w'.cell? ⟨wr.heap.size, 2, none⟩ = some (.int .i64 c) ∧ w'.cell? ⟨wr.heap.size, 3, none⟩ = some (.int .i64 d)) (first | exact ⟨⟨by simp, (Below.refl _ _).drew⟩, by go_keep⟩ | exact hold5 (by omega) (by omega) (by assumption) hb3 | exact hold5 (by omega) (by omega) (by assumption) hb2) (first
          | (go_at_call 42; refine (middle_any _ _ _ _ l1 (by omega) l2 (by omega) l3 (by omega) l4 (by omega) _).mono ?_; rintro e w2 ⟨rfl, hb2⟩)
          | (refine (HS.out.call _ _ _ (by omega) (by omega) (by omega) (by omega) (hold_in2 HH.out HWb.out (by assumption))).mono ?_; rintro e w3 ⟨rfl, hb3⟩))
        rename_i hHeld
        have HC := Lib.hid hHeld
        have zf : wr.heap.size < w3.heap.size := hHeld.1.1
        have HA := Lib.hid (hold_in2 HH.out HWb.out hHeld)
        have hW4 := HW.out.next (wr_next hHeld)
        have d0 := hW4.c0
        have d1 := hW4.c1
        have d2 := hW4.c2
        have d3 := hW4.c3
        have df := hW4.af
        have z4 := hW4.at2
        have HW4 := Lib.hid hW4
        clear hW4 c0 c1 c2 c3 cs
        go_wp2_with fail
        go_region_with (first
          | (go_at_call 63; refine (mostDown f fb fc sd p q B0 w0 HS.out HD.out hp hq _ _ a b c d HN.out HM.out _ (hold_drew HA.out) (by exact HC.out.2.1) (by exact HC.out.2.2.1) (by exact HC.out.2.2.2.1) (by exact HC.out.2.2.2.2.1) (by exact HC.out.2.2.2.2.2)).mono ?_; rintro e w5 ⟨⟨n, rfl, hn1, hn2⟩, hb5⟩; have hb5 := below_of_drew hb5; obtain ⟨hc5, hf5⟩ := bcell hb5; obtain ⟨u1, u2, u3, u4, u5, u6⟩ := HN.out.nn hn1; obtain ⟨v1, v2⟩ := (HN.out.down HD.out hn1 hn2).le; have hz5 : w1.heap.size < w5.heap.size := (by have := hb5.size; (try simp at this); omega))
          | (go_at_call 65; refine (down_any _ _ _ _ _ l1 (by omega) l2 (by omega) l3 (by omega) l4 (by omega) (by omega) (by omega) (by omega) (by omega) _).mono ?_; rintro e w6 ⟨rfl, hb6⟩; obtain ⟨hc6, hf6⟩ := bcell hb6; have hz6 : w1.heap.size < w6.heap.size := (by have := hb6.size; (try simp at this); omega)))
        all_goals go_wp2_with fail
        all_goals go_roundg (gk - 1)
        all_goals first
          | exact ⟨a, b, c + n * a, d + n * b, HN.out.down HD.out hn1 hn2, ((HW4.out.next hb5).next hb6).set, by omega⟩
          | omega
      · have n1 : (sd (a + c) (b + d) == -1) = false := by simpa using m1
        have n2 : (sd (a + c) (b + d) == 1) = false := by simpa using m2
        have M1 := Lib.hid m1
        have M2 := Lib.hid m2
        clear m1 m2
        go_wp2_with fail
        go_region_held3 (fun w' => Hold (wr.heap.size + 1) (wr.alloc (Obj.cells #[.int .i64 a, .int .i64 b, .int .i64 c, .int .i64 d] 68)) w' ∧ w'.cell? ⟨w.heap.size, 0, none⟩ = some (.func (.func f) fb fc) ∧ w'.cell? ⟨wr.heap.size, 0, none⟩ = some (.int .i64 a) ∧ w'.cell? ⟨wr.heap.size, 1, none⟩ = some (.int .i64 b) ∧ w'.cell? ⟨wr.heap.size, 2, none⟩ = some (.int .i64 c) ∧ w'.cell? ⟨wr.heap.size, 3, none⟩ = some (.int .i64 d)) (first | exact ⟨⟨by simp, (Below.refl _ _).drew⟩, by go_keep⟩ | exact hold5 (by omega) (by omega) (by assumption) hb3 | exact hold5 (by omega) (by omega) (by assumption) hb2) (first
          | (go_at_call 42; refine (middle_any _ _ _ _ l1 (by omega) l2 (by omega) l3 (by omega) l4 (by omega) _).mono ?_; rintro e w2 ⟨rfl, hb2⟩)
          | (refine (HS.out.call _ _ _ (by omega) (by omega) (by omega) (by omega) (hold_in2 HH.out HWb.out (by assumption))).mono ?_; rintro e w3 ⟨rfl, hb3⟩))
        rename_i hHeld
        have HC := Lib.hid hHeld
        have zf : wr.heap.size < w3.heap.size := hHeld.1.1
        have HA := Lib.hid (hold_in2 HH.out HWb.out hHeld)
        have hW4 := HW.out.next (wr_next hHeld)
        have r0 := hW4.r0
        have r1 := hW4.r1
        have r2 := hW4.r2
        have r3 := hW4.r3
        have rf := hW4.rf
        have d0 := hW4.c0
        have d1 := hW4.c1
        have d2 := hW4.c2
        have d3 := hW4.c3
        have df := hW4.af
        have z4 := hW4.at2
        have HW4 := Lib.hid hW4
        clear hW4 c0 c1 c2 c3 cs
        clear hHeld
        go_wp2_with fail
        rw [Exit.noGoto_ret]
        exact bodyPost_ret (v := .agg #[.int .i64 a, .int .i64 b, .int .i64 c, .int .i64 d]) (by simp [results, Try.results40, go_sem, r0, r1, r2, r3]) rfl ⟨⟨a, b, c, d, rfl, HN.out, M1.out, M2.out⟩, (((HW4.out.bel.setCell (by simp) _).setCell (by simp) _).setCell (by simp) _).setCell (by simp) _⟩


end Go.Proofs.Ytbdjllgngblfoaa
