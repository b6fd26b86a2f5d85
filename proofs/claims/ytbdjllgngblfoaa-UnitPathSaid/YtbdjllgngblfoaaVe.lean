import Derived.Test.YtbdjllgngblfoaaVm2
import Derived.Test.YtbdjllgngblfoaaHv
import Derived.Test.YtbdjllgngblfoaaUq
namespace Go.Proofs.Ytbdjllgngblfoaa
set_option linter.unusedVariables false
set_option linter.unusedSimpArgs false
open Go.RowKit

theorem info_long : (Try.prog.info? 2).map (fun i => (i.zero, i.size, i.bytes)) = some (some (.int .i64 0), 1, 8) := by kernel_rfl

theorem PathR_bad (a b : Int) (hF : ¬ Fr a b) (w : World) :
    Calls Try.prog 24 #[.agg #[.int .i64 a, .int .i64 b]] w fun e w' => e = .returned (.tuple #[.slice none 0 0, .int .i64 2]) ∧ Below w.heap.size w w' := by
  have H := Lib.hid (decide_eq_false hF)
  clear hF
  go_enter Try.func24, Try.ntmps24
  go_wp2_with fail
  refine (IsFraction_any _ _ false H.out _).mono ?_
  rintro e w1 ⟨rfl, hb1⟩
  obtain ⟨hc1, hf1⟩ := bcell hb1
  have hz1_0 : w.heap.size < w1.heap.size := by have := hb1.size; (try simp at this); omega
  go_wp2
  go_ret2
  exact ⟨rfl, (by repeat (first | exact Below.refl _ _ | (with_reducible refine Below.trans ?_ (hb1.mono (by first | omega | (simp; done) | (simp; omega)))) | (refine Below.alloc ?_ (by first | omega | (simp; done) | (simp; omega)) _) | (refine Below.setCell ?_ (by first | omega | (simp; done) | (simp; omega)) _) | refine Below.drew ?_))⟩

set_option maxHeartbeats 4000000 in
theorem PathR_ok (a b : Int) (hF : Fr a b) (w : World) :
    Calls Try.prog 24 #[.agg #[.int .i64 a, .int .i64 b]] w fun e w' => (∃ v, e = .returned (.tuple #[v, .int .i64 0]) ∧ Sl w' v (pathL 64 a b)) ∧ Below w.heap.size w w' := by
  have H := Lib.hid (decide_eq_true hF)
  have HE := Lib.hid (Eu.start ⟨hF.1, hF.2.1, hF.2.2.1, hF.2.2.2.1⟩)
  have b1 := hF.2.2.1
  clear hF
  obtain ⟨i0, hi, hz0, hz1, hz2⟩ := info_parts info_long
  go_enter Try.func24, Try.ntmps24
  go_wp2_with fail
  refine (IsFraction_any _ _ true H.out _).mono ?_
  rintro e w1 ⟨rfl, hb1⟩
  obtain ⟨hc1, hf1⟩ := bcell hb1
  have hz1_0 : w.heap.size < w1.heap.size := by have := hb1.size; (try simp at this); omega
  have hp : Has w1 w.heap.size [.int .i64 a, .int .i64 b] := (Has.new2 w _ _ _).below hb1
  have hbl : Below w.heap.size w w1 := ((Below.refl _ _).alloc (Nat.le_refl _) _).trans (hb1.mono (by simp))
  clear hb1 hc1 hf1
  go_wp2
  go_loopw [4] (fun v wr => ∃ (acc : List Int) (x y : Int), 1 ≤ y ∧ Hid (Eu acc.length x y) ∧ Hid (pathL 64 a b = acc ++ pathL (64 - acc.length) x y) ∧ Hid (wr.ownsRow w1.heap.size 2 1 v acc.length (acc.map (Value.int .i64))) ∧ Hid (Has wr w.heap.size [.int .i64 x, .int .i64 y]) ∧ Hid (Below w.heap.size w wr) ∧ w1.heap.size ≤ wr.heap.size) (fun _ wr => (match wr.cell? ⟨w.heap.size, 1, none⟩ with | some (.int _ n) => n.toNat | _ => 0))
  case atStart => exact ⟨[], a, b, b1, HE, Lib.hid rfl, Lib.hid (World.ownsRow_nil _ _ _ _), Lib.hid hp, Lib.hid hbl, Nat.le_refl _⟩
  case round =>
    obtain ⟨acc, x, y, y1, hE, hacc, hown, hH, hw, hs⟩ := hrel
    have hx1 := hE.out.x1
    have hx2 := hE.out.xm
    have hy2 := hE.out.ym
    have hkb := hE.out.bound (by omega)
    have c0 := hH.out.c0
    have c1 := hH.out.c1
    have hm1 := Int.emod_nonneg x (show y ≠ 0 by omega)
    have hm2 := Int.emod_lt_of_pos x (show 0 < y by omega)
    have hq0 := Int.ediv_nonneg (show 0 ≤ x by omega) (show 0 ≤ y by omega)
    have hq1 := Int.ediv_le_self y (show 0 ≤ x by omega)
    have bz : (y == 0) = false := by simp; omega
    have hfree := own_free hown.out (Nat.le_of_lt hz1_0)
    have hne := own_ne hown.out hz1_0
    have hFR := Lib.hid hfree
    have hNE := Lib.hid hne
    clear hfree hne hp hbl
    have hl64 : acc.length ≤ 60 := by omega
    go_wp2_with (at_builtin; refine wpList_append_own _ rfl _ _ 43 rfl w1.heap.size 2 i0 (.int .i64 0) 1 8 Try.underlying43 hi hz0 hz1 hz2 rfl (by decide) _ _ _ rfl (hown.out.alloc _) ⟨wr.heap.size, 0, none⟩ 1 1 [.int .i64 (x / y)] rfl rfl ?c1 ?c2 ?c3 ?c4 ?c5 ?_)
    case c1 => exact cell_one_new _ _ _
    case c2 => simp [Value.oneCell']
    case c3 => unfold maxLen; omega
    case c4 => omega
    case c5 => simp; omega
    intro v' wz hown' hgrow _
    have hown2 : Hid (wz.ownsRow w1.heap.size 2 1 v' (acc ++ [x / y]).length ((acc ++ [x / y]).map (Value.int .i64))) := Lib.hid (by simpa using hown')
    have hH2 := Lib.hid ((hH.out.alloc _).grown hgrow hNE.out)
    have hw2 := Lib.hid (Below.grown (hw.out.alloc (Nat.le_trans (Nat.le_of_lt hz1_0) hs) _) (Nat.le_refl _) hgrow hFR.out)
    have hs2 : w1.heap.size ≤ wz.heap.size := by have := hgrow.size; simp at this; omega
    have c0' := hH2.out.c0
    have c1' := hH2.out.c1
    have cf' := hH2.out.free
    have cl' := hH2.out.lt
    clear hown' hgrow
    by_cases hr : x % y = 0
    · have hrb : (x % y == 0) = true := by simp [hr]
      have hfin : pathL 64 a b = acc ++ [x / y] := by
        rw [hacc.out]
        obtain ⟨j, hj⟩ : ∃ j, 64 - acc.length = j + 1 := ⟨63 - acc.length, by omega⟩
        rw [hj, pathL_step _ _ _ (by omega), hr, pathL_zero]
      have HF := Lib.hid hfin
      clear hfin
      have HR := Lib.hid hr
      clear hr
      go_wp2
      go_ret2
      exact ⟨⟨_, rfl, by rw [HF.out]; exact sl_of_own hown2.out⟩, hw2.out⟩
    · have hrb : (x % y == 0) = false := by simp [hr]
      have hnext : pathL 64 a b = (acc ++ [x / y]) ++ pathL (64 - (acc ++ [x / y]).length) y (x % y) := by
        rw [hacc.out]
        obtain ⟨j, hj⟩ : ∃ j, 64 - acc.length = j + 1 := ⟨63 - acc.length, by omega⟩
        have e : 64 - (acc ++ [x / y]).length = j := by simp; omega
        rw [hj, pathL_step _ _ _ (by omega), e, List.append_assoc]
        rfl
      have HN := Lib.hid hnext
      have hE2 : Eu (acc ++ [x / y]).length y (x % y) := by
        have := hE.out.step (show y ≠ 0 by omega)
        simpa using this
      have HE2 := Lib.hid hE2
      have hr1 : 1 ≤ x % y := by omega
      clear hnext hE2 hr
      go_wp2
      go_region
      all_goals go_wp2
      all_goals go_roundw
      case rel => exact ⟨acc ++ [x / y], y, x % y, hr1, HE2, HN, Lib.hid (by repeat (first | exact hown2.out | refine own_drew ?_ | refine own_other ?_ (by simp; omega) _)), Lib.hid (by repeat (first | exact (hH2.out).put2 _ _ | exact ((hH2.out).alloc _).put2 _ _ | exact hH2.out | refine Has.drew ?_ | refine Has.drewN ?_ _ | refine Has.alloc ?_ _ | refine Has.other ?_ (by first | omega | (simp; done) | (simp; omega) | (intro hne; simp at hne; omega)) _)), Lib.hid (by repeat (first | exact hw2.out | refine Below.drew ?_ | refine below_drewN ?_ _ | (refine Below.alloc ?_ (by first | omega | (simp; done) | (simp; omega)) _) | (refine Below.setCell ?_ (by first | omega | (simp; done) | (simp; omega)) _))), by simpa [World.setCell] using hs2⟩
      case measure =>
        have hM : ∀ W : World, Has W w.heap.size [.int .i64 y, .int .i64 (x % y)] → (match W.cell? ⟨w.heap.size, 1, none⟩ with | some (.int _ n) => n.toNat | _ => 0) < (match wr.cell? ⟨w.heap.size, 1, none⟩ with | some (.int _ n) => n.toNat | _ => 0) := by
          intro W hW
          rw [hW.c1, hH.out.c1]
          simp only
          omega
        exact hM _ (by repeat (first | exact (hH2.out).put2 _ _ | exact ((hH2.out).alloc _).put2 _ _ | exact hH2.out | refine Has.drew ?_ | refine Has.drewN ?_ _ | refine Has.alloc ?_ _ | refine Has.other ?_ (by first | omega | (simp; done) | (simp; omega) | (intro hne; simp at hne; omega)) _))
end Go.Proofs.Ytbdjllgngblfoaa
