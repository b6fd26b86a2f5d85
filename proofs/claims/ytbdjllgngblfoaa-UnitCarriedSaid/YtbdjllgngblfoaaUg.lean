import Derived.Test.YtbdjllgngblfoaaUf
namespace Go.Proofs.Ytbdjllgngblfoaa
set_option linter.unusedVariables false
set_option linter.unusedSimpArgs false
open Go.RowKit

/-- The world has grown since W0: below k it is as it was. -/
def Hold (k : Nat) (W0 w' : World) : Prop := k ≤ w'.heap.size ∧ Below k W0 w'
theorem Hold.next {k : Nat} {W0 W w' : World} (h : Hold k W0 W) (hb : Below W.heap.size W w') : Hold k W0 w' := ⟨Nat.le_trans h.1 hb.size, h.2.trans (hb.mono h.1)⟩
theorem Hold.cell {k : Nat} {W0 w' : World} (h : Hold k W0 w') {B o : Nat} (hB : B < k) : w'.cell? ⟨B, o, none⟩ = W0.cell? ⟨B, o, none⟩ := h.2.cell hB
theorem Hold.self (w : World) : Hold w.heap.size w w.drew := ⟨Nat.le_refl _, (Below.refl _ _).drew⟩

theorem hold_in {B0 : Nat} {w0 w W : World} {Q : Prop} (h : Hold B0 w0 w) (hh : Hold w.heap.size w W ∧ Q) : Hold B0 w0 W := ⟨Nat.le_trans h.1 hh.1.1, h.2.trans (hh.1.2.mono h.1)⟩
theorem hold_fin {w W : World} {Q : Prop} (hh : Hold w.heap.size w W ∧ Q) : Below w.heap.size w W := hh.1.2

theorem hold5 {k B1 B2 : Nat} {W0 W w' : World} {v0 v1 v2 v3 v4 : Option Value} (q1 : B1 < k) (q2 : B2 < k)
    (h : Hold k W0 W ∧ W.cell? ⟨B1, 0, none⟩ = v0 ∧ W.cell? ⟨B2, 0, none⟩ = v1 ∧ W.cell? ⟨B2, 1, none⟩ = v2 ∧ W.cell? ⟨B2, 2, none⟩ = v3 ∧ W.cell? ⟨B2, 3, none⟩ = v4) (hb : Below W.heap.size W w') :
    Hold k W0 w' ∧ w'.cell? ⟨B1, 0, none⟩ = v0 ∧ w'.cell? ⟨B2, 0, none⟩ = v1 ∧ w'.cell? ⟨B2, 1, none⟩ = v2 ∧ w'.cell? ⟨B2, 2, none⟩ = v3 ∧ w'.cell? ⟨B2, 3, none⟩ = v4 := by
  obtain ⟨hh, h0, h1, h2, h3, h4⟩ := h
  have c1 : ∀ o, w'.cell? ⟨B1, o, none⟩ = W.cell? ⟨B1, o, none⟩ := fun o => hb.cell (Nat.lt_of_lt_of_le q1 hh.1)
  have c2 : ∀ o, w'.cell? ⟨B2, o, none⟩ = W.cell? ⟨B2, o, none⟩ := fun o => hb.cell (Nat.lt_of_lt_of_le q2 hh.1)
  exact ⟨hh.next hb, (c1 _).trans h0, (c2 _).trans h1, (c2 _).trans h2, (c2 _).trans h3, (c2 _).trans h4⟩

/-- What is asked of a function value that tells on which side a ratio lies. -/
structure Side (f : Nat) (b c : Array Value) (sd : Int → Int → Int) (DX DY : Int) (B0 : Nat) (w0 : World) : Prop where
  enter : ∀ (x : Value) (W : World), (callFunc f (b.push x ++ c)).run Try.prog W = .ok (.enter f (b.push x ++ c)) W
  call : ∀ (x y : Int) (W : World), 0 ≤ x → x ≤ DX → 0 ≤ y → y ≤ DY → Hold B0 w0 W → Calls Try.prog f (b.push (.agg #[.int .i64 x, .int .i64 y]) ++ c) W fun e w' => e = .returned (.int .i64 (sd x y)) ∧ Below W.heap.size W w'

theorem lt_of_cell {w : World} {B o : Nat} {v : Value} (h : w.cell? ⟨B, o, none⟩ = some v) : B < w.heap.size := by
  unfold World.cell? at h
  split at h
  · rename_i hh
    exact (Array.getElem?_eq_some_iff.1 hh).1
  · cases h

theorem d1_any (f : Nat) (b c : Array Value) (sd : Int → Int → Int) (DX DY : Int) (B0 : Nat) (w0 : World) (hs : Side f b c sd DX DY B0 w0) (hDX : DX ≤ 4000000000000) (hDY : DY ≤ 4000000000000) (B1 B2 : Nat) (x y z u n : Int) (r : Bool)
    (hr : decide (sd (x + n * z) (y + n * u) = -1) = r) (hx0 : 0 ≤ x) (hy0 : 0 ≤ y) (hz0 : 0 ≤ z) (hu0 : 0 ≤ u) (hx1 : x ≤ 4000000000000) (hy1 : y ≤ 4000000000000) (hz1 : z ≤ 4000000000000) (hu1 : u ≤ 4000000000000) (hp0 : 0 ≤ n * z) (hq0 : 0 ≤ n * u) (hX : x + n * z ≤ DX) (hY : y + n * u ≤ DY) (w : World) (hH : Hold B0 w0 w)
    (h0 : w.cell? ⟨B1, 0, none⟩ = some (.func (.func f) b c)) (h1 : w.cell? ⟨B2, 0, none⟩ = some (.int .i64 x)) (h2 : w.cell? ⟨B2, 1, none⟩ = some (.int .i64 y)) (h3 : w.cell? ⟨B2, 2, none⟩ = some (.int .i64 z)) (h4 : w.cell? ⟨B2, 3, none⟩ = some (.int .i64 u)) :
    Calls Try.prog 64 #[.int .i64 n, .pointer (some ⟨B1, 0, none⟩), .pointer (some ⟨B2, 0, none⟩)] w fun e w' => e = .returned (.bool r) ∧ Below w.heap.size w w' := by
  have q1 : B1 < w.heap.size := lt_of_cell h0
  have q2 : B2 < w.heap.size := lt_of_cell h1
  have hen := hs.enter
  have HC := Lib.hid hs
  have HH := Lib.hid hH
  clear hs hH
  go_enter Try.func64, Try.ntmps64
  go_wp2_with fail
  go_region_held3 (fun w' => Hold w.heap.size w w' ∧ w'.cell? ⟨B1, 0, none⟩ = some (.func (.func f) b c) ∧ w'.cell? ⟨B2, 0, none⟩ = some (.int .i64 x) ∧ w'.cell? ⟨B2, 1, none⟩ = some (.int .i64 y) ∧ w'.cell? ⟨B2, 2, none⟩ = some (.int .i64 z) ∧ w'.cell? ⟨B2, 3, none⟩ = some (.int .i64 u)) (first | exact ⟨Hold.self w, by go_keep⟩ | exact hold5 q1 q2 (by assumption) hb3 | exact hold5 q1 q2 (by assumption) hb2 | exact hold5 q1 q2 (by assumption) hb1) (first
    | (go_at_call 62; refine (up_any _ _ _ _ _ hx0 (by omega) hy0 (by omega) hz0 (by omega) hu0 (by omega) hp0 (by omega) hq0 (by omega) _).mono ?_; rintro e w1 ⟨rfl, hb1⟩)
    | (go_at_call 48; refine (left_any _ _ _ _ _).mono ?_; rintro e w2 ⟨rfl, hb2⟩)
    | (refine (HC.out.call _ _ _ (by omega) (by omega) (by omega) (by omega) (hold_in HH.out (by assumption))).mono ?_; rintro e w3 ⟨rfl, hb3⟩))
  go_wp2
  go_ret
  exact ⟨ret_b (by first | rfl | (rw [← hr]; rfl) | (rw [← hr]; simp)), hold_fin (by assumption)⟩

theorem d2_any (f : Nat) (b c : Array Value) (sd : Int → Int → Int) (DX DY : Int) (B0 : Nat) (w0 : World) (hs : Side f b c sd DX DY B0 w0) (hDX : DX ≤ 4000000000000) (hDY : DY ≤ 4000000000000) (B1 B2 : Nat) (x y z u n : Int) (r : Bool)
    (hr : decide (sd (z + n * x) (u + n * y) = 1) = r) (hx0 : 0 ≤ x) (hy0 : 0 ≤ y) (hz0 : 0 ≤ z) (hu0 : 0 ≤ u) (hx1 : x ≤ 4000000000000) (hy1 : y ≤ 4000000000000) (hz1 : z ≤ 4000000000000) (hu1 : u ≤ 4000000000000) (hp0 : 0 ≤ n * x) (hq0 : 0 ≤ n * y) (hX : z + n * x ≤ DX) (hY : u + n * y ≤ DY) (w : World) (hH : Hold B0 w0 w)
    (h0 : w.cell? ⟨B1, 0, none⟩ = some (.func (.func f) b c)) (h1 : w.cell? ⟨B2, 0, none⟩ = some (.int .i64 x)) (h2 : w.cell? ⟨B2, 1, none⟩ = some (.int .i64 y)) (h3 : w.cell? ⟨B2, 2, none⟩ = some (.int .i64 z)) (h4 : w.cell? ⟨B2, 3, none⟩ = some (.int .i64 u)) :
    Calls Try.prog 66 #[.int .i64 n, .pointer (some ⟨B1, 0, none⟩), .pointer (some ⟨B2, 0, none⟩)] w fun e w' => e = .returned (.bool r) ∧ Below w.heap.size w w' := by
  have q1 : B1 < w.heap.size := lt_of_cell h0
  have q2 : B2 < w.heap.size := lt_of_cell h1
  have hen := hs.enter
  have HC := Lib.hid hs
  have HH := Lib.hid hH
  clear hs hH
  go_enter Try.func66, Try.ntmps66
  go_wp2_with fail
  go_region_held3 (fun w' => Hold w.heap.size w w' ∧ w'.cell? ⟨B1, 0, none⟩ = some (.func (.func f) b c) ∧ w'.cell? ⟨B2, 0, none⟩ = some (.int .i64 x) ∧ w'.cell? ⟨B2, 1, none⟩ = some (.int .i64 y) ∧ w'.cell? ⟨B2, 2, none⟩ = some (.int .i64 z) ∧ w'.cell? ⟨B2, 3, none⟩ = some (.int .i64 u)) (first | exact ⟨Hold.self w, by go_keep⟩ | exact hold5 q1 q2 (by assumption) hb3 | exact hold5 q1 q2 (by assumption) hb2 | exact hold5 q1 q2 (by assumption) hb1) (first
    | (go_at_call 65; refine (down_any _ _ _ _ _ hx0 (by omega) hy0 (by omega) hz0 (by omega) hu0 (by omega) hp0 (by omega) hq0 (by omega) _).mono ?_; rintro e w1 ⟨rfl, hb1⟩)
    | (go_at_call 49; refine (right_any _ _ _ _ _).mono ?_; rintro e w2 ⟨rfl, hb2⟩)
    | (refine (HC.out.call _ _ _ (by omega) (by omega) (by omega) (by omega) (hold_in HH.out (by assumption))).mono ?_; rintro e w3 ⟨rfl, hb3⟩))
  go_wp2
  go_ret
  exact ⟨ret_b (by first | rfl | (rw [← hr]; rfl) | (rw [← hr]; simp)), hold_fin (by assumption)⟩

end Go.Proofs.Ytbdjllgngblfoaa
