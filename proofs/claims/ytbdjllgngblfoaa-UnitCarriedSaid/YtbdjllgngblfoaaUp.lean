import Derived.Test.YtbdjllgngblfoaaUc
import Derived.Test.YtbdjllgngblfoaaUm2
import Derived.Laws.CopyOwn
import Derived.Deep.OwnRows
namespace Go.Proofs.Ytbdjllgngblfoaa
set_option linter.unusedVariables false
set_option linter.unusedSimpArgs false
open Go.RowKit

/-- The elements of a slice of numbers, as its value and the world have them. -/
def Sl (w : World) (v : Value) (L : List Int) : Prop :=
  (v = .slice none 0 0 ∧ L = []) ∨ ∃ g off cap, v = .slice (some ⟨g, off, none⟩) L.length cap ∧ L.length ≤ cap ∧ ∀ i, i < L.length → w.cell? ⟨g, off + i, none⟩ = some (.int .i64 (L.getD i 0))

theorem Sl.next {w w' : World} {v : Value} {L : List Int} (h : Sl w v L) (hb : Below w.heap.size w w') : Sl w' v L := by
  rcases h with h | ⟨g, off, cap, h1, h2, h3⟩
  · exact .inl h
  · refine .inr ⟨g, off, cap, h1, h2, fun i hi => ?_⟩
    have h4 := h3 i hi
    have : g < w.heap.size := by
      unfold World.cell? at h4
      split at h4
      · rename_i hh
        exact (Array.getElem?_eq_some_iff.1 hh).1
      · cases h4
    exact (hb.cell (p := ⟨g, off + i, none⟩) this).trans h4

theorem run_sliceAt_array_hm' {P : Program} (w : World) (t e : TypeId) (n : Nat) (a : Addr) (i : TypeInfo) (ht : P.underlying t = some (.array n e)) (hi : P.info? e = some i) (k : Nat) (hk : k ≤ n) :
    (Instr.sliceAt t (.pointer (some a)) none (some (.int .i64 (k : Int))) (some (.int .i64 (k : Int)))).run P w = .ok (.slice (some a) k k) w := by
  have h1 : (k : Int) ≤ n := by omega
  have h2 : (if k = 0 then a else a.add 0) = a := by split <;> rfl
  simp [Instr.sliceAt, Instr.sureAddr, run_underlying ht, Instr.sliceBounds, run_sliceBound, Go.sizeOf, Go.typeInfo, hi, h1, h2]

/-- The world in a round of the path. -/
structure PW (w wr : World) (A k : Nat) (x y : Int) (acc : List Int) : Prop where
  bel : Below w.heap.size w wr
  at1 : w.heap.size < A
  at2 : A < wr.heap.size
  x0 : wr.cell? ⟨w.heap.size, 0, none⟩ = some (.int .i64 x)
  y0 : wr.cell? ⟨w.heap.size, 1, none⟩ = some (.int .i64 y)
  rf : ∀ o, wr.frozen? ⟨w.heap.size, o, none⟩ = false
  cells : ∀ i, i < 64 → ∃ v : Int, wr.cell? ⟨A, i, none⟩ = some (.int .i64 v) ∧ (i < k → v = acc.getD i 0)
  af : ∀ o, wr.frozen? ⟨A, o, none⟩ = false

theorem PW.step {w wr : World} {A k : Nat} {x y q r : Int} {acc : List Int} (h : PW w wr A k x y acc) (hl : acc.length = k) (hk : k < 64) :
    PW w ((((wr.setCell ⟨A, k, none⟩ (.int .i64 q)).setCell ⟨w.heap.size, 0, none⟩ (.int .i64 y)).setCell ⟨w.heap.size, 1, none⟩ (.int .i64 r)).drew) A (k + 1) y r (acc ++ [q]) := by
  have h1 := h.at1
  have h2 := h.at2
  have e1 : ∀ (o o' : Nat), (⟨A, o, none⟩ : Addr) ≠ ⟨w.heap.size, o', none⟩ := fun o o' e => by injection e; omega
  have e2 : ∀ (o o' : Nat), (⟨w.heap.size, o', none⟩ : Addr) ≠ ⟨A, o, none⟩ := fun o o' e => by injection e; omega
  refine ⟨(((h.bel.setCell (by show _ ≤ A; omega) _).setCell (by simp) _).setCell (by simp) _).drew, h1, by simpa [World.setCell] using h2,
    by simp [go_sem, World.cell?_setCell_other, e1, h.x0], by simp [go_sem, World.cell?_setCell_other, e1, h.y0], fun o => by simp [h.rf], fun i hi => ?_, fun o => by simp [h.af]⟩
  obtain ⟨v, hv, hv2⟩ := h.cells i hi
  by_cases hik : i = k
  · subst hik
    refine ⟨q, ?_, fun _ => by simp [← hl]⟩
    simp [World.cell?_setCell_other, e2]
    exact World.cell?_setCell_same' _ _ _ (by rw [hv]; rfl)
  · refine ⟨v, ?_, fun h3 => ?_⟩
    · simp [World.cell?_setCell_other, e2]
      have e3 : (⟨A, k, none⟩ : Addr) ≠ ⟨A, i, none⟩ := fun e => hik (by injection e; omega)
      simp [World.cell?_setCell_other, e3, hv]
    · have h4 : i < k := by omega
      rw [hv2 h4, List.getD_eq_getElem?_getD, List.getD_eq_getElem?_getD, List.getElem?_append_left (by omega)]

theorem PW.copied {P : Program} {w wr : World} {A k : Nat} {x y : Int} {acc : List Int} (h : PW w wr A k x y acc) (hl : acc.length = k) (hk : k ≤ 60) {dT ty elem : TypeId} (hu : P.underlying dT = some (.slice elem)) (hs : (P.info? elem).map (·.size) = some 1) :
    ∃ W5, (Builtin.copy_ #[dT, dT] ty #[.slice (some ⟨wr.heap.size, 0, none⟩) k k, .slice (some ⟨A, 0, none⟩) k k]).run P (wr.alloc (.cells (madeCells #[.int .i64 0] k) elem)) = .ok (goInt k) W5 ∧
      Below wr.heap.size wr W5 ∧ Hid (Sl W5 (.slice (some ⟨wr.heap.size, 0, none⟩) k k) acc) := by
  have h2 := h.at2
  have hg : (wr.alloc (.cells (madeCells #[.int .i64 0] k) elem)).heap[wr.heap.size]? = some (.cells (madeCells #[.int .i64 0] k) elem (0, 0)) := by
    show (wr.heap.push _)[wr.heap.size]? = _
    simp
  have hc := run_copy_row (P := P) (wr.alloc (.cells (madeCells #[.int .i64 0] k) elem)) dT dT ty elem wr.heap.size 0 k k ⟨A, 0, none⟩ k k (madeCells #[.int .i64 0] k) elem (acc.map (Value.int .i64)) hu hs hg (by simp [hl])
    (fun j v hv => by
      rw [List.getElem?_map] at hv
      obtain ⟨u, hu1, rfl⟩ := Option.map_eq_some_iff.1 hv
      obtain ⟨hj, hju⟩ := List.getElem?_eq_some_iff.1 hu1
      obtain ⟨z, hz, hz2⟩ := h.cells j (by omega)
      have := hz2 (by omega)
      have e : (Addr.add ⟨A, 0, none⟩ j : Addr) = ⟨A, j, none⟩ := by simp [Addr.add]; omega
      rw [e, World.cell?_alloc_lt _ _ _ (by exact h2), hz, this, List.getD_eq_getElem?_getD, hu1]
      rfl)
    (by simp [size_madeCells, hl]) (by simp [Value.oneCell'])
  have hk2 : (List.map (Value.int .i64) acc).length = k := by simp [hl]
  rw [show (goInt ((List.map (Value.int .i64) acc).length : Nat) : Value) = goInt k by rw [hk2]] at hc
  refine ⟨_, hc, ?_, ?_⟩
  · exact below_setRow ((Below.refl _ _).alloc (Nat.le_refl _) _) (Nat.le_refl _) _
  · refine Lib.hid (.inr ⟨wr.heap.size, 0, k, by rw [hl], by omega, fun i hi => ?_⟩)
    have hr := cell_setRow_same (wr.alloc (.cells (madeCells #[.int .i64 0] k) elem)) wr.heap.size (0 + i) (madeCells #[.int .i64 0] k) (((madeCells #[.int .i64 0] k).toList.take 0 ++ acc.map (Value.int .i64) ++ (madeCells #[.int .i64 0] k).toList.drop (0 + (acc.map (Value.int .i64)).length)).toArray) elem (0, 0) hg
    rw [hr]
    have hd : (madeCells #[Value.int .i64 0] k).toList.drop (0 + (acc.map (Value.int .i64)).length) = [] := by
      apply List.drop_eq_nil_of_le
      simp [size_madeCells, hl]
    rw [hd]
    simp [List.getD_eq_getElem?_getD]
    rw [List.getElem?_eq_getElem hi]
    simp

theorem PW.start {w w1 : World} {a b : Int} {T1 T2 : TypeId} (hb : Below (w.alloc (.cells #[.int .i64 a, .int .i64 b] T1)).heap.size (w.alloc (.cells #[.int .i64 a, .int .i64 b] T1)) w1) (cs : Array Value) (hn : cs.size = 64) (hcs : ∀ v ∈ cs.toList, v = .int .i64 0) :
    PW w (w1.alloc (.cells cs T2)) w1.heap.size 0 a b [] := by
  obtain ⟨hc, hf⟩ := bcell hb
  have hz : w.heap.size < w1.heap.size := by have := hb.size; simp at this; omega
  refine ⟨(((Below.refl _ _).alloc (Nat.le_refl _) _).trans (hb.mono (by simp))).alloc (by omega) _, hz, by simp, by simp [go_sem, hc, hz], by simp [go_sem, hc, hz], by intro o; simp [go_sem, hf, hz], fun i hi => ⟨0, ?_, fun h => by omega⟩, by intro o; simp [go_sem]⟩
  have h1 : (w1.alloc (.cells cs T2)).cell? ⟨w1.heap.size, i, none⟩ = cs[i]? := World.cell?_alloc_new _ _ _ _
  rw [h1, Array.getElem?_eq_getElem (by omega)]
  exact congrArg some (hcs _ (by simp))

set_option maxRecDepth 100000 in
theorem Path_ok (a b : Int) (hF : Fr a b) (w : World) :
    Calls Try.prog 23 #[.agg #[.int .i64 a, .int .i64 b]] w fun e w' => (∃ v, e = .returned (.tuple #[v, .int .i64 0]) ∧ Sl w' v (pathL 64 a b)) ∧ Below w.heap.size w w' := by
  have hb := hF
  unfold Fr at hb
  have H := Lib.hid (decide_eq_true hF)
  have HE := Lib.hid (Eu.start ⟨hF.1, hF.2.1, hF.2.2.1, hF.2.2.2.1⟩)
  clear hF
  go_enter Try.func23, Try.ntmps23
  go_wp2_with fail
  refine (isFraction_any _ _ true H.out _).mono ?_
  rintro e w1 ⟨rfl, hb1⟩
  obtain ⟨hc1, hf1⟩ := bcell hb1
  have hz1_0 : w.heap.size < w1.heap.size := by have := hb1.size; (try simp at this); omega
  go_wp2_with fail
  go_loopw [5] (fun v wr => ∃ (k : Nat) (x y : Int) (acc : List Int), v = .int .i64 k ∧ Eu k x y ∧ Hid (acc.length = k) ∧ Hid (pathL 64 a b = acc ++ pathL (64 - k) x y) ∧ PW w wr w1.heap.size k x y acc) (fun v _ => (64 - intOf v).toNat)
  case atStart => exact ⟨0, a, b, [], rfl, HE.out, Lib.hid rfl, Lib.hid rfl, PW.start hb1 _ rfl (by simp)⟩
  case round =>
    obtain ⟨k, x, y, acc, rfl, hE, hlen, hacc, hW⟩ := hrel
    have hx1 := hE.x1
    have hx2 := hE.xm
    have hy1 := hE.y0
    have hy2 := hE.ym
    have hx := hW.x0
    have hy := hW.y0
    by_cases h0 : y = 0
    · subst h0
      have hkb := hE.kb
      clear hE hx
      have HW := Lib.hid hW
      clear hW
      have hI0 : (0 : Int) ≤ k := by omega
      have hI1 : (k : Int) ≤ 60 := by omega
      have hmk : ∀ W, (Instr.makeSlice 43 (.int .i64 (k : Int)) (.int .i64 (k : Int))).run Try.prog W = .ok (.slice (some ⟨W.heap.size, 0, none⟩) k k) (W.alloc (.cells (madeCells #[.int .i64 0] k) 2)) := fun W => run_make_row' 43 2 (.int .i64 0) 8 Try.underlying43 (by kernel_rfl) rfl .i64 .i64 k (by omega) (by omega) W
      obtain ⟨i2, hi2⟩ : ∃ i, Try.prog.info? 2 = some i := Option.isSome_iff_exists.1 (by kernel_rfl)
      have hsl : ∀ (a : Addr) (W : World), (Instr.sliceAt 79 (.pointer (some a)) none (some (.int .i64 (k : Int))) (some (.int .i64 (k : Int)))).run Try.prog W = .ok (.slice (some a) k k) W := fun a W => run_sliceAt_array_hm' W 79 2 64 a i2 Try.underlying79 hi2 k (by omega)
      obtain ⟨W5, hcp, hb5, hs5⟩ := HW.out.copied hlen.out hkb (dT := 43) (ty := 3) (elem := 2) Try.underlying43 (by kernel_rfl)
      go_wp2_with fail
      go_ret2
      exact ⟨⟨_, rfl, by rw [hacc.out, pathL_zero, List.append_nil]; exact hs5.out⟩, HW.out.bel.trans (hb5.mono HW.out.bel.size)⟩
    · have hk := hE.bound h0
      have hb1 : (y != 0) = true := by simp [h0]
      obtain ⟨vk, hn0, _⟩ := hW.cells k (by omega)
      have hI : (k : Int) < 64 := by omega
      have hI0 : (0 : Int) ≤ k := by omega
      have hz := hW.at1
      have ne1 : ∀ o, (⟨w1.heap.size, k, none⟩ : Addr) ≠ ⟨w.heap.size, o, none⟩ := fun o e => by injection e; omega
      have q0 := Int.emod_nonneg x h0
      have q1 := Int.emod_lt_of_pos x (show 0 < y by omega)
      have q2 := Int.ediv_nonneg (show 0 ≤ x by omega) hy1
      have q3 := Int.ediv_le_self y (show 0 ≤ x by omega)
      have hfr := hW.rf
      have haf := hW.af
      have HE2 := Lib.hid hE
      have HW := Lib.hid hW
      clear hE hW
      go_wp2_with fail
      go_region
      go_wp2_with fail
      go_roundw
      case rel => exact ⟨k + 1, y, x % y, acc ++ [x / y], by go_num, HE2.out.step h0, Lib.hid (by rw [List.length_append, hlen.out]; rfl), Lib.hid (by rw [hacc.out, show 64 - k = (64 - (k + 1)) + 1 by omega, pathL_step _ _ _ h0]; simp), HW.out.step hlen.out (by omega)⟩
      case measure => simp [intOf]; omega

end Go.Proofs.Ytbdjllgngblfoaa
