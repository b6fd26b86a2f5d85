import Derived.Test.YtbdjllgngblfoaaUx
import Derived.Stop.RegionWithIn
import Derived.Test.YtbdjllgngblfoaaUs
import Derived.ChangeKeysEq
namespace Go.Proofs.Ytbdjllgngblfoaa
set_option linter.unusedVariables false
set_option linter.unusedSimpArgs false
open Go.RowKit Go.Shelf

attribute [local go_sem] Oper.semAt_some

theorem below_from_drew {W wf : World} (h : Below W.drew.heap.size W.drew wf) : Below W.heap.size W wf := ⟨h.os, h.tape, h.output, h.size, h.block⟩

theorem run_equalIn_arr4 {P : Program} (w : World) (dd : Nat) (t e : TypeId) (i : TypeInfo) (a b c d x y z u : Int) (ht : P.underlying t = some (.array 4 e)) (he : P.underlying e = some (.int .i64)) (hk : P.plainKey e = true) (hi : P.info? e = some i) (hs : i.size = 1) :
    (Op.equalIn (dd + 2) t (.agg #[.int .i64 a, .int .i64 b, .int .i64 c, .int .i64 d]) (.agg #[.int .i64 x, .int .i64 y, .int .i64 z, .int .i64 u])).run P w = .ok (decide ((a, b, c, d) = (x, y, z, u))) w := by
  have hq : ∀ (p q : Int) (w : World), (Op.equalIn (dd + 1) e (.int .i64 p) (.int .i64 q)).run P w = .ok (p == q) w := fun p q w => run_equalIn_int w dd e .i64 .i64 p q he
  have hp : ∀ (k : Nat) (p0 p1 p2 p3 : Int) (w : World) (v : Value), #[Value.int .i64 p0, Value.int .i64 p1, Value.int .i64 p2, Value.int .i64 p3][k]? = some v → (part e #[.int .i64 p0, .int .i64 p1, .int .i64 p2, .int .i64 p3] k).run P w = .ok v w :=
    fun k p0 p1 p2 p3 w v hv => run_part_plain w hk hv
  rw [Op.equalIn]
  simp only [Sem.run_bind, run_underlying ht, Result.andThen_ok]
  simp [Go.sizeOf, Go.typeInfo, hi, hs, List.range', hq, hp 0 _ _ _ _ _ _ rfl, hp 1 _ _ _ _ _ _ rfl, hp 2 _ _ _ _ _ _ rfl, hp 3 _ _ _ _ _ _ rfl]
  by_cases h0 : a = x <;> by_cases h1 : b = y <;> by_cases h2 : c = z <;> by_cases h3 : d = u <;> simp [*]

/-- The world of Follow from its loop on. -/
structure FW (w W : World) (E : Nat) (s : S4) (k : Int) : Prop where
  bel : Below w.heap.size w W
  at1 : w.heap.size + 1 < E
  at2 : E < W.heap.size
  r0 : W.cell? ⟨w.heap.size, 0, none⟩ = some (.int .i64 0)
  r1 : W.cell? ⟨w.heap.size, 1, none⟩ = some (.int .i64 0)
  k0 : W.cell? ⟨w.heap.size + 1, 0, none⟩ = some (.int .i64 k)
  rf : ∀ o, W.frozen? ⟨w.heap.size, o, none⟩ = false
  kf : ∀ o, W.frozen? ⟨w.heap.size + 1, o, none⟩ = false
  c0 : W.cell? ⟨E, 0, none⟩ = some (.int .i64 s.1)
  c1 : W.cell? ⟨E, 1, none⟩ = some (.int .i64 s.2.1)
  c2 : W.cell? ⟨E, 2, none⟩ = some (.int .i64 s.2.2.1)
  c3 : W.cell? ⟨E, 3, none⟩ = some (.int .i64 s.2.2.2)
  cf : ∀ o, W.frozen? ⟨E, o, none⟩ = false

theorem FW.next {w A A' : World} {E B : Nat} {s : S4} {k : Int} (h : FW w A E s k) (hb : Below B A A') (hB : E < B) : FW w A' E s k := by
  have h1 := h.at1
  have h2 := h.at2
  have kk : ∀ C, C ≤ E → ∀ o, A'.cell? ⟨C, o, none⟩ = A.cell? ⟨C, o, none⟩ := fun C hC o => hb.cell (p := ⟨C, o, none⟩) (by show C < B; omega)
  have kf : ∀ C, C ≤ E → ∀ o, A'.frozen? ⟨C, o, none⟩ = A.frozen? ⟨C, o, none⟩ := fun C hC o => hb.frozen (p := ⟨C, o, none⟩) (by show C < B; omega)
  exact ⟨h.bel.trans (hb.mono (by omega)), h1, by have := hb.size; omega, (kk _ (by omega) _).trans h.r0, (kk _ (by omega) _).trans h.r1, (kk _ (by omega) _).trans h.k0, fun o => (kf _ (by omega) o).trans (h.rf o), fun o => (kf _ (by omega) o).trans (h.kf o), (kk _ (by omega) _).trans h.c0, (kk _ (by omega) _).trans h.c1, (kk _ (by omega) _).trans h.c2, (kk _ (by omega) _).trans h.c3, fun o => (kf _ (by omega) o).trans (h.cf o)⟩

theorem FW.set {w W : World} {E : Nat} {s : S4} {k : Int} (h : FW w W E s k) (x y z u : Int) :
    FW w ((((W.setCell ⟨E, 0, none⟩ (.int .i64 x)).setCell ⟨E, 1, none⟩ (.int .i64 y)).setCell ⟨E, 2, none⟩ (.int .i64 z)).setCell ⟨E, 3, none⟩ (.int .i64 u)) E (x, y, z, u) k := by
  have h1 := h.at1
  have h2 := h.at2
  have r0 := h.r0
  have r1 := h.r1
  have k0 := h.k0
  have rf := h.rf
  have kf := h.kf
  have c0 := h.c0
  have c1 := h.c1
  have c2 := h.c2
  have c3 := h.c3
  have cf := h.cf
  have n1 : w.heap.size ≠ E := by omega
  have n2 : E ≠ w.heap.size := by omega
  have n3 : w.heap.size + 1 ≠ E := by omega
  have n4 : E ≠ w.heap.size + 1 := by omega
  have hle : w.heap.size ≤ E := by omega
  exact ⟨((((h.bel.setCell (by simpa using hle) _).setCell (by simpa using hle) _).setCell (by simpa using hle) _).setCell (by simpa using hle) _), h1, by simpa using h2, by simp [go_sem, *], by simp [go_sem, *], by simp [go_sem, *], by intro o; simp [go_sem, rf], by intro o; simp [go_sem, kf], by simp [go_sem, *], by simp [go_sem, *], by simp [go_sem, *], by simp [go_sem, *], by intro o; simp [go_sem, cf]⟩

/-- The result cells are written. -/
structure GW (w W : World) (x y k : Int) : Prop where
  bel : Below w.heap.size w W
  at2 : w.heap.size + 1 < W.heap.size
  r0 : W.cell? ⟨w.heap.size, 0, none⟩ = some (.int .i64 x)
  r1 : W.cell? ⟨w.heap.size, 1, none⟩ = some (.int .i64 y)
  k0 : W.cell? ⟨w.heap.size + 1, 0, none⟩ = some (.int .i64 k)

theorem GW.next {w A A' : World} {B : Nat} {x y k : Int} (h : GW w A x y k) (hb : Below B A A') (hB : w.heap.size + 2 ≤ B) : GW w A' x y k :=
  ⟨h.bel.trans (hb.mono (by omega)), by have := h.at2; have := hb.size; omega, (hb.cell (p := ⟨w.heap.size, 0, none⟩) (by show w.heap.size < B; omega)).trans h.r0, (hb.cell (p := ⟨w.heap.size, 1, none⟩) (by show w.heap.size < B; omega)).trans h.r1, (hb.cell (p := ⟨w.heap.size + 1, 0, none⟩) (by show w.heap.size + 1 < B; omega)).trans h.k0⟩

theorem GW.turn {w A A' : World} {D : Nat} {x y k : Int} (h : GW w A x y k) (hb : Leaves (fun k => k = D) A A') (hD : w.heap.size + 2 ≤ D) : GW w A' x y k := by
  have h2 := h.at2
  exact ⟨h.bel.trans (hb.below (by omega) (fun k hk => by omega)), by have := hb.size; omega, (hb.cell (k := w.heap.size) (by omega) (by omega) 0).trans h.r0, (hb.cell (k := w.heap.size) (by omega) (by omega) 1).trans h.r1, (hb.cell (k := w.heap.size + 1) (by omega) (by omega) 0).trans h.k0⟩

theorem FW.write {w W : World} {E : Nat} {s : S4} {k : Int} (h : FW w W E s k) (x y z : Int) :
    GW w (((W.setCell ⟨w.heap.size, 0, none⟩ (.int .i64 x)).setCell ⟨w.heap.size, 1, none⟩ (.int .i64 y)).setCell ⟨w.heap.size + 1, 0, none⟩ (.int .i64 z)) x y z := by
  have h1 := h.at1
  have h2 := h.at2
  have r0 := h.r0
  have r1 := h.r1
  have k0 := h.k0
  exact ⟨((h.bel.setCell (by simp) _).setCell (by simp) _).setCell (by simp) _, by simp; omega, by simp [go_sem, *], by simp [go_sem, *], by simp [go_sem, *]⟩

theorem Follow_many (v : Value) (L : List Int) (hm : L.length = 0 ∨ 64 < L.length) (hL0 : L.length ≤ 4000000000000000000) (w : World) (hs : Sl w v L) :
    Calls Try.prog 25 #[v] w fun e w' => e = .returned (.tuple #[.agg #[.int .i64 0, .int .i64 0], .int .i64 6]) ∧ Below w.heap.size w w' := by
  obtain ⟨o1, c1, rfl, hc1, k1⟩ := hs.form
  clear hs k1
  rcases hm with hm | hm
  · have b1 : ((L.length : Int) == 0) = true := by simp [hm]
    clear hm
    go_enter Try.func25, Try.ntmps25
    go_wp2
    exact bodyPost_ret (v := .tuple #[.agg #[.int .i64 0, .int .i64 0], .int .i64 6]) (by simp [results, Try.results25, go_sem]) rfl ⟨rfl, (by repeat (first | exact Below.refl _ _ | (refine Below.alloc ?_ (by first | omega | (simp; done) | (simp; omega)) _) | (refine Below.setCell ?_ (by first | omega | (simp; done) | (simp; omega)) _) | refine Below.drew ?_))⟩
  · have b1 : ((L.length : Int) == 0) = false := beq_eq_false_iff_ne.2 (by omega)
    have b2 : (64 : Int) < L.length := by omega
    clear hm
    go_enter Try.func25, Try.ntmps25
    go_wp2
    exact bodyPost_ret (v := .tuple #[.agg #[.int .i64 0, .int .i64 0], .int .i64 6]) (by simp [results, Try.results25, go_sem]) rfl ⟨rfl, (by repeat (first | exact Below.refl _ _ | (refine Below.alloc ?_ (by first | omega | (simp; done) | (simp; omega)) _) | (refine Below.setCell ?_ (by first | omega | (simp; done) | (simp; omega)) _) | refine Below.drew ?_))⟩

theorem Follow_bad (v : Value) (L : List Int) (hm : 1 ≤ L.length) (hm2 : L.length ≤ 64) (hb : ¬ PthOK L) (w : World) (hs : Sl w v L) :
    Calls Try.prog 25 #[v] w fun e w' => e = .returned (.tuple #[.agg #[.int .i64 0, .int .i64 0], .int .i64 2]) ∧ Below w.heap.size w w' := by
  have HS := Lib.hid hs
  obtain ⟨o1, c1, rfl, hc1, k1⟩ := hs.form
  have HB := Lib.hid (decide_eq_false hb)
  clear hs k1 hb
  have b1 : ((L.length : Int) == 0) = false := beq_eq_false_iff_ne.2 (by omega)
  have b2 : ¬ (64 : Int) < L.length := by omega
  go_enter Try.func25, Try.ntmps25
  go_wp2_with fail
  refine (isPath_any _ L false HB.out hm (by omega) _ ((HS.out.next (below_alloc _ _)).next (below_alloc _ _))).mono ?_
  rintro e w1 ⟨rfl, hb1⟩
  obtain ⟨hc1', hf1⟩ := bcell hb1
  have hz1_0 : w.heap.size < w1.heap.size := by have := hb1.size; simp at this; omega
  have hz1_1 : w.heap.size + 1 < w1.heap.size := by have := hb1.size; simp at this; omega
  have r0 : w1.cell? ⟨w.heap.size, 0, none⟩ = some (.int .i64 0) := by simp [go_sem, hc1', hz1_0, hz1_1]
  have r1 : w1.cell? ⟨w.heap.size, 1, none⟩ = some (.int .i64 0) := by simp [go_sem, hc1', hz1_0, hz1_1]
  have k0 : w1.cell? ⟨w.heap.size + 1, 0, none⟩ = some (.int .i64 0) := by simp [go_sem, hc1', hz1_0, hz1_1]
  have rf : ∀ o, w1.frozen? ⟨w.heap.size, o, none⟩ = false := by intro o; simp [go_sem, hf1, hz1_0, hz1_1]
  have kf : ∀ o, w1.frozen? ⟨w.heap.size + 1, o, none⟩ = false := by intro o; simp [go_sem, hf1, hz1_0, hz1_1]
  clear hc1' hf1
  go_wp2
  exact bodyPost_ret (v := .tuple #[.agg #[.int .i64 0, .int .i64 0], .int .i64 2]) (by simp [results, Try.results25, go_sem, r0, r1, k0, rf, kf]) rfl ⟨rfl, (by repeat (first | exact Below.refl _ _ | (with_reducible refine Below.trans ?_ (hb1.mono (by first | omega | (simp; done) | (simp; omega)))) | (refine Below.alloc ?_ (by first | omega | (simp; done) | (simp; omega)) _) | (refine Below.setCell ?_ (by first | omega | (simp; done) | (simp; omega)) _) | refine Below.drew ?_))⟩

set_option maxRecDepth 100000 in
set_option maxHeartbeats 4000000 in
theorem Follow_ok (v : Value) (L : List Int) (hm : 1 ≤ L.length) (hm2 : L.length ≤ 64) (hP : PthOK L) (x y k0 : Int)
    (hres : (match folL L with | none => (((0, 0), 4) : (Int × Int) × Int) | some e => if e = S0 then ((0, 0), 2) else if L.length % 2 = 1 then ((e.1, e.2.1), 0) else ((e.2.2.1, e.2.2.2), 0)) = ((x, y), k0)) (w : World) (hs : Sl w v L) :
    Calls Try.prog 25 #[v] w fun e w' => e = .returned (.tuple #[.agg #[.int .i64 x, .int .i64 y], .int .i64 k0]) ∧ Below w.heap.size w w' := by
  have HS := Lib.hid hs
  obtain ⟨o1, c1, rfl, hc1, k1⟩ := hs.form
  have K1 := Lib.hid k1
  have HP := Lib.hid hP
  have HB := Lib.hid (decide_eq_true hP)
  have HR := Lib.hid hres
  clear hs k1 hP hres
  have b1 : ((L.length : Int) == 0) = false := beq_eq_false_iff_ne.2 (by omega)
  have b2 : ¬ (64 : Int) < L.length := by omega
  refine (callsIn_wide (n := 9)).1 ?_
  refine callsIn_of_wp_marks Try.func25 rfl trivial ?_ rfl
  simp only [Try.ntmps25, List.size_toArray, List.length_cons, List.length_nil, Nat.reduceAdd, Nat.reduceSub, Array.replicate_succ, Array.replicate_zero, List.push_toArray, List.append_toArray, List.nil_append, List.cons_append]
  gi_wp2_with fail
  refine ⟨trivial, (callsIn_wide.2 (isPath_any _ L true HB.out hm (by omega) _ ((HS.out.next (below_alloc _ _)).next (below_alloc _ _)))).mono ?_⟩
  rintro e w1 ⟨rfl, hb1⟩
  obtain ⟨hc1', hf1⟩ := bcell hb1
  have hz1_0 : w.heap.size < w1.heap.size := by have := hb1.size; simp at this; omega
  have hz1_1 : w.heap.size + 1 < w1.heap.size := by have := hb1.size; simp at this; omega
  have r0 : w1.cell? ⟨w.heap.size, 0, none⟩ = some (.int .i64 0) := by simp [go_sem, hc1', hz1_0, hz1_1]
  have r1 : w1.cell? ⟨w.heap.size, 1, none⟩ = some (.int .i64 0) := by simp [go_sem, hc1', hz1_0, hz1_1]
  have k0' : w1.cell? ⟨w.heap.size + 1, 0, none⟩ = some (.int .i64 0) := by simp [go_sem, hc1', hz1_0, hz1_1]
  have rf : ∀ o, w1.frozen? ⟨w.heap.size, o, none⟩ = false := by intro o; simp [go_sem, hf1, hz1_0, hz1_1]
  have kf : ∀ o, w1.frozen? ⟨w.heap.size + 1, o, none⟩ = false := by intro o; simp [go_sem, hf1, hz1_0, hz1_1]
  have hbl1 : Below w.heap.size w w1 := (((Below.refl _ _).alloc (Nat.le_refl _) _).alloc (by simp) _).trans (hb1.mono (by simp; omega))
  clear hc1' hf1 hb1
  gi_wp2_with fail
  refine ⟨trivial, (callsIn_wide.2 (first_any _)).mono ?_⟩
  rintro e w2 ⟨rfl, hb2⟩
  replace r0 := (hb2.cell (p := ⟨w.heap.size, 0, none⟩) hz1_0).trans r0
  replace r1 := (hb2.cell (p := ⟨w.heap.size, 1, none⟩) hz1_0).trans r1
  replace k0' := (hb2.cell (p := ⟨w.heap.size + 1, 0, none⟩) hz1_1).trans k0'
  replace rf : ∀ o, w2.frozen? ⟨w.heap.size, o, none⟩ = false := fun o => (hb2.frozen (p := ⟨w.heap.size, o, none⟩) hz1_0).trans (rf o)
  replace kf : ∀ o, w2.frozen? ⟨w.heap.size + 1, o, none⟩ = false := fun o => (hb2.frozen (p := ⟨w.heap.size + 1, o, none⟩) hz1_1).trans (kf o)
  have hz2_1 : w.heap.size + 1 < w2.heap.size := Nat.lt_of_lt_of_le hz1_1 hb2.size
  have hbl2 : Below w.heap.size w w2 := hbl1.trans (hb2.mono (by omega))
  clear hb2 hbl1 hz1_0 hz1_1
  gi_wp2_with fail
  refine ⟨trivial, (callsIn_wide.2 (steps_any _ _ _ _)).mono ?_⟩
  rintro e w3 ⟨rfl, hw3⟩
  have hz0 : w.heap.size < w2.heap.size := by omega
  have hF0 : FW w w3 w2.heap.size S0 0 := by
    rw [hw3]
    exact ⟨(hbl2.alloc (by omega) _).alloc (by simp; omega) _, hz2_1, by (try simp) <;> omega, by simp [go_sem, hz0, hz2_1, r0, Nat.lt_succ_of_lt hz0], by simp [go_sem, hz0, hz2_1, r1, Nat.lt_succ_of_lt hz0], by simp [go_sem, hz0, hz2_1, k0', Nat.lt_succ_of_lt hz2_1], by intro o; simp [go_sem, hz0, rf, Nat.lt_succ_of_lt hz0], by intro o; simp [go_sem, hz2_1, kf, Nat.lt_succ_of_lt hz2_1], by simp [go_sem], by simp [go_sem], by simp [go_sem], by simp [go_sem], by intro o; simp [go_sem]⟩
  have hBx : w3.cell? ⟨w2.heap.size + 1, 0, none⟩ = some (.slice o1 L.length c1) := by rw [hw3]; simp [go_sem]
  have hsz3 : w3.heap.size = w2.heap.size + 2 := by rw [hw3]; simp
  clear hw3 r0 r1 k0' rf kf hbl2
  gi_wp2_with fail
  refine wpIn_rangeFunc_cells (F := Fence.wide) rfl (by decide) (gf := 69) (lb := #[.pointer (some ⟨w2.heap.size + 1, 0, none⟩)]) rfl trivial (enters_of Try.func69 (by kernel_rfl) rfl)
    (encs := fun x : S4 => #[.agg #[.int .i64 x.1, .int .i64 x.2.1, .int .i64 x.2.2.1, .int .i64 x.2.2.2]]) (S := fun xs => xs = stepsL 0 S0 L) (Sp := fun pre => pre <+: stepsL 0 S0 L) (fun _ => rfl) w2.heap.size (by omega) ?seq
    (fun pre W => FW w W w2.heap.size (pre.getLastD S0) 0 ∧ ∀ t ∈ pre, ¬ overS t) (fun c pre W => c = .ret ∧ (∃ t ∈ pre, overS t) ∧ GW w W 0 0 4)
    (fun s A B h hb => ⟨h.1.next hb (by omega), h.2⟩) (fun c s A B h hb => ⟨h.1, h.2.1, h.2.2.next hb (by omega)⟩) ⟨hF0, by simp⟩ ?round ?done ?stop
  case seq =>
    intro J Jx W hWb hWs hJ hJx hY h0
    have hg : ∀ g off cap k, Value.slice o1 L.length c1 = .slice (some ⟨g, off, none⟩) k cap → g < w.heap.size := by
      intro g off cap k e
      obtain ⟨g1, f1, e1, e2⟩ := K1.out (by omega)
      rw [e1] at e
      cases e
      exact lt_of_cell' (e2 0 (by omega))
    exact steps1_in 8 L (by omega) (fun i hi => (HP.out.1 i hi).1) w2.heap.size w3.heap.size (w3.heap.size + 1) (w2.heap.size + 1) J Jx W (.slice o1 L.length c1) (by omega) (by omega) (by omega) (by omega) (by omega) (by omega)
      (fun s A B h hb => hJ s A B h (hWs ▸ hb)) hY ((hWb.cell (p := ⟨w2.heap.size + 1, 0, none⟩) (by show w2.heap.size + 1 < w3.heap.size; omega)).trans hBx)
      (HS.out.next (hF0.bel.trans (hWb.mono hF0.bel.size))) (fun g off cap k e => by have := hg g off cap k e; omega) h0
  case round =>
    intro pre x W K hI hsz hK
    obtain ⟨x0, x1, x2, x3⟩ := x
    obtain ⟨hF, hov⟩ := hI
    have HK := Lib.hid hK
    clear hK
    gi_wp2_with fail
    refine HK.out _ _ (below_alloc _ _) ?_
    intro W2 hl2 hs2 hI2
    obtain ⟨hF2, hov2⟩ := hI2
    simp only [World.size_alloc] at hs2
    have n5 : W.heap.size ≠ w3.heap.size + 1 := by omega
    have z5 : W.heap.size < W2.heap.size := by omega
    have d0 : W2.cell? ⟨W.heap.size, 0, none⟩ = some (.int .i64 x0) := (hl2.cell (k := W.heap.size) (by simp) n5 0).trans (by simp [go_sem])
    have d1 : W2.cell? ⟨W.heap.size, 1, none⟩ = some (.int .i64 x1) := (hl2.cell (k := W.heap.size) (by simp) n5 1).trans (by simp [go_sem])
    have d2 : W2.cell? ⟨W.heap.size, 2, none⟩ = some (.int .i64 x2) := (hl2.cell (k := W.heap.size) (by simp) n5 2).trans (by simp [go_sem])
    have d3 : W2.cell? ⟨W.heap.size, 3, none⟩ = some (.int .i64 x3) := (hl2.cell (k := W.heap.size) (by simp) n5 3).trans (by simp [go_sem])
    have df : ∀ o, W2.frozen? ⟨W.heap.size, o, none⟩ = false := fun o => (hl2.frozen (k := W.heap.size) (by simp) n5 o).trans (by simp [go_sem])
    clear hl2 HK hF hov
    have HF2 := Lib.hid hF2
    clear hF2
    by_cases hx : overS (x0, x1, x2, x3)
    · have HX := Lib.hid hx
      have HX2 := Lib.hid (decide_eq_true (show 1000000000 < x0 ∨ 1000000000 < x1 ∨ 1000000000 < x2 ∨ 1000000000 < x3 from hx))
      clear hx
      gi_wp2_with fail
      refine ⟨trivial, (CallsIn.inRound _ (callsIn_wide.2 (isOver_any _ _ _ _ true HX2.out _))).mono ?_⟩
      rintro e w5 ⟨rfl, hb5⟩
      have hF5 := HF2.out.next hb5 (by have := HF2.out.at2; omega)
      have hlv : Leaves (fun k => k < w3.heap.size) W2 w5 := Leaves.of_below hb5
      have hG5 := hF5.write 0 0 4
      have r0 := hF5.r0
      have r1 := hF5.r1
      have k1 := hF5.k0
      have rf := hF5.rf
      have kf := hF5.kf
      clear d0 d1 d2 d3 df hb5
      gi_wp2_with fail
      exact ⟨((hlv.setCell (by show w.heap.size < w3.heap.size; omega) _).setCell (by show w.heap.size < w3.heap.size; omega) _).setCell (by show w.heap.size + 1 < w3.heap.size; omega) _, rfl, ⟨_, by simp, HX.out⟩, hG5⟩
    · have HX := Lib.hid hx
      have HX2 := Lib.hid (decide_eq_false (show ¬ (1000000000 < x0 ∨ 1000000000 < x1 ∨ 1000000000 < x2 ∨ 1000000000 < x3) from hx))
      clear hx
      gi_wp2_with fail
      refine ⟨trivial, (CallsIn.inRound _ (callsIn_wide.2 (isOver_any _ _ _ _ false HX2.out _))).mono ?_⟩
      rintro e w5 ⟨rfl, hb5⟩
      have hF5 := HF2.out.next hb5 (by have := HF2.out.at2; omega)
      have hlv : Leaves (fun k => k = w2.heap.size) W2 w5 := Leaves.of_below hb5
      have hF6 := hF5.set x0 x1 x2 x3
      replace d0 := (hb5.cell (p := ⟨W.heap.size, 0, none⟩) z5).trans d0
      replace d1 := (hb5.cell (p := ⟨W.heap.size, 1, none⟩) z5).trans d1
      replace d2 := (hb5.cell (p := ⟨W.heap.size, 2, none⟩) z5).trans d2
      replace d3 := (hb5.cell (p := ⟨W.heap.size, 3, none⟩) z5).trans d3
      have c0 := hF5.c0
      have c1' := hF5.c1
      have c2 := hF5.c2
      have c3 := hF5.c3
      have cf := hF5.cf
      clear hb5 df
      gi_wp2_with fail
      refine ⟨(((hlv.setCell rfl _).setCell rfl _).setCell rfl _).setCell rfl _, ?_, ?_⟩
      · rw [List.getLastD_concat]
        exact hF6
      · intro t ht
        rcases List.mem_append.1 ht with ht | ht
        · exact hov2 t ht
        · rw [List.mem_singleton.1 ht]
          exact HX.out
  case done =>
    intro xs W hS hI hsz hd
    subst hS
    obtain ⟨hF, hov⟩ := hI
    have hf : folL L = some ((stepsL 0 S0 L).getLastD S0) := by
      unfold folL
      rw [if_neg]
      rintro ⟨t, ht, ho⟩
      exact hov t ht ho
    obtain ⟨⟨s0, s1, s2, s3⟩, he⟩ : ∃ e, e = (stepsL 0 S0 L).getLastD S0 := ⟨_, rfl⟩
    rw [← he] at hf hF
    have hr := HR.out
    rw [hf] at hr
    simp only at hr
    have c0 := hF.c0
    have c1' := hF.c1
    have c2 := hF.c2
    have c3 := hF.c3
    have z1 := hF.at1
    have z2 := hF.at2
    simp only at c0 c1' c2 c3
    have HF := Lib.hid hF
    have HRR := Lib.hid hr
    clear hF hr hov he hf
    obtain ⟨i2, hi2⟩ : ∃ i, Try.prog.info? 2 = some i := Option.isSome_iff_exists.1 (by kernel_rfl)
    have hs2 : i2.size = 1 := by
      have h : (Try.prog.info? 2).map (·.size) = some 1 := by kernel_rfl
      rw [hi2] at h
      simpa using h
    rw [hsz3] at hd
    clear hF0 hBx
    by_cases hS0 : (s0, s1, s2, s3) = S0
    · have hr := HRR.out
      rw [if_pos hS0] at hr
      simp only [Prod.mk.injEq] at hr
      obtain ⟨⟨rfl, rfl⟩, rfl⟩ := hr
      have heq : ∀ W, (Op.equalIn 10000 68 (.agg #[.int .i64 s0, .int .i64 s1, .int .i64 s2, .int .i64 s3]) (.agg #[.int .i64 0, .int .i64 1, .int .i64 1, .int .i64 0])).run Try.prog W = .ok true W :=
        fun W => (run_equalIn_arr4 W 9998 68 2 i2 s0 s1 s2 s3 0 1 1 0 Try.underlying68 Try.underlying2 (by kernel_rfl) hi2 hs2).trans (by rw [decide_eq_true hS0])
      clear hi2 hs2 hS0
      gi_wp2_with fail
      first | (gi_region_with (refine ⟨trivial, ?_⟩; refine (callsIn_wide.2 (first_any _)).mono ?_; rintro e wf ⟨rfl, hbf⟩; have hFf := HF.out.next (below_from_drew hbf) z2; have q0 := hFf.c0; have q1 := hFf.c1; have q2 := hFf.c2; have q3 := hFf.c3; simp only at q0 q1 q2 q3)) | fail
      all_goals
        have hdf : wf.heap[w2.heap.size + 2]? = some (.deferred (some [])) := ((below_from_drew hbf).block _ (Array.getElem?_eq_some_iff.1 hd).1).trans hd
        clear hbf
        have HFf := Lib.hid hFf
        clear hFf
        have r0' := HFf.out.r0
        have r1' := HFf.out.r1
        have k1' := HFf.out.k0
        have rf' := HFf.out.rf
        have kf' := HFf.out.kf
        have hG := HFf.out.write 0 0 2
        have hd9 : (((wf.setCell ⟨w.heap.size, 0, none⟩ (.int .i64 (0))).setCell ⟨w.heap.size, 1, none⟩ (.int .i64 (0))).setCell ⟨w.heap.size + 1, 0, none⟩ (.int .i64 (2))).heap[w2.heap.size + 2]? = some (.deferred (some [])) := by
          refine (Below.heap_setCell _ _ _ _ (by show w2.heap.size + 2 ≠ w.heap.size + 1; omega)).trans ((Below.heap_setCell _ _ _ _ (by show w2.heap.size + 2 ≠ w.heap.size; omega)).trans ((Below.heap_setCell _ _ _ _ (by show w2.heap.size + 2 ≠ w.heap.size; omega)).trans hdf))
        gi_wp2_with fail
        refine ⟨by simp, .inl ⟨_, _, rfl, run_takeDeferred hd9, ?_⟩⟩
        have hG9 := hG.turn (Leaves.put (l := w2.heap.size + 2) (o' := .deferred none) (Array.getElem?_eq_some_iff.1 hd9).1) (by omega)
        generalize World.putObj _ (w2.heap.size + 2) (.deferred none) = W9 at hG9 ⊢
        have r0 := hG9.r0
        have r1 := hG9.r1
        have k1 := hG9.k0
        exact ⟨.tuple #[.agg #[.int .i64 0, .int .i64 0], .int .i64 2], by simp [results, Try.results25, go_sem, r0, r1, k1], rfl, hG9.bel⟩
    · by_cases hp : L.length % 2 = 1
      · have hr := HRR.out
        rw [if_neg hS0, if_pos hp] at hr
        simp only [Prod.mk.injEq] at hr
        obtain ⟨⟨rfl, rfl⟩, rfl⟩ := hr
        have hpb : ((L.length : Int) % 2 == 1) = true := beq_iff_eq.2 (by omega)
        have heq : ∀ W, (Op.equalIn 10000 68 (.agg #[.int .i64 s0, .int .i64 s1, .int .i64 s2, .int .i64 s3]) (.agg #[.int .i64 0, .int .i64 1, .int .i64 1, .int .i64 0])).run Try.prog W = .ok false W :=
          fun W => (run_equalIn_arr4 W 9998 68 2 i2 s0 s1 s2 s3 0 1 1 0 Try.underlying68 Try.underlying2 (by kernel_rfl) hi2 hs2).trans (by rw [decide_eq_false hS0])
        clear hi2 hs2 hS0
        gi_wp2_with fail
        first | (gi_region_with (refine ⟨trivial, ?_⟩; refine (callsIn_wide.2 (first_any _)).mono ?_; rintro e wf ⟨rfl, hbf⟩; have hFf := HF.out.next (below_from_drew hbf) z2; have q0 := hFf.c0; have q1 := hFf.c1; have q2 := hFf.c2; have q3 := hFf.c3; simp only at q0 q1 q2 q3)) | fail
        all_goals
          have hdf : wf.heap[w2.heap.size + 2]? = some (.deferred (some [])) := ((below_from_drew hbf).block _ (Array.getElem?_eq_some_iff.1 hd).1).trans hd
          clear hbf
          have HFf := Lib.hid hFf
          clear hFf
          gi_wp2_with fail
          refine ⟨trivial, (callsIn_wide.2 (left_any s0 s1 s2 s3 _)).mono ?_⟩
          rintro e w9 ⟨rfl, hb9⟩
          have hFg := HFf.out.next hb9 HFf.out.at2
          replace hdf : w9.heap[w2.heap.size + 2]? = some (.deferred (some [])) := (hb9.block _ (Array.getElem?_eq_some_iff.1 hdf).1).trans hdf
          clear HFf q0 q1 q2 q3
          have HFf := Lib.hid hFg
          clear hFg
          have r0' := HFf.out.r0
          have r1' := HFf.out.r1
          have k1' := HFf.out.k0
          have rf' := HFf.out.rf
          have kf' := HFf.out.kf
          have hG := HFf.out.write s0 s1 0
          have hd9 : (((w9.setCell ⟨w.heap.size, 0, none⟩ (.int .i64 (s0))).setCell ⟨w.heap.size, 1, none⟩ (.int .i64 (s1))).setCell ⟨w.heap.size + 1, 0, none⟩ (.int .i64 (0))).heap[w2.heap.size + 2]? = some (.deferred (some [])) := by
            refine (Below.heap_setCell _ _ _ _ (by show w2.heap.size + 2 ≠ w.heap.size + 1; omega)).trans ((Below.heap_setCell _ _ _ _ (by show w2.heap.size + 2 ≠ w.heap.size; omega)).trans ((Below.heap_setCell _ _ _ _ (by show w2.heap.size + 2 ≠ w.heap.size; omega)).trans hdf))
          gi_wp2_with fail
          refine ⟨by simp, .inl ⟨_, _, rfl, run_takeDeferred hd9, ?_⟩⟩
          have hG9 := hG.turn (Leaves.put (l := w2.heap.size + 2) (o' := .deferred none) (Array.getElem?_eq_some_iff.1 hd9).1) (by omega)
          generalize World.putObj _ (w2.heap.size + 2) (.deferred none) = W9 at hG9 ⊢
          have r0 := hG9.r0
          have r1 := hG9.r1
          have k1 := hG9.k0
          exact ⟨.tuple #[.agg #[.int .i64 s0, .int .i64 s1], .int .i64 0], by simp [results, Try.results25, go_sem, r0, r1, k1], rfl, hG9.bel⟩
      · have hr := HRR.out
        rw [if_neg hS0, if_neg hp] at hr
        simp only [Prod.mk.injEq] at hr
        obtain ⟨⟨rfl, rfl⟩, rfl⟩ := hr
        have hpb : ((L.length : Int) % 2 == 1) = false := beq_eq_false_iff_ne.2 (by omega)
        have heq : ∀ W, (Op.equalIn 10000 68 (.agg #[.int .i64 s0, .int .i64 s1, .int .i64 s2, .int .i64 s3]) (.agg #[.int .i64 0, .int .i64 1, .int .i64 1, .int .i64 0])).run Try.prog W = .ok false W :=
          fun W => (run_equalIn_arr4 W 9998 68 2 i2 s0 s1 s2 s3 0 1 1 0 Try.underlying68 Try.underlying2 (by kernel_rfl) hi2 hs2).trans (by rw [decide_eq_false hS0])
        clear hi2 hs2 hS0
        gi_wp2_with fail
        first | (gi_region_with (refine ⟨trivial, ?_⟩; refine (callsIn_wide.2 (first_any _)).mono ?_; rintro e wf ⟨rfl, hbf⟩; have hFf := HF.out.next (below_from_drew hbf) z2; have q0 := hFf.c0; have q1 := hFf.c1; have q2 := hFf.c2; have q3 := hFf.c3; simp only at q0 q1 q2 q3)) | fail
        all_goals
          have hdf : wf.heap[w2.heap.size + 2]? = some (.deferred (some [])) := ((below_from_drew hbf).block _ (Array.getElem?_eq_some_iff.1 hd).1).trans hd
          clear hbf
          have HFf := Lib.hid hFf
          clear hFf
          gi_wp2_with fail
          refine ⟨trivial, (callsIn_wide.2 (right_any s0 s1 s2 s3 _)).mono ?_⟩
          rintro e w9 ⟨rfl, hb9⟩
          have hFg := HFf.out.next hb9 HFf.out.at2
          replace hdf : w9.heap[w2.heap.size + 2]? = some (.deferred (some [])) := (hb9.block _ (Array.getElem?_eq_some_iff.1 hdf).1).trans hdf
          clear HFf q0 q1 q2 q3
          have HFf := Lib.hid hFg
          clear hFg
          have r0' := HFf.out.r0
          have r1' := HFf.out.r1
          have k1' := HFf.out.k0
          have rf' := HFf.out.rf
          have kf' := HFf.out.kf
          have hG := HFf.out.write s2 s3 0
          have hd9 : (((w9.setCell ⟨w.heap.size, 0, none⟩ (.int .i64 (s2))).setCell ⟨w.heap.size, 1, none⟩ (.int .i64 (s3))).setCell ⟨w.heap.size + 1, 0, none⟩ (.int .i64 (0))).heap[w2.heap.size + 2]? = some (.deferred (some [])) := by
            refine (Below.heap_setCell _ _ _ _ (by show w2.heap.size + 2 ≠ w.heap.size + 1; omega)).trans ((Below.heap_setCell _ _ _ _ (by show w2.heap.size + 2 ≠ w.heap.size; omega)).trans ((Below.heap_setCell _ _ _ _ (by show w2.heap.size + 2 ≠ w.heap.size; omega)).trans hdf))
          gi_wp2_with fail
          refine ⟨by simp, .inl ⟨_, _, rfl, run_takeDeferred hd9, ?_⟩⟩
          have hG9 := hG.turn (Leaves.put (l := w2.heap.size + 2) (o' := .deferred none) (Array.getElem?_eq_some_iff.1 hd9).1) (by omega)
          generalize World.putObj _ (w2.heap.size + 2) (.deferred none) = W9 at hG9 ⊢
          have r0 := hG9.r0
          have r1 := hG9.r1
          have k1 := hG9.k0
          exact ⟨.tuple #[.agg #[.int .i64 s2, .int .i64 s3], .int .i64 0], by simp [results, Try.results25, go_sem, r0, r1, k1], rfl, hG9.bel⟩
  case stop =>
    intro c pre W hp hI hsz hd9
    obtain ⟨rfl, hov, hG⟩ := hI
    have hn : folL L = none := by
      unfold folL
      rw [if_pos]
      obtain ⟨t, ht, ho⟩ := hov
      exact ⟨t, hp.subset ht, ho⟩
    have hr := HR.out
    rw [hn] at hr
    simp only [Prod.mk.injEq] at hr
    obtain ⟨⟨rfl, rfl⟩, rfl⟩ := hr
    gi_wp2_with fail
    refine ⟨by simp, .inl ⟨_, _, rfl, run_takeDeferred hd9, ?_⟩⟩
    have hG9 := hG.turn (Leaves.put (l := w3.heap.size) (o' := .deferred none) (by (try simp) <;> omega)) (by omega)
    generalize World.putObj _ w3.heap.size (.deferred none) = W9 at hG9 ⊢
    have r0 := hG9.r0
    have r1 := hG9.r1
    have k1 := hG9.k0
    exact ⟨.tuple #[.agg #[.int .i64 0, .int .i64 0], .int .i64 4], by simp [results, Try.results25, go_sem, r0, r1, k1], rfl, hG9.bel⟩

end Go.Proofs.Ytbdjllgngblfoaa
