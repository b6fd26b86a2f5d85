import Derived.Test.YtbdjllgngblfoaaVi
import Derived.Test.YtbdjllgngblfoaaR3
import Derived.Test.YtbdjllgngblfoaaUu2
import Derived.BigQuiet
import Derived.Deep.DeepCutAuto
import Derived.Deep.CutRange
import Derived.Deep.LoopGhost
import Derived.Deep.QuietTactic
namespace Go.Proofs.Ytbdjllgngblfoaa
set_option linter.unusedVariables false
set_option linter.unusedSimpArgs false
open Go.RowKit

theorem info_span : (Try.prog.info? 25).map (fun i => (i.zero, i.size, i.bytes)) = some (some (.agg #[.int .i64 0, .int .i64 0, .int .i64 0, .int .i64 0]), 4, 32) := by kernel_rfl

/-- The cells of spans in a row. -/
def cellsS : List S4 → List Value
  | [] => []
  | t :: l => .int .i64 t.1 :: .int .i64 t.2.1 :: .int .i64 t.2.2.1 :: .int .i64 t.2.2.2 :: cellsS l
theorem cellsS_len : ∀ l : List S4, (cellsS l).length = l.length * 4
  | [] => rfl
  | t :: l => by simp [cellsS, cellsS_len l]; omega
theorem cellsS_append : ∀ (l m : List S4), cellsS (l ++ m) = cellsS l ++ cellsS m
  | [], m => rfl
  | t :: l, m => by simp [cellsS, cellsS_append l m]
theorem cellsS_get : ∀ (l : List S4) (i : Nat) (t : S4), l[i]? = some t → (cellsS l)[i * 4]? = some (.int .i64 t.1) ∧ (cellsS l)[i * 4 + 1]? = some (.int .i64 t.2.1) ∧ (cellsS l)[i * 4 + 2]? = some (.int .i64 t.2.2.1) ∧ (cellsS l)[i * 4 + 3]? = some (.int .i64 t.2.2.2)
  | [], i, t, h => by simp at h
  | u :: l, 0, t, h => by
    simp at h
    subst h
    exact ⟨rfl, rfl, rfl, rfl⟩
  | u :: l, i + 1, t, h => by
    obtain ⟨h1, h2, h3, h4⟩ := cellsS_get l i t (by simpa using h)
    have e : (i + 1) * 4 = i * 4 + 4 := by omega
    have e1 : (i + 1) * 4 + 1 = i * 4 + 1 + 4 := by omega
    have e2 : (i + 1) * 4 + 2 = i * 4 + 2 + 4 := by omega
    have e3 : (i + 1) * 4 + 3 = i * 4 + 3 + 4 := by omega
    exact ⟨by rw [e]; exact h1, by rw [e1]; exact h2, by rw [e2]; exact h3, by rw [e3]; exact h4⟩
theorem sls_of_own {w : World} {base : Nat} {E : TypeId} {v : Value} {L : List S4} (h : w.ownsRow base E 4 v L.length (cellsS L)) : SlS w v L := by
  have hh := h
  obtain ⟨h1, ⟨rfl, hn⟩ | ⟨g, cap, cur, rfl, e2, e3, e4, e5⟩⟩ := h
  · have : L = [] := List.length_eq_zero_iff.1 hn
    subst this
    exact ⟨none, 0, rfl, Nat.le_refl _, fun h => absurd h (by simp)⟩
  · refine ⟨_, cap, rfl, e4, fun _ => ⟨g, 0, rfl, fun i t ht => ?_⟩⟩
    obtain ⟨k1, k2, k3, k4⟩ := cellsS_get L i t ht
    have c := hh.cells (g := g) rfl
    have e : ∀ j, (⟨g, 0, none⟩ : Addr).add j = ⟨g, 0 + j, none⟩ := fun j => by unfold Addr.add; split <;> simp_all
    have c1 := c _ _ k1
    have c2 := c _ _ k2
    have c3 := c _ _ k3
    have c4 := c _ _ k4
    rw [e] at c1 c2 c3 c4
    exact ⟨c1, c2, c3, c4⟩
theorem cell_four_new (w : World) (x y z u : Value) (t : TypeId) : ∀ j v, [x, y, z, u][j]? = some v → (w.alloc (.cells #[x, y, z, u] t)).cell? ((⟨w.heap.size, 0, none⟩ : Addr).add j) = some v := by
  intro j v hj
  match j, hj with
  | 0, hj => simp at hj; subst hj; simp [Addr.add]
  | 1, hj => simp at hj; subst hj; simp [Addr.add]
  | 2, hj => simp at hj; subst hj; simp [Addr.add]
  | 3, hj => simp at hj; subst hj; simp [Addr.add]

theorem byte_bd {L : List Int} {k : Nat} {n : Int} (h : ∀ n ∈ L, (Lit.int .u8 n).wf = true) (hk : k < L.length) (hn : L.getD k 0 = n) : 0 ≤ n ∧ n < 256 := by
  have hm : L.getD k 0 ∈ L := by
    rw [List.getD_eq_getElem?_getD, List.getElem?_eq_getElem hk]
    exact List.getElem_mem hk
  have := h _ hm
  rw [hn] at this
  have e1 : IntKind.u8.min = 0 := by decide
  have e2 : IntKind.u8.max = 255 := by decide
  simp only [Lit.wf, e1, e2, Bool.and_eq_true, decide_eq_true_eq] at this
  omega
theorem below_ta {W w' : World} {o : Obj} (h : Below (W.alloc o).heap.size (W.alloc o) w') : Below W.heap.size W w' := ((Below.refl _ _).alloc (Nat.le_refl _) o).trans (h.mono (by simp))
theorem below_tad {W w' : World} {o : Obj} (h : Below (W.alloc o).drew.heap.size (W.alloc o).drew w') : Below W.heap.size W w' := ((Below.refl _ _).alloc (Nat.le_refl _) o).drew.trans (h.mono (by simp))
theorem frac_le' {a b c d e f : Int} (h1 : a * d ≤ c * b) (h2 : c * f ≤ e * d) (hb : 1 ≤ b) (hd : 1 ≤ d) (hf : 1 ≤ f) : a * f ≤ e * b := by
  have t1 : (a * d) * f ≤ (c * b) * f := Int.mul_le_mul_of_nonneg_right h1 (by omega)
  have t2 : (c * f) * b ≤ (e * d) * b := Int.mul_le_mul_of_nonneg_right h2 (by omega)
  have t3 : (a * f) * d ≤ (e * b) * d := by
    have e1 : (a * f) * d = (a * d) * f := by grind
    have e2 : (c * b) * f = (c * f) * b := by grind
    have e3 : (e * b) * d = (e * d) * b := by grind
    omega
  exact Int.le_of_mul_le_mul_right t3 (by omega)
theorem frac_le {r0 r1 r2 r3 a b c d : Int} (h1 : r0 * b ≤ a * r1) (h2 : a * d ≤ c * b) (h3 : c * r3 ≤ r2 * d) (hb : 1 ≤ b) (hd : 1 ≤ d) (h4 : 1 ≤ r1) (h5 : 1 ≤ r3) : r0 * r3 ≤ r2 * r1 :=
  frac_le' (frac_le' h1 h2 h4 hb hd) h3 h4 hd h5
/-- A decree is known exactly. -/
def exS (d : S4) : Prop := d.1 = d.2.2.1 ∧ d.2.1 = d.2.2.2
instance (d : S4) : Decidable (exS d) := by unfold exS; infer_instance

set_option maxRecDepth 100000 in
set_option maxHeartbeats 8000000 in
theorem Carried_any (a b c d : Int) (vL : Value) (L : List S4) (hmax : L.length ≤ 9223372036854775807) (vB : Value) (LB : List Int) (hmaxB : LB.length ≤ 9223372036854775807) (hwf : ∀ n ∈ LB, (Lit.int .u8 n).wf = true) (w : World) (hL : SlS w vL L) (hB : SlK .u8 w vB LB) :
    Calls Try.prog 8 #[.agg #[.int .i64 a, .int .i64 b, .int .i64 c, .int .i64 d], vL, vB] w fun e w' => e = .returned (.bool true) ∧ Below w.heap.size w w' := by
  obtain ⟨o, cap, rfl, hcap, hK⟩ := hL
  obtain ⟨ob, capb, rfl, hKB⟩ : ∃ ob capb, vB = .slice ob LB.length capb ∧ (0 < LB.length → ∃ g off, ob = some ⟨g, off, none⟩ ∧ ∀ i, i < LB.length → w.cell? ⟨g, off + i, none⟩ = some (.int .u8 (LB.getD i 0))) := by
    rcases hB with ⟨rfl, o, cap, rfl⟩ | ⟨g, off, cap, rfl, h2, h3⟩
    · exact ⟨o, cap, rfl, fun h => absurd h (by simp)⟩
    · exact ⟨_, cap, rfl, fun _ => ⟨g, off, rfl, h3⟩⟩
  have HK := Lib.hid hK
  have HKB := Lib.hid hKB
  have HWF := Lib.hid hwf
  clear hK hKB hwf
  by_cases hS : Sp a b c d
  · have HSb := Lib.hid (decide_eq_true hS)
    have HS := Lib.hid hS
    obtain ⟨⟨a1, a2, b1, b2, _⟩, ⟨c1, c2, d1, d2, _⟩, _⟩ := hS
    by_cases hl : L.length ≤ 8
    · have hl' : decide ((8 : Int) < L.length) = false := by simp; omega
      by_cases hlb : LB.length ≤ 20
      · have hlb' : decide ((20 : Int) < LB.length) = false := by simp; omega
        go_enter Try.func8, Try.ntmps8
        go_wp2_with fail
        refine (fine_any a b c d true HSb.out _).mono ?_
        rintro e wH ⟨rfl, hb1⟩
        have hs1 : Has wH w.heap.size [.int .i64 a, .int .i64 b, .int .i64 c, .int .i64 d] := (Has.new4 w _ _ _ _ _).below hb1
        have hbl1 : Below w.heap.size w wH := ((Below.refl _ _).alloc (Nat.le_refl _) _).trans (hb1.mono (by simp))
        have hz1 : w.heap.size < wH.heap.size := hs1.lt
        have f0 := hs1.c0
        have f1 := hs1.c1
        have f2 := hs1.c2
        have f3 := hs1.c3
        clear hb1
        go_upto_if 39 with (fail)
        go_cut [7] from 39 to 48 (fun s7 wx => s7 = .pointer (some ⟨wH.heap.size, 0, none⟩) ∧ ∃ x y : Int, InS (x, y) (a, b, c, d) ∧ Has wx w.heap.size [.int .i64 a, .int .i64 b, .int .i64 c, .int .i64 d] ∧ Has wx wH.heap.size [.int .i64 x, .int .i64 y, .int .i64 x, .int .i64 y] ∧ Below w.heap.size w wx)
        case first =>
          by_cases hb0 : 0 < LB.length
          · have hb0' : decide ((0 : Int) < LB.length) = true := by simp; omega
            have hb0'' : decide (0 < LB.length) = true := by simp; omega
            obtain ⟨gb, ofb, rfl, hcb⟩ := HKB.out hb0
            have cb := hcb 0 hb0
            have gbl := lt_of_cell0 cb
            obtain ⟨n, hn⟩ : ∃ n, LB.getD 0 0 = n := ⟨_, rfl⟩
            rw [hn] at cb
            obtain ⟨n0, n1⟩ := byte_bd HWF.out hb0 hn
            clear hcb hn
            have cb1 := (hbl1.cell (p := ⟨gb, ofb, none⟩) gbl).trans cb
            have gb1 : gb < wH.heap.size := by have := hbl1.size; omega
            have gb2 : gb ≠ wH.heap.size := by omega
            clear cb
            go_wp2
            go_region_with (go_at_call 31; refine (Inside_any a b c d n HS.out n0 n1 _).mono ?_; rintro e w2 ⟨⟨x, y, rfl, hI⟩, hb2⟩; have hbz : Below wH.heap.size wH w2 := (by first | exact below_ta hb2 | exact below_tad hb2); have hV : Has w2 wH.heap.size [.int .i64 a, .int .i64 b, .int .i64 a, .int .i64 b] := (by first | exact (Has.new4 _ _ _ _ _ _).below hb2 | exact (Has.new4 _ _ _ _ _ _).drew.below hb2); have v0 := hV.c0; have v1 := hV.c1; have v2 := hV.c2; have v3 := hV.c3; have vf := hV.free; have vl := hV.lt)
            all_goals go_wp2
            all_goals (go_meet; exact ⟨rfl, x, y, hI, (by repeat (first | exact (hs1.below hbz) | refine Has.drew ?_ | refine Has.drewN ?_ _ | refine Has.alloc ?_ _ | refine Has.other ?_ (by first | omega | (simp; done) | (simp; omega) | (intro hne; simp at hne; omega)) _)), (by repeat (first | exact (hV).put4 _ _ _ _ | exact ((hV).alloc _).put4 _ _ _ _ | exact hV | refine Has.drew ?_ | refine Has.drewN ?_ _ | refine Has.alloc ?_ _ | refine Has.other ?_ (by first | omega | (simp; done) | (simp; omega) | (intro hne; simp at hne; omega)) _)), (by repeat (first | exact (hbl1.trans (hbz.mono (Nat.le_of_lt hz1))) | refine Below.drew ?_ | refine below_drewN ?_ _ | (refine Below.alloc ?_ (by first | omega | (simp; done) | (simp; omega)) _) | (refine Below.setCell ?_ (by first | omega | (simp; done) | (simp; omega)) _)))⟩)
          · have hb0' : decide ((0 : Int) < LB.length) = false := decide_eq_false (by omega)
            have hb0'' : decide (0 < LB.length) = false := decide_eq_false (by omega)
            go_wp2
            go_meet
            exact ⟨rfl, a, b, lo_in HS.out, hs1.alloc _, Has.new4 _ _ _ _ _ _, hbl1.alloc (Nat.le_of_lt hz1) _⟩
        case rest =>
          obtain ⟨rfl, x, y, hI, hSv, hV, hW⟩ := hcut
          obtain ⟨wA, rfl⟩ : ∃ wA : World, wA = wc := ⟨_, rfl⟩
          obtain ⟨i0, hi, hz0, hz1', hz2⟩ := info_parts info_span
          have hwcs := hV.lt
          go_wp2
          go_loopg [8, 9, 10] L.length (fun gh ex v u wr => ∃ (k : Nat) (T : List (Int × Int)) (eb : Bool), k + gh = L.length ∧ u = .int .i64 k ∧ ex = .bool eb ∧ Hid (eb = true ↔ ∀ (i : Nat) (t : S4), i < k → L[i]? = some t → exS t) ∧ Hid (T.length = k) ∧ Hid (∀ (i : Nat) (p : Int × Int) (t : S4), T[i]? = some p → L[i]? = some t → InS p t ∧ SpS t) ∧ Hid (wr.ownsRow wA.heap.size 25 4 v k (cellsS (T.map ptS))) ∧ Hid (Has wr w.heap.size [.int .i64 a, .int .i64 b, .int .i64 c, .int .i64 d]) ∧ Hid (Has wr wH.heap.size [.int .i64 x, .int .i64 y, .int .i64 x, .int .i64 y]) ∧ Hid (Below w.heap.size w wr) ∧ wA.heap.size ≤ wr.heap.size)
          case atStart => exact ⟨0, [], true, by omega, rfl, rfl, Lib.hid ⟨fun _ i t hi _ => by omega, fun _ => rfl⟩, Lib.hid rfl, Lib.hid (fun i p t hp _ => by simp at hp), Lib.hid (World.ownsRow_nil _ _ _ _), Lib.hid hSv, Lib.hid hV, Lib.hid hW, Nat.le_refl _⟩
          case round =>
            obtain ⟨k, T, eb, hk, rfl, rfl, hex, hTl, hT, hown, hS4, hV4, hW4, hsz⟩ := hrel
            by_cases hlt : k < L.length
            · obtain ⟨g, off, rfl, hcell⟩ := HK.out (by omega)
              obtain ⟨t, ht⟩ : ∃ t, L[k]? = some t := ⟨_, List.getElem?_eq_getElem hlt⟩
              obtain ⟨e0, e1, e2, e3⟩ := hcell k t ht
              have hg := lt_of_cell0 e0
              have e0 := (hW4.out.cell (p := ⟨g, off + k * 4, none⟩) hg).trans e0
              have e1 := (hW4.out.cell (p := ⟨g, off + k * 4 + 1, none⟩) hg).trans e1
              have e2 := (hW4.out.cell (p := ⟨g, off + k * 4 + 2, none⟩) hg).trans e2
              have e3 := (hW4.out.cell (p := ⟨g, off + k * 4 + 3, none⟩) hg).trans e3
              have hgw : g < wr.heap.size := by have := hW4.out.size; omega
              have HT := Lib.hid ht
              clear hcell ht
              obtain ⟨t0, t1, t2, t3⟩ := t
              simp only at e0 e1 e2 e3
              have i1 : (0 : Int) ≤ k := by omega
              have i2 : (k : Int) < L.length := by omega
              clear hSv hV hW
              by_cases hSd : Sp t0 t1 t2 t3
              · have HSd := Lib.hid (decide_eq_true hSd)
                have HSd2 := Lib.hid hSd
                obtain ⟨⟨p1, p2, p3, p4, _⟩, ⟨p5, p6, p7, p8, _⟩, _⟩ := hSd
                go_wp2_with fail
                refine (fine_any t0 t1 t2 t3 true HSd.out _).mono ?_
                rintro e w2 ⟨rfl, hb2⟩
                have e0 := (hb2.cell (p := ⟨g, off + k * 4, none⟩) hgw).trans e0
                have e1 := (hb2.cell (p := ⟨g, off + k * 4 + 1, none⟩) hgw).trans e1
                have e2 := (hb2.cell (p := ⟨g, off + k * 4 + 2, none⟩) hgw).trans e2
                have e3 := (hb2.cell (p := ⟨g, off + k * 4 + 3, none⟩) hgw).trans e3
                have hg2 : g < w2.heap.size := by have := hb2.size; omega
                go_upto_region 14 with (fail)
                go_cut [8] from 49 to 101 (fun s8 wx => s8 = .bool (eb && decide (exS (t0, t1, t2, t3))) ∧ ∃ n, wx = w2.drewN n)
                case first =>
                  cases eb with
                  | false =>
                    go_quiet (fail)
                    go_wp2
                    go_meet
                    exact ⟨rfl, _, rfl⟩
                  | true =>
                    refine wp_region_quiet_lit (by kernel_rfl) (by kernel_rfl) ?_
                    repeat (first | go_big_quiet_step (fail) | quiet_step (fail))
                    refine wpQuiet_step (fun K hK => ?_)
                    go_simp
                    refine ⟨.bool (decide (exS (t0, t1, t2, t3))), fun a => ?_, ?_⟩
                    · by_cases x0 : t0 = t2 <;> by_cases x1 : t1 = t3 <;> simp [x0, x1, exS]
                    · refine hK _ ?_
                      clear hK K
                      repeat (first | go_big_quiet_step (fail) | quiet_step (fail))
                      refine wpQuiet_nil ?_
                      intro _ hw'
                      obtain ⟨nq, hw''⟩ := hw'
                      subst hw''
                      go_wp2
                      go_meet
                      exact ⟨by simp, _, rfl⟩
                case rest =>
                  obtain ⟨rfl, nq, hwc⟩ := hcut
                  obtain ⟨wD, rfl⟩ : ∃ wD : World, wD = wc := ⟨_, rfl⟩
                  obtain ⟨eb', heb⟩ : ∃ eb', (eb && decide (exS (t0, t1, t2, t3))) = eb' := ⟨_, rfl⟩
                  rw [heb]
                  have HEB := Lib.hid heb
                  clear heb
                  have HW2 : Hid (Below wr.heap.size wr wD) := Lib.hid (by rw [hwc]; exact below_drewN hb2 _)
                  have e0 : wD.cell? ⟨g, off + k * 4, none⟩ = some (.int .i64 t0) := by rw [hwc]; simpa using e0
                  have e1 : wD.cell? ⟨g, off + k * 4 + 1, none⟩ = some (.int .i64 t1) := by rw [hwc]; simpa using e1
                  have e2 : wD.cell? ⟨g, off + k * 4 + 2, none⟩ = some (.int .i64 t2) := by rw [hwc]; simpa using e2
                  have e3 : wD.cell? ⟨g, off + k * 4 + 3, none⟩ = some (.int .i64 t3) := by rw [hwc]; simpa using e3
                  have hg3 : g < wD.heap.size := lt_of_cell0 e0
                  have hg4 : g ≠ wD.heap.size := by omega
                  clear hwc hb2
                  go_upto_if 85 with (fail)
                  go_cut [11] from 49 to 101 (fun s11 wx => s11 = .pointer (some ⟨wD.heap.size, 0, none⟩) ∧ ∃ p q : Int, InS (p, q) (t0, t1, t2, t3) ∧ Has wx wD.heap.size [.int .i64 p, .int .i64 q] ∧ Below wD.heap.size wD wx)
                  case first =>
                    by_cases hby : k + 1 < LB.length
                    · have hby' : decide ((k : Int) + 1 < LB.length) = true := decide_eq_true (by omega)
                      obtain ⟨gb, ofb, rfl, hcb⟩ := HKB.out (by omega)
                      have cb := hcb (k + 1) hby
                      have gbl := lt_of_cell0 cb
                      obtain ⟨n, hn⟩ : ∃ n, LB.getD (k + 1) 0 = n := ⟨_, rfl⟩
                      rw [hn] at cb
                      obtain ⟨n0, n1⟩ := byte_bd HWF.out hby hn
                      have cb1 := (HW2.out.cell (p := ⟨gb, ofb + (k + 1), none⟩) (show gb < wr.heap.size by have := hW4.out.size; omega)).trans ((hW4.out.cell (p := ⟨gb, ofb + (k + 1), none⟩) gbl).trans cb)
                      have gb1 : gb < wD.heap.size := lt_of_cell0 cb1
                      have gb2 : gb ≠ wD.heap.size := by omega
                      have k1 : IntKind.i64.wrap ((k : Int) + 1) = (k : Int) + 1 := IntWalk.i64_in _ (by omega)
                      have k2 : (0 : Int) ≤ (k : Int) + 1 := by omega
                      have k3 : (k : Int) + 1 < LB.length := by omega
                      have k4 : ((k : Int) + 1).toNat = k + 1 := by omega
                      clear hcb hn cb
                      go_wp2
                      go_region_with (go_at_call 31; refine (Inside_any t0 t1 t2 t3 n HSd2.out n0 n1 _).mono ?_; rintro e w3 ⟨⟨p, q, rfl, hI2⟩, hb3⟩; have hbz : Below wD.heap.size wD w3 := (by first | exact below_ta hb3 | exact below_tad hb3); have hV : Has w3 wD.heap.size [.int .i64 t0, .int .i64 t1] := (by first | exact (Has.new2 _ _ _ _).below hb3 | exact (Has.new2 _ _ _ _).drew.below hb3); have v0 := hV.c0; have v1 := hV.c1; have vf := hV.free; have vl := hV.lt)
                      all_goals go_wp2
                      all_goals (go_meet; exact ⟨rfl, p, q, hI2, (by repeat (first | exact (hV).put2 _ _ | exact ((hV).alloc _).put2 _ _ | exact hV | refine Has.drew ?_ | refine Has.drewN ?_ _ | refine Has.alloc ?_ _ | refine Has.other ?_ (by first | omega | (simp; done) | (simp; omega) | (intro hne; simp at hne; omega)) _)), (by repeat (first | exact hbz | refine Below.drew ?_ | refine below_drewN ?_ _ | (refine Below.alloc ?_ (by first | omega | (simp; done) | (simp; omega)) _) | (refine Below.setCell ?_ (by first | omega | (simp; done) | (simp; omega)) _)))⟩)
                    · have hby' : decide ((k : Int) + 1 < LB.length) = false := decide_eq_false (by omega)
                      go_wp2
                      go_meet
                      exact ⟨rfl, t0, t1, lo_in HSd2.out, Has.new2 _ _ _ _, below_alloc _ _⟩
                  case rest =>
                    obtain ⟨rfl, p, q, hI2, hV2, hW5⟩ := hcut
                    have HI2 := Lib.hid hI2
                    clear hI2 e0 e1 e2 e3
                    have v0 := hV2.c0
                    have v1 := hV2.c1
                    have vl := hV2.lt
                    have hownc := Lib.hid (own_below (own_below hown.out HW2.out) hW5)
                    have hbw := HW2.out.trans (hW5.mono HW2.out.size)
                    have hszc : wA.heap.size ≤ wc.heap.size := by have := hbw.size; omega
                    have hS5 := Lib.hid (hS4.out.below hbw)
                    have hV5 := Lib.hid (hV4.out.below hbw)
                    have hW6 := Lib.hid (hW4.out.trans (hbw.mono hW4.out.size))
                    have hwA : wH.heap.size < wA.heap.size := hwcs
                    have hwA2 : w.heap.size < wA.heap.size := by omega
                    have hwA3 : w.heap.size ≤ wA.heap.size := by omega
                    have HFR := Lib.hid (own_free hownc.out hwA3)
                    have HN1 := Lib.hid (own_ne hownc.out hwA)
                    have HN2 := Lib.hid (own_ne hownc.out hwA2)
                    clear hW5 hbw hown HW2
                    go_wp2_with (at_builtin; refine wpList_append_own _ rfl _ _ 52 rfl wA.heap.size 25 i0 (.agg #[.int .i64 0, .int .i64 0, .int .i64 0, .int .i64 0]) 4 32 Try.underlying52 hi hz0 hz1' hz2 rfl (by decide) _ _ _ rfl (hownc.out.alloc _) ⟨wc.heap.size, 0, none⟩ 1 1 [.int .i64 p, .int .i64 q, .int .i64 p, .int .i64 q] rfl rfl ?c1 ?c2 ?c3 ?c4 ?c5 ?_)
                    case c1 => exact cell_four_new _ _ _ _ _ _
                    case c2 => simp [Value.oneCell']
                    case c3 => unfold maxLen; omega
                    case c4 => omega
                    case c5 => simp; omega
                    intro v' wz hown' hgrow _
                    have hlT : (T ++ [(p, q)]).length = k + 1 := by have := hTl.out; simp; exact this
                    have HLT := Lib.hid hlT
                    have hown2 : Hid (wz.ownsRow wA.heap.size 25 4 v' (k + 1) (cellsS ((T ++ [(p, q)]).map ptS))) := Lib.hid (by
                      rw [List.map_append, cellsS_append]
                      exact hown')
                    have hS7 := Lib.hid ((hS5.out.alloc _).grown hgrow HN2.out)
                    have hV7 := Lib.hid ((hV5.out.alloc _).grown hgrow HN1.out)
                    have hW7 := Lib.hid (Below.grown (hW6.out.alloc (by omega) _) (Nat.le_refl _) hgrow HFR.out)
                    have hsz7 : wA.heap.size ≤ wz.heap.size := by have := hgrow.size; simp at this; omega
                    have HT2 : Hid (∀ (i : Nat) (p' : Int × Int) (t : S4), (T ++ [(p, q)])[i]? = some p' → L[i]? = some t → InS p' t ∧ SpS t) := Lib.hid (fun i p' t h1 h2 => by
                      have hTl' := hTl.out
                      by_cases hi : i < T.length
                      · rw [List.getElem?_append_left hi] at h1
                        exact hT.out i p' t h1 h2
                      · have hi2 : i < (T ++ [(p, q)]).length := (List.getElem?_eq_some_iff.1 h1).1
                        have hik : i = k := by simp at hi2; omega
                        subst hik
                        rw [List.getElem?_append_right (by omega)] at h1
                        have : i - T.length = 0 := by omega
                        rw [this] at h1
                        cases h1
                        rw [HT.out] at h2
                        cases h2
                        exact ⟨HI2.out, HSd2.out⟩)
                    have HEX2 : Hid (eb' = true ↔ ∀ (i : Nat) (t : S4), i < k + 1 → L[i]? = some t → exS t) := Lib.hid (by
                      rw [← HEB.out, Bool.and_eq_true, decide_eq_true_eq, hex.out]
                      constructor
                      · rintro ⟨g1, g2⟩ i t hi ht
                        by_cases hik : i = k
                        · subst hik
                          rw [HT.out] at ht
                          cases ht
                          exact g2
                        · exact g1 i t (by omega) ht
                      · intro g1
                        exact ⟨fun i t hi ht => g1 i t (by omega) ht, g1 k _ (by omega) HT.out⟩)
                    clear hown' hgrow hlT
                    go_wp2
                    go_roundg (gk - 1)
                    case rel => exact ⟨k + 1, T ++ [(p, q)], eb', by omega, by go_num, rfl, HEX2, HLT, HT2, hown2, hS7, hV7, hW7, hsz7⟩
                    case measure => omega
              · have HSd := Lib.hid (decide_eq_false hSd)
                clear hSd
                go_wp2_with fail
                refine (fine_any t0 t1 t2 t3 false HSd.out _).mono ?_
                rintro e w2 ⟨rfl, hb2⟩
                go_wp2_with fail
                refine (Works_any _).mono ?_
                rintro e w3 ⟨rfl, hb3⟩
                go_wp2_with fail
                go_ret
                exact ⟨rfl, (hW4.out.trans (hb2.mono hW4.out.size)).trans (hb3.mono (Nat.le_trans hW4.out.size hb2.size))⟩
            · obtain rfl : k = L.length := by omega
              have hlen := hTl.out
              have hls : ∀ t ∈ L, SpS t := fun t ht => by
                obtain ⟨i, hi, rfl⟩ := List.getElem_of_mem ht
                obtain ⟨p, hp⟩ : ∃ p, T[i]? = some p := ⟨_, List.getElem?_eq_getElem (by omega)⟩
                exact (hT.out i p _ hp (List.getElem?_eq_getElem hi)).2
              have HLs := Lib.hid hls
              have hc0 : chkC (a, b, c, d) L = 0 := by
                unfold chkC
                rw [if_pos (show SpS (a, b, c, d) from HS.out), if_neg (by omega), if_pos hls]
              have hown' := hown.out
              rw [← hlen, show T.length = (T.map ptS).length by simp] at hown'
              have hst := sls_of_own hown'
              clear hown'
              have hsl : SlS wr (.slice o L.length cap) L := SlS.next ⟨o, cap, rfl, hcap, HK.out⟩ hW4.out
              have hcT : chkC (x, y, x, y) (T.map ptS) = 0 := by
                unfold chkC
                rw [if_pos (show SpS (x, y, x, y) from ⟨hI.1, hI.1, Int.le_refl _⟩), if_neg (by simp; omega), if_pos]
                intro t ht
                obtain ⟨p, hp, rfl⟩ := List.mem_map.1 ht
                obtain ⟨i, hi, rfl⟩ := List.getElem_of_mem hp
                have := (hT.out i _ _ (List.getElem?_eq_getElem hi) (List.getElem?_eq_getElem (show i < L.length by omega))).1
                exact ⟨this.1, this.1, Int.le_refl _⟩
              have HTl : Hid ((T.map ptS).length ≤ 4000000000000000000) := Lib.hid (by simp; omega)
              have HC0 := Lib.hid hc0
              have HCT := Lib.hid hcT
              have HIx := Lib.hid hI
              have fs0 := hS4.out.c0
              have fs1 := hS4.out.c1
              have fs2 := hS4.out.c2
              have fs3 := hS4.out.c3
              have fv0 := hV4.out.c0
              have fv1 := hV4.out.c1
              have fv2 := hV4.out.c2
              have fv3 := hV4.out.c3
              have ls := hS4.out.lt
              have lv := hV4.out.lt
              have hbel : Below w.heap.size w wr := hW4.out
              have HLEN := Lib.hid hlen
              have hI1 := hI.1
              obtain ⟨x1, x2, y1, y2, _⟩ := hI1
              simp only at x1 x2 y1 y2
              clear hlen hls hc0 hcT hSv hV hW hI
              rcases hca : carryL (a, b, c, d) L with _ | ⟨q0, q1, q2, q3⟩
              · have HQ : Hid (resC (a, b, c, d) L (carryL (a, b, c, d) L) = ((0, 0, 0, 0), 4)) := Lib.hid (by unfold resC; rw [if_pos HC0.out, hca])
                clear hca
                go_wp2_with fail
                refine (Carry_any (a, b, c, d) L _ (0, 0, 0, 0) 4 HQ.out (by omega) _ hsl).mono ?_
                rintro e w1 ⟨rfl, hb1⟩
                replace fs0 : w1.cell? ⟨w.heap.size, 0, none⟩ = some (.int .i64 a) := (hb1.cell (p := ⟨w.heap.size, 0, none⟩) ls).trans fs0
                replace fs1 : w1.cell? ⟨w.heap.size, 1, none⟩ = some (.int .i64 b) := (hb1.cell (p := ⟨w.heap.size, 1, none⟩) ls).trans fs1
                replace fs2 : w1.cell? ⟨w.heap.size, 2, none⟩ = some (.int .i64 c) := (hb1.cell (p := ⟨w.heap.size, 2, none⟩) ls).trans fs2
                replace fs3 : w1.cell? ⟨w.heap.size, 3, none⟩ = some (.int .i64 d) := (hb1.cell (p := ⟨w.heap.size, 3, none⟩) ls).trans fs3
                replace fv0 : w1.cell? ⟨wH.heap.size, 0, none⟩ = some (.int .i64 x) := (hb1.cell (p := ⟨wH.heap.size, 0, none⟩) lv).trans fv0
                replace fv1 : w1.cell? ⟨wH.heap.size, 1, none⟩ = some (.int .i64 y) := (hb1.cell (p := ⟨wH.heap.size, 1, none⟩) lv).trans fv1
                replace fv2 : w1.cell? ⟨wH.heap.size, 2, none⟩ = some (.int .i64 x) := (hb1.cell (p := ⟨wH.heap.size, 2, none⟩) lv).trans fv2
                replace fv3 : w1.cell? ⟨wH.heap.size, 3, none⟩ = some (.int .i64 y) := (hb1.cell (p := ⟨wH.heap.size, 3, none⟩) lv).trans fv3
                replace ls : w.heap.size < w1.heap.size := Nat.lt_of_lt_of_le ls hb1.size
                replace lv : wH.heap.size < w1.heap.size := Nat.lt_of_lt_of_le lv hb1.size
                replace hsl := hsl.next hb1
                replace hst := hst.next hb1
                replace hbel : Below w.heap.size w w1 := hbel.trans (hb1.mono hbel.size)
                clear hb1
                go_wp2_with fail
                refine (Works_any _).mono ?_
                rintro e w2 ⟨rfl, hb2⟩
                have hx : Below w1.heap.size w1 w2 := (((Below.refl _ _).alloc (Nat.le_refl _) _) : Below w1.heap.size w1 (w1.alloc (.cells #[.int .i64 0, .int .i64 0, .int .i64 0, .int .i64 0] 25))).trans (hb2.mono (by simp))
                have f1_0 : w2.cell? ⟨w1.heap.size, 0, none⟩ = some (.int .i64 0) := (hb2.cell (p := ⟨w1.heap.size, 0, none⟩) (by simp)).trans (by simp [go_sem])
                have f1_1 : w2.cell? ⟨w1.heap.size, 1, none⟩ = some (.int .i64 0) := (hb2.cell (p := ⟨w1.heap.size, 1, none⟩) (by simp)).trans (by simp [go_sem])
                have f1_2 : w2.cell? ⟨w1.heap.size, 2, none⟩ = some (.int .i64 0) := (hb2.cell (p := ⟨w1.heap.size, 2, none⟩) (by simp)).trans (by simp [go_sem])
                have f1_3 : w2.cell? ⟨w1.heap.size, 3, none⟩ = some (.int .i64 0) := (hb2.cell (p := ⟨w1.heap.size, 3, none⟩) (by simp)).trans (by simp [go_sem])
                have l1 : w1.heap.size < w2.heap.size := by have := hb2.size; simp at this; omega
                replace fs0 : w2.cell? ⟨w.heap.size, 0, none⟩ = some (.int .i64 a) := (hx.cell (p := ⟨w.heap.size, 0, none⟩) ls).trans fs0
                replace fs1 : w2.cell? ⟨w.heap.size, 1, none⟩ = some (.int .i64 b) := (hx.cell (p := ⟨w.heap.size, 1, none⟩) ls).trans fs1
                replace fs2 : w2.cell? ⟨w.heap.size, 2, none⟩ = some (.int .i64 c) := (hx.cell (p := ⟨w.heap.size, 2, none⟩) ls).trans fs2
                replace fs3 : w2.cell? ⟨w.heap.size, 3, none⟩ = some (.int .i64 d) := (hx.cell (p := ⟨w.heap.size, 3, none⟩) ls).trans fs3
                replace fv0 : w2.cell? ⟨wH.heap.size, 0, none⟩ = some (.int .i64 x) := (hx.cell (p := ⟨wH.heap.size, 0, none⟩) lv).trans fv0
                replace fv1 : w2.cell? ⟨wH.heap.size, 1, none⟩ = some (.int .i64 y) := (hx.cell (p := ⟨wH.heap.size, 1, none⟩) lv).trans fv1
                replace fv2 : w2.cell? ⟨wH.heap.size, 2, none⟩ = some (.int .i64 x) := (hx.cell (p := ⟨wH.heap.size, 2, none⟩) lv).trans fv2
                replace fv3 : w2.cell? ⟨wH.heap.size, 3, none⟩ = some (.int .i64 y) := (hx.cell (p := ⟨wH.heap.size, 3, none⟩) lv).trans fv3
                replace ls : w.heap.size < w2.heap.size := Nat.lt_of_lt_of_le ls hx.size
                replace lv : wH.heap.size < w2.heap.size := Nat.lt_of_lt_of_le lv hx.size
                replace hsl := hsl.next hx
                replace hst := hst.next hx
                replace hbel : Below w.heap.size w w2 := hbel.trans (hx.mono hbel.size)
                clear hx
                clear hb2
                go_wp2_with fail
                go_ret
                exact ⟨rfl, hbel⟩
              · have HQ : Hid (resC (a, b, c, d) L (carryL (a, b, c, d) L) = ((q0, q1, q2, q3), 0)) := Lib.hid (by unfold resC; rw [if_pos HC0.out, hca])
                have HCA := Lib.hid hca
                have hq := carryL_sp L (a, b, c, d) (q0, q1, q2, q3) HS.out HLs.out hca
                have HTb : Hid (decide (Sp q0 q1 q2 q3) = true) := Lib.hid (decide_eq_true hq)
                have HC2 : Hid (chkC (q0, q1, q2, q3) L = 0) := Lib.hid (by
                  unfold chkC
                  rw [if_pos hq, if_neg (by omega), if_pos HLs.out])
                obtain ⟨⟨u1, u2, u3, u4, _⟩, ⟨u5, u6, u7, u8, _⟩, _⟩ := hq
                simp only at u1 u2 u3 u4 u5 u6 u7 u8
                clear hca
                go_wp2_with fail
                refine (Carry_any (a, b, c, d) L _ (q0, q1, q2, q3) 0 HQ.out (by omega) _ hsl).mono ?_
                rintro e w1 ⟨rfl, hb1⟩
                replace fs0 : w1.cell? ⟨w.heap.size, 0, none⟩ = some (.int .i64 a) := (hb1.cell (p := ⟨w.heap.size, 0, none⟩) ls).trans fs0
                replace fs1 : w1.cell? ⟨w.heap.size, 1, none⟩ = some (.int .i64 b) := (hb1.cell (p := ⟨w.heap.size, 1, none⟩) ls).trans fs1
                replace fs2 : w1.cell? ⟨w.heap.size, 2, none⟩ = some (.int .i64 c) := (hb1.cell (p := ⟨w.heap.size, 2, none⟩) ls).trans fs2
                replace fs3 : w1.cell? ⟨w.heap.size, 3, none⟩ = some (.int .i64 d) := (hb1.cell (p := ⟨w.heap.size, 3, none⟩) ls).trans fs3
                replace fv0 : w1.cell? ⟨wH.heap.size, 0, none⟩ = some (.int .i64 x) := (hb1.cell (p := ⟨wH.heap.size, 0, none⟩) lv).trans fv0
                replace fv1 : w1.cell? ⟨wH.heap.size, 1, none⟩ = some (.int .i64 y) := (hb1.cell (p := ⟨wH.heap.size, 1, none⟩) lv).trans fv1
                replace fv2 : w1.cell? ⟨wH.heap.size, 2, none⟩ = some (.int .i64 x) := (hb1.cell (p := ⟨wH.heap.size, 2, none⟩) lv).trans fv2
                replace fv3 : w1.cell? ⟨wH.heap.size, 3, none⟩ = some (.int .i64 y) := (hb1.cell (p := ⟨wH.heap.size, 3, none⟩) lv).trans fv3
                replace ls : w.heap.size < w1.heap.size := Nat.lt_of_lt_of_le ls hb1.size
                replace lv : wH.heap.size < w1.heap.size := Nat.lt_of_lt_of_le lv hb1.size
                replace hsl := hsl.next hb1
                replace hst := hst.next hb1
                replace hbel : Below w.heap.size w w1 := hbel.trans (hb1.mono hbel.size)
                clear hb1
                rcases hcv : carryL (x, y, x, y) (T.map ptS) with _ | u
                · have HU : Hid (resC (x, y, x, y) (T.map ptS) (carryL (x, y, x, y) (T.map ptS)) = ((0, 0, 0, 0), 4)) := Lib.hid (by unfold resC; rw [if_pos HCT.out, hcv])
                  clear hcv
                  go_wp2_with fail
                  refine (Carry_any (x, y, x, y) (T.map ptS) _ (0, 0, 0, 0) 4 HU.out HTl.out _ (hst.next (below_alloc _ _))).mono ?_
                  rintro e w2 ⟨rfl, hb2⟩
                  have hx : Below w1.heap.size w1 w2 := (((Below.refl _ _).alloc (Nat.le_refl _) _) : Below w1.heap.size w1 (w1.alloc (.cells #[.int .i64 q0, .int .i64 q1, .int .i64 q2, .int .i64 q3] 25))).trans (hb2.mono (by simp))
                  have f1_0 : w2.cell? ⟨w1.heap.size, 0, none⟩ = some (.int .i64 q0) := (hb2.cell (p := ⟨w1.heap.size, 0, none⟩) (by simp)).trans (by simp [go_sem])
                  have f1_1 : w2.cell? ⟨w1.heap.size, 1, none⟩ = some (.int .i64 q1) := (hb2.cell (p := ⟨w1.heap.size, 1, none⟩) (by simp)).trans (by simp [go_sem])
                  have f1_2 : w2.cell? ⟨w1.heap.size, 2, none⟩ = some (.int .i64 q2) := (hb2.cell (p := ⟨w1.heap.size, 2, none⟩) (by simp)).trans (by simp [go_sem])
                  have f1_3 : w2.cell? ⟨w1.heap.size, 3, none⟩ = some (.int .i64 q3) := (hb2.cell (p := ⟨w1.heap.size, 3, none⟩) (by simp)).trans (by simp [go_sem])
                  have l1 : w1.heap.size < w2.heap.size := by have := hb2.size; simp at this; omega
                  replace fs0 : w2.cell? ⟨w.heap.size, 0, none⟩ = some (.int .i64 a) := (hx.cell (p := ⟨w.heap.size, 0, none⟩) ls).trans fs0
                  replace fs1 : w2.cell? ⟨w.heap.size, 1, none⟩ = some (.int .i64 b) := (hx.cell (p := ⟨w.heap.size, 1, none⟩) ls).trans fs1
                  replace fs2 : w2.cell? ⟨w.heap.size, 2, none⟩ = some (.int .i64 c) := (hx.cell (p := ⟨w.heap.size, 2, none⟩) ls).trans fs2
                  replace fs3 : w2.cell? ⟨w.heap.size, 3, none⟩ = some (.int .i64 d) := (hx.cell (p := ⟨w.heap.size, 3, none⟩) ls).trans fs3
                  replace fv0 : w2.cell? ⟨wH.heap.size, 0, none⟩ = some (.int .i64 x) := (hx.cell (p := ⟨wH.heap.size, 0, none⟩) lv).trans fv0
                  replace fv1 : w2.cell? ⟨wH.heap.size, 1, none⟩ = some (.int .i64 y) := (hx.cell (p := ⟨wH.heap.size, 1, none⟩) lv).trans fv1
                  replace fv2 : w2.cell? ⟨wH.heap.size, 2, none⟩ = some (.int .i64 x) := (hx.cell (p := ⟨wH.heap.size, 2, none⟩) lv).trans fv2
                  replace fv3 : w2.cell? ⟨wH.heap.size, 3, none⟩ = some (.int .i64 y) := (hx.cell (p := ⟨wH.heap.size, 3, none⟩) lv).trans fv3
                  replace ls : w.heap.size < w2.heap.size := Nat.lt_of_lt_of_le ls hx.size
                  replace lv : wH.heap.size < w2.heap.size := Nat.lt_of_lt_of_le lv hx.size
                  replace hsl := hsl.next hx
                  replace hst := hst.next hx
                  replace hbel : Below w.heap.size w w2 := hbel.trans (hx.mono hbel.size)
                  clear hx
                  clear hb2
                  go_wp2_with fail
                  refine (fine_any q0 q1 q2 q3 true HTb.out _).mono ?_
                  rintro e w3 ⟨rfl, hb3⟩
                  have hx : Below w2.heap.size w2 w3 := (((Below.refl _ _).alloc (Nat.le_refl _) _) : Below w2.heap.size w2 (w2.alloc (.cells #[.int .i64 0, .int .i64 0, .int .i64 0, .int .i64 0] 25))).trans (hb3.mono (by simp))
                  have f2_0 : w3.cell? ⟨w2.heap.size, 0, none⟩ = some (.int .i64 0) := (hb3.cell (p := ⟨w2.heap.size, 0, none⟩) (by simp)).trans (by simp [go_sem])
                  have f2_1 : w3.cell? ⟨w2.heap.size, 1, none⟩ = some (.int .i64 0) := (hb3.cell (p := ⟨w2.heap.size, 1, none⟩) (by simp)).trans (by simp [go_sem])
                  have f2_2 : w3.cell? ⟨w2.heap.size, 2, none⟩ = some (.int .i64 0) := (hb3.cell (p := ⟨w2.heap.size, 2, none⟩) (by simp)).trans (by simp [go_sem])
                  have f2_3 : w3.cell? ⟨w2.heap.size, 3, none⟩ = some (.int .i64 0) := (hb3.cell (p := ⟨w2.heap.size, 3, none⟩) (by simp)).trans (by simp [go_sem])
                  have l2 : w2.heap.size < w3.heap.size := by have := hb3.size; simp at this; omega
                  replace fs0 : w3.cell? ⟨w.heap.size, 0, none⟩ = some (.int .i64 a) := (hx.cell (p := ⟨w.heap.size, 0, none⟩) ls).trans fs0
                  replace fs1 : w3.cell? ⟨w.heap.size, 1, none⟩ = some (.int .i64 b) := (hx.cell (p := ⟨w.heap.size, 1, none⟩) ls).trans fs1
                  replace fs2 : w3.cell? ⟨w.heap.size, 2, none⟩ = some (.int .i64 c) := (hx.cell (p := ⟨w.heap.size, 2, none⟩) ls).trans fs2
                  replace fs3 : w3.cell? ⟨w.heap.size, 3, none⟩ = some (.int .i64 d) := (hx.cell (p := ⟨w.heap.size, 3, none⟩) ls).trans fs3
                  replace fv0 : w3.cell? ⟨wH.heap.size, 0, none⟩ = some (.int .i64 x) := (hx.cell (p := ⟨wH.heap.size, 0, none⟩) lv).trans fv0
                  replace fv1 : w3.cell? ⟨wH.heap.size, 1, none⟩ = some (.int .i64 y) := (hx.cell (p := ⟨wH.heap.size, 1, none⟩) lv).trans fv1
                  replace fv2 : w3.cell? ⟨wH.heap.size, 2, none⟩ = some (.int .i64 x) := (hx.cell (p := ⟨wH.heap.size, 2, none⟩) lv).trans fv2
                  replace fv3 : w3.cell? ⟨wH.heap.size, 3, none⟩ = some (.int .i64 y) := (hx.cell (p := ⟨wH.heap.size, 3, none⟩) lv).trans fv3
                  replace f1_0 : w3.cell? ⟨w1.heap.size, 0, none⟩ = some (.int .i64 q0) := (hx.cell (p := ⟨w1.heap.size, 0, none⟩) l1).trans f1_0
                  replace f1_1 : w3.cell? ⟨w1.heap.size, 1, none⟩ = some (.int .i64 q1) := (hx.cell (p := ⟨w1.heap.size, 1, none⟩) l1).trans f1_1
                  replace f1_2 : w3.cell? ⟨w1.heap.size, 2, none⟩ = some (.int .i64 q2) := (hx.cell (p := ⟨w1.heap.size, 2, none⟩) l1).trans f1_2
                  replace f1_3 : w3.cell? ⟨w1.heap.size, 3, none⟩ = some (.int .i64 q3) := (hx.cell (p := ⟨w1.heap.size, 3, none⟩) l1).trans f1_3
                  replace ls : w.heap.size < w3.heap.size := Nat.lt_of_lt_of_le ls hx.size
                  replace lv : wH.heap.size < w3.heap.size := Nat.lt_of_lt_of_le lv hx.size
                  replace l1 : w1.heap.size < w3.heap.size := Nat.lt_of_lt_of_le l1 hx.size
                  replace hsl := hsl.next hx
                  replace hst := hst.next hx
                  replace hbel : Below w.heap.size w w3 := hbel.trans (hx.mono hbel.size)
                  clear hx
                  clear hb3
                  rcases hr : backL (q0, q1, q2, q3) L with _ | ⟨r0, r1, r2, r3⟩
                  · have HB : Hid (resC (q0, q1, q2, q3) L (backL (q0, q1, q2, q3) L) = ((0, 0, 0, 0), 4)) := Lib.hid (by unfold resC; rw [if_pos HC2.out, hr])
                    clear hr
                    go_wp2_with fail
                    refine (Back_any (q0, q1, q2, q3) L _ (0, 0, 0, 0) 4 HB.out (by omega) _ hsl).mono ?_
                    rintro e w4 ⟨rfl, hb4⟩
                    replace fs0 : w4.cell? ⟨w.heap.size, 0, none⟩ = some (.int .i64 a) := (hb4.cell (p := ⟨w.heap.size, 0, none⟩) ls).trans fs0
                    replace fs1 : w4.cell? ⟨w.heap.size, 1, none⟩ = some (.int .i64 b) := (hb4.cell (p := ⟨w.heap.size, 1, none⟩) ls).trans fs1
                    replace fs2 : w4.cell? ⟨w.heap.size, 2, none⟩ = some (.int .i64 c) := (hb4.cell (p := ⟨w.heap.size, 2, none⟩) ls).trans fs2
                    replace fs3 : w4.cell? ⟨w.heap.size, 3, none⟩ = some (.int .i64 d) := (hb4.cell (p := ⟨w.heap.size, 3, none⟩) ls).trans fs3
                    replace fv0 : w4.cell? ⟨wH.heap.size, 0, none⟩ = some (.int .i64 x) := (hb4.cell (p := ⟨wH.heap.size, 0, none⟩) lv).trans fv0
                    replace fv1 : w4.cell? ⟨wH.heap.size, 1, none⟩ = some (.int .i64 y) := (hb4.cell (p := ⟨wH.heap.size, 1, none⟩) lv).trans fv1
                    replace fv2 : w4.cell? ⟨wH.heap.size, 2, none⟩ = some (.int .i64 x) := (hb4.cell (p := ⟨wH.heap.size, 2, none⟩) lv).trans fv2
                    replace fv3 : w4.cell? ⟨wH.heap.size, 3, none⟩ = some (.int .i64 y) := (hb4.cell (p := ⟨wH.heap.size, 3, none⟩) lv).trans fv3
                    replace f1_0 : w4.cell? ⟨w1.heap.size, 0, none⟩ = some (.int .i64 q0) := (hb4.cell (p := ⟨w1.heap.size, 0, none⟩) l1).trans f1_0
                    replace f1_1 : w4.cell? ⟨w1.heap.size, 1, none⟩ = some (.int .i64 q1) := (hb4.cell (p := ⟨w1.heap.size, 1, none⟩) l1).trans f1_1
                    replace f1_2 : w4.cell? ⟨w1.heap.size, 2, none⟩ = some (.int .i64 q2) := (hb4.cell (p := ⟨w1.heap.size, 2, none⟩) l1).trans f1_2
                    replace f1_3 : w4.cell? ⟨w1.heap.size, 3, none⟩ = some (.int .i64 q3) := (hb4.cell (p := ⟨w1.heap.size, 3, none⟩) l1).trans f1_3
                    replace f2_0 : w4.cell? ⟨w2.heap.size, 0, none⟩ = some (.int .i64 0) := (hb4.cell (p := ⟨w2.heap.size, 0, none⟩) l2).trans f2_0
                    replace f2_1 : w4.cell? ⟨w2.heap.size, 1, none⟩ = some (.int .i64 0) := (hb4.cell (p := ⟨w2.heap.size, 1, none⟩) l2).trans f2_1
                    replace f2_2 : w4.cell? ⟨w2.heap.size, 2, none⟩ = some (.int .i64 0) := (hb4.cell (p := ⟨w2.heap.size, 2, none⟩) l2).trans f2_2
                    replace f2_3 : w4.cell? ⟨w2.heap.size, 3, none⟩ = some (.int .i64 0) := (hb4.cell (p := ⟨w2.heap.size, 3, none⟩) l2).trans f2_3
                    replace ls : w.heap.size < w4.heap.size := Nat.lt_of_lt_of_le ls hb4.size
                    replace lv : wH.heap.size < w4.heap.size := Nat.lt_of_lt_of_le lv hb4.size
                    replace l1 : w1.heap.size < w4.heap.size := Nat.lt_of_lt_of_le l1 hb4.size
                    replace l2 : w2.heap.size < w4.heap.size := Nat.lt_of_lt_of_le l2 hb4.size
                    replace hsl := hsl.next hb4
                    replace hst := hst.next hb4
                    replace hbel : Below w.heap.size w w4 := hbel.trans (hb4.mono hbel.size)
                    clear hb4
                    go_wp2_with fail
                    refine (Works_any _).mono ?_
                    rintro e w5 ⟨rfl, hb5⟩
                    have hx : Below w4.heap.size w4 w5 := (((Below.refl _ _).alloc (Nat.le_refl _) _) : Below w4.heap.size w4 (w4.alloc (.cells #[.int .i64 0, .int .i64 0, .int .i64 0, .int .i64 0] 25))).trans (hb5.mono (by simp))
                    have f3_0 : w5.cell? ⟨w4.heap.size, 0, none⟩ = some (.int .i64 0) := (hb5.cell (p := ⟨w4.heap.size, 0, none⟩) (by simp)).trans (by simp [go_sem])
                    have f3_1 : w5.cell? ⟨w4.heap.size, 1, none⟩ = some (.int .i64 0) := (hb5.cell (p := ⟨w4.heap.size, 1, none⟩) (by simp)).trans (by simp [go_sem])
                    have f3_2 : w5.cell? ⟨w4.heap.size, 2, none⟩ = some (.int .i64 0) := (hb5.cell (p := ⟨w4.heap.size, 2, none⟩) (by simp)).trans (by simp [go_sem])
                    have f3_3 : w5.cell? ⟨w4.heap.size, 3, none⟩ = some (.int .i64 0) := (hb5.cell (p := ⟨w4.heap.size, 3, none⟩) (by simp)).trans (by simp [go_sem])
                    have l3 : w4.heap.size < w5.heap.size := by have := hb5.size; simp at this; omega
                    replace fs0 : w5.cell? ⟨w.heap.size, 0, none⟩ = some (.int .i64 a) := (hx.cell (p := ⟨w.heap.size, 0, none⟩) ls).trans fs0
                    replace fs1 : w5.cell? ⟨w.heap.size, 1, none⟩ = some (.int .i64 b) := (hx.cell (p := ⟨w.heap.size, 1, none⟩) ls).trans fs1
                    replace fs2 : w5.cell? ⟨w.heap.size, 2, none⟩ = some (.int .i64 c) := (hx.cell (p := ⟨w.heap.size, 2, none⟩) ls).trans fs2
                    replace fs3 : w5.cell? ⟨w.heap.size, 3, none⟩ = some (.int .i64 d) := (hx.cell (p := ⟨w.heap.size, 3, none⟩) ls).trans fs3
                    replace fv0 : w5.cell? ⟨wH.heap.size, 0, none⟩ = some (.int .i64 x) := (hx.cell (p := ⟨wH.heap.size, 0, none⟩) lv).trans fv0
                    replace fv1 : w5.cell? ⟨wH.heap.size, 1, none⟩ = some (.int .i64 y) := (hx.cell (p := ⟨wH.heap.size, 1, none⟩) lv).trans fv1
                    replace fv2 : w5.cell? ⟨wH.heap.size, 2, none⟩ = some (.int .i64 x) := (hx.cell (p := ⟨wH.heap.size, 2, none⟩) lv).trans fv2
                    replace fv3 : w5.cell? ⟨wH.heap.size, 3, none⟩ = some (.int .i64 y) := (hx.cell (p := ⟨wH.heap.size, 3, none⟩) lv).trans fv3
                    replace f1_0 : w5.cell? ⟨w1.heap.size, 0, none⟩ = some (.int .i64 q0) := (hx.cell (p := ⟨w1.heap.size, 0, none⟩) l1).trans f1_0
                    replace f1_1 : w5.cell? ⟨w1.heap.size, 1, none⟩ = some (.int .i64 q1) := (hx.cell (p := ⟨w1.heap.size, 1, none⟩) l1).trans f1_1
                    replace f1_2 : w5.cell? ⟨w1.heap.size, 2, none⟩ = some (.int .i64 q2) := (hx.cell (p := ⟨w1.heap.size, 2, none⟩) l1).trans f1_2
                    replace f1_3 : w5.cell? ⟨w1.heap.size, 3, none⟩ = some (.int .i64 q3) := (hx.cell (p := ⟨w1.heap.size, 3, none⟩) l1).trans f1_3
                    replace f2_0 : w5.cell? ⟨w2.heap.size, 0, none⟩ = some (.int .i64 0) := (hx.cell (p := ⟨w2.heap.size, 0, none⟩) l2).trans f2_0
                    replace f2_1 : w5.cell? ⟨w2.heap.size, 1, none⟩ = some (.int .i64 0) := (hx.cell (p := ⟨w2.heap.size, 1, none⟩) l2).trans f2_1
                    replace f2_2 : w5.cell? ⟨w2.heap.size, 2, none⟩ = some (.int .i64 0) := (hx.cell (p := ⟨w2.heap.size, 2, none⟩) l2).trans f2_2
                    replace f2_3 : w5.cell? ⟨w2.heap.size, 3, none⟩ = some (.int .i64 0) := (hx.cell (p := ⟨w2.heap.size, 3, none⟩) l2).trans f2_3
                    replace ls : w.heap.size < w5.heap.size := Nat.lt_of_lt_of_le ls hx.size
                    replace lv : wH.heap.size < w5.heap.size := Nat.lt_of_lt_of_le lv hx.size
                    replace l1 : w1.heap.size < w5.heap.size := Nat.lt_of_lt_of_le l1 hx.size
                    replace l2 : w2.heap.size < w5.heap.size := Nat.lt_of_lt_of_le l2 hx.size
                    replace hsl := hsl.next hx
                    replace hst := hst.next hx
                    replace hbel : Below w.heap.size w w5 := hbel.trans (hx.mono hbel.size)
                    clear hx
                    clear hb5
                    go_wp2_with fail
                    go_ret
                    exact ⟨rfl, hbel⟩
                  · have HB : Hid (resC (q0, q1, q2, q3) L (backL (q0, q1, q2, q3) L) = ((r0, r1, r2, r3), 0)) := Lib.hid (by unfold resC; rw [if_pos HC2.out, hr])
                    obtain ⟨g1, g2, g3, g4⟩ := carry_back L (a, b, c, d) (q0, q1, q2, q3) (r0, r1, r2, r3) HS.out HLs.out HCA.out hr
                    clear hr
                    simp only at g2 g3
                    have hru : Sp r0 r1 r2 r3 := ⟨g1.1, g1.2, frac_le g2 HS.out.2.2 g3 HS.out.1.2.2.1 HS.out.2.1.2.2.1 g1.1.2.2.1 g1.2.2.2.1⟩
                    have HRb := Lib.hid (decide_eq_true hru)
                    have HI1 : Hid (decide (r0 * b ≤ a * r1 ∧ a * r3 ≤ r2 * b) = true) := Lib.hid (decide_eq_true ⟨g2, frac_le' HS.out.2.2 g3 HS.out.1.2.2.1 HS.out.2.1.2.2.1 g1.2.2.2.1⟩)
                    have HI3 : Hid (decide (r0 * d ≤ c * r1 ∧ c * r3 ≤ r2 * d) = true) := Lib.hid (decide_eq_true ⟨frac_le' g2 HS.out.2.2 g1.1.2.2.1 HS.out.1.2.2.1 HS.out.2.1.2.2.1, g3⟩)
                    have HX4 : Hid (eb = true → (r0, r1, r2, r3) = (a, b, c, d)) := Lib.hid (fun he => g4 (fun t ht => by
                      obtain ⟨i, hi, rfl⟩ := List.getElem_of_mem ht
                      exact hex.out.1 he i _ (by omega) (List.getElem?_eq_getElem hi)))
                    obtain ⟨⟨w01, w02, w03, w04, _⟩, w05, w06, w07, w08, _⟩ := g1
                    simp only at w01 w02 w03 w04 w05 w06 w07 w08
                    clear g2 g3 g4 hru
                    go_wp2_with fail
                    refine (Back_any (q0, q1, q2, q3) L _ (r0, r1, r2, r3) 0 HB.out (by omega) _ hsl).mono ?_
                    rintro e w4 ⟨rfl, hb4⟩
                    replace fs0 : w4.cell? ⟨w.heap.size, 0, none⟩ = some (.int .i64 a) := (hb4.cell (p := ⟨w.heap.size, 0, none⟩) ls).trans fs0
                    replace fs1 : w4.cell? ⟨w.heap.size, 1, none⟩ = some (.int .i64 b) := (hb4.cell (p := ⟨w.heap.size, 1, none⟩) ls).trans fs1
                    replace fs2 : w4.cell? ⟨w.heap.size, 2, none⟩ = some (.int .i64 c) := (hb4.cell (p := ⟨w.heap.size, 2, none⟩) ls).trans fs2
                    replace fs3 : w4.cell? ⟨w.heap.size, 3, none⟩ = some (.int .i64 d) := (hb4.cell (p := ⟨w.heap.size, 3, none⟩) ls).trans fs3
                    replace fv0 : w4.cell? ⟨wH.heap.size, 0, none⟩ = some (.int .i64 x) := (hb4.cell (p := ⟨wH.heap.size, 0, none⟩) lv).trans fv0
                    replace fv1 : w4.cell? ⟨wH.heap.size, 1, none⟩ = some (.int .i64 y) := (hb4.cell (p := ⟨wH.heap.size, 1, none⟩) lv).trans fv1
                    replace fv2 : w4.cell? ⟨wH.heap.size, 2, none⟩ = some (.int .i64 x) := (hb4.cell (p := ⟨wH.heap.size, 2, none⟩) lv).trans fv2
                    replace fv3 : w4.cell? ⟨wH.heap.size, 3, none⟩ = some (.int .i64 y) := (hb4.cell (p := ⟨wH.heap.size, 3, none⟩) lv).trans fv3
                    replace f1_0 : w4.cell? ⟨w1.heap.size, 0, none⟩ = some (.int .i64 q0) := (hb4.cell (p := ⟨w1.heap.size, 0, none⟩) l1).trans f1_0
                    replace f1_1 : w4.cell? ⟨w1.heap.size, 1, none⟩ = some (.int .i64 q1) := (hb4.cell (p := ⟨w1.heap.size, 1, none⟩) l1).trans f1_1
                    replace f1_2 : w4.cell? ⟨w1.heap.size, 2, none⟩ = some (.int .i64 q2) := (hb4.cell (p := ⟨w1.heap.size, 2, none⟩) l1).trans f1_2
                    replace f1_3 : w4.cell? ⟨w1.heap.size, 3, none⟩ = some (.int .i64 q3) := (hb4.cell (p := ⟨w1.heap.size, 3, none⟩) l1).trans f1_3
                    replace f2_0 : w4.cell? ⟨w2.heap.size, 0, none⟩ = some (.int .i64 0) := (hb4.cell (p := ⟨w2.heap.size, 0, none⟩) l2).trans f2_0
                    replace f2_1 : w4.cell? ⟨w2.heap.size, 1, none⟩ = some (.int .i64 0) := (hb4.cell (p := ⟨w2.heap.size, 1, none⟩) l2).trans f2_1
                    replace f2_2 : w4.cell? ⟨w2.heap.size, 2, none⟩ = some (.int .i64 0) := (hb4.cell (p := ⟨w2.heap.size, 2, none⟩) l2).trans f2_2
                    replace f2_3 : w4.cell? ⟨w2.heap.size, 3, none⟩ = some (.int .i64 0) := (hb4.cell (p := ⟨w2.heap.size, 3, none⟩) l2).trans f2_3
                    replace ls : w.heap.size < w4.heap.size := Nat.lt_of_lt_of_le ls hb4.size
                    replace lv : wH.heap.size < w4.heap.size := Nat.lt_of_lt_of_le lv hb4.size
                    replace l1 : w1.heap.size < w4.heap.size := Nat.lt_of_lt_of_le l1 hb4.size
                    replace l2 : w2.heap.size < w4.heap.size := Nat.lt_of_lt_of_le l2 hb4.size
                    replace hsl := hsl.next hb4
                    replace hst := hst.next hb4
                    replace hbel : Below w.heap.size w w4 := hbel.trans (hb4.mono hbel.size)
                    clear hb4
                    go_wp2_with fail
                    refine (fine_any r0 r1 r2 r3 true HRb.out _).mono ?_
                    rintro e w5 ⟨rfl, hb5⟩
                    have hx : Below w4.heap.size w4 w5 := (((Below.refl _ _).alloc (Nat.le_refl _) _) : Below w4.heap.size w4 (w4.alloc (.cells #[.int .i64 r0, .int .i64 r1, .int .i64 r2, .int .i64 r3] 25))).trans (hb5.mono (by simp))
                    have f3_0 : w5.cell? ⟨w4.heap.size, 0, none⟩ = some (.int .i64 r0) := (hb5.cell (p := ⟨w4.heap.size, 0, none⟩) (by simp)).trans (by simp [go_sem])
                    have f3_1 : w5.cell? ⟨w4.heap.size, 1, none⟩ = some (.int .i64 r1) := (hb5.cell (p := ⟨w4.heap.size, 1, none⟩) (by simp)).trans (by simp [go_sem])
                    have f3_2 : w5.cell? ⟨w4.heap.size, 2, none⟩ = some (.int .i64 r2) := (hb5.cell (p := ⟨w4.heap.size, 2, none⟩) (by simp)).trans (by simp [go_sem])
                    have f3_3 : w5.cell? ⟨w4.heap.size, 3, none⟩ = some (.int .i64 r3) := (hb5.cell (p := ⟨w4.heap.size, 3, none⟩) (by simp)).trans (by simp [go_sem])
                    have l3 : w4.heap.size < w5.heap.size := by have := hb5.size; simp at this; omega
                    replace fs0 : w5.cell? ⟨w.heap.size, 0, none⟩ = some (.int .i64 a) := (hx.cell (p := ⟨w.heap.size, 0, none⟩) ls).trans fs0
                    replace fs1 : w5.cell? ⟨w.heap.size, 1, none⟩ = some (.int .i64 b) := (hx.cell (p := ⟨w.heap.size, 1, none⟩) ls).trans fs1
                    replace fs2 : w5.cell? ⟨w.heap.size, 2, none⟩ = some (.int .i64 c) := (hx.cell (p := ⟨w.heap.size, 2, none⟩) ls).trans fs2
                    replace fs3 : w5.cell? ⟨w.heap.size, 3, none⟩ = some (.int .i64 d) := (hx.cell (p := ⟨w.heap.size, 3, none⟩) ls).trans fs3
                    replace fv0 : w5.cell? ⟨wH.heap.size, 0, none⟩ = some (.int .i64 x) := (hx.cell (p := ⟨wH.heap.size, 0, none⟩) lv).trans fv0
                    replace fv1 : w5.cell? ⟨wH.heap.size, 1, none⟩ = some (.int .i64 y) := (hx.cell (p := ⟨wH.heap.size, 1, none⟩) lv).trans fv1
                    replace fv2 : w5.cell? ⟨wH.heap.size, 2, none⟩ = some (.int .i64 x) := (hx.cell (p := ⟨wH.heap.size, 2, none⟩) lv).trans fv2
                    replace fv3 : w5.cell? ⟨wH.heap.size, 3, none⟩ = some (.int .i64 y) := (hx.cell (p := ⟨wH.heap.size, 3, none⟩) lv).trans fv3
                    replace f1_0 : w5.cell? ⟨w1.heap.size, 0, none⟩ = some (.int .i64 q0) := (hx.cell (p := ⟨w1.heap.size, 0, none⟩) l1).trans f1_0
                    replace f1_1 : w5.cell? ⟨w1.heap.size, 1, none⟩ = some (.int .i64 q1) := (hx.cell (p := ⟨w1.heap.size, 1, none⟩) l1).trans f1_1
                    replace f1_2 : w5.cell? ⟨w1.heap.size, 2, none⟩ = some (.int .i64 q2) := (hx.cell (p := ⟨w1.heap.size, 2, none⟩) l1).trans f1_2
                    replace f1_3 : w5.cell? ⟨w1.heap.size, 3, none⟩ = some (.int .i64 q3) := (hx.cell (p := ⟨w1.heap.size, 3, none⟩) l1).trans f1_3
                    replace f2_0 : w5.cell? ⟨w2.heap.size, 0, none⟩ = some (.int .i64 0) := (hx.cell (p := ⟨w2.heap.size, 0, none⟩) l2).trans f2_0
                    replace f2_1 : w5.cell? ⟨w2.heap.size, 1, none⟩ = some (.int .i64 0) := (hx.cell (p := ⟨w2.heap.size, 1, none⟩) l2).trans f2_1
                    replace f2_2 : w5.cell? ⟨w2.heap.size, 2, none⟩ = some (.int .i64 0) := (hx.cell (p := ⟨w2.heap.size, 2, none⟩) l2).trans f2_2
                    replace f2_3 : w5.cell? ⟨w2.heap.size, 3, none⟩ = some (.int .i64 0) := (hx.cell (p := ⟨w2.heap.size, 3, none⟩) l2).trans f2_3
                    replace ls : w.heap.size < w5.heap.size := Nat.lt_of_lt_of_le ls hx.size
                    replace lv : wH.heap.size < w5.heap.size := Nat.lt_of_lt_of_le lv hx.size
                    replace l1 : w1.heap.size < w5.heap.size := Nat.lt_of_lt_of_le l1 hx.size
                    replace l2 : w2.heap.size < w5.heap.size := Nat.lt_of_lt_of_le l2 hx.size
                    replace hsl := hsl.next hx
                    replace hst := hst.next hx
                    replace hbel : Below w.heap.size w w5 := hbel.trans (hx.mono hbel.size)
                    clear hx
                    clear hb5
                    go_wp2_with fail
                    refine (In_any a b r0 r1 r2 r3 true HI1.out (by omega) (by omega) (by omega) (by omega) (by omega) (by omega) (by omega) (by omega) (by omega) (by omega) (by omega) (by omega) _).mono ?_
                    rintro e w6 ⟨rfl, hb6⟩
                    replace fs0 : w6.cell? ⟨w.heap.size, 0, none⟩ = some (.int .i64 a) := (hb6.cell (p := ⟨w.heap.size, 0, none⟩) ls).trans fs0
                    replace fs1 : w6.cell? ⟨w.heap.size, 1, none⟩ = some (.int .i64 b) := (hb6.cell (p := ⟨w.heap.size, 1, none⟩) ls).trans fs1
                    replace fs2 : w6.cell? ⟨w.heap.size, 2, none⟩ = some (.int .i64 c) := (hb6.cell (p := ⟨w.heap.size, 2, none⟩) ls).trans fs2
                    replace fs3 : w6.cell? ⟨w.heap.size, 3, none⟩ = some (.int .i64 d) := (hb6.cell (p := ⟨w.heap.size, 3, none⟩) ls).trans fs3
                    replace fv0 : w6.cell? ⟨wH.heap.size, 0, none⟩ = some (.int .i64 x) := (hb6.cell (p := ⟨wH.heap.size, 0, none⟩) lv).trans fv0
                    replace fv1 : w6.cell? ⟨wH.heap.size, 1, none⟩ = some (.int .i64 y) := (hb6.cell (p := ⟨wH.heap.size, 1, none⟩) lv).trans fv1
                    replace fv2 : w6.cell? ⟨wH.heap.size, 2, none⟩ = some (.int .i64 x) := (hb6.cell (p := ⟨wH.heap.size, 2, none⟩) lv).trans fv2
                    replace fv3 : w6.cell? ⟨wH.heap.size, 3, none⟩ = some (.int .i64 y) := (hb6.cell (p := ⟨wH.heap.size, 3, none⟩) lv).trans fv3
                    replace f1_0 : w6.cell? ⟨w1.heap.size, 0, none⟩ = some (.int .i64 q0) := (hb6.cell (p := ⟨w1.heap.size, 0, none⟩) l1).trans f1_0
                    replace f1_1 : w6.cell? ⟨w1.heap.size, 1, none⟩ = some (.int .i64 q1) := (hb6.cell (p := ⟨w1.heap.size, 1, none⟩) l1).trans f1_1
                    replace f1_2 : w6.cell? ⟨w1.heap.size, 2, none⟩ = some (.int .i64 q2) := (hb6.cell (p := ⟨w1.heap.size, 2, none⟩) l1).trans f1_2
                    replace f1_3 : w6.cell? ⟨w1.heap.size, 3, none⟩ = some (.int .i64 q3) := (hb6.cell (p := ⟨w1.heap.size, 3, none⟩) l1).trans f1_3
                    replace f2_0 : w6.cell? ⟨w2.heap.size, 0, none⟩ = some (.int .i64 0) := (hb6.cell (p := ⟨w2.heap.size, 0, none⟩) l2).trans f2_0
                    replace f2_1 : w6.cell? ⟨w2.heap.size, 1, none⟩ = some (.int .i64 0) := (hb6.cell (p := ⟨w2.heap.size, 1, none⟩) l2).trans f2_1
                    replace f2_2 : w6.cell? ⟨w2.heap.size, 2, none⟩ = some (.int .i64 0) := (hb6.cell (p := ⟨w2.heap.size, 2, none⟩) l2).trans f2_2
                    replace f2_3 : w6.cell? ⟨w2.heap.size, 3, none⟩ = some (.int .i64 0) := (hb6.cell (p := ⟨w2.heap.size, 3, none⟩) l2).trans f2_3
                    replace f3_0 : w6.cell? ⟨w4.heap.size, 0, none⟩ = some (.int .i64 r0) := (hb6.cell (p := ⟨w4.heap.size, 0, none⟩) l3).trans f3_0
                    replace f3_1 : w6.cell? ⟨w4.heap.size, 1, none⟩ = some (.int .i64 r1) := (hb6.cell (p := ⟨w4.heap.size, 1, none⟩) l3).trans f3_1
                    replace f3_2 : w6.cell? ⟨w4.heap.size, 2, none⟩ = some (.int .i64 r2) := (hb6.cell (p := ⟨w4.heap.size, 2, none⟩) l3).trans f3_2
                    replace f3_3 : w6.cell? ⟨w4.heap.size, 3, none⟩ = some (.int .i64 r3) := (hb6.cell (p := ⟨w4.heap.size, 3, none⟩) l3).trans f3_3
                    replace ls : w.heap.size < w6.heap.size := Nat.lt_of_lt_of_le ls hb6.size
                    replace lv : wH.heap.size < w6.heap.size := Nat.lt_of_lt_of_le lv hb6.size
                    replace l1 : w1.heap.size < w6.heap.size := Nat.lt_of_lt_of_le l1 hb6.size
                    replace l2 : w2.heap.size < w6.heap.size := Nat.lt_of_lt_of_le l2 hb6.size
                    replace l3 : w4.heap.size < w6.heap.size := Nat.lt_of_lt_of_le l3 hb6.size
                    replace hsl := hsl.next hb6
                    replace hst := hst.next hb6
                    replace hbel : Below w.heap.size w w6 := hbel.trans (hb6.mono hbel.size)
                    clear hb6
                    go_wp2_with fail
                    refine (In_any c d r0 r1 r2 r3 true HI3.out (by omega) (by omega) (by omega) (by omega) (by omega) (by omega) (by omega) (by omega) (by omega) (by omega) (by omega) (by omega) _).mono ?_
                    rintro e w7 ⟨rfl, hb7⟩
                    replace fs0 : w7.cell? ⟨w.heap.size, 0, none⟩ = some (.int .i64 a) := (hb7.cell (p := ⟨w.heap.size, 0, none⟩) ls).trans fs0
                    replace fs1 : w7.cell? ⟨w.heap.size, 1, none⟩ = some (.int .i64 b) := (hb7.cell (p := ⟨w.heap.size, 1, none⟩) ls).trans fs1
                    replace fs2 : w7.cell? ⟨w.heap.size, 2, none⟩ = some (.int .i64 c) := (hb7.cell (p := ⟨w.heap.size, 2, none⟩) ls).trans fs2
                    replace fs3 : w7.cell? ⟨w.heap.size, 3, none⟩ = some (.int .i64 d) := (hb7.cell (p := ⟨w.heap.size, 3, none⟩) ls).trans fs3
                    replace fv0 : w7.cell? ⟨wH.heap.size, 0, none⟩ = some (.int .i64 x) := (hb7.cell (p := ⟨wH.heap.size, 0, none⟩) lv).trans fv0
                    replace fv1 : w7.cell? ⟨wH.heap.size, 1, none⟩ = some (.int .i64 y) := (hb7.cell (p := ⟨wH.heap.size, 1, none⟩) lv).trans fv1
                    replace fv2 : w7.cell? ⟨wH.heap.size, 2, none⟩ = some (.int .i64 x) := (hb7.cell (p := ⟨wH.heap.size, 2, none⟩) lv).trans fv2
                    replace fv3 : w7.cell? ⟨wH.heap.size, 3, none⟩ = some (.int .i64 y) := (hb7.cell (p := ⟨wH.heap.size, 3, none⟩) lv).trans fv3
                    replace f1_0 : w7.cell? ⟨w1.heap.size, 0, none⟩ = some (.int .i64 q0) := (hb7.cell (p := ⟨w1.heap.size, 0, none⟩) l1).trans f1_0
                    replace f1_1 : w7.cell? ⟨w1.heap.size, 1, none⟩ = some (.int .i64 q1) := (hb7.cell (p := ⟨w1.heap.size, 1, none⟩) l1).trans f1_1
                    replace f1_2 : w7.cell? ⟨w1.heap.size, 2, none⟩ = some (.int .i64 q2) := (hb7.cell (p := ⟨w1.heap.size, 2, none⟩) l1).trans f1_2
                    replace f1_3 : w7.cell? ⟨w1.heap.size, 3, none⟩ = some (.int .i64 q3) := (hb7.cell (p := ⟨w1.heap.size, 3, none⟩) l1).trans f1_3
                    replace f2_0 : w7.cell? ⟨w2.heap.size, 0, none⟩ = some (.int .i64 0) := (hb7.cell (p := ⟨w2.heap.size, 0, none⟩) l2).trans f2_0
                    replace f2_1 : w7.cell? ⟨w2.heap.size, 1, none⟩ = some (.int .i64 0) := (hb7.cell (p := ⟨w2.heap.size, 1, none⟩) l2).trans f2_1
                    replace f2_2 : w7.cell? ⟨w2.heap.size, 2, none⟩ = some (.int .i64 0) := (hb7.cell (p := ⟨w2.heap.size, 2, none⟩) l2).trans f2_2
                    replace f2_3 : w7.cell? ⟨w2.heap.size, 3, none⟩ = some (.int .i64 0) := (hb7.cell (p := ⟨w2.heap.size, 3, none⟩) l2).trans f2_3
                    replace f3_0 : w7.cell? ⟨w4.heap.size, 0, none⟩ = some (.int .i64 r0) := (hb7.cell (p := ⟨w4.heap.size, 0, none⟩) l3).trans f3_0
                    replace f3_1 : w7.cell? ⟨w4.heap.size, 1, none⟩ = some (.int .i64 r1) := (hb7.cell (p := ⟨w4.heap.size, 1, none⟩) l3).trans f3_1
                    replace f3_2 : w7.cell? ⟨w4.heap.size, 2, none⟩ = some (.int .i64 r2) := (hb7.cell (p := ⟨w4.heap.size, 2, none⟩) l3).trans f3_2
                    replace f3_3 : w7.cell? ⟨w4.heap.size, 3, none⟩ = some (.int .i64 r3) := (hb7.cell (p := ⟨w4.heap.size, 3, none⟩) l3).trans f3_3
                    replace ls : w.heap.size < w7.heap.size := Nat.lt_of_lt_of_le ls hb7.size
                    replace lv : wH.heap.size < w7.heap.size := Nat.lt_of_lt_of_le lv hb7.size
                    replace l1 : w1.heap.size < w7.heap.size := Nat.lt_of_lt_of_le l1 hb7.size
                    replace l2 : w2.heap.size < w7.heap.size := Nat.lt_of_lt_of_le l2 hb7.size
                    replace l3 : w4.heap.size < w7.heap.size := Nat.lt_of_lt_of_le l3 hb7.size
                    replace hsl := hsl.next hb7
                    replace hst := hst.next hb7
                    replace hbel : Below w.heap.size w w7 := hbel.trans (hb7.mono hbel.size)
                    clear hb7
                    cases eb with
                    | false =>
                      go_wp2_with fail
                      refine (Works_any _).mono ?_
                      rintro e w8 ⟨rfl, hb8⟩
                      replace fs0 : w8.cell? ⟨w.heap.size, 0, none⟩ = some (.int .i64 a) := (hb8.cell (p := ⟨w.heap.size, 0, none⟩) ls).trans fs0
                      replace fs1 : w8.cell? ⟨w.heap.size, 1, none⟩ = some (.int .i64 b) := (hb8.cell (p := ⟨w.heap.size, 1, none⟩) ls).trans fs1
                      replace fs2 : w8.cell? ⟨w.heap.size, 2, none⟩ = some (.int .i64 c) := (hb8.cell (p := ⟨w.heap.size, 2, none⟩) ls).trans fs2
                      replace fs3 : w8.cell? ⟨w.heap.size, 3, none⟩ = some (.int .i64 d) := (hb8.cell (p := ⟨w.heap.size, 3, none⟩) ls).trans fs3
                      replace fv0 : w8.cell? ⟨wH.heap.size, 0, none⟩ = some (.int .i64 x) := (hb8.cell (p := ⟨wH.heap.size, 0, none⟩) lv).trans fv0
                      replace fv1 : w8.cell? ⟨wH.heap.size, 1, none⟩ = some (.int .i64 y) := (hb8.cell (p := ⟨wH.heap.size, 1, none⟩) lv).trans fv1
                      replace fv2 : w8.cell? ⟨wH.heap.size, 2, none⟩ = some (.int .i64 x) := (hb8.cell (p := ⟨wH.heap.size, 2, none⟩) lv).trans fv2
                      replace fv3 : w8.cell? ⟨wH.heap.size, 3, none⟩ = some (.int .i64 y) := (hb8.cell (p := ⟨wH.heap.size, 3, none⟩) lv).trans fv3
                      replace f1_0 : w8.cell? ⟨w1.heap.size, 0, none⟩ = some (.int .i64 q0) := (hb8.cell (p := ⟨w1.heap.size, 0, none⟩) l1).trans f1_0
                      replace f1_1 : w8.cell? ⟨w1.heap.size, 1, none⟩ = some (.int .i64 q1) := (hb8.cell (p := ⟨w1.heap.size, 1, none⟩) l1).trans f1_1
                      replace f1_2 : w8.cell? ⟨w1.heap.size, 2, none⟩ = some (.int .i64 q2) := (hb8.cell (p := ⟨w1.heap.size, 2, none⟩) l1).trans f1_2
                      replace f1_3 : w8.cell? ⟨w1.heap.size, 3, none⟩ = some (.int .i64 q3) := (hb8.cell (p := ⟨w1.heap.size, 3, none⟩) l1).trans f1_3
                      replace f2_0 : w8.cell? ⟨w2.heap.size, 0, none⟩ = some (.int .i64 0) := (hb8.cell (p := ⟨w2.heap.size, 0, none⟩) l2).trans f2_0
                      replace f2_1 : w8.cell? ⟨w2.heap.size, 1, none⟩ = some (.int .i64 0) := (hb8.cell (p := ⟨w2.heap.size, 1, none⟩) l2).trans f2_1
                      replace f2_2 : w8.cell? ⟨w2.heap.size, 2, none⟩ = some (.int .i64 0) := (hb8.cell (p := ⟨w2.heap.size, 2, none⟩) l2).trans f2_2
                      replace f2_3 : w8.cell? ⟨w2.heap.size, 3, none⟩ = some (.int .i64 0) := (hb8.cell (p := ⟨w2.heap.size, 3, none⟩) l2).trans f2_3
                      replace f3_0 : w8.cell? ⟨w4.heap.size, 0, none⟩ = some (.int .i64 r0) := (hb8.cell (p := ⟨w4.heap.size, 0, none⟩) l3).trans f3_0
                      replace f3_1 : w8.cell? ⟨w4.heap.size, 1, none⟩ = some (.int .i64 r1) := (hb8.cell (p := ⟨w4.heap.size, 1, none⟩) l3).trans f3_1
                      replace f3_2 : w8.cell? ⟨w4.heap.size, 2, none⟩ = some (.int .i64 r2) := (hb8.cell (p := ⟨w4.heap.size, 2, none⟩) l3).trans f3_2
                      replace f3_3 : w8.cell? ⟨w4.heap.size, 3, none⟩ = some (.int .i64 r3) := (hb8.cell (p := ⟨w4.heap.size, 3, none⟩) l3).trans f3_3
                      replace ls : w.heap.size < w8.heap.size := Nat.lt_of_lt_of_le ls hb8.size
                      replace lv : wH.heap.size < w8.heap.size := Nat.lt_of_lt_of_le lv hb8.size
                      replace l1 : w1.heap.size < w8.heap.size := Nat.lt_of_lt_of_le l1 hb8.size
                      replace l2 : w2.heap.size < w8.heap.size := Nat.lt_of_lt_of_le l2 hb8.size
                      replace l3 : w4.heap.size < w8.heap.size := Nat.lt_of_lt_of_le l3 hb8.size
                      replace hsl := hsl.next hb8
                      replace hst := hst.next hb8
                      replace hbel : Below w.heap.size w w8 := hbel.trans (hb8.mono hbel.size)
                      clear hb8
                      go_wp2_with fail
                      go_ret
                      exact ⟨rfl, hbel⟩
                    | true =>
                      obtain ⟨rfl, rfl, rfl, rfl⟩ : a = r0 ∧ b = r1 ∧ c = r2 ∧ d = r3 := by have := HX4.out rfl; simpa [eq_comm] using this
                      clear HX4
                      go_wp2_with fail
                      refine (Works_any _).mono ?_
                      rintro e w8 ⟨rfl, hb8⟩
                      replace fs0 : w8.cell? ⟨w.heap.size, 0, none⟩ = some (.int .i64 a) := (hb8.cell (p := ⟨w.heap.size, 0, none⟩) ls).trans fs0
                      replace fs1 : w8.cell? ⟨w.heap.size, 1, none⟩ = some (.int .i64 b) := (hb8.cell (p := ⟨w.heap.size, 1, none⟩) ls).trans fs1
                      replace fs2 : w8.cell? ⟨w.heap.size, 2, none⟩ = some (.int .i64 c) := (hb8.cell (p := ⟨w.heap.size, 2, none⟩) ls).trans fs2
                      replace fs3 : w8.cell? ⟨w.heap.size, 3, none⟩ = some (.int .i64 d) := (hb8.cell (p := ⟨w.heap.size, 3, none⟩) ls).trans fs3
                      replace fv0 : w8.cell? ⟨wH.heap.size, 0, none⟩ = some (.int .i64 x) := (hb8.cell (p := ⟨wH.heap.size, 0, none⟩) lv).trans fv0
                      replace fv1 : w8.cell? ⟨wH.heap.size, 1, none⟩ = some (.int .i64 y) := (hb8.cell (p := ⟨wH.heap.size, 1, none⟩) lv).trans fv1
                      replace fv2 : w8.cell? ⟨wH.heap.size, 2, none⟩ = some (.int .i64 x) := (hb8.cell (p := ⟨wH.heap.size, 2, none⟩) lv).trans fv2
                      replace fv3 : w8.cell? ⟨wH.heap.size, 3, none⟩ = some (.int .i64 y) := (hb8.cell (p := ⟨wH.heap.size, 3, none⟩) lv).trans fv3
                      replace f1_0 : w8.cell? ⟨w1.heap.size, 0, none⟩ = some (.int .i64 q0) := (hb8.cell (p := ⟨w1.heap.size, 0, none⟩) l1).trans f1_0
                      replace f1_1 : w8.cell? ⟨w1.heap.size, 1, none⟩ = some (.int .i64 q1) := (hb8.cell (p := ⟨w1.heap.size, 1, none⟩) l1).trans f1_1
                      replace f1_2 : w8.cell? ⟨w1.heap.size, 2, none⟩ = some (.int .i64 q2) := (hb8.cell (p := ⟨w1.heap.size, 2, none⟩) l1).trans f1_2
                      replace f1_3 : w8.cell? ⟨w1.heap.size, 3, none⟩ = some (.int .i64 q3) := (hb8.cell (p := ⟨w1.heap.size, 3, none⟩) l1).trans f1_3
                      replace f2_0 : w8.cell? ⟨w2.heap.size, 0, none⟩ = some (.int .i64 0) := (hb8.cell (p := ⟨w2.heap.size, 0, none⟩) l2).trans f2_0
                      replace f2_1 : w8.cell? ⟨w2.heap.size, 1, none⟩ = some (.int .i64 0) := (hb8.cell (p := ⟨w2.heap.size, 1, none⟩) l2).trans f2_1
                      replace f2_2 : w8.cell? ⟨w2.heap.size, 2, none⟩ = some (.int .i64 0) := (hb8.cell (p := ⟨w2.heap.size, 2, none⟩) l2).trans f2_2
                      replace f2_3 : w8.cell? ⟨w2.heap.size, 3, none⟩ = some (.int .i64 0) := (hb8.cell (p := ⟨w2.heap.size, 3, none⟩) l2).trans f2_3
                      replace f3_0 : w8.cell? ⟨w4.heap.size, 0, none⟩ = some (.int .i64 a) := (hb8.cell (p := ⟨w4.heap.size, 0, none⟩) l3).trans f3_0
                      replace f3_1 : w8.cell? ⟨w4.heap.size, 1, none⟩ = some (.int .i64 b) := (hb8.cell (p := ⟨w4.heap.size, 1, none⟩) l3).trans f3_1
                      replace f3_2 : w8.cell? ⟨w4.heap.size, 2, none⟩ = some (.int .i64 c) := (hb8.cell (p := ⟨w4.heap.size, 2, none⟩) l3).trans f3_2
                      replace f3_3 : w8.cell? ⟨w4.heap.size, 3, none⟩ = some (.int .i64 d) := (hb8.cell (p := ⟨w4.heap.size, 3, none⟩) l3).trans f3_3
                      replace ls : w.heap.size < w8.heap.size := Nat.lt_of_lt_of_le ls hb8.size
                      replace lv : wH.heap.size < w8.heap.size := Nat.lt_of_lt_of_le lv hb8.size
                      replace l1 : w1.heap.size < w8.heap.size := Nat.lt_of_lt_of_le l1 hb8.size
                      replace l2 : w2.heap.size < w8.heap.size := Nat.lt_of_lt_of_le l2 hb8.size
                      replace l3 : w4.heap.size < w8.heap.size := Nat.lt_of_lt_of_le l3 hb8.size
                      replace hsl := hsl.next hb8
                      replace hst := hst.next hb8
                      replace hbel : Below w.heap.size w w8 := hbel.trans (hb8.mono hbel.size)
                      clear hb8
                      go_wp2_with fail
                      go_ret
                      exact ⟨rfl, hbel⟩
                · obtain ⟨⟨z1, z2⟩, rfl, hz⟩ := carryL_in L T (a, b, c, d) (q0, q1, q2, q3) (x, y) u HS.out HLs.out HIx.out HLEN.out (fun i p t h1 h2 => (hT.out i p t h1 h2).1) HCA.out hcv
                  have HU : Hid (resC (x, y, x, y) (T.map ptS) (carryL (x, y, x, y) (T.map ptS)) = ((z1, z2, z1, z2), 0)) := Lib.hid (by unfold resC; rw [if_pos HCT.out, hcv]; rfl)
                  have HZb : Hid (decide (Sp z1 z2 z1 z2) = true) := Lib.hid (decide_eq_true ⟨hz.1, hz.1, Int.le_refl _⟩)
                  have HIz : Hid (decide (q0 * z2 ≤ z1 * q1 ∧ z1 * q3 ≤ q2 * z2) = true) := Lib.hid (decide_eq_true hz.2)
                  obtain ⟨⟨n1, n2, n3, n4, _⟩, _⟩ := hz
                  simp only at n1 n2 n3 n4
                  clear hcv
                  go_wp2_with fail
                  refine (Carry_any (x, y, x, y) (T.map ptS) _ (z1, z2, z1, z2) 0 HU.out HTl.out _ (hst.next (below_alloc _ _))).mono ?_
                  rintro e w2 ⟨rfl, hb2⟩
                  have hx : Below w1.heap.size w1 w2 := (((Below.refl _ _).alloc (Nat.le_refl _) _) : Below w1.heap.size w1 (w1.alloc (.cells #[.int .i64 q0, .int .i64 q1, .int .i64 q2, .int .i64 q3] 25))).trans (hb2.mono (by simp))
                  have f1_0 : w2.cell? ⟨w1.heap.size, 0, none⟩ = some (.int .i64 q0) := (hb2.cell (p := ⟨w1.heap.size, 0, none⟩) (by simp)).trans (by simp [go_sem])
                  have f1_1 : w2.cell? ⟨w1.heap.size, 1, none⟩ = some (.int .i64 q1) := (hb2.cell (p := ⟨w1.heap.size, 1, none⟩) (by simp)).trans (by simp [go_sem])
                  have f1_2 : w2.cell? ⟨w1.heap.size, 2, none⟩ = some (.int .i64 q2) := (hb2.cell (p := ⟨w1.heap.size, 2, none⟩) (by simp)).trans (by simp [go_sem])
                  have f1_3 : w2.cell? ⟨w1.heap.size, 3, none⟩ = some (.int .i64 q3) := (hb2.cell (p := ⟨w1.heap.size, 3, none⟩) (by simp)).trans (by simp [go_sem])
                  have l1 : w1.heap.size < w2.heap.size := by have := hb2.size; simp at this; omega
                  replace fs0 : w2.cell? ⟨w.heap.size, 0, none⟩ = some (.int .i64 a) := (hx.cell (p := ⟨w.heap.size, 0, none⟩) ls).trans fs0
                  replace fs1 : w2.cell? ⟨w.heap.size, 1, none⟩ = some (.int .i64 b) := (hx.cell (p := ⟨w.heap.size, 1, none⟩) ls).trans fs1
                  replace fs2 : w2.cell? ⟨w.heap.size, 2, none⟩ = some (.int .i64 c) := (hx.cell (p := ⟨w.heap.size, 2, none⟩) ls).trans fs2
                  replace fs3 : w2.cell? ⟨w.heap.size, 3, none⟩ = some (.int .i64 d) := (hx.cell (p := ⟨w.heap.size, 3, none⟩) ls).trans fs3
                  replace fv0 : w2.cell? ⟨wH.heap.size, 0, none⟩ = some (.int .i64 x) := (hx.cell (p := ⟨wH.heap.size, 0, none⟩) lv).trans fv0
                  replace fv1 : w2.cell? ⟨wH.heap.size, 1, none⟩ = some (.int .i64 y) := (hx.cell (p := ⟨wH.heap.size, 1, none⟩) lv).trans fv1
                  replace fv2 : w2.cell? ⟨wH.heap.size, 2, none⟩ = some (.int .i64 x) := (hx.cell (p := ⟨wH.heap.size, 2, none⟩) lv).trans fv2
                  replace fv3 : w2.cell? ⟨wH.heap.size, 3, none⟩ = some (.int .i64 y) := (hx.cell (p := ⟨wH.heap.size, 3, none⟩) lv).trans fv3
                  replace ls : w.heap.size < w2.heap.size := Nat.lt_of_lt_of_le ls hx.size
                  replace lv : wH.heap.size < w2.heap.size := Nat.lt_of_lt_of_le lv hx.size
                  replace hsl := hsl.next hx
                  replace hst := hst.next hx
                  replace hbel : Below w.heap.size w w2 := hbel.trans (hx.mono hbel.size)
                  clear hx
                  clear hb2
                  go_wp2_with fail
                  refine (fine_any q0 q1 q2 q3 true HTb.out _).mono ?_
                  rintro e w3 ⟨rfl, hb3⟩
                  have hx : Below w2.heap.size w2 w3 := (((Below.refl _ _).alloc (Nat.le_refl _) _) : Below w2.heap.size w2 (w2.alloc (.cells #[.int .i64 z1, .int .i64 z2, .int .i64 z1, .int .i64 z2] 25))).trans (hb3.mono (by simp))
                  have f2_0 : w3.cell? ⟨w2.heap.size, 0, none⟩ = some (.int .i64 z1) := (hb3.cell (p := ⟨w2.heap.size, 0, none⟩) (by simp)).trans (by simp [go_sem])
                  have f2_1 : w3.cell? ⟨w2.heap.size, 1, none⟩ = some (.int .i64 z2) := (hb3.cell (p := ⟨w2.heap.size, 1, none⟩) (by simp)).trans (by simp [go_sem])
                  have f2_2 : w3.cell? ⟨w2.heap.size, 2, none⟩ = some (.int .i64 z1) := (hb3.cell (p := ⟨w2.heap.size, 2, none⟩) (by simp)).trans (by simp [go_sem])
                  have f2_3 : w3.cell? ⟨w2.heap.size, 3, none⟩ = some (.int .i64 z2) := (hb3.cell (p := ⟨w2.heap.size, 3, none⟩) (by simp)).trans (by simp [go_sem])
                  have l2 : w2.heap.size < w3.heap.size := by have := hb3.size; simp at this; omega
                  replace fs0 : w3.cell? ⟨w.heap.size, 0, none⟩ = some (.int .i64 a) := (hx.cell (p := ⟨w.heap.size, 0, none⟩) ls).trans fs0
                  replace fs1 : w3.cell? ⟨w.heap.size, 1, none⟩ = some (.int .i64 b) := (hx.cell (p := ⟨w.heap.size, 1, none⟩) ls).trans fs1
                  replace fs2 : w3.cell? ⟨w.heap.size, 2, none⟩ = some (.int .i64 c) := (hx.cell (p := ⟨w.heap.size, 2, none⟩) ls).trans fs2
                  replace fs3 : w3.cell? ⟨w.heap.size, 3, none⟩ = some (.int .i64 d) := (hx.cell (p := ⟨w.heap.size, 3, none⟩) ls).trans fs3
                  replace fv0 : w3.cell? ⟨wH.heap.size, 0, none⟩ = some (.int .i64 x) := (hx.cell (p := ⟨wH.heap.size, 0, none⟩) lv).trans fv0
                  replace fv1 : w3.cell? ⟨wH.heap.size, 1, none⟩ = some (.int .i64 y) := (hx.cell (p := ⟨wH.heap.size, 1, none⟩) lv).trans fv1
                  replace fv2 : w3.cell? ⟨wH.heap.size, 2, none⟩ = some (.int .i64 x) := (hx.cell (p := ⟨wH.heap.size, 2, none⟩) lv).trans fv2
                  replace fv3 : w3.cell? ⟨wH.heap.size, 3, none⟩ = some (.int .i64 y) := (hx.cell (p := ⟨wH.heap.size, 3, none⟩) lv).trans fv3
                  replace f1_0 : w3.cell? ⟨w1.heap.size, 0, none⟩ = some (.int .i64 q0) := (hx.cell (p := ⟨w1.heap.size, 0, none⟩) l1).trans f1_0
                  replace f1_1 : w3.cell? ⟨w1.heap.size, 1, none⟩ = some (.int .i64 q1) := (hx.cell (p := ⟨w1.heap.size, 1, none⟩) l1).trans f1_1
                  replace f1_2 : w3.cell? ⟨w1.heap.size, 2, none⟩ = some (.int .i64 q2) := (hx.cell (p := ⟨w1.heap.size, 2, none⟩) l1).trans f1_2
                  replace f1_3 : w3.cell? ⟨w1.heap.size, 3, none⟩ = some (.int .i64 q3) := (hx.cell (p := ⟨w1.heap.size, 3, none⟩) l1).trans f1_3
                  replace ls : w.heap.size < w3.heap.size := Nat.lt_of_lt_of_le ls hx.size
                  replace lv : wH.heap.size < w3.heap.size := Nat.lt_of_lt_of_le lv hx.size
                  replace l1 : w1.heap.size < w3.heap.size := Nat.lt_of_lt_of_le l1 hx.size
                  replace hsl := hsl.next hx
                  replace hst := hst.next hx
                  replace hbel : Below w.heap.size w w3 := hbel.trans (hx.mono hbel.size)
                  clear hx
                  clear hb3
                  go_wp2_with fail
                  refine (fine_any z1 z2 z1 z2 true HZb.out _).mono ?_
                  rintro e w4 ⟨rfl, hb4⟩
                  replace fs0 : w4.cell? ⟨w.heap.size, 0, none⟩ = some (.int .i64 a) := (hb4.cell (p := ⟨w.heap.size, 0, none⟩) ls).trans fs0
                  replace fs1 : w4.cell? ⟨w.heap.size, 1, none⟩ = some (.int .i64 b) := (hb4.cell (p := ⟨w.heap.size, 1, none⟩) ls).trans fs1
                  replace fs2 : w4.cell? ⟨w.heap.size, 2, none⟩ = some (.int .i64 c) := (hb4.cell (p := ⟨w.heap.size, 2, none⟩) ls).trans fs2
                  replace fs3 : w4.cell? ⟨w.heap.size, 3, none⟩ = some (.int .i64 d) := (hb4.cell (p := ⟨w.heap.size, 3, none⟩) ls).trans fs3
                  replace fv0 : w4.cell? ⟨wH.heap.size, 0, none⟩ = some (.int .i64 x) := (hb4.cell (p := ⟨wH.heap.size, 0, none⟩) lv).trans fv0
                  replace fv1 : w4.cell? ⟨wH.heap.size, 1, none⟩ = some (.int .i64 y) := (hb4.cell (p := ⟨wH.heap.size, 1, none⟩) lv).trans fv1
                  replace fv2 : w4.cell? ⟨wH.heap.size, 2, none⟩ = some (.int .i64 x) := (hb4.cell (p := ⟨wH.heap.size, 2, none⟩) lv).trans fv2
                  replace fv3 : w4.cell? ⟨wH.heap.size, 3, none⟩ = some (.int .i64 y) := (hb4.cell (p := ⟨wH.heap.size, 3, none⟩) lv).trans fv3
                  replace f1_0 : w4.cell? ⟨w1.heap.size, 0, none⟩ = some (.int .i64 q0) := (hb4.cell (p := ⟨w1.heap.size, 0, none⟩) l1).trans f1_0
                  replace f1_1 : w4.cell? ⟨w1.heap.size, 1, none⟩ = some (.int .i64 q1) := (hb4.cell (p := ⟨w1.heap.size, 1, none⟩) l1).trans f1_1
                  replace f1_2 : w4.cell? ⟨w1.heap.size, 2, none⟩ = some (.int .i64 q2) := (hb4.cell (p := ⟨w1.heap.size, 2, none⟩) l1).trans f1_2
                  replace f1_3 : w4.cell? ⟨w1.heap.size, 3, none⟩ = some (.int .i64 q3) := (hb4.cell (p := ⟨w1.heap.size, 3, none⟩) l1).trans f1_3
                  replace f2_0 : w4.cell? ⟨w2.heap.size, 0, none⟩ = some (.int .i64 z1) := (hb4.cell (p := ⟨w2.heap.size, 0, none⟩) l2).trans f2_0
                  replace f2_1 : w4.cell? ⟨w2.heap.size, 1, none⟩ = some (.int .i64 z2) := (hb4.cell (p := ⟨w2.heap.size, 1, none⟩) l2).trans f2_1
                  replace f2_2 : w4.cell? ⟨w2.heap.size, 2, none⟩ = some (.int .i64 z1) := (hb4.cell (p := ⟨w2.heap.size, 2, none⟩) l2).trans f2_2
                  replace f2_3 : w4.cell? ⟨w2.heap.size, 3, none⟩ = some (.int .i64 z2) := (hb4.cell (p := ⟨w2.heap.size, 3, none⟩) l2).trans f2_3
                  replace ls : w.heap.size < w4.heap.size := Nat.lt_of_lt_of_le ls hb4.size
                  replace lv : wH.heap.size < w4.heap.size := Nat.lt_of_lt_of_le lv hb4.size
                  replace l1 : w1.heap.size < w4.heap.size := Nat.lt_of_lt_of_le l1 hb4.size
                  replace l2 : w2.heap.size < w4.heap.size := Nat.lt_of_lt_of_le l2 hb4.size
                  replace hsl := hsl.next hb4
                  replace hst := hst.next hb4
                  replace hbel : Below w.heap.size w w4 := hbel.trans (hb4.mono hbel.size)
                  clear hb4
                  go_wp2_with fail
                  refine (In_any z1 z2 q0 q1 q2 q3 true HIz.out (by omega) (by omega) (by omega) (by omega) (by omega) (by omega) (by omega) (by omega) (by omega) (by omega) (by omega) (by omega) _).mono ?_
                  rintro e w5 ⟨rfl, hb5⟩
                  replace fs0 : w5.cell? ⟨w.heap.size, 0, none⟩ = some (.int .i64 a) := (hb5.cell (p := ⟨w.heap.size, 0, none⟩) ls).trans fs0
                  replace fs1 : w5.cell? ⟨w.heap.size, 1, none⟩ = some (.int .i64 b) := (hb5.cell (p := ⟨w.heap.size, 1, none⟩) ls).trans fs1
                  replace fs2 : w5.cell? ⟨w.heap.size, 2, none⟩ = some (.int .i64 c) := (hb5.cell (p := ⟨w.heap.size, 2, none⟩) ls).trans fs2
                  replace fs3 : w5.cell? ⟨w.heap.size, 3, none⟩ = some (.int .i64 d) := (hb5.cell (p := ⟨w.heap.size, 3, none⟩) ls).trans fs3
                  replace fv0 : w5.cell? ⟨wH.heap.size, 0, none⟩ = some (.int .i64 x) := (hb5.cell (p := ⟨wH.heap.size, 0, none⟩) lv).trans fv0
                  replace fv1 : w5.cell? ⟨wH.heap.size, 1, none⟩ = some (.int .i64 y) := (hb5.cell (p := ⟨wH.heap.size, 1, none⟩) lv).trans fv1
                  replace fv2 : w5.cell? ⟨wH.heap.size, 2, none⟩ = some (.int .i64 x) := (hb5.cell (p := ⟨wH.heap.size, 2, none⟩) lv).trans fv2
                  replace fv3 : w5.cell? ⟨wH.heap.size, 3, none⟩ = some (.int .i64 y) := (hb5.cell (p := ⟨wH.heap.size, 3, none⟩) lv).trans fv3
                  replace f1_0 : w5.cell? ⟨w1.heap.size, 0, none⟩ = some (.int .i64 q0) := (hb5.cell (p := ⟨w1.heap.size, 0, none⟩) l1).trans f1_0
                  replace f1_1 : w5.cell? ⟨w1.heap.size, 1, none⟩ = some (.int .i64 q1) := (hb5.cell (p := ⟨w1.heap.size, 1, none⟩) l1).trans f1_1
                  replace f1_2 : w5.cell? ⟨w1.heap.size, 2, none⟩ = some (.int .i64 q2) := (hb5.cell (p := ⟨w1.heap.size, 2, none⟩) l1).trans f1_2
                  replace f1_3 : w5.cell? ⟨w1.heap.size, 3, none⟩ = some (.int .i64 q3) := (hb5.cell (p := ⟨w1.heap.size, 3, none⟩) l1).trans f1_3
                  replace f2_0 : w5.cell? ⟨w2.heap.size, 0, none⟩ = some (.int .i64 z1) := (hb5.cell (p := ⟨w2.heap.size, 0, none⟩) l2).trans f2_0
                  replace f2_1 : w5.cell? ⟨w2.heap.size, 1, none⟩ = some (.int .i64 z2) := (hb5.cell (p := ⟨w2.heap.size, 1, none⟩) l2).trans f2_1
                  replace f2_2 : w5.cell? ⟨w2.heap.size, 2, none⟩ = some (.int .i64 z1) := (hb5.cell (p := ⟨w2.heap.size, 2, none⟩) l2).trans f2_2
                  replace f2_3 : w5.cell? ⟨w2.heap.size, 3, none⟩ = some (.int .i64 z2) := (hb5.cell (p := ⟨w2.heap.size, 3, none⟩) l2).trans f2_3
                  replace ls : w.heap.size < w5.heap.size := Nat.lt_of_lt_of_le ls hb5.size
                  replace lv : wH.heap.size < w5.heap.size := Nat.lt_of_lt_of_le lv hb5.size
                  replace l1 : w1.heap.size < w5.heap.size := Nat.lt_of_lt_of_le l1 hb5.size
                  replace l2 : w2.heap.size < w5.heap.size := Nat.lt_of_lt_of_le l2 hb5.size
                  replace hsl := hsl.next hb5
                  replace hst := hst.next hb5
                  replace hbel : Below w.heap.size w w5 := hbel.trans (hb5.mono hbel.size)
                  clear hb5
                  rcases hr : backL (q0, q1, q2, q3) L with _ | ⟨r0, r1, r2, r3⟩
                  · have HB : Hid (resC (q0, q1, q2, q3) L (backL (q0, q1, q2, q3) L) = ((0, 0, 0, 0), 4)) := Lib.hid (by unfold resC; rw [if_pos HC2.out, hr])
                    clear hr
                    go_wp2_with fail
                    refine (Back_any (q0, q1, q2, q3) L _ (0, 0, 0, 0) 4 HB.out (by omega) _ hsl).mono ?_
                    rintro e w6 ⟨rfl, hb6⟩
                    replace fs0 : w6.cell? ⟨w.heap.size, 0, none⟩ = some (.int .i64 a) := (hb6.cell (p := ⟨w.heap.size, 0, none⟩) ls).trans fs0
                    replace fs1 : w6.cell? ⟨w.heap.size, 1, none⟩ = some (.int .i64 b) := (hb6.cell (p := ⟨w.heap.size, 1, none⟩) ls).trans fs1
                    replace fs2 : w6.cell? ⟨w.heap.size, 2, none⟩ = some (.int .i64 c) := (hb6.cell (p := ⟨w.heap.size, 2, none⟩) ls).trans fs2
                    replace fs3 : w6.cell? ⟨w.heap.size, 3, none⟩ = some (.int .i64 d) := (hb6.cell (p := ⟨w.heap.size, 3, none⟩) ls).trans fs3
                    replace fv0 : w6.cell? ⟨wH.heap.size, 0, none⟩ = some (.int .i64 x) := (hb6.cell (p := ⟨wH.heap.size, 0, none⟩) lv).trans fv0
                    replace fv1 : w6.cell? ⟨wH.heap.size, 1, none⟩ = some (.int .i64 y) := (hb6.cell (p := ⟨wH.heap.size, 1, none⟩) lv).trans fv1
                    replace fv2 : w6.cell? ⟨wH.heap.size, 2, none⟩ = some (.int .i64 x) := (hb6.cell (p := ⟨wH.heap.size, 2, none⟩) lv).trans fv2
                    replace fv3 : w6.cell? ⟨wH.heap.size, 3, none⟩ = some (.int .i64 y) := (hb6.cell (p := ⟨wH.heap.size, 3, none⟩) lv).trans fv3
                    replace f1_0 : w6.cell? ⟨w1.heap.size, 0, none⟩ = some (.int .i64 q0) := (hb6.cell (p := ⟨w1.heap.size, 0, none⟩) l1).trans f1_0
                    replace f1_1 : w6.cell? ⟨w1.heap.size, 1, none⟩ = some (.int .i64 q1) := (hb6.cell (p := ⟨w1.heap.size, 1, none⟩) l1).trans f1_1
                    replace f1_2 : w6.cell? ⟨w1.heap.size, 2, none⟩ = some (.int .i64 q2) := (hb6.cell (p := ⟨w1.heap.size, 2, none⟩) l1).trans f1_2
                    replace f1_3 : w6.cell? ⟨w1.heap.size, 3, none⟩ = some (.int .i64 q3) := (hb6.cell (p := ⟨w1.heap.size, 3, none⟩) l1).trans f1_3
                    replace f2_0 : w6.cell? ⟨w2.heap.size, 0, none⟩ = some (.int .i64 z1) := (hb6.cell (p := ⟨w2.heap.size, 0, none⟩) l2).trans f2_0
                    replace f2_1 : w6.cell? ⟨w2.heap.size, 1, none⟩ = some (.int .i64 z2) := (hb6.cell (p := ⟨w2.heap.size, 1, none⟩) l2).trans f2_1
                    replace f2_2 : w6.cell? ⟨w2.heap.size, 2, none⟩ = some (.int .i64 z1) := (hb6.cell (p := ⟨w2.heap.size, 2, none⟩) l2).trans f2_2
                    replace f2_3 : w6.cell? ⟨w2.heap.size, 3, none⟩ = some (.int .i64 z2) := (hb6.cell (p := ⟨w2.heap.size, 3, none⟩) l2).trans f2_3
                    replace ls : w.heap.size < w6.heap.size := Nat.lt_of_lt_of_le ls hb6.size
                    replace lv : wH.heap.size < w6.heap.size := Nat.lt_of_lt_of_le lv hb6.size
                    replace l1 : w1.heap.size < w6.heap.size := Nat.lt_of_lt_of_le l1 hb6.size
                    replace l2 : w2.heap.size < w6.heap.size := Nat.lt_of_lt_of_le l2 hb6.size
                    replace hsl := hsl.next hb6
                    replace hst := hst.next hb6
                    replace hbel : Below w.heap.size w w6 := hbel.trans (hb6.mono hbel.size)
                    clear hb6
                    go_wp2_with fail
                    refine (Works_any _).mono ?_
                    rintro e w7 ⟨rfl, hb7⟩
                    have hx : Below w6.heap.size w6 w7 := (((Below.refl _ _).alloc (Nat.le_refl _) _) : Below w6.heap.size w6 (w6.alloc (.cells #[.int .i64 0, .int .i64 0, .int .i64 0, .int .i64 0] 25))).trans (hb7.mono (by simp))
                    have f3_0 : w7.cell? ⟨w6.heap.size, 0, none⟩ = some (.int .i64 0) := (hb7.cell (p := ⟨w6.heap.size, 0, none⟩) (by simp)).trans (by simp [go_sem])
                    have f3_1 : w7.cell? ⟨w6.heap.size, 1, none⟩ = some (.int .i64 0) := (hb7.cell (p := ⟨w6.heap.size, 1, none⟩) (by simp)).trans (by simp [go_sem])
                    have f3_2 : w7.cell? ⟨w6.heap.size, 2, none⟩ = some (.int .i64 0) := (hb7.cell (p := ⟨w6.heap.size, 2, none⟩) (by simp)).trans (by simp [go_sem])
                    have f3_3 : w7.cell? ⟨w6.heap.size, 3, none⟩ = some (.int .i64 0) := (hb7.cell (p := ⟨w6.heap.size, 3, none⟩) (by simp)).trans (by simp [go_sem])
                    have l3 : w6.heap.size < w7.heap.size := by have := hb7.size; simp at this; omega
                    replace fs0 : w7.cell? ⟨w.heap.size, 0, none⟩ = some (.int .i64 a) := (hx.cell (p := ⟨w.heap.size, 0, none⟩) ls).trans fs0
                    replace fs1 : w7.cell? ⟨w.heap.size, 1, none⟩ = some (.int .i64 b) := (hx.cell (p := ⟨w.heap.size, 1, none⟩) ls).trans fs1
                    replace fs2 : w7.cell? ⟨w.heap.size, 2, none⟩ = some (.int .i64 c) := (hx.cell (p := ⟨w.heap.size, 2, none⟩) ls).trans fs2
                    replace fs3 : w7.cell? ⟨w.heap.size, 3, none⟩ = some (.int .i64 d) := (hx.cell (p := ⟨w.heap.size, 3, none⟩) ls).trans fs3
                    replace fv0 : w7.cell? ⟨wH.heap.size, 0, none⟩ = some (.int .i64 x) := (hx.cell (p := ⟨wH.heap.size, 0, none⟩) lv).trans fv0
                    replace fv1 : w7.cell? ⟨wH.heap.size, 1, none⟩ = some (.int .i64 y) := (hx.cell (p := ⟨wH.heap.size, 1, none⟩) lv).trans fv1
                    replace fv2 : w7.cell? ⟨wH.heap.size, 2, none⟩ = some (.int .i64 x) := (hx.cell (p := ⟨wH.heap.size, 2, none⟩) lv).trans fv2
                    replace fv3 : w7.cell? ⟨wH.heap.size, 3, none⟩ = some (.int .i64 y) := (hx.cell (p := ⟨wH.heap.size, 3, none⟩) lv).trans fv3
                    replace f1_0 : w7.cell? ⟨w1.heap.size, 0, none⟩ = some (.int .i64 q0) := (hx.cell (p := ⟨w1.heap.size, 0, none⟩) l1).trans f1_0
                    replace f1_1 : w7.cell? ⟨w1.heap.size, 1, none⟩ = some (.int .i64 q1) := (hx.cell (p := ⟨w1.heap.size, 1, none⟩) l1).trans f1_1
                    replace f1_2 : w7.cell? ⟨w1.heap.size, 2, none⟩ = some (.int .i64 q2) := (hx.cell (p := ⟨w1.heap.size, 2, none⟩) l1).trans f1_2
                    replace f1_3 : w7.cell? ⟨w1.heap.size, 3, none⟩ = some (.int .i64 q3) := (hx.cell (p := ⟨w1.heap.size, 3, none⟩) l1).trans f1_3
                    replace f2_0 : w7.cell? ⟨w2.heap.size, 0, none⟩ = some (.int .i64 z1) := (hx.cell (p := ⟨w2.heap.size, 0, none⟩) l2).trans f2_0
                    replace f2_1 : w7.cell? ⟨w2.heap.size, 1, none⟩ = some (.int .i64 z2) := (hx.cell (p := ⟨w2.heap.size, 1, none⟩) l2).trans f2_1
                    replace f2_2 : w7.cell? ⟨w2.heap.size, 2, none⟩ = some (.int .i64 z1) := (hx.cell (p := ⟨w2.heap.size, 2, none⟩) l2).trans f2_2
                    replace f2_3 : w7.cell? ⟨w2.heap.size, 3, none⟩ = some (.int .i64 z2) := (hx.cell (p := ⟨w2.heap.size, 3, none⟩) l2).trans f2_3
                    replace ls : w.heap.size < w7.heap.size := Nat.lt_of_lt_of_le ls hx.size
                    replace lv : wH.heap.size < w7.heap.size := Nat.lt_of_lt_of_le lv hx.size
                    replace l1 : w1.heap.size < w7.heap.size := Nat.lt_of_lt_of_le l1 hx.size
                    replace l2 : w2.heap.size < w7.heap.size := Nat.lt_of_lt_of_le l2 hx.size
                    replace hsl := hsl.next hx
                    replace hst := hst.next hx
                    replace hbel : Below w.heap.size w w7 := hbel.trans (hx.mono hbel.size)
                    clear hx
                    clear hb7
                    go_wp2_with fail
                    go_ret
                    exact ⟨rfl, hbel⟩
                  · have HB : Hid (resC (q0, q1, q2, q3) L (backL (q0, q1, q2, q3) L) = ((r0, r1, r2, r3), 0)) := Lib.hid (by unfold resC; rw [if_pos HC2.out, hr])
                    obtain ⟨g1, g2, g3, g4⟩ := carry_back L (a, b, c, d) (q0, q1, q2, q3) (r0, r1, r2, r3) HS.out HLs.out HCA.out hr
                    clear hr
                    simp only at g2 g3
                    have hru : Sp r0 r1 r2 r3 := ⟨g1.1, g1.2, frac_le g2 HS.out.2.2 g3 HS.out.1.2.2.1 HS.out.2.1.2.2.1 g1.1.2.2.1 g1.2.2.2.1⟩
                    have HRb := Lib.hid (decide_eq_true hru)
                    have HI1 : Hid (decide (r0 * b ≤ a * r1 ∧ a * r3 ≤ r2 * b) = true) := Lib.hid (decide_eq_true ⟨g2, frac_le' HS.out.2.2 g3 HS.out.1.2.2.1 HS.out.2.1.2.2.1 g1.2.2.2.1⟩)
                    have HI3 : Hid (decide (r0 * d ≤ c * r1 ∧ c * r3 ≤ r2 * d) = true) := Lib.hid (decide_eq_true ⟨frac_le' g2 HS.out.2.2 g1.1.2.2.1 HS.out.1.2.2.1 HS.out.2.1.2.2.1, g3⟩)
                    have HX4 : Hid (eb = true → (r0, r1, r2, r3) = (a, b, c, d)) := Lib.hid (fun he => g4 (fun t ht => by
                      obtain ⟨i, hi, rfl⟩ := List.getElem_of_mem ht
                      exact hex.out.1 he i _ (by omega) (List.getElem?_eq_getElem hi)))
                    obtain ⟨⟨w01, w02, w03, w04, _⟩, w05, w06, w07, w08, _⟩ := g1
                    simp only at w01 w02 w03 w04 w05 w06 w07 w08
                    clear g2 g3 g4 hru
                    go_wp2_with fail
                    refine (Back_any (q0, q1, q2, q3) L _ (r0, r1, r2, r3) 0 HB.out (by omega) _ hsl).mono ?_
                    rintro e w6 ⟨rfl, hb6⟩
                    replace fs0 : w6.cell? ⟨w.heap.size, 0, none⟩ = some (.int .i64 a) := (hb6.cell (p := ⟨w.heap.size, 0, none⟩) ls).trans fs0
                    replace fs1 : w6.cell? ⟨w.heap.size, 1, none⟩ = some (.int .i64 b) := (hb6.cell (p := ⟨w.heap.size, 1, none⟩) ls).trans fs1
                    replace fs2 : w6.cell? ⟨w.heap.size, 2, none⟩ = some (.int .i64 c) := (hb6.cell (p := ⟨w.heap.size, 2, none⟩) ls).trans fs2
                    replace fs3 : w6.cell? ⟨w.heap.size, 3, none⟩ = some (.int .i64 d) := (hb6.cell (p := ⟨w.heap.size, 3, none⟩) ls).trans fs3
                    replace fv0 : w6.cell? ⟨wH.heap.size, 0, none⟩ = some (.int .i64 x) := (hb6.cell (p := ⟨wH.heap.size, 0, none⟩) lv).trans fv0
                    replace fv1 : w6.cell? ⟨wH.heap.size, 1, none⟩ = some (.int .i64 y) := (hb6.cell (p := ⟨wH.heap.size, 1, none⟩) lv).trans fv1
                    replace fv2 : w6.cell? ⟨wH.heap.size, 2, none⟩ = some (.int .i64 x) := (hb6.cell (p := ⟨wH.heap.size, 2, none⟩) lv).trans fv2
                    replace fv3 : w6.cell? ⟨wH.heap.size, 3, none⟩ = some (.int .i64 y) := (hb6.cell (p := ⟨wH.heap.size, 3, none⟩) lv).trans fv3
                    replace f1_0 : w6.cell? ⟨w1.heap.size, 0, none⟩ = some (.int .i64 q0) := (hb6.cell (p := ⟨w1.heap.size, 0, none⟩) l1).trans f1_0
                    replace f1_1 : w6.cell? ⟨w1.heap.size, 1, none⟩ = some (.int .i64 q1) := (hb6.cell (p := ⟨w1.heap.size, 1, none⟩) l1).trans f1_1
                    replace f1_2 : w6.cell? ⟨w1.heap.size, 2, none⟩ = some (.int .i64 q2) := (hb6.cell (p := ⟨w1.heap.size, 2, none⟩) l1).trans f1_2
                    replace f1_3 : w6.cell? ⟨w1.heap.size, 3, none⟩ = some (.int .i64 q3) := (hb6.cell (p := ⟨w1.heap.size, 3, none⟩) l1).trans f1_3
                    replace f2_0 : w6.cell? ⟨w2.heap.size, 0, none⟩ = some (.int .i64 z1) := (hb6.cell (p := ⟨w2.heap.size, 0, none⟩) l2).trans f2_0
                    replace f2_1 : w6.cell? ⟨w2.heap.size, 1, none⟩ = some (.int .i64 z2) := (hb6.cell (p := ⟨w2.heap.size, 1, none⟩) l2).trans f2_1
                    replace f2_2 : w6.cell? ⟨w2.heap.size, 2, none⟩ = some (.int .i64 z1) := (hb6.cell (p := ⟨w2.heap.size, 2, none⟩) l2).trans f2_2
                    replace f2_3 : w6.cell? ⟨w2.heap.size, 3, none⟩ = some (.int .i64 z2) := (hb6.cell (p := ⟨w2.heap.size, 3, none⟩) l2).trans f2_3
                    replace ls : w.heap.size < w6.heap.size := Nat.lt_of_lt_of_le ls hb6.size
                    replace lv : wH.heap.size < w6.heap.size := Nat.lt_of_lt_of_le lv hb6.size
                    replace l1 : w1.heap.size < w6.heap.size := Nat.lt_of_lt_of_le l1 hb6.size
                    replace l2 : w2.heap.size < w6.heap.size := Nat.lt_of_lt_of_le l2 hb6.size
                    replace hsl := hsl.next hb6
                    replace hst := hst.next hb6
                    replace hbel : Below w.heap.size w w6 := hbel.trans (hb6.mono hbel.size)
                    clear hb6
                    go_wp2_with fail
                    refine (fine_any r0 r1 r2 r3 true HRb.out _).mono ?_
                    rintro e w7 ⟨rfl, hb7⟩
                    have hx : Below w6.heap.size w6 w7 := (((Below.refl _ _).alloc (Nat.le_refl _) _) : Below w6.heap.size w6 (w6.alloc (.cells #[.int .i64 r0, .int .i64 r1, .int .i64 r2, .int .i64 r3] 25))).trans (hb7.mono (by simp))
                    have f3_0 : w7.cell? ⟨w6.heap.size, 0, none⟩ = some (.int .i64 r0) := (hb7.cell (p := ⟨w6.heap.size, 0, none⟩) (by simp)).trans (by simp [go_sem])
                    have f3_1 : w7.cell? ⟨w6.heap.size, 1, none⟩ = some (.int .i64 r1) := (hb7.cell (p := ⟨w6.heap.size, 1, none⟩) (by simp)).trans (by simp [go_sem])
                    have f3_2 : w7.cell? ⟨w6.heap.size, 2, none⟩ = some (.int .i64 r2) := (hb7.cell (p := ⟨w6.heap.size, 2, none⟩) (by simp)).trans (by simp [go_sem])
                    have f3_3 : w7.cell? ⟨w6.heap.size, 3, none⟩ = some (.int .i64 r3) := (hb7.cell (p := ⟨w6.heap.size, 3, none⟩) (by simp)).trans (by simp [go_sem])
                    have l3 : w6.heap.size < w7.heap.size := by have := hb7.size; simp at this; omega
                    replace fs0 : w7.cell? ⟨w.heap.size, 0, none⟩ = some (.int .i64 a) := (hx.cell (p := ⟨w.heap.size, 0, none⟩) ls).trans fs0
                    replace fs1 : w7.cell? ⟨w.heap.size, 1, none⟩ = some (.int .i64 b) := (hx.cell (p := ⟨w.heap.size, 1, none⟩) ls).trans fs1
                    replace fs2 : w7.cell? ⟨w.heap.size, 2, none⟩ = some (.int .i64 c) := (hx.cell (p := ⟨w.heap.size, 2, none⟩) ls).trans fs2
                    replace fs3 : w7.cell? ⟨w.heap.size, 3, none⟩ = some (.int .i64 d) := (hx.cell (p := ⟨w.heap.size, 3, none⟩) ls).trans fs3
                    replace fv0 : w7.cell? ⟨wH.heap.size, 0, none⟩ = some (.int .i64 x) := (hx.cell (p := ⟨wH.heap.size, 0, none⟩) lv).trans fv0
                    replace fv1 : w7.cell? ⟨wH.heap.size, 1, none⟩ = some (.int .i64 y) := (hx.cell (p := ⟨wH.heap.size, 1, none⟩) lv).trans fv1
                    replace fv2 : w7.cell? ⟨wH.heap.size, 2, none⟩ = some (.int .i64 x) := (hx.cell (p := ⟨wH.heap.size, 2, none⟩) lv).trans fv2
                    replace fv3 : w7.cell? ⟨wH.heap.size, 3, none⟩ = some (.int .i64 y) := (hx.cell (p := ⟨wH.heap.size, 3, none⟩) lv).trans fv3
                    replace f1_0 : w7.cell? ⟨w1.heap.size, 0, none⟩ = some (.int .i64 q0) := (hx.cell (p := ⟨w1.heap.size, 0, none⟩) l1).trans f1_0
                    replace f1_1 : w7.cell? ⟨w1.heap.size, 1, none⟩ = some (.int .i64 q1) := (hx.cell (p := ⟨w1.heap.size, 1, none⟩) l1).trans f1_1
                    replace f1_2 : w7.cell? ⟨w1.heap.size, 2, none⟩ = some (.int .i64 q2) := (hx.cell (p := ⟨w1.heap.size, 2, none⟩) l1).trans f1_2
                    replace f1_3 : w7.cell? ⟨w1.heap.size, 3, none⟩ = some (.int .i64 q3) := (hx.cell (p := ⟨w1.heap.size, 3, none⟩) l1).trans f1_3
                    replace f2_0 : w7.cell? ⟨w2.heap.size, 0, none⟩ = some (.int .i64 z1) := (hx.cell (p := ⟨w2.heap.size, 0, none⟩) l2).trans f2_0
                    replace f2_1 : w7.cell? ⟨w2.heap.size, 1, none⟩ = some (.int .i64 z2) := (hx.cell (p := ⟨w2.heap.size, 1, none⟩) l2).trans f2_1
                    replace f2_2 : w7.cell? ⟨w2.heap.size, 2, none⟩ = some (.int .i64 z1) := (hx.cell (p := ⟨w2.heap.size, 2, none⟩) l2).trans f2_2
                    replace f2_3 : w7.cell? ⟨w2.heap.size, 3, none⟩ = some (.int .i64 z2) := (hx.cell (p := ⟨w2.heap.size, 3, none⟩) l2).trans f2_3
                    replace ls : w.heap.size < w7.heap.size := Nat.lt_of_lt_of_le ls hx.size
                    replace lv : wH.heap.size < w7.heap.size := Nat.lt_of_lt_of_le lv hx.size
                    replace l1 : w1.heap.size < w7.heap.size := Nat.lt_of_lt_of_le l1 hx.size
                    replace l2 : w2.heap.size < w7.heap.size := Nat.lt_of_lt_of_le l2 hx.size
                    replace hsl := hsl.next hx
                    replace hst := hst.next hx
                    replace hbel : Below w.heap.size w w7 := hbel.trans (hx.mono hbel.size)
                    clear hx
                    clear hb7
                    go_wp2_with fail
                    refine (In_any a b r0 r1 r2 r3 true HI1.out (by omega) (by omega) (by omega) (by omega) (by omega) (by omega) (by omega) (by omega) (by omega) (by omega) (by omega) (by omega) _).mono ?_
                    rintro e w8 ⟨rfl, hb8⟩
                    replace fs0 : w8.cell? ⟨w.heap.size, 0, none⟩ = some (.int .i64 a) := (hb8.cell (p := ⟨w.heap.size, 0, none⟩) ls).trans fs0
                    replace fs1 : w8.cell? ⟨w.heap.size, 1, none⟩ = some (.int .i64 b) := (hb8.cell (p := ⟨w.heap.size, 1, none⟩) ls).trans fs1
                    replace fs2 : w8.cell? ⟨w.heap.size, 2, none⟩ = some (.int .i64 c) := (hb8.cell (p := ⟨w.heap.size, 2, none⟩) ls).trans fs2
                    replace fs3 : w8.cell? ⟨w.heap.size, 3, none⟩ = some (.int .i64 d) := (hb8.cell (p := ⟨w.heap.size, 3, none⟩) ls).trans fs3
                    replace fv0 : w8.cell? ⟨wH.heap.size, 0, none⟩ = some (.int .i64 x) := (hb8.cell (p := ⟨wH.heap.size, 0, none⟩) lv).trans fv0
                    replace fv1 : w8.cell? ⟨wH.heap.size, 1, none⟩ = some (.int .i64 y) := (hb8.cell (p := ⟨wH.heap.size, 1, none⟩) lv).trans fv1
                    replace fv2 : w8.cell? ⟨wH.heap.size, 2, none⟩ = some (.int .i64 x) := (hb8.cell (p := ⟨wH.heap.size, 2, none⟩) lv).trans fv2
                    replace fv3 : w8.cell? ⟨wH.heap.size, 3, none⟩ = some (.int .i64 y) := (hb8.cell (p := ⟨wH.heap.size, 3, none⟩) lv).trans fv3
                    replace f1_0 : w8.cell? ⟨w1.heap.size, 0, none⟩ = some (.int .i64 q0) := (hb8.cell (p := ⟨w1.heap.size, 0, none⟩) l1).trans f1_0
                    replace f1_1 : w8.cell? ⟨w1.heap.size, 1, none⟩ = some (.int .i64 q1) := (hb8.cell (p := ⟨w1.heap.size, 1, none⟩) l1).trans f1_1
                    replace f1_2 : w8.cell? ⟨w1.heap.size, 2, none⟩ = some (.int .i64 q2) := (hb8.cell (p := ⟨w1.heap.size, 2, none⟩) l1).trans f1_2
                    replace f1_3 : w8.cell? ⟨w1.heap.size, 3, none⟩ = some (.int .i64 q3) := (hb8.cell (p := ⟨w1.heap.size, 3, none⟩) l1).trans f1_3
                    replace f2_0 : w8.cell? ⟨w2.heap.size, 0, none⟩ = some (.int .i64 z1) := (hb8.cell (p := ⟨w2.heap.size, 0, none⟩) l2).trans f2_0
                    replace f2_1 : w8.cell? ⟨w2.heap.size, 1, none⟩ = some (.int .i64 z2) := (hb8.cell (p := ⟨w2.heap.size, 1, none⟩) l2).trans f2_1
                    replace f2_2 : w8.cell? ⟨w2.heap.size, 2, none⟩ = some (.int .i64 z1) := (hb8.cell (p := ⟨w2.heap.size, 2, none⟩) l2).trans f2_2
                    replace f2_3 : w8.cell? ⟨w2.heap.size, 3, none⟩ = some (.int .i64 z2) := (hb8.cell (p := ⟨w2.heap.size, 3, none⟩) l2).trans f2_3
                    replace f3_0 : w8.cell? ⟨w6.heap.size, 0, none⟩ = some (.int .i64 r0) := (hb8.cell (p := ⟨w6.heap.size, 0, none⟩) l3).trans f3_0
                    replace f3_1 : w8.cell? ⟨w6.heap.size, 1, none⟩ = some (.int .i64 r1) := (hb8.cell (p := ⟨w6.heap.size, 1, none⟩) l3).trans f3_1
                    replace f3_2 : w8.cell? ⟨w6.heap.size, 2, none⟩ = some (.int .i64 r2) := (hb8.cell (p := ⟨w6.heap.size, 2, none⟩) l3).trans f3_2
                    replace f3_3 : w8.cell? ⟨w6.heap.size, 3, none⟩ = some (.int .i64 r3) := (hb8.cell (p := ⟨w6.heap.size, 3, none⟩) l3).trans f3_3
                    replace ls : w.heap.size < w8.heap.size := Nat.lt_of_lt_of_le ls hb8.size
                    replace lv : wH.heap.size < w8.heap.size := Nat.lt_of_lt_of_le lv hb8.size
                    replace l1 : w1.heap.size < w8.heap.size := Nat.lt_of_lt_of_le l1 hb8.size
                    replace l2 : w2.heap.size < w8.heap.size := Nat.lt_of_lt_of_le l2 hb8.size
                    replace l3 : w6.heap.size < w8.heap.size := Nat.lt_of_lt_of_le l3 hb8.size
                    replace hsl := hsl.next hb8
                    replace hst := hst.next hb8
                    replace hbel : Below w.heap.size w w8 := hbel.trans (hb8.mono hbel.size)
                    clear hb8
                    go_wp2_with fail
                    refine (In_any c d r0 r1 r2 r3 true HI3.out (by omega) (by omega) (by omega) (by omega) (by omega) (by omega) (by omega) (by omega) (by omega) (by omega) (by omega) (by omega) _).mono ?_
                    rintro e w9 ⟨rfl, hb9⟩
                    replace fs0 : w9.cell? ⟨w.heap.size, 0, none⟩ = some (.int .i64 a) := (hb9.cell (p := ⟨w.heap.size, 0, none⟩) ls).trans fs0
                    replace fs1 : w9.cell? ⟨w.heap.size, 1, none⟩ = some (.int .i64 b) := (hb9.cell (p := ⟨w.heap.size, 1, none⟩) ls).trans fs1
                    replace fs2 : w9.cell? ⟨w.heap.size, 2, none⟩ = some (.int .i64 c) := (hb9.cell (p := ⟨w.heap.size, 2, none⟩) ls).trans fs2
                    replace fs3 : w9.cell? ⟨w.heap.size, 3, none⟩ = some (.int .i64 d) := (hb9.cell (p := ⟨w.heap.size, 3, none⟩) ls).trans fs3
                    replace fv0 : w9.cell? ⟨wH.heap.size, 0, none⟩ = some (.int .i64 x) := (hb9.cell (p := ⟨wH.heap.size, 0, none⟩) lv).trans fv0
                    replace fv1 : w9.cell? ⟨wH.heap.size, 1, none⟩ = some (.int .i64 y) := (hb9.cell (p := ⟨wH.heap.size, 1, none⟩) lv).trans fv1
                    replace fv2 : w9.cell? ⟨wH.heap.size, 2, none⟩ = some (.int .i64 x) := (hb9.cell (p := ⟨wH.heap.size, 2, none⟩) lv).trans fv2
                    replace fv3 : w9.cell? ⟨wH.heap.size, 3, none⟩ = some (.int .i64 y) := (hb9.cell (p := ⟨wH.heap.size, 3, none⟩) lv).trans fv3
                    replace f1_0 : w9.cell? ⟨w1.heap.size, 0, none⟩ = some (.int .i64 q0) := (hb9.cell (p := ⟨w1.heap.size, 0, none⟩) l1).trans f1_0
                    replace f1_1 : w9.cell? ⟨w1.heap.size, 1, none⟩ = some (.int .i64 q1) := (hb9.cell (p := ⟨w1.heap.size, 1, none⟩) l1).trans f1_1
                    replace f1_2 : w9.cell? ⟨w1.heap.size, 2, none⟩ = some (.int .i64 q2) := (hb9.cell (p := ⟨w1.heap.size, 2, none⟩) l1).trans f1_2
                    replace f1_3 : w9.cell? ⟨w1.heap.size, 3, none⟩ = some (.int .i64 q3) := (hb9.cell (p := ⟨w1.heap.size, 3, none⟩) l1).trans f1_3
                    replace f2_0 : w9.cell? ⟨w2.heap.size, 0, none⟩ = some (.int .i64 z1) := (hb9.cell (p := ⟨w2.heap.size, 0, none⟩) l2).trans f2_0
                    replace f2_1 : w9.cell? ⟨w2.heap.size, 1, none⟩ = some (.int .i64 z2) := (hb9.cell (p := ⟨w2.heap.size, 1, none⟩) l2).trans f2_1
                    replace f2_2 : w9.cell? ⟨w2.heap.size, 2, none⟩ = some (.int .i64 z1) := (hb9.cell (p := ⟨w2.heap.size, 2, none⟩) l2).trans f2_2
                    replace f2_3 : w9.cell? ⟨w2.heap.size, 3, none⟩ = some (.int .i64 z2) := (hb9.cell (p := ⟨w2.heap.size, 3, none⟩) l2).trans f2_3
                    replace f3_0 : w9.cell? ⟨w6.heap.size, 0, none⟩ = some (.int .i64 r0) := (hb9.cell (p := ⟨w6.heap.size, 0, none⟩) l3).trans f3_0
                    replace f3_1 : w9.cell? ⟨w6.heap.size, 1, none⟩ = some (.int .i64 r1) := (hb9.cell (p := ⟨w6.heap.size, 1, none⟩) l3).trans f3_1
                    replace f3_2 : w9.cell? ⟨w6.heap.size, 2, none⟩ = some (.int .i64 r2) := (hb9.cell (p := ⟨w6.heap.size, 2, none⟩) l3).trans f3_2
                    replace f3_3 : w9.cell? ⟨w6.heap.size, 3, none⟩ = some (.int .i64 r3) := (hb9.cell (p := ⟨w6.heap.size, 3, none⟩) l3).trans f3_3
                    replace ls : w.heap.size < w9.heap.size := Nat.lt_of_lt_of_le ls hb9.size
                    replace lv : wH.heap.size < w9.heap.size := Nat.lt_of_lt_of_le lv hb9.size
                    replace l1 : w1.heap.size < w9.heap.size := Nat.lt_of_lt_of_le l1 hb9.size
                    replace l2 : w2.heap.size < w9.heap.size := Nat.lt_of_lt_of_le l2 hb9.size
                    replace l3 : w6.heap.size < w9.heap.size := Nat.lt_of_lt_of_le l3 hb9.size
                    replace hsl := hsl.next hb9
                    replace hst := hst.next hb9
                    replace hbel : Below w.heap.size w w9 := hbel.trans (hb9.mono hbel.size)
                    clear hb9
                    cases eb with
                    | false =>
                      go_wp2_with fail
                      refine (Works_any _).mono ?_
                      rintro e w10 ⟨rfl, hb10⟩
                      replace fs0 : w10.cell? ⟨w.heap.size, 0, none⟩ = some (.int .i64 a) := (hb10.cell (p := ⟨w.heap.size, 0, none⟩) ls).trans fs0
                      replace fs1 : w10.cell? ⟨w.heap.size, 1, none⟩ = some (.int .i64 b) := (hb10.cell (p := ⟨w.heap.size, 1, none⟩) ls).trans fs1
                      replace fs2 : w10.cell? ⟨w.heap.size, 2, none⟩ = some (.int .i64 c) := (hb10.cell (p := ⟨w.heap.size, 2, none⟩) ls).trans fs2
                      replace fs3 : w10.cell? ⟨w.heap.size, 3, none⟩ = some (.int .i64 d) := (hb10.cell (p := ⟨w.heap.size, 3, none⟩) ls).trans fs3
                      replace fv0 : w10.cell? ⟨wH.heap.size, 0, none⟩ = some (.int .i64 x) := (hb10.cell (p := ⟨wH.heap.size, 0, none⟩) lv).trans fv0
                      replace fv1 : w10.cell? ⟨wH.heap.size, 1, none⟩ = some (.int .i64 y) := (hb10.cell (p := ⟨wH.heap.size, 1, none⟩) lv).trans fv1
                      replace fv2 : w10.cell? ⟨wH.heap.size, 2, none⟩ = some (.int .i64 x) := (hb10.cell (p := ⟨wH.heap.size, 2, none⟩) lv).trans fv2
                      replace fv3 : w10.cell? ⟨wH.heap.size, 3, none⟩ = some (.int .i64 y) := (hb10.cell (p := ⟨wH.heap.size, 3, none⟩) lv).trans fv3
                      replace f1_0 : w10.cell? ⟨w1.heap.size, 0, none⟩ = some (.int .i64 q0) := (hb10.cell (p := ⟨w1.heap.size, 0, none⟩) l1).trans f1_0
                      replace f1_1 : w10.cell? ⟨w1.heap.size, 1, none⟩ = some (.int .i64 q1) := (hb10.cell (p := ⟨w1.heap.size, 1, none⟩) l1).trans f1_1
                      replace f1_2 : w10.cell? ⟨w1.heap.size, 2, none⟩ = some (.int .i64 q2) := (hb10.cell (p := ⟨w1.heap.size, 2, none⟩) l1).trans f1_2
                      replace f1_3 : w10.cell? ⟨w1.heap.size, 3, none⟩ = some (.int .i64 q3) := (hb10.cell (p := ⟨w1.heap.size, 3, none⟩) l1).trans f1_3
                      replace f2_0 : w10.cell? ⟨w2.heap.size, 0, none⟩ = some (.int .i64 z1) := (hb10.cell (p := ⟨w2.heap.size, 0, none⟩) l2).trans f2_0
                      replace f2_1 : w10.cell? ⟨w2.heap.size, 1, none⟩ = some (.int .i64 z2) := (hb10.cell (p := ⟨w2.heap.size, 1, none⟩) l2).trans f2_1
                      replace f2_2 : w10.cell? ⟨w2.heap.size, 2, none⟩ = some (.int .i64 z1) := (hb10.cell (p := ⟨w2.heap.size, 2, none⟩) l2).trans f2_2
                      replace f2_3 : w10.cell? ⟨w2.heap.size, 3, none⟩ = some (.int .i64 z2) := (hb10.cell (p := ⟨w2.heap.size, 3, none⟩) l2).trans f2_3
                      replace f3_0 : w10.cell? ⟨w6.heap.size, 0, none⟩ = some (.int .i64 r0) := (hb10.cell (p := ⟨w6.heap.size, 0, none⟩) l3).trans f3_0
                      replace f3_1 : w10.cell? ⟨w6.heap.size, 1, none⟩ = some (.int .i64 r1) := (hb10.cell (p := ⟨w6.heap.size, 1, none⟩) l3).trans f3_1
                      replace f3_2 : w10.cell? ⟨w6.heap.size, 2, none⟩ = some (.int .i64 r2) := (hb10.cell (p := ⟨w6.heap.size, 2, none⟩) l3).trans f3_2
                      replace f3_3 : w10.cell? ⟨w6.heap.size, 3, none⟩ = some (.int .i64 r3) := (hb10.cell (p := ⟨w6.heap.size, 3, none⟩) l3).trans f3_3
                      replace ls : w.heap.size < w10.heap.size := Nat.lt_of_lt_of_le ls hb10.size
                      replace lv : wH.heap.size < w10.heap.size := Nat.lt_of_lt_of_le lv hb10.size
                      replace l1 : w1.heap.size < w10.heap.size := Nat.lt_of_lt_of_le l1 hb10.size
                      replace l2 : w2.heap.size < w10.heap.size := Nat.lt_of_lt_of_le l2 hb10.size
                      replace l3 : w6.heap.size < w10.heap.size := Nat.lt_of_lt_of_le l3 hb10.size
                      replace hsl := hsl.next hb10
                      replace hst := hst.next hb10
                      replace hbel : Below w.heap.size w w10 := hbel.trans (hb10.mono hbel.size)
                      clear hb10
                      go_wp2_with fail
                      go_ret
                      exact ⟨rfl, hbel⟩
                    | true =>
                      obtain ⟨rfl, rfl, rfl, rfl⟩ : a = r0 ∧ b = r1 ∧ c = r2 ∧ d = r3 := by have := HX4.out rfl; simpa [eq_comm] using this
                      clear HX4
                      go_wp2_with fail
                      refine (Works_any _).mono ?_
                      rintro e w10 ⟨rfl, hb10⟩
                      replace fs0 : w10.cell? ⟨w.heap.size, 0, none⟩ = some (.int .i64 a) := (hb10.cell (p := ⟨w.heap.size, 0, none⟩) ls).trans fs0
                      replace fs1 : w10.cell? ⟨w.heap.size, 1, none⟩ = some (.int .i64 b) := (hb10.cell (p := ⟨w.heap.size, 1, none⟩) ls).trans fs1
                      replace fs2 : w10.cell? ⟨w.heap.size, 2, none⟩ = some (.int .i64 c) := (hb10.cell (p := ⟨w.heap.size, 2, none⟩) ls).trans fs2
                      replace fs3 : w10.cell? ⟨w.heap.size, 3, none⟩ = some (.int .i64 d) := (hb10.cell (p := ⟨w.heap.size, 3, none⟩) ls).trans fs3
                      replace fv0 : w10.cell? ⟨wH.heap.size, 0, none⟩ = some (.int .i64 x) := (hb10.cell (p := ⟨wH.heap.size, 0, none⟩) lv).trans fv0
                      replace fv1 : w10.cell? ⟨wH.heap.size, 1, none⟩ = some (.int .i64 y) := (hb10.cell (p := ⟨wH.heap.size, 1, none⟩) lv).trans fv1
                      replace fv2 : w10.cell? ⟨wH.heap.size, 2, none⟩ = some (.int .i64 x) := (hb10.cell (p := ⟨wH.heap.size, 2, none⟩) lv).trans fv2
                      replace fv3 : w10.cell? ⟨wH.heap.size, 3, none⟩ = some (.int .i64 y) := (hb10.cell (p := ⟨wH.heap.size, 3, none⟩) lv).trans fv3
                      replace f1_0 : w10.cell? ⟨w1.heap.size, 0, none⟩ = some (.int .i64 q0) := (hb10.cell (p := ⟨w1.heap.size, 0, none⟩) l1).trans f1_0
                      replace f1_1 : w10.cell? ⟨w1.heap.size, 1, none⟩ = some (.int .i64 q1) := (hb10.cell (p := ⟨w1.heap.size, 1, none⟩) l1).trans f1_1
                      replace f1_2 : w10.cell? ⟨w1.heap.size, 2, none⟩ = some (.int .i64 q2) := (hb10.cell (p := ⟨w1.heap.size, 2, none⟩) l1).trans f1_2
                      replace f1_3 : w10.cell? ⟨w1.heap.size, 3, none⟩ = some (.int .i64 q3) := (hb10.cell (p := ⟨w1.heap.size, 3, none⟩) l1).trans f1_3
                      replace f2_0 : w10.cell? ⟨w2.heap.size, 0, none⟩ = some (.int .i64 z1) := (hb10.cell (p := ⟨w2.heap.size, 0, none⟩) l2).trans f2_0
                      replace f2_1 : w10.cell? ⟨w2.heap.size, 1, none⟩ = some (.int .i64 z2) := (hb10.cell (p := ⟨w2.heap.size, 1, none⟩) l2).trans f2_1
                      replace f2_2 : w10.cell? ⟨w2.heap.size, 2, none⟩ = some (.int .i64 z1) := (hb10.cell (p := ⟨w2.heap.size, 2, none⟩) l2).trans f2_2
                      replace f2_3 : w10.cell? ⟨w2.heap.size, 3, none⟩ = some (.int .i64 z2) := (hb10.cell (p := ⟨w2.heap.size, 3, none⟩) l2).trans f2_3
                      replace f3_0 : w10.cell? ⟨w6.heap.size, 0, none⟩ = some (.int .i64 a) := (hb10.cell (p := ⟨w6.heap.size, 0, none⟩) l3).trans f3_0
                      replace f3_1 : w10.cell? ⟨w6.heap.size, 1, none⟩ = some (.int .i64 b) := (hb10.cell (p := ⟨w6.heap.size, 1, none⟩) l3).trans f3_1
                      replace f3_2 : w10.cell? ⟨w6.heap.size, 2, none⟩ = some (.int .i64 c) := (hb10.cell (p := ⟨w6.heap.size, 2, none⟩) l3).trans f3_2
                      replace f3_3 : w10.cell? ⟨w6.heap.size, 3, none⟩ = some (.int .i64 d) := (hb10.cell (p := ⟨w6.heap.size, 3, none⟩) l3).trans f3_3
                      replace ls : w.heap.size < w10.heap.size := Nat.lt_of_lt_of_le ls hb10.size
                      replace lv : wH.heap.size < w10.heap.size := Nat.lt_of_lt_of_le lv hb10.size
                      replace l1 : w1.heap.size < w10.heap.size := Nat.lt_of_lt_of_le l1 hb10.size
                      replace l2 : w2.heap.size < w10.heap.size := Nat.lt_of_lt_of_le l2 hb10.size
                      replace l3 : w6.heap.size < w10.heap.size := Nat.lt_of_lt_of_le l3 hb10.size
                      replace hsl := hsl.next hb10
                      replace hst := hst.next hb10
                      replace hbel : Below w.heap.size w w10 := hbel.trans (hb10.mono hbel.size)
                      clear hb10
                      go_wp2_with fail
                      go_ret
                      exact ⟨rfl, hbel⟩
      · have hlb' : decide ((20 : Int) < LB.length) = true := by simp; omega
        go_enter Try.func8, Try.ntmps8
        go_wp2_with fail
        refine (fine_any a b c d true HSb.out _).mono ?_
        rintro e wH ⟨rfl, hb1⟩
        have hbl1 : Below w.heap.size w wH := ((Below.refl _ _).alloc (Nat.le_refl _) _).trans (hb1.mono (by simp))
        clear hb1
        go_wp2_with fail
        refine (Works_any _).mono ?_
        rintro e w3 ⟨rfl, hb3⟩
        go_wp2_with fail
        go_ret
        exact ⟨rfl, hbl1.trans (hb3.mono hbl1.size)⟩
    · have hl' : decide ((8 : Int) < L.length) = true := by simp; omega
      go_enter Try.func8, Try.ntmps8
      go_wp2_with fail
      refine (fine_any a b c d true HSb.out _).mono ?_
      rintro e wH ⟨rfl, hb1⟩
      have hbl1 : Below w.heap.size w wH := ((Below.refl _ _).alloc (Nat.le_refl _) _).trans (hb1.mono (by simp))
      clear hb1
      go_wp2_with fail
      refine (Works_any _).mono ?_
      rintro e w3 ⟨rfl, hb3⟩
      go_wp2_with fail
      go_ret
      exact ⟨rfl, hbl1.trans (hb3.mono hbl1.size)⟩
  · have HSb := Lib.hid (decide_eq_false hS)
    clear hS
    go_enter Try.func8, Try.ntmps8
    go_wp2_with fail
    refine (fine_any a b c d false HSb.out _).mono ?_
    rintro e wH ⟨rfl, hb1⟩
    have hbl1 : Below w.heap.size w wH := ((Below.refl _ _).alloc (Nat.le_refl _) _).trans (hb1.mono (by simp))
    clear hb1
    go_wp2_with fail
    refine (Works_any _).mono ?_
    rintro e w3 ⟨rfl, hb3⟩
    go_wp2_with fail
    go_ret
    exact ⟨rfl, hbl1.trans (hb3.mono hbl1.size)⟩
end Go.Proofs.Ytbdjllgngblfoaa
