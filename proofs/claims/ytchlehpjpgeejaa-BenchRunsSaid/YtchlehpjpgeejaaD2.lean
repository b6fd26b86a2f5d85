import Derived.Test.YtchlehpjpgeejaaD1
/- What is known of runRound. -/
namespace Go.Proofs.Ytchlehpjpgeejaa
set_option linter.unusedVariables false
set_option linter.unusedSimpArgs false
open Go Ev
noncomputable section
def rrO2 : List AV → List AB → Option ((AV × List AB) × List Prop) := fun args xs =>
  match args with
  | [.sl 0 0 m c, .sl 1 0 L L2] => match xs with
    | [.cells l1 t1, .cells l2 t2] => some ((.sl 0 0 (rrS (unR l1) (unB l2) m).2.1 m, [.cells (cR (rrS (unR l1) (unB l2) m).1) t1, .cells (cB (rrS (unR l1) (unB l2) m).2.2) t2]),
        [t1 = 75 ∧ t2 = 4 ∧ L2 = L, l1 = cR (unR l1), l2 = cB (unB l2), m ≤ 1000, m ≤ c, c ≤ (unR l1).length, (unB l2).length = L, ∀ i, i < m → valid L ((unR l1).getD i (0, 0))])
    | _ => none
  | _ => none
def rrO : OrcH := mOrc 65 rrO2
theorem known_rr : Known Try.prog (clsO rrO) := known_m (fun args xs r ys ps h hp => by
  unfold rrO2 at h
  split at h
  · split at h
    · rename_i m c L L2 _ l1 t1 l2 t2
      cases h
      obtain ⟨⟨rfl, rfl, rfl⟩, e1, e2, h1, h2, h3, h4, h5, -⟩ := hp
      generalize unR l1 = X at *
      generalize unB l2 = T at *
      subst e1 e2
      refine ⟨fun x hx => ?_, fun y hy => ?_, rr_g X T m c L2 h1 h2 h3 h4 h5⟩
      · rcases List.mem_cons.1 hx with rfl | hx
        · exact freeB_cells (freeL_plain (cR_plain _))
        · rcases List.mem_cons.1 hx with rfl | hx
          · exact freeB_cells (freeL_plain (cB_plain _))
          · exact absurd hx List.not_mem_nil
      · rcases List.mem_cons.1 hy with rfl | hy
        · exact freeB_cells (freeL_plain (cR_plain _))
        · rcases List.mem_cons.1 hy with rfl | hy
          · exact freeB_cells (freeL_plain (cB_plain _))
          · exact absurd hy List.not_mem_nil
    · cases h
  · cases h)
def dpT : OrcH := orO cpO rrO
theorem known_dp : Known Try.prog (clsO dpT) := known_or known_cp known_rr
theorem valid_of {P : List (Int × Int)} {L : Nat} (h : ∀ i, i < P.length → pairAt L (cR P) i) : ∀ p ∈ P, valid L p := fun p hp => by
  obtain ⟨i, hi, rfl⟩ := List.mem_iff_getElem.1 hp
  obtain ⟨e1, e2⟩ := cR_intD (L := P) (i := i) hi
  have := h i hi
  unfold pairAt at this
  rw [e1, e2, List.getD_eq_getElem?_getD, List.getElem?_eq_getElem hi] at this
  unfold valid
  simp only [Option.getD_some] at this
  omega
def dpV (n : Int) (P : List (Int × Int)) : Int := if prE n (cR P) P.length = 0 then dee P P.length else 0
theorem prE_pairs {n : Int} {P : List (Int × Int)} (h : prE n (cR P) P.length = 0) : (2 ≤ n ∧ n ≤ 12) ∧ P.length ≤ 80 ∧ ∀ i, i < P.length → pairAt n (cR P) i := by
  unfold prE at h
  split at h
  · split at h
    · split at h
      · rename_i h1 h2 b h3
        exact ⟨h1, h2, okP_all.1 h3⟩
      · cases h
    · cases h
  · cases h
theorem dp_x {P : List (Int × Int)} {L r : Nat} : cR (rrS (unR (cR (dSt P L r).1)) (unB (repL L [.v (.bool false)])) (dSt P L r).2.1).1 = cR (dSt P L (r + 1)).1 := by rw [unR_cR, cB_rep, unB_cB]; rfl
theorem dp_n {P : List (Int × Int)} {L r : Nat} : (rrS (unR (cR (dSt P L r).1)) (unB (repL L [.v (.bool false)])) (dSt P L r).2.1).2.1 = (dSt P L (r + 1)).2.1 := by rw [unR_cR, cB_rep, unB_cB]; rfl
theorem dp_t {P : List (Int × Int)} {L r : Nat} : cB (rrS (unR (cR (dSt P L r).1)) (unB (repL L [.v (.bool false)])) (dSt P L r).2.1).2.2 = cB (dSt P L (r + 1)).2.2.2 := by rw [unR_cR, cB_rep, unB_cB]; rfl
end
end Go.Proofs.Ytchlehpjpgeejaa
/- The depth of a programme. -/
namespace Go.Proofs.Ytchlehpjpgeejaa
set_option linter.unusedVariables false
set_option linter.unusedSimpArgs false
open Go Ev
noncomputable section
noncomputable def dbK1 : Code := bodyC Try.f18
noncomputable def dbK3 : Code := tlC dbK1
set_option maxHeartbeats 2000000 in
theorem db_5 (y : Value) (P : List (Int × Int)) (n : Int) (h0 : ¬ prE n (cR P) P.length = 0) (w : World) (hs : List Nat) : Goes Try.prog 30 dbK3 (⟨[(0, (.v (.int .i64 (n)))), (1, (.xl (y) (P.length) 2 (cR P)))], [], 0, []⟩) (BaseW.H w hs) (OutH Try.prog Try.f18 30 (.tuple #[.int .i64 (dpV n P), .int .i64 (prE n (cR P) P.length)]) w) := by
  have hcl_P := cR_len P
  refine Hd.goes_seqA (by kernel_rfl) ?_
  rcases Bool.eq_false_or_eq_true (eqI (prE n (cR P) P.length) 0) with hqdb7_1 | hqdb7_1
  · skip
    have ghqdb7_1 := eqI_true hqdb7_1
    exact absurd (eqI_true hqdb7_1) h0
  · skip
    have ghqdb7_1 := eqI_false hqdb7_1
    exact goes_leafA isR_e (goes_told Try.checked.mixed (known_dp) 200 (T' := ⟨[(4, (.v (.int .i64 (.ofNat 0)))), (5, (.v (.int .i64 (prE n (cR P) P.length))))], [], 0, []⟩) (e := .ret) (ps := [1 + 1 = 2 ∧ ∃ P_1, cR P = cR P_1 ∧ P.length = P_1.length, (!eqI (prE n (cR P) P.length) 0) = true]) [.go, .go, .go, .go, .go, .b true, .go, .go, .go] (by kernel_rfl) (by kernel_rfl) ⟨⟨rfl, P, rfl, rfl⟩, (by rw [hqdb7_1]; rfl), trivial⟩ rfl) (Hd.en_o (by intro h; cases h) (Hd.en_eq (r := .tuple #[(.int .i64 0), (.int .i64 (prE n (cR P) P.length))]) (by unfold dpV; rw [if_neg h0]) (Hd.en_ret (v := (.tup [(.v (.int .i64 (.ofNat 0))), (.v (.int .i64 (prE n (cR P) P.length)))])) (by kernel_rfl) rfl)))
set_option maxHeartbeats 2000000 in
theorem db_2 (y : Value) (P : List (Int × Int)) (n : Int) (h0 : ¬ prE n (cR P) P.length = 0) (w : World) (hs : List Nat) : Goes Try.prog 30 dbK1 (⟨[(0, (.v (.int .i64 n))), (1, (.xl y P.length 2 (cR P)))], [], 0, []⟩) (BaseW.H w hs) (OutH Try.prog Try.f18 30 (.tuple #[.int .i64 (dpV n P), .int .i64 (prE n (cR P) P.length)]) w) := by
  have hcl_P := cR_len P
  refine Hd.goes_seqA (by kernel_rfl) ?_
  exact goes_leafA isN_e (goes_told Try.checked.mixed (known_dp) 200 (T' := ⟨[(0, (.v (.int .i64 (n)))), (1, (.xl (y) (P.length) 2 (cR P)))], [], 0, []⟩) (e := .normal) (ps := []) [.go, .go] (by kernel_rfl) (by kernel_rfl) trivial rfl) (Hd.en_n (db_5 y P n h0 w hs))
theorem Depth_bad (y : Value) (P : List (Int × Int)) (n : Int) (h0 : ¬ prE n (cR P) P.length = 0) : GivesA Try.prog 18 [(.v (.int .i64 n)), (.xl y P.length 2 (cR P))] (.tuple #[.int .i64 (dpV n P), .int .i64 (prE n (cR P) P.length)]) :=
  givesA_partsH 30 Try.func18 (by kernel_rfl) (by kernel_rfl) (by kernel_rfl) (fun w => goes_less (by kernel_rfl) (by kernel_rfl) (by kernel_rfl) (by kernel_rfl) (db_2 y P n h0 w []))
noncomputable def doK1 : Code := bodyC Try.f18
noncomputable def doK3 : Code := tlC doK1
noncomputable def doK6 : Code := tlC doK3
noncomputable def doK9 : Code := tlC doK6
noncomputable def doK12 : Code := tlC doK9
noncomputable def doK15 : Code := tlC doK12
noncomputable def doK16 : Code := (hdC doK12)
noncomputable def doK18 : Code := tlC doK16
noncomputable def doK22 : Code := loopC doK18
set_option maxHeartbeats 2000000 in
theorem do_25 (y : Value) (P : List (Int × Int)) (L : Nat) (h0 : prE (L : Int) (cR P) P.length = 0) (hqdo7_1 : (eqI (prE (((L : Nat) : Int)) (cR P) P.length) 0) = true) (r0 : Nat) (h0a : r0 ≤ P.length) (h0b : ∀ j, j < r0 → 0 < (dSt P L j).2.1) (hqdo24_1 : (ltI 0 (((dSt P L r0).2.1 : Nat) : Int)) = false) (w : World) (hs : List Nat) : Goes Try.prog 30 doK15 (⟨[(7, (.v (.int .i64 (((r0 : Nat) : Int)))))], [], 2, []⟩) (BaseW.H w hs) (OutH Try.prog Try.f18 30 (.tuple #[.int .i64 (dpV (L : Int) P), .int .i64 (prE (L : Int) (cR P) P.length)]) w) := by
  have hcl_P := cR_len P
  obtain ⟨hn, hm, hpr⟩ := prE_pairs h0
  have hP := valid_of hpr
  have ghqdo7_1 := eqI_true hqdo7_1
  have ghqdo24_1 := ltI_false hqdo24_1
  exact goes_leafA isR_e (goes_told Try.checked.mixed (known_dp) 200 (T' := ⟨[(4, (.v (.int .i64 (((r0 : Nat) : Int))))), (5, (.v (.int .i64 (.ofNat 0))))], [], 2, []⟩) (e := .ret) (ps := []) [.go, .go, .go] (by kernel_rfl) (by kernel_rfl) trivial rfl) (Hd.en_eq (r := .tuple #[(.int .i64 (((r0 : Nat) : Int))), (.int .i64 0)]) (by unfold dpV; rw [if_pos h0, dSt_end hP h0b (by omega), h0]) (Hd.en_ret (v := (.tup [(.v (.int .i64 (((r0 : Nat) : Int)))), (.v (.int .i64 (.ofNat 0)))])) (by kernel_rfl) rfl))
set_option maxHeartbeats 4000000 in
theorem do_23 (y : Value) (P : List (Int × Int)) (L : Nat) (h0 : prE (L : Int) (cR P) P.length = 0) (hqdo7_1 : (eqI (prE (((L : Nat) : Int)) (cR P) P.length) 0) = true) (r : Nat) (hr1 : r ≤ P.length) (hr2 : ∀ j, j < r → 0 < (dSt P L j).2.1) (w : World) (hs : List Nat) : Goes Try.prog 30 doK22 (⟨[(7, (.v (.int .i64 ((r : Nat) : Int)))), (8, (.sl 0 0 (L) (L))), (9, (.sl 1 0 (dSt P L r).2.1 (dSt P L r).2.2.1))], [], 2, [(0, (.cells (cB (dSt P L r).2.2.2) 4)), (1, (.cells (cR (dSt P L r).1) 75))]⟩) (BaseW.H w hs) (Hd.StepC Try.prog 30 0 (fun r : { r : Nat // r ≤ P.length ∧ ∀ j, j < r → 0 < (dSt P L j).2.1 } => ⟨[(7, (.v (.int .i64 ((r.1 : Nat) : Int)))), (8, (.sl 0 0 (L) (L))), (9, (.sl 1 0 (dSt P L (r.1)).2.1 (dSt P L (r.1)).2.2.1))], [], 2, [(0, (.cells (cB (dSt P L (r.1)).2.2.2) 4)), (1, (.cells (cR (dSt P L (r.1)).1) 75))]⟩) (fun r : { r : Nat // r ≤ P.length ∧ ∀ j, j < r → 0 < (dSt P L j).2.1 } => P.length - r.1) doK15 w (OutH Try.prog Try.f18 30 (.tuple #[.int .i64 (dpV (L : Int) P), .int .i64 (prE (L : Int) (cR P) P.length)]) w) (⟨r, hr1, hr2⟩ : { r : Nat // r ≤ P.length ∧ ∀ j, j < r → 0 < (dSt P L j).2.1 })) := by
  have hcl_P := cR_len P
  obtain ⟨hn, hm, hpr⟩ := prE_pairs h0
  have hP := valid_of hpr
  have ghqdo7_1 := eqI_true hqdo7_1
  rcases Bool.eq_false_or_eq_true (ltI 0 (((dSt P L r).2.1 : Nat) : Int)) with hqdo24_1 | hqdo24_1
  · skip
    have ghqdo24_1 := ltI_true hqdo24_1
    obtain ⟨d1, d2, d3, d4, d5⟩ := dSt_ok hP r
    have d6 := dSt_bd hP (r := r) (by omega)
    exact goes_leafA isN_e (goes_told Try.checked.mixed (known_dp) 200 (T' := ⟨[(7, (.v (.int .i64 (((r + 1) : Nat) : Int)))), (8, (.sl 0 0 (L) (L))), (9, (.sl 1 0 ((rrS (unR (cR (dSt P L r).1)) (unB (repL L (List.map AV.v (Value.bool false).cells.toList))) (dSt P L r).2.1).2.1) ((dSt P L r).2.1)))], [], 2, [(0, (.cells (cB (rrS (unR (cR (dSt P L r).1)) (unB (repL L (List.map AV.v (Value.bool false).cells.toList))) (dSt P L r).2.1).2.2) 4)), (1, (.cells (cR (rrS (unR (cR (dSt P L r).1)) (unB (repL L (List.map AV.v (Value.bool false).cells.toList))) (dSt P L r).2.1).1) 75))]⟩) (e := .normal) (ps := [ltI 0 (((dSt P L r).2.1 : Nat) : Int) = true, L ≠ 0, (cB (dSt P L r).2.2.2).length = (repL L (List.map AV.v (Value.bool false).cells.toList)).length, allOne (repL L (List.map AV.v (Value.bool false).cells.toList)) = true, 75 = 75 ∧ 4 = 4 ∧ L = L, cR (dSt P L r).1 = cR (unR (cR (dSt P L r).1)), repL L (List.map AV.v (Value.bool false).cells.toList) = cB (unB (repL L (List.map AV.v (Value.bool false).cells.toList))), (dSt P L r).2.1 ≤ 1000, (dSt P L r).2.1 ≤ (dSt P L r).2.2.1, (dSt P L r).2.2.1 ≤ (unR (cR (dSt P L r).1)).length, (unB (repL L (List.map AV.v (Value.bool false).cells.toList))).length = L, ∀ (i : Nat), i < (dSt P L r).2.1 → valid L ((unR (cR (dSt P L r).1)).getD i (0, 0)), inR IntKind.i64 (((r : Nat) : Int) + 1)]) [.go, .go, .go, .b true, .go, .sym, .go, .go, .go, .go, .go, .go] (by kernel_rfl) (by kernel_rfl) ⟨hqdo24_1, (by omega), (by rw [cB_len, d4]; show L = (repL L [AV.v (.bool false)]).length; rw [cB_rep, cB_len, List.length_replicate]), (by show allOne (repL L [AV.v (.bool false)]) = true; rw [cB_rep]; exact cB_one _), ⟨rfl, rfl, rfl⟩, (by rw [unR_cR]), (by rw [show ∀ l : List AV, l = repL L [AV.v (.bool false)] → cB (unB l) = l from fun l h => by rw [h, cB_rep, unB_cB]]; rfl), (by omega), (by omega), (by rw [unR_cR]; omega), (by show (unB (repL L [AV.v (.bool false)])).length = L; rw [cB_rep, unB_cB, List.length_replicate]), (by rw [unR_cR]; exact dSt_pair hP r), (by show -9223372036854775808 ≤ _ ∧ _ ≤ 9223372036854775807; constructor <;> omega), trivial⟩ rfl) (Hd.en_on (⟨r + 1, by omega, (fun j hj => by by_cases e : j < r; exact hr2 j e; (rw [show j = r by omega]; omega))⟩) (by show P.length - (r + 1) < P.length - r; omega) (show (⟨[(7, (.v (.int .i64 (((r + 1) : Nat) : Int)))), (8, (.sl 0 0 (L) (L))), (9, (.sl 1 0 ((rrS (unR (cR (dSt P L r).1)) (unB (repL L (List.map AV.v (Value.bool false).cells.toList))) (dSt P L r).2.1).2.1) ((dSt P L r).2.1)))], [], 2, [(0, (.cells (cB (rrS (unR (cR (dSt P L r).1)) (unB (repL L (List.map AV.v (Value.bool false).cells.toList))) (dSt P L r).2.1).2.2) 4)), (1, (.cells (cR (rrS (unR (cR (dSt P L r).1)) (unB (repL L (List.map AV.v (Value.bool false).cells.toList))) (dSt P L r).2.1).1) 75))]⟩ : Ev.Lit) = ⟨[(7, (.v (.int .i64 (((r + 1) : Nat) : Int)))), (8, (.sl 0 0 (L) (L))), (9, (.sl 1 0 (dSt P L (r + 1)).2.1 (dSt P L (r + 1)).2.2.1))], [], 2, [(0, (.cells (cB (dSt P L (r + 1)).2.2.2) 4)), (1, (.cells (cR (dSt P L (r + 1)).1) 75))]⟩ from by have hz_ := congr (congr (congrArg (fun (xq0 : Ev.AV) (xq1 : Ev.AB) (xq2 : Ev.AB) => (⟨[(7, (.v (.int .i64 (((r + 1) : Nat) : Int)))), (8, (.sl 0 0 (L) (L))), (9, xq0)], [], 2, [(0, xq1), (1, xq2)]⟩ : Ev.Lit)) (congr (congrArg (fun (z0 : Nat) (z1 : Nat) => Ev.AV.sl 1 0 z0 z1) (show (((rrS (unR (cR (dSt P L r).1)) (unB (repL L (List.map AV.v (Value.bool false).cells.toList))) (dSt P L r).2.1).2.1) : Nat) = (dSt P L (r + 1)).2.1 from by exact dp_n)) (show (((dSt P L r).2.1) : Nat) = (dSt P L (r + 1)).2.2.1 from by rfl))) (congrArg (fun z => Ev.AB.cells z 4) (show ((cB (rrS (unR (cR (dSt P L r).1)) (unB (repL L (List.map AV.v (Value.bool false).cells.toList))) (dSt P L r).2.1).2.2) : List Ev.AV) = (cB (dSt P L (r + 1)).2.2.2) from by exact dp_t))) (congrArg (fun z => Ev.AB.cells z 75) (show ((cR (rrS (unR (cR (dSt P L r).1)) (unB (repL L (List.map AV.v (Value.bool false).cells.toList))) (dSt P L r).2.1).1) : List Ev.AV) = (cR (dSt P L (r + 1)).1) from by exact dp_x)); exact hz_))
  · skip
    have ghqdo24_1 := ltI_false hqdo24_1
    obtain ⟨d1, d2, d3, d4, d5⟩ := dSt_ok hP r
    exact goes_leafA isX_e (goes_told Try.checked.mixed (known_dp) 200 (T' := ⟨[(7, (.v (.int .i64 (((r : Nat) : Int)))))], [], 2, []⟩) (e := .exit 0) (ps := [ltI 0 (((dSt P L r).2.1 : Nat) : Int) = false]) [.go, .go, .go, .b false] (by kernel_rfl) (by kernel_rfl) ⟨hqdo24_1, trivial⟩ rfl) (Hd.en_sx (do_25 y P L h0 hqdo7_1 r hr1 hr2  hqdo24_1 w hs))
set_option maxHeartbeats 4000000 in
theorem do_21 (y : Value) (P : List (Int × Int)) (L : Nat) (h0 : prE (L : Int) (cR P) P.length = 0) (hqdo7_1 : (eqI (prE (((L : Nat) : Int)) (cR P) P.length) 0) = true) (w : World) (hs : List Nat) : Goes Try.prog 30 doK18 (⟨[(7, (.v (.int .i64 (.ofNat 0)))), (8, (.sl 0 0 (L) (L))), (9, (.sl 1 0 (P.length) (P.length)))], [], 2, [(0, (.cells (repL L (List.map AV.v (Value.bool false).cells.toList)) 4)), (1, (.cells (cR P) 75))]⟩) (BaseW.H w hs) (Hd.AfterN Try.prog 30 doK15 w (OutH Try.prog Try.f18 30 (.tuple #[.int .i64 (dpV (L : Int) P), .int .i64 (prE (L : Int) (cR P) P.length)]) w)) := by
  have hcl_P := cR_len P
  obtain ⟨hn, hm, hpr⟩ := prE_pairs h0
  have hP := valid_of hpr
  have ghqdo7_1 := eqI_true hqdo7_1
  rw [show (⟨[(7, (.v (.int .i64 (.ofNat 0)))), (8, (.sl 0 0 (L) (L))), (9, (.sl 1 0 (P.length) (P.length)))], [], 2, [(0, (.cells (repL L (List.map AV.v (Value.bool false).cells.toList)) 4)), (1, (.cells (cR P) 75))]⟩ : Ev.Lit) = ⟨[(7, (.v (.int .i64 ((0 : Nat) : Int)))), (8, (.sl 0 0 (L) (L))), (9, (.sl 1 0 (dSt P L 0).2.1 (dSt P L 0).2.2.1))], [], 2, [(0, (.cells (cB (dSt P L 0).2.2.2) 4)), (1, (.cells (cR (dSt P L 0).1) 75))]⟩ from by rw [show cB (dSt P L 0).2.2.2 = repL L [AV.v (.bool false)] from (cB_rep L).symm]; rfl]
  exact Hd.goes_loopA (id := 0) (by kernel_rfl) (by kernel_rfl) (fun r : { r : Nat // r ≤ P.length ∧ ∀ j, j < r → 0 < (dSt P L j).2.1 } => ⟨[(7, (.v (.int .i64 ((r.1 : Nat) : Int)))), (8, (.sl 0 0 (L) (L))), (9, (.sl 1 0 (dSt P L (r.1)).2.1 (dSt P L (r.1)).2.2.1))], [], 2, [(0, (.cells (cB (dSt P L (r.1)).2.2.2) 4)), (1, (.cells (cR (dSt P L (r.1)).1) 75))]⟩) (fun r : { r : Nat // r ≤ P.length ∧ ∀ j, j < r → 0 < (dSt P L j).2.1 } => P.length - r.1) (fun i hs => do_23 y P L h0 hqdo7_1 i.1 i.2.1 i.2.2 w hs) ⟨0, Nat.zero_le _, (fun j hj => by omega)⟩ hs
set_option maxHeartbeats 2000000 in
theorem do_20 (y : Value) (P : List (Int × Int)) (L : Nat) (h0 : prE (L : Int) (cR P) P.length = 0) (hqdo7_1 : (eqI (prE (((L : Nat) : Int)) (cR P) P.length) 0) = true) (w : World) (hs : List Nat) : Goes Try.prog 30 doK18 (⟨[(7, (.v (.int .i64 (.ofNat 0)))), (8, (.sl 0 0 (L) (L))), (9, (.sl 1 0 (P.length) (P.length)))], [], 2, [(0, (.cells (repL L (List.map AV.v (Value.bool false).cells.toList)) 4)), (1, (.cells (cR P) 75))]⟩) (BaseW.H w hs) (Hd.AfterN Try.prog 30 doK15 w (OutH Try.prog Try.f18 30 (.tuple #[.int .i64 (dpV (L : Int) P), .int .i64 (prE (L : Int) (cR P) P.length)]) w)) := by
  exact do_21 y P L h0 hqdo7_1 w hs
set_option maxHeartbeats 2000000 in
theorem do_17 (y : Value) (P : List (Int × Int)) (L : Nat) (h0 : prE (L : Int) (cR P) P.length = 0) (hqdo7_1 : (eqI (prE (((L : Nat) : Int)) (cR P) P.length) 0) = true) (w : World) (hs : List Nat) : Goes Try.prog 30 doK16 (⟨[(1, (.xl (y) (P.length) 2 (cR P))), (7, (.v (.int .i64 (.ofNat 0)))), (8, (.sl 0 0 (L) (L)))], [], 1, [(0, (.cells (repL L (List.map AV.v (Value.bool false).cells.toList)) 4))]⟩) (BaseW.H w hs) (Hd.AfterN Try.prog 30 doK15 w (OutH Try.prog Try.f18 30 (.tuple #[.int .i64 (dpV (L : Int) P), .int .i64 (prE (L : Int) (cR P) P.length)]) w)) := by
  have hcl_P := cR_len P
  obtain ⟨hn, hm, hpr⟩ := prE_pairs h0
  have hP := valid_of hpr
  have ghqdo7_1 := eqI_true hqdo7_1
  refine Hd.goes_seqA (by kernel_rfl) ?_
  exact goes_leafA isN_e (goes_told Try.checked.mixed (known_dp) 200 (T' := ⟨[(7, (.v (.int .i64 (.ofNat 0)))), (8, (.sl 0 0 (L) (L))), (9, (.sl 1 0 (P.length) (P.length)))], [], 2, [(0, (.cells (repL L (List.map AV.v (Value.bool false).cells.toList)) 4)), (1, (.cells (cR P) 75))]⟩) (e := .normal) (ps := [P.length ≤ P.length, P.length ≤ 1000000, P.length = P.length, (cR P).length = P.length * 2, (repL P.length (List.map AV.v (Value.agg #[Value.int IntKind.i64 0, Value.int IntKind.i64 0]).cells.toList)).length = P.length * 2, allOne (cR P) = true]) [.go, .go, .go, .go, .sym, .go, .go, .go, .sym, .go, .go, .go] (by kernel_rfl) (by kernel_rfl) ⟨(by omega), (by omega), (by omega), (cR_len P), (by show (repL _ [AV.v (.int .i64 0), AV.v (.int .i64 0)]).length = _; rw [cR_rep, cR_len, List.length_replicate]), (cR_one P), trivial⟩ rfl) (Hd.en_n (do_20 y P L h0 hqdo7_1 w hs))
set_option maxHeartbeats 2000000 in
theorem do_14 (y : Value) (P : List (Int × Int)) (L : Nat) (h0 : prE (L : Int) (cR P) P.length = 0) (hqdo7_1 : (eqI (prE (((L : Nat) : Int)) (cR P) P.length) 0) = true) (w : World) (hs : List Nat) : Goes Try.prog 30 doK12 (⟨[(1, (.xl (y) (P.length) 2 (cR P))), (7, (.v (.int .i64 (.ofNat 0)))), (8, (.sl 0 0 (L) (L)))], [], 1, [(0, (.cells (repL L (List.map AV.v (Value.bool false).cells.toList)) 4))]⟩) (BaseW.H w hs) (OutH Try.prog Try.f18 30 (.tuple #[.int .i64 (dpV (L : Int) P), .int .i64 (prE (L : Int) (cR P) P.length)]) w) := by
  exact Hd.goes_seqA (by kernel_rfl) (do_17 y P L h0 hqdo7_1 w hs)
set_option maxHeartbeats 2000000 in
theorem do_11 (y : Value) (P : List (Int × Int)) (L : Nat) (h0 : prE (L : Int) (cR P) P.length = 0) (hqdo7_1 : (eqI (prE (((L : Nat) : Int)) (cR P) P.length) 0) = true) (w : World) (hs : List Nat) : Goes Try.prog 30 doK9 (⟨[(0, (.v (.int .i64 (((L : Nat) : Int))))), (1, (.xl (y) (P.length) 2 (cR P))), (7, (.v (.int .i64 (.ofNat 0))))], [], 0, []⟩) (BaseW.H w hs) (OutH Try.prog Try.f18 30 (.tuple #[.int .i64 (dpV (L : Int) P), .int .i64 (prE (L : Int) (cR P) P.length)]) w) := by
  have hcl_P := cR_len P
  obtain ⟨hn, hm, hpr⟩ := prE_pairs h0
  have hP := valid_of hpr
  have ghqdo7_1 := eqI_true hqdo7_1
  refine Hd.goes_seqA (by kernel_rfl) ?_
  exact goes_leafA isN_e (goes_told Try.checked.mixed (known_dp) 200 (T' := ⟨[(1, (.xl (y) (P.length) 2 (cR P))), (7, (.v (.int .i64 (.ofNat 0)))), (8, (.sl 0 0 (L) (L)))], [], 1, [(0, (.cells (repL L (List.map AV.v (Value.bool false).cells.toList)) 4))]⟩) (e := .normal) (ps := [L ≤ L, L ≤ 1000000]) [.go, .sym, .go] (by kernel_rfl) (by kernel_rfl) ⟨(by omega), (by omega), trivial⟩ rfl) (Hd.en_n (do_14 y P L h0 hqdo7_1 w hs))
set_option maxHeartbeats 2000000 in
theorem do_8 (y : Value) (P : List (Int × Int)) (L : Nat) (h0 : prE (L : Int) (cR P) P.length = 0) (hqdo7_1 : (eqI (prE (((L : Nat) : Int)) (cR P) P.length) 0) = true) (w : World) (hs : List Nat) : Goes Try.prog 30 doK6 (⟨[(0, (.v (.int .i64 (((L : Nat) : Int))))), (1, (.xl (y) (P.length) 2 (cR P)))], [], 0, []⟩) (BaseW.H w hs) (OutH Try.prog Try.f18 30 (.tuple #[.int .i64 (dpV (L : Int) P), .int .i64 (prE (L : Int) (cR P) P.length)]) w) := by
  have hcl_P := cR_len P
  obtain ⟨hn, hm, hpr⟩ := prE_pairs h0
  have hP := valid_of hpr
  have ghqdo7_1 := eqI_true hqdo7_1
  refine Hd.goes_seqA (by kernel_rfl) ?_
  exact goes_leafA isN_e (goes_told Try.checked.mixed (known_dp) 200 (T' := ⟨[(0, (.v (.int .i64 (((L : Nat) : Int))))), (1, (.xl (y) (P.length) 2 (cR P))), (7, (.v (.int .i64 (.ofNat 0))))], [], 0, []⟩) (e := .normal) (ps := []) [.go] (by kernel_rfl) (by kernel_rfl) trivial rfl) (Hd.en_n (do_11 y P L h0 hqdo7_1 w hs))
set_option maxHeartbeats 2000000 in
theorem do_5 (y : Value) (P : List (Int × Int)) (L : Nat) (h0 : prE (L : Int) (cR P) P.length = 0) (w : World) (hs : List Nat) : Goes Try.prog 30 doK3 (⟨[(0, (.v (.int .i64 (((L : Nat) : Int))))), (1, (.xl (y) (P.length) 2 (cR P)))], [], 0, []⟩) (BaseW.H w hs) (OutH Try.prog Try.f18 30 (.tuple #[.int .i64 (dpV (L : Int) P), .int .i64 (prE (L : Int) (cR P) P.length)]) w) := by
  have hcl_P := cR_len P
  obtain ⟨hn, hm, hpr⟩ := prE_pairs h0
  have hP := valid_of hpr
  refine Hd.goes_seqA (by kernel_rfl) ?_
  rcases Bool.eq_false_or_eq_true (eqI (prE (((L : Nat) : Int)) (cR P) P.length) 0) with hqdo7_1 | hqdo7_1
  · skip
    have ghqdo7_1 := eqI_true hqdo7_1
    exact goes_leafA isN_e (goes_told Try.checked.mixed (known_dp) 200 (T' := ⟨[(0, (.v (.int .i64 (((L : Nat) : Int))))), (1, (.xl (y) (P.length) 2 (cR P)))], [], 0, []⟩) (e := .normal) (ps := [1 + 1 = 2 ∧ ∃ P_1, cR P = cR P_1 ∧ P.length = P_1.length, (!eqI (prE (((L : Nat) : Int)) (cR P) P.length) 0) = false]) [.go, .go, .go, .go, .go, .b false] (by kernel_rfl) (by kernel_rfl) ⟨⟨rfl, P, rfl, rfl⟩, (by rw [hqdo7_1]; rfl), trivial⟩ rfl) (Hd.en_n (do_8 y P L h0 hqdo7_1 w hs))
  · skip
    have ghqdo7_1 := eqI_false hqdo7_1
    exact absurd h0 (eqI_false hqdo7_1)
set_option maxHeartbeats 2000000 in
theorem do_2 (y : Value) (P : List (Int × Int)) (L : Nat) (h0 : prE (L : Int) (cR P) P.length = 0) (w : World) (hs : List Nat) : Goes Try.prog 30 doK1 (⟨[(0, (.v (.int .i64 (L : Int)))), (1, (.xl y P.length 2 (cR P)))], [], 0, []⟩) (BaseW.H w hs) (OutH Try.prog Try.f18 30 (.tuple #[.int .i64 (dpV (L : Int) P), .int .i64 (prE (L : Int) (cR P) P.length)]) w) := by
  have hcl_P := cR_len P
  obtain ⟨hn, hm, hpr⟩ := prE_pairs h0
  have hP := valid_of hpr
  refine Hd.goes_seqA (by kernel_rfl) ?_
  exact goes_leafA isN_e (goes_told Try.checked.mixed (known_dp) 200 (T' := ⟨[(0, (.v (.int .i64 (((L : Nat) : Int))))), (1, (.xl (y) (P.length) 2 (cR P)))], [], 0, []⟩) (e := .normal) (ps := []) [.go, .go] (by kernel_rfl) (by kernel_rfl) trivial rfl) (Hd.en_n (do_5 y P L h0 w hs))
theorem Depth_ok (y : Value) (P : List (Int × Int)) (L : Nat) (h0 : prE (L : Int) (cR P) P.length = 0) : GivesA Try.prog 18 [(.v (.int .i64 (L : Int))), (.xl y P.length 2 (cR P))] (.tuple #[.int .i64 (dpV (L : Int) P), .int .i64 (prE (L : Int) (cR P) P.length)]) :=
  givesA_partsH 30 Try.func18 (by kernel_rfl) (by kernel_rfl) (by kernel_rfl) (fun w => goes_less (by kernel_rfl) (by kernel_rfl) (by kernel_rfl) (by kernel_rfl) (do_2 y P L h0 w []))
end
end Go.Proofs.Ytchlehpjpgeejaa
