import Derived.Test.YtchlehpjpgeejaaD5
/- What is known of all that the law BenchRuns calls. -/
namespace Go.Proofs.Ytchlehpjpgeejaa
set_option linter.unusedVariables false
set_option linter.unusedSimpArgs false
open Go Ev
noncomputable section
theorem Depth_g (y : Value) (P : List (Int × Int)) (n : Int) : GivesA Try.prog 18 [.v (.int .i64 n), .xl y P.length 2 (cR P)] (.tuple #[.int .i64 (dpV n P), .int .i64 (prE n (cR P) P.length)]) := by
  by_cases h0 : prE n (cR P) P.length = 0
  · obtain ⟨h1, -, -⟩ := prE_pairs h0
    obtain ⟨L, rfl⟩ : ∃ L : Nat, n = L := ⟨n.toNat, by omega⟩
    exact Depth_ok y P L h0
  · exact Depth_bad y P n h0
theorem rDepth_g (y : Value) (P : List (Int × Int)) (n : Int) : GivesA Try.prog 19 [.v (.int .i64 n), .xl y P.length 2 (cR P)] (.tuple #[.int .i64 (dpV n P), .int .i64 (prE n (cR P) P.length)]) := by
  by_cases h0 : prE n (cR P) P.length = 0
  · obtain ⟨h1, -, -⟩ := prE_pairs h0
    obtain ⟨L, rfl⟩ : ∃ L : Nat, n = L := ⟨n.toNat, by omega⟩
    cases P with
    | nil =>
      have e : dpV (L : Int) [] = 0 := by unfold dpV; split <;> rfl
      rw [e]
      exact rDepth_nil y L h0
    | cons q P => exact rDepth_ok y (q :: P) L P.length h0 rfl
  · exact rDepth_bad y P n h0
def dpS : List Vw → Option (Res1 × List Prop) := fun vs =>
  match vs with
  | [.val a, .lst m k c] => match argI a with
    | some (false, [n]) => some (.val (.v (.tuple #[.int .i64 (dpV n (unR c)), .int .i64 (prE n c m)])), [k = 2 ∧ ∃ P, c = cR P ∧ m = P.length])
    | _ => none
  | _ => none
def dO : OrcH := avOrc 18 [0, 2] dpS
def rdO : OrcH := avOrc 19 [0, 2] dpS
theorem known_d : Known Try.prog (clsO dO) := known_av (fun vs r ps h hp => by
  unfold dpS at h
  split at h
  · split at h
    · rename_i a m k c _ n h1
      cases h
      obtain ⟨⟨rfl, P, rfl, rfl⟩, -⟩ := hp
      rw [argI_eq h1, unR_cR]
      refine ⟨⟨⟨_, cR_plain P⟩, trivial⟩, fun ys hy => ?_⟩
      obtain ⟨y1, y2, rfl⟩ := len2 hy
      exact ⟨_, rfl, Depth_g y2 P n⟩
    · cases h
  · cases h)
theorem known_rd : Known Try.prog (clsO rdO) := known_av (fun vs r ps h hp => by
  unfold dpS at h
  split at h
  · split at h
    · rename_i a m k c _ n h1
      cases h
      obtain ⟨⟨rfl, P, rfl, rfl⟩, -⟩ := hp
      rw [argI_eq h1, unR_cR]
      refine ⟨⟨⟨_, cR_plain P⟩, trivial⟩, fun ys hy => ?_⟩
      obtain ⟨y1, y2, rfl⟩ := len2 hy
      exact ⟨_, rfl, rDepth_g y2 P n⟩
    · cases h
  · cases h)
def rubS : List Vw → Option (Res1 × List Prop) := fun vs =>
  match vs with
  | [.lst m k c, .lst n j d] => some (.val (.v (.tuple #[.slice none 0 0, .int .i64 (ruE c m d n)])), [k = 2 ∧ ∃ P, c = cR P ∧ m = P.length, IsI j n d, ¬ ruE c m d n = 0])
  | _ => none
def rubO : OrcH := avOrc 16 [2, 1] rubS
def rrubO : OrcH := avOrc 17 [2, 1] rubS
theorem known_rub : Known Try.prog (clsO rubO) := known_av (fun vs r ps h hp => by
  unfold rubS at h
  split at h
  · cases h
    obtain ⟨⟨rfl, P, rfl, rfl⟩, ⟨rfl, L, rfl, rfl⟩, h0, -⟩ := hp
    refine ⟨⟨⟨_, cR_plain P⟩, ⟨_, cI_plain L⟩, trivial⟩, fun ys hy => ?_⟩
    obtain ⟨y1, y2, rfl⟩ := len2 hy
    exact ⟨_, rfl, Run_bad y1 y2 P L h0⟩
  · cases h)
theorem known_rrub : Known Try.prog (clsO rrubO) := known_av (fun vs r ps h hp => by
  unfold rubS at h
  split at h
  · cases h
    obtain ⟨⟨rfl, P, rfl, rfl⟩, ⟨rfl, L, rfl, rfl⟩, h0, -⟩ := hp
    refine ⟨⟨⟨_, cR_plain P⟩, ⟨_, cI_plain L⟩, trivial⟩, fun ys hy => ?_⟩
    obtain ⟨y1, y2, rfl⟩ := len2 hy
    exact ⟨_, rfl, rRun_bad y1 y2 P L h0⟩
  · cases h)
def rruO2 : List AV → List AB → Option ((AV × List AB) × List Prop) := fun args xs =>
  match args with
  | [.xl y m k c, .xl z n j d] => match xs with
    | [] => some ((.tup [.slu 0 0 n 0, .v (.int .i64 0)], [.row (cI (madeK (unR c) (unI d) m)) 2 1]),
        [k = 2 ∧ c = cR (unR c) ∧ m = (unR c).length, j = 1 ∧ d = cI (unI d) ∧ n = (unI d).length, ruE c m d n = 0])
    | _ => none
  | _ => none
def rruO : OrcH := mOrc 17 rruO2
theorem known_rru : Known Try.prog (clsO rruO) := known_m (fun args xs r ys ps h hp => by
  unfold rruO2 at h
  split at h
  · split at h
    · rename_i y m k c z n j d _
      cases h
      obtain ⟨⟨rfl, e1, rfl⟩, ⟨rfl, e2, rfl⟩, h1, -⟩ := hp
      generalize unR c = P at *
      generalize unI d = L at *
      subst e1 e2
      refine ⟨fun x hx => absurd hx List.not_mem_nil, fun y hy => ?_, rRun_ok y z P L h1⟩
      rcases List.mem_cons.1 hy with rfl | hy
      · exact freeB_row (freeL_plain (cI_plain _))
      · exact absurd hy List.not_mem_nil
    · cases h
  · cases h)
def loA : OrcH := orO (orO (orO cpO rcpO) (orO dO rdO)) (orO lgO wkO)
theorem known_loA (hw : Known Try.prog (clsO wkO)) : Known Try.prog (clsO loA) := known_or (known_or (known_or known_cp known_rcp) (known_or known_d known_rd)) (known_or known_lg hw)
def loO : OrcH := orO (orO runO rruO) loA
def loB : OrcH := orO (orO rubO rrubO) loA
theorem known_loO (hw : Known Try.prog (clsO wkO)) : Known Try.prog (clsO loO) := known_or (known_or known_run known_rru) (known_loA hw)
theorem known_loB (hw : Known Try.prog (clsO wkO)) : Known Try.prog (clsO loB) := known_or (known_or known_rub known_rrub) (known_loA hw)
theorem take_of {X : List Int} {n : Nat} (h : X.length = n) : List.take (n * (0 + 1)) (List.drop 0 (cI X)) = cI X := by subst h; exact take_cI X
theorem eqI_no {a : Int} (h : eqI a a = false) : False := by rw [eqI_iff, decide_eq_true rfl] at h; cases h
end
end Go.Proofs.Ytchlehpjpgeejaa
/- The law BenchRuns. -/
namespace Go.Proofs.Ytchlehpjpgeejaa
set_option linter.unusedVariables false
set_option linter.unusedSimpArgs false
open Go Ev
noncomputable section
noncomputable def loK1 : Code := bodyC Try.f3
set_option maxHeartbeats 2000000 in
theorem lo_2 (y : Value) (z : Value) (P : List (Int × Int)) (L : List Int) (n : Int) (hw : Known Try.prog (clsO wkO)) (hr : ruE (cR P) P.length (cI L) L.length = 0) (w : World) (hs : List Nat) : Goes Try.prog 78 loK1 (⟨[(0, (.v (.int .i64 n))), (1, (.xl y P.length 2 (cR P))), (2, (.xl z L.length 1 (cI L)))], [], 0, []⟩) (BaseW.H w hs) (OutH Try.prog Try.f3 78 (.bool true) w) := by
  have hcl_P := cR_len P
  have hcl_L := cI_len L
  rcases Bool.eq_false_or_eq_true (ltI 90 ((P.length : Nat) : Int)) with hqlo3_1 | hqlo3_1
  · skip
    have ghqlo3_1 := ltI_true hqlo3_1
    exact goes_leafA isR_e (goes_told Try.checked.mixed (known_loO hw) 200 (T' := ⟨[(6, (.v (.bool .true)))], [], 0, []⟩) (e := .ret) (ps := [ltI 90 ((P.length : Nat) : Int) = true, true = true, true = true, true = true]) [.go, .go, .go, .go, .go, .b true, .b true, .b true, .go, .b true, .go] (by kernel_rfl) (by kernel_rfl) ⟨hqlo3_1, rfl, rfl, rfl, trivial⟩ rfl) (Hd.en_eq (r := (.bool .true)) (by rfl) (Hd.en_ret (v := (.v (.bool .true))) (by kernel_rfl) rfl))
  · skip
    have ghqlo3_1 := ltI_false hqlo3_1
    rcases Bool.eq_false_or_eq_true (ltI 20 ((L.length : Nat) : Int)) with hqlo3_2 | hqlo3_2
    · skip
      have ghqlo3_2 := ltI_true hqlo3_2
      exact goes_leafA isR_e (goes_told Try.checked.mixed (known_loO hw) 200 (T' := ⟨[(6, (.v (.bool .true)))], [], 0, []⟩) (e := .ret) (ps := [ltI 90 ((P.length : Nat) : Int) = false, false = false, false = false, ltI 20 ((L.length : Nat) : Int) = true]) [.go, .go, .go, .go, .go, .b false, .go, .b false, .go, .b false, .go, .go, .b true, .go] (by kernel_rfl) (by kernel_rfl) ⟨hqlo3_1, rfl, rfl, hqlo3_2, trivial⟩ rfl) (Hd.en_eq (r := (.bool .true)) (by rfl) (Hd.en_ret (v := (.v (.bool .true))) (by kernel_rfl) rfl))
    · skip
      have ghqlo3_2 := ltI_false hqlo3_2
      rcases Bool.eq_false_or_eq_true (eqI (prE n (cR P) P.length) (prE n (cR P) P.length)) with hqlo3_3 | hqlo3_3
      · skip
        have ghqlo3_3 := eqI_true hqlo3_3
        rcases Bool.eq_false_or_eq_true (eqI (dpV n (unR (cR P))) (dpV n (unR (cR P)))) with hqlo3_4 | hqlo3_4
        · skip
          have ghqlo3_4 := eqI_true hqlo3_4
          exact goes_leafA isR_e (goes_told Try.checked.mixed (known_loO hw) 200 (T' := ⟨[(6, (.v (.bool .true)))], [], 2, []⟩) (e := .ret) (ps := [ltI 90 ((P.length : Nat) : Int) = false, false = false, false = false, ltI 20 ((L.length : Nat) : Int) = false, 1 + 1 = 2 ∧ ∃ P_1, cR P = cR P_1 ∧ P.length = P_1.length, IsI (0 + 1) L.length (cI L), ruE (cR P) P.length (cI L) L.length = 0, FreeL (cR P), FreeL (cI L), 2 = 2 ∧ cR P = cR (unR (cR P)) ∧ P.length = (unR (cR P)).length, 1 = 1 ∧ cI L = cI (unI (cI L)) ∧ L.length = (unI (cI L)).length, ruE (cR P) P.length (cI L) L.length = 0, 1 + 1 = 2 ∧ ∃ P_1, cR P = cR P_1 ∧ P.length = P_1.length, 1 + 1 = 2 ∧ ∃ P_1, cR P = cR P_1 ∧ P.length = P_1.length, 1 + 1 = 2 ∧ ∃ P_1, cR P = cR P_1 ∧ P.length = P_1.length, 1 + 1 = 2 ∧ ∃ P_1, cR P = cR P_1 ∧ P.length = P_1.length, eqI (prE n (cR P) P.length) (prE n (cR P) P.length) = true, true = true, true = true, 0 + L.length * (0 + 1) ≤ (cI (madeK (pairsOf (cR P) P.length) (intsOf (cI L) L.length) P.length)).length, L.length ≤ L.length, 0 + L.length * (0 + 1) ≤ (cI (madeK (unR (cR P)) (unI (cI L)) P.length)).length, IsI (0 + 1) L.length (List.take (L.length * (0 + 1)) (List.drop 0 (cI (madeK (pairsOf (cR P) P.length) (intsOf (cI L) L.length) P.length)))), L.length ≤ 1000, L.length = L.length ∧ 0 + 1 = 1 ∧ List.take (L.length * (0 + 1)) (List.drop 0 (cI (madeK (unR (cR P)) (unI (cI L)) P.length))) = List.take (L.length * (0 + 1)) (List.drop 0 (cI (madeK (pairsOf (cR P) P.length) (intsOf (cI L) L.length) P.length))), true = true, true = true, true = true, eqI 0 0 = true, true = true, true = true, eqI (dpV n (unR (cR P))) (dpV n (unR (cR P))) = true, true = true, true = true, eqI (prE n (cR P) P.length) (prE n (cR P) P.length) = true]) [.go, .go, .go, .go, .go, .b false, .go, .b false, .go, .b false, .go, .go, .b false, .go, .go, .go, .go, .go, .go, .go, .go, .go, .go, .go, .go, .go, .go, .go, .go, .go, .go, .go, .go, .go, .go, .go, .go, .go, .go, .go, .go, .go, .go, .go, .go, .go, .go, .b true, .go, .b true, .go, .b true, .go, .go, .b true, .go, .b true, .go, .b true, .go, .go, .go, .b true, .go, .b true, .go, .b true, .go, .go, .go, .b true, .go, .b true, .go, .b true, .go, .go, .go, .b true, .go, .go] (by kernel_rfl) (by kernel_rfl) ⟨hqlo3_1, rfl, rfl, hqlo3_2, ⟨rfl, P, rfl, rfl⟩, ⟨rfl, L, rfl, rfl⟩, hr, (freeL_plain (cR_plain _)), (freeL_plain (cI_plain _)), ⟨rfl, by rw [unR_cR], by rw [unR_cR]⟩, ⟨rfl, by rw [unI_cI], by rw [unI_cI]⟩, hr, ⟨rfl, P, rfl, rfl⟩, ⟨rfl, P, rfl, rfl⟩, ⟨rfl, P, rfl, rfl⟩, ⟨rfl, P, rfl, rfl⟩, hqlo3_3, rfl, rfl, (by rw [cI_len, madeK_len]; first | omega | (rw [intsOf_cI]; omega) | (rw [unI_cI]; omega)), (by omega), (by rw [cI_len, madeK_len]; first | omega | (rw [intsOf_cI]; omega) | (rw [unI_cI]; omega)), (by rw [pairsOf_cR, intsOf_cI]; exact ⟨rfl, madeK P L P.length, take_of (madeK_len _ _ _), (madeK_len _ _ _).symm⟩), (by omega), (by rw [pairsOf_cR, intsOf_cI, unR_cR, unI_cI]; exact ⟨rfl, rfl, rfl⟩), rfl, rfl, rfl, rfl, rfl, rfl, hqlo3_4, rfl, rfl, hqlo3_3, trivial⟩ rfl) (Hd.en_eq (r := (.bool .true)) (by rfl) (Hd.en_ret (v := (.v (.bool .true))) (by kernel_rfl) rfl))
        · skip
          have ghqlo3_4 := eqI_false hqlo3_4
          exact (eqI_no hqlo3_4).elim
      · skip
        have ghqlo3_3 := eqI_false hqlo3_3
        exact (eqI_no hqlo3_3).elim
theorem runs_lo (y : Value) (z : Value) (P : List (Int × Int)) (L : List Int) (n : Int) (hw : Known Try.prog (clsO wkO)) (hr : ruE (cR P) P.length (cI L) L.length = 0) : GivesA Try.prog 3 [(.v (.int .i64 n)), (.xl y P.length 2 (cR P)), (.xl z L.length 1 (cI L))] (.bool true) :=
  givesA_partsH 78 Try.func3 (by kernel_rfl) (by kernel_rfl) (by kernel_rfl) (fun w => goes_less (by kernel_rfl) (by kernel_rfl) (by kernel_rfl) (by kernel_rfl) (lo_2 y z P L n hw hr w []))
noncomputable def lbK1 : Code := bodyC Try.f3
set_option maxHeartbeats 2000000 in
theorem lb_2 (y : Value) (z : Value) (P : List (Int × Int)) (L : List Int) (n : Int) (hw : Known Try.prog (clsO wkO)) (hr : ¬ ruE (cR P) P.length (cI L) L.length = 0) (w : World) (hs : List Nat) : Goes Try.prog 78 lbK1 (⟨[(0, (.v (.int .i64 n))), (1, (.xl y P.length 2 (cR P))), (2, (.xl z L.length 1 (cI L)))], [], 0, []⟩) (BaseW.H w hs) (OutH Try.prog Try.f3 78 (.bool true) w) := by
  have hcl_P := cR_len P
  have hcl_L := cI_len L
  rcases Bool.eq_false_or_eq_true (ltI 90 ((P.length : Nat) : Int)) with hqlb3_1 | hqlb3_1
  · skip
    have ghqlb3_1 := ltI_true hqlb3_1
    exact goes_leafA isR_e (goes_told Try.checked.mixed (known_loB hw) 200 (T' := ⟨[(6, (.v (.bool .true)))], [], 0, []⟩) (e := .ret) (ps := [ltI 90 ((P.length : Nat) : Int) = true, true = true, true = true, true = true]) [.go, .go, .go, .go, .go, .b true, .b true, .b true, .go, .b true, .go] (by kernel_rfl) (by kernel_rfl) ⟨hqlb3_1, rfl, rfl, rfl, trivial⟩ rfl) (Hd.en_eq (r := (.bool .true)) (by rfl) (Hd.en_ret (v := (.v (.bool .true))) (by kernel_rfl) rfl))
  · skip
    have ghqlb3_1 := ltI_false hqlb3_1
    rcases Bool.eq_false_or_eq_true (ltI 20 ((L.length : Nat) : Int)) with hqlb3_2 | hqlb3_2
    · skip
      have ghqlb3_2 := ltI_true hqlb3_2
      exact goes_leafA isR_e (goes_told Try.checked.mixed (known_loB hw) 200 (T' := ⟨[(6, (.v (.bool .true)))], [], 0, []⟩) (e := .ret) (ps := [ltI 90 ((P.length : Nat) : Int) = false, false = false, false = false, ltI 20 ((L.length : Nat) : Int) = true]) [.go, .go, .go, .go, .go, .b false, .go, .b false, .go, .b false, .go, .go, .b true, .go] (by kernel_rfl) (by kernel_rfl) ⟨hqlb3_1, rfl, rfl, hqlb3_2, trivial⟩ rfl) (Hd.en_eq (r := (.bool .true)) (by rfl) (Hd.en_ret (v := (.v (.bool .true))) (by kernel_rfl) rfl))
    · skip
      have ghqlb3_2 := ltI_false hqlb3_2
      rcases Bool.eq_false_or_eq_true (eqI (prE n (cR P) P.length) (prE n (cR P) P.length)) with hqlb3_3 | hqlb3_3
      · skip
        have ghqlb3_3 := eqI_true hqlb3_3
        rcases Bool.eq_false_or_eq_true (eqI (ruE (cR P) P.length (cI L) L.length) (ruE (cR P) P.length (cI L) L.length)) with hqlb3_4 | hqlb3_4
        · skip
          have ghqlb3_4 := eqI_true hqlb3_4
          rcases Bool.eq_false_or_eq_true (eqI (dpV n (unR (cR P))) (dpV n (unR (cR P)))) with hqlb3_5 | hqlb3_5
          · skip
            have ghqlb3_5 := eqI_true hqlb3_5
            exact goes_leafA isR_e (goes_told Try.checked.mixed (known_loB hw) 200 (T' := ⟨[(6, (.v (.bool .true)))], [], 0, []⟩) (e := .ret) (ps := [ltI 90 ((P.length : Nat) : Int) = false, false = false, false = false, ltI 20 ((L.length : Nat) : Int) = false, 1 + 1 = 2 ∧ ∃ P_1, cR P = cR P_1 ∧ P.length = P_1.length, IsI (0 + 1) L.length (cI L), ¬ruE (cR P) P.length (cI L) L.length = 0, 1 + 1 = 2 ∧ ∃ P_1, cR P = cR P_1 ∧ P.length = P_1.length, IsI (0 + 1) L.length (cI L), ¬ruE (cR P) P.length (cI L) L.length = 0, 1 + 1 = 2 ∧ ∃ P_1, cR P = cR P_1 ∧ P.length = P_1.length, 1 + 1 = 2 ∧ ∃ P_1, cR P = cR P_1 ∧ P.length = P_1.length, 1 + 1 = 2 ∧ ∃ P_1, cR P = cR P_1 ∧ P.length = P_1.length, 1 + 1 = 2 ∧ ∃ P_1, cR P = cR P_1 ∧ P.length = P_1.length, eqI (prE n (cR P) P.length) (prE n (cR P) P.length) = true, true = true, true = true, IsI (0 + 1) 0 [], (0 : Nat) ≤ 1000, 0 = 0 ∧ 0 + 1 = 1 ∧ ([] : List AV) = [], true = true, true = true, true = true, eqI (ruE (cR P) P.length (cI L) L.length) (ruE (cR P) P.length (cI L) L.length) = true, true = true, true = true, eqI (dpV n (unR (cR P))) (dpV n (unR (cR P))) = true, true = true, true = true, eqI (prE n (cR P) P.length) (prE n (cR P) P.length) = true]) [.go, .go, .go, .go, .go, .b false, .go, .b false, .go, .b false, .go, .go, .b false, .go, .go, .go, .go, .go, .go, .go, .go, .go, .go, .go, .go, .go, .go, .go, .go, .go, .go, .go, .go, .go, .go, .go, .go, .go, .go, .go, .go, .go, .go, .go, .go, .go, .go, .b true, .go, .b true, .go, .b true, .go, .go, .b true, .go, .b true, .go, .b true, .go, .go, .go, .b true, .go, .b true, .go, .b true, .go, .go, .go, .b true, .go, .b true, .go, .b true, .go, .go, .go, .b true, .go, .go] (by kernel_rfl) (by kernel_rfl) ⟨hqlb3_1, rfl, rfl, hqlb3_2, ⟨rfl, P, rfl, rfl⟩, ⟨rfl, L, rfl, rfl⟩, hr, ⟨rfl, P, rfl, rfl⟩, ⟨rfl, L, rfl, rfl⟩, hr, ⟨rfl, P, rfl, rfl⟩, ⟨rfl, P, rfl, rfl⟩, ⟨rfl, P, rfl, rfl⟩, ⟨rfl, P, rfl, rfl⟩, hqlb3_3, rfl, rfl, ⟨rfl, [], rfl, rfl⟩, (by omega), ⟨rfl, rfl, rfl⟩, rfl, rfl, rfl, hqlb3_4, rfl, rfl, hqlb3_5, rfl, rfl, hqlb3_3, trivial⟩ rfl) (Hd.en_eq (r := (.bool .true)) (by rfl) (Hd.en_ret (v := (.v (.bool .true))) (by kernel_rfl) rfl))
          · skip
            have ghqlb3_5 := eqI_false hqlb3_5
            exact (eqI_no hqlb3_5).elim
        · skip
          have ghqlb3_4 := eqI_false hqlb3_4
          exact (eqI_no hqlb3_4).elim
      · skip
        have ghqlb3_3 := eqI_false hqlb3_3
        exact (eqI_no hqlb3_3).elim
theorem runs_lb (y : Value) (z : Value) (P : List (Int × Int)) (L : List Int) (n : Int) (hw : Known Try.prog (clsO wkO)) (hr : ¬ ruE (cR P) P.length (cI L) L.length = 0) : GivesA Try.prog 3 [(.v (.int .i64 n)), (.xl y P.length 2 (cR P)), (.xl z L.length 1 (cI L))] (.bool true) :=
  givesA_partsH 78 Try.func3 (by kernel_rfl) (by kernel_rfl) (by kernel_rfl) (fun w => goes_less (by kernel_rfl) (by kernel_rfl) (by kernel_rfl) (by kernel_rfl) (lb_2 y z P L n hw hr w []))
theorem runs_g (hw : Known Try.prog (clsO wkO)) (y z : Value) (P : List (Int × Int)) (L : List Int) (n : Int) : GivesA Try.prog 3 [.v (.int .i64 n), .xl y P.length 2 (cR P), .xl z L.length 1 (cI L)] (.bool true) := by
  by_cases h : ruE (cR P) P.length (cI L) L.length = 0
  · exact runs_lo y z P L n hw h
  · exact runs_lb y z P L n hw h
end
end Go.Proofs.Ytchlehpjpgeejaa
