/- The law of powers that are replaced. -/
import Derived.Test.YtchlehpjpgeejaaP27
namespace Go.Proofs.Ytchlehpjpgeejaa
set_option linter.unusedVariables false
set_option linter.unusedSimpArgs false
open Go Ev
noncomputable section

/-- Replacing powers, a greater one never by a lesser one. -/
theorem cmpx_map {F : Int → Int} (hF : ∀ a b, a ≤ b → F a ≤ F b) {l : List Int} {q : Int × Int} (ha : q.1.toNat < l.length) (hb : q.2.toNat < l.length) : cmpx (l.map F) q = (cmpx l q).map F := by
  have ea : (l.map F).getD q.1.toNat 0 = F (l.getD q.1.toNat 0) := by simp [List.getD_eq_getElem?_getD, ha]
  have eb : (l.map F).getD q.2.toNat 0 = F (l.getD q.2.toNat 0) := by simp [List.getD_eq_getElem?_getD, hb]
  have ga : l[q.1.toNat]? = some (l.getD q.1.toNat 0) := by simp [List.getD_eq_getElem?_getD, ha]
  have gb : l[q.2.toNat]? = some (l.getD q.2.toNat 0) := by simp [List.getD_eq_getElem?_getD, hb]
  unfold cmpx
  rw [ea, eb]
  generalize l.getD q.1.toNat 0 = a at *
  generalize l.getD q.2.toNat 0 = b at *
  have va : l[q.1.toNat] = a := by rw [List.getElem?_eq_getElem ha] at ga; exact Option.some.inj ga
  have vb : l[q.2.toNat] = b := by rw [List.getElem?_eq_getElem hb] at gb; exact Option.some.inj gb
  by_cases h : a < b
  · rw [if_pos h]
    by_cases h2 : F a < F b
    · rw [if_pos h2, List.map_set, List.map_set]
    · rw [if_neg h2, List.map_set, List.map_set]
      have h3 := hF a b (by omega)
      have h4 : F a = F b := by omega
      apply List.ext_getElem?
      intro i
      rw [List.getElem?_set, List.getElem?_set]
      by_cases e1 : q.2.toNat = i
      · subst e1
        rw [if_pos rfl]
        simp [hb, vb, h4]
      · rw [if_neg e1]
        by_cases e2 : q.1.toNat = i
        · subst e2
          rw [if_pos rfl]
          simp [ha, va, h4]
        · rw [if_neg e2]
  · rw [if_neg h, if_neg (by have := hF b a (by omega); omega)]
theorem madeK_map {F : Int → Int} (hF : ∀ a b, a ≤ b → F a ≤ F b) {P : List (Int × Int)} {l : List Int} (hp : ∀ i, i < P.length → pairAt l.length (cR P) i) : ∀ i, i ≤ P.length → madeK P (l.map F) i = (madeK P l i).map F
  | 0, _ => rfl
  | i + 1, h => by
    have hq := hp i (by omega)
    unfold pairAt at hq
    obtain ⟨e1, e2⟩ := cR_int (L := P) (i := i) (List.getElem?_eq_getElem (by omega))
    rw [show i * 2 + 0 = i * 2 from rfl, e1, e2] at hq
    rw [madeK_next (by omega), madeK_next (by omega), madeK_map hF hp i (by omega)]
    exact cmpx_map hF (by rw [madeK_len]; omega) (by rw [madeK_len]; omega)
theorem take_of {X : List Int} {n : Nat} (h : X.length = n) : List.take (n * (0 + 1)) (List.drop 0 (cI X)) = cI X := by subst h; exact take_cI X
theorem intsOf_of {X : List Int} {n : Nat} (h : X.length = n) : intsOf (cI X) n = X := by subst h; exact intsOf_cI X
theorem tab_map {X : List Int} {n : Nat} (F : Int → Int) (h : X.length = n) : tabL (fun i => F (intAt (cI X) (i * 1))) n = X.map F := by
  subst h
  apply List.ext_getElem?
  intro i
  by_cases hi : i < X.length
  · rw [tabL_at _ _ _ hi, List.getElem?_map, List.getElem?_eq_getElem hi, Nat.mul_one, cI_int hi]
    rfl
  · rw [List.getElem?_eq_none (by rw [tabL_len]; omega), List.getElem?_eq_none (by rw [List.length_map]; omega)]
theorem ruE_ok {P : List (Int × Int)} {X : List Int} {n : Nat} (h : X.length = n) (hn : 2 ≤ n ∧ n ≤ 12) (hx : ∀ v ∈ X, 0 ≤ v ∧ v ≤ 100000) (hp : prE n (cR P) P.length = 0) : ruE (cR P) P.length (cI X) n = 0 := by
  rw [ruE_pr hn (fun i hi => ?_)]
  · exact hp
  · rw [Nat.mul_one, cI_int (by omega)]
    exact hx _ (List.getElem_mem _)

set_option maxHeartbeats 4000000 in
theorem rl_main (hw : Known Try.prog (clsO wkO)) (x y z : Value) (P : List (Int × Int)) (B M : List Int) (n : Nat) (hn : 2 ≤ n ∧ n ≤ 12) (hp : prE n (cR P) P.length = 0) (hB : AllU B) (hM : M.length ≤ 20) (w : World) : Goes Try.prog 62 (tlC (tlC (bodyC Try.f9))) ⟨[(0, .v (.int .i64 n)), (1, .xl x P.length 2 (cR P)), (2, .xl y B.length 1 (cU B)), (3, .xl z M.length 1 (cU M))], [], 0, []⟩ w (OutR Try.prog Try.f9 62 (.bool true) w) := by
  obtain ⟨-, hm, hpr⟩ := prE_zero hp
  have lA : (tabL (powA (cU B) B.length) n).length = n := tabL_len _ _
  have hA : ∀ v ∈ tabL (powA (cU B) B.length) n, 0 ≤ v ∧ v ≤ 100000 := fun v hv => by
    obtain ⟨i, hi, rfl⟩ := List.mem_iff_getElem.1 hv
    have := tabL_at (powA (cU B) B.length) n i (by omega)
    rw [List.getElem?_eq_getElem hi] at this
    rw [Option.some.inj this]
    exact powA_bd hB i
  have t1 := take_of lA
  have m1 := tab_map (rchA (cU M) M.length) lA
  have i1 := intsOf_of lA
  have p1 := pairsOf_cR P
  refine goes_out Try.checked.mixed (known_rl hw) 200 (v := .v (.bool true)) (ps := [IsU (0 + 1) B.length (cU B), 1 ≤ n ∧ n ≤ 1000, 0 + n * (0 + 1) ≤ (cI (tabL (powA (cU B) B.length) n)).length, 1 + 1 = 2 ∧ ∃ P_1, cR P = cR P_1 ∧ P.length = P_1.length, IsI (0 + 1) n (List.take (n * (0 + 1)) (List.drop 0 (cI (tabL (powA (cU B) B.length) n)))), ruE (cR P) P.length (List.take (n * (0 + 1)) (List.drop 0 (cI (tabL (powA (cU B) B.length) n)))) n = 0, 0 + n * (0 + 1) ≤ (cI (tabL (powA (cU B) B.length) n)).length, IsI (0 + 1) n (List.take (n * (0 + 1)) (List.drop 0 (cI (tabL (powA (cU B) B.length) n)))), IsU (0 + 1) M.length (cU M), 1 ≤ n ∧ n ≤ 1000, M.length ≤ 1000, 0 + n * (0 + 1) ≤ (cI (tabL (fun i => rchA (cU M) M.length (intAt (List.take (n * (0 + 1)) (List.drop 0 (cI (tabL (powA (cU B) B.length) n)))) (i * 1))) n)).length, 1 + 1 = 2 ∧ ∃ P_1, cR P = cR P_1 ∧ P.length = P_1.length, IsI (0 + 1) n (List.take (n * (0 + 1)) (List.drop 0 (cI (tabL (fun i => rchA (cU M) M.length (intAt (List.take (n * (0 + 1)) (List.drop 0 (cI (tabL (powA (cU B) B.length) n)))) (i * 1))) n)))), ruE (cR P) P.length (List.take (n * (0 + 1)) (List.drop 0 (cI (tabL (fun i => rchA (cU M) M.length (intAt (List.take (n * (0 + 1)) (List.drop 0 (cI (tabL (powA (cU B) B.length) n)))) (i * 1))) n)))) n = 0, eqI 0 0 = true, true = true, eqI 0 0 = true, true = true, true = true, 0 + n * (0 + 1) ≤ (cI (madeK (pairsOf (cR P) P.length) (intsOf (List.take (n * (0 + 1)) (List.drop 0 (cI (tabL (powA (cU B) B.length) n)))) n) P.length)).length, n ≤ n, IsI (0 + 1) n (List.take (n * (0 + 1)) (List.drop 0 (cI (madeK (pairsOf (cR P) P.length) (intsOf (List.take (n * (0 + 1)) (List.drop 0 (cI (tabL (powA (cU B) B.length) n)))) n) P.length)))), IsU (0 + 1) M.length (cU M), 1 ≤ n ∧ n ≤ 1000, M.length ≤ 1000, true = true, true = true, 0 + n * (0 + 1) ≤ (cI (tabL (fun i => rchA (cU M) M.length (intAt (List.take (n * (0 + 1)) (List.drop 0 (cI (madeK (pairsOf (cR P) P.length) (intsOf (List.take (n * (0 + 1)) (List.drop 0 (cI (tabL (powA (cU B) B.length) n)))) n) P.length)))) (i * 1))) n)).length, 0 + n * (0 + 1) ≤ (cI (madeK (pairsOf (cR P) P.length) (intsOf (List.take (n * (0 + 1)) (List.drop 0 (cI (tabL (fun i => rchA (cU M) M.length (intAt (List.take (n * (0 + 1)) (List.drop 0 (cI (tabL (powA (cU B) B.length) n)))) (i * 1))) n)))) n) P.length)).length, n ≤ n, IsI (0 + 1) n (List.take (n * (0 + 1)) (List.drop 0 (cI (tabL (fun i => rchA (cU M) M.length (intAt (List.take (n * (0 + 1)) (List.drop 0 (cI (madeK (pairsOf (cR P) P.length) (intsOf (List.take (n * (0 + 1)) (List.drop 0 (cI (tabL (powA (cU B) B.length) n)))) n) P.length)))) (i * 1))) n)))), n ≤ 1000, n = n ∧ 0 + 1 = 1 ∧ List.take (n * (0 + 1)) (List.drop 0 (cI (madeK (pairsOf (cR P) P.length) (intsOf (List.take (n * (0 + 1)) (List.drop 0 (cI (tabL (fun i => rchA (cU M) M.length (intAt (List.take (n * (0 + 1)) (List.drop 0 (cI (tabL (powA (cU B) B.length) n)))) (i * 1))) n)))) n) P.length))) = List.take (n * (0 + 1)) (List.drop 0 (cI (tabL (fun i => rchA (cU M) M.length (intAt (List.take (n * (0 + 1)) (List.drop 0 (cI (madeK (pairsOf (cR P) P.length) (intsOf (List.take (n * (0 + 1)) (List.drop 0 (cI (tabL (powA (cU B) B.length) n)))) n) P.length)))) (i * 1))) n))), true = true]) [.go, .go, .go, .go, .go, .go, .go, .go, .go, .go, .go, .go, .go, .go, .go, .go, .go, .go, .go, .go, .go, .b true, .go, .b true, .go, .go, .go, .b true, .go, .b true, .go, .b true, .b true, .go, .b true, .go, .go, .b true, .go, .go] (by kernel_rfl) (by kernel_rfl) ?_ rfl
  generalize tabL (powA (cU B) B.length) n = A at *
  have lF : (A.map (rchA (cU M) M.length)).length = n := by rw [List.length_map]; exact lA
  have lM : (madeK P A P.length).length = n := by rw [madeK_len]; exact lA
  have lMF : ((madeK P A P.length).map (rchA (cU M) M.length)).length = n := by rw [List.length_map]; exact lM
  have lFM : (madeK P (A.map (rchA (cU M) M.length)) P.length).length = n := by rw [madeK_len]; exact lF
  have t2 := take_of lF
  have i2 := intsOf_of lF
  have t3 := take_of lM
  have m3 := tab_map (rchA (cU M) M.length) lM
  have t4 := take_of lMF
  have t5 := take_of lFM
  have hcomm : madeK P (A.map (rchA (cU M) M.length)) P.length = (madeK P A P.length).map (rchA (cU M) M.length) := madeK_map (fun a b h => rch_mono h) (by rw [lA]; exact hpr) _ (Nat.le_refl _)
  have rA := ruE_ok (P := P) lA hn hA hp
  have rF := ruE_ok (P := P) lF hn (fun v hv => by
    obtain ⟨u, hu, rfl⟩ := List.mem_map.1 hv
    have := cntI_bd (rchB (cU M) u) M.length
    show 0 ≤ cntI _ _ ∧ cntI _ _ ≤ 100000
    omega) hp
  exact ⟨⟨rfl, B, rfl, rfl⟩, ⟨by omega, by omega⟩, by (try rw [t1]); (try rw [m1]); (try rw [t2]); (try rw [p1]); (try rw [i1]); (try rw [i2]); (try rw [t3]); (try rw [m3]); (try rw [t4]); (try rw [t5]); first | (rw [cI_len, lA]; omega) | (rw [cI_len, lF]; omega) | (rw [cI_len, lM]; omega) | (rw [cI_len, lMF]; omega) | (rw [cI_len, lFM]; omega), ⟨rfl, P, rfl, rfl⟩, by (try rw [t1]); (try rw [m1]); (try rw [t2]); (try rw [p1]); (try rw [i1]); (try rw [i2]); (try rw [t3]); (try rw [m3]); (try rw [t4]); (try rw [t5]); first | exact ⟨rfl, _, rfl, lA.symm⟩ | exact ⟨rfl, _, rfl, lF.symm⟩ | exact ⟨rfl, _, rfl, lM.symm⟩ | exact ⟨rfl, _, rfl, lMF.symm⟩, by (try rw [t1]); (try rw [m1]); (try rw [t2]); (try rw [p1]); (try rw [i1]); (try rw [i2]); (try rw [t3]); (try rw [m3]); (try rw [t4]); (try rw [t5]); first | exact rA | exact rF, by (try rw [t1]); (try rw [m1]); (try rw [t2]); (try rw [p1]); (try rw [i1]); (try rw [i2]); (try rw [t3]); (try rw [m3]); (try rw [t4]); (try rw [t5]); first | (rw [cI_len, lA]; omega) | (rw [cI_len, lF]; omega) | (rw [cI_len, lM]; omega) | (rw [cI_len, lMF]; omega) | (rw [cI_len, lFM]; omega), by (try rw [t1]); (try rw [m1]); (try rw [t2]); (try rw [p1]); (try rw [i1]); (try rw [i2]); (try rw [t3]); (try rw [m3]); (try rw [t4]); (try rw [t5]); first | exact ⟨rfl, _, rfl, lA.symm⟩ | exact ⟨rfl, _, rfl, lF.symm⟩ | exact ⟨rfl, _, rfl, lM.symm⟩ | exact ⟨rfl, _, rfl, lMF.symm⟩, ⟨rfl, M, rfl, rfl⟩, ⟨by omega, by omega⟩, by omega, by (try rw [t1]); (try rw [m1]); (try rw [t2]); (try rw [p1]); (try rw [i1]); (try rw [i2]); (try rw [t3]); (try rw [m3]); (try rw [t4]); (try rw [t5]); first | (rw [cI_len, lA]; omega) | (rw [cI_len, lF]; omega) | (rw [cI_len, lM]; omega) | (rw [cI_len, lMF]; omega) | (rw [cI_len, lFM]; omega), ⟨rfl, P, rfl, rfl⟩, by (try rw [t1]); (try rw [m1]); (try rw [t2]); (try rw [p1]); (try rw [i1]); (try rw [i2]); (try rw [t3]); (try rw [m3]); (try rw [t4]); (try rw [t5]); first | exact ⟨rfl, _, rfl, lA.symm⟩ | exact ⟨rfl, _, rfl, lF.symm⟩ | exact ⟨rfl, _, rfl, lM.symm⟩ | exact ⟨rfl, _, rfl, lMF.symm⟩, by (try rw [t1]); (try rw [m1]); (try rw [t2]); (try rw [p1]); (try rw [i1]); (try rw [i2]); (try rw [t3]); (try rw [m3]); (try rw [t4]); (try rw [t5]); first | exact rA | exact rF, rfl, rfl, rfl, rfl, rfl, by (try rw [t1]); (try rw [m1]); (try rw [t2]); (try rw [p1]); (try rw [i1]); (try rw [i2]); (try rw [t3]); (try rw [m3]); (try rw [t4]); (try rw [t5]); first | (rw [cI_len, lA]; omega) | (rw [cI_len, lF]; omega) | (rw [cI_len, lM]; omega) | (rw [cI_len, lMF]; omega) | (rw [cI_len, lFM]; omega), by omega, by (try rw [t1]); (try rw [m1]); (try rw [t2]); (try rw [p1]); (try rw [i1]); (try rw [i2]); (try rw [t3]); (try rw [m3]); (try rw [t4]); (try rw [t5]); first | exact ⟨rfl, _, rfl, lA.symm⟩ | exact ⟨rfl, _, rfl, lF.symm⟩ | exact ⟨rfl, _, rfl, lM.symm⟩ | exact ⟨rfl, _, rfl, lMF.symm⟩, ⟨rfl, M, rfl, rfl⟩, ⟨by omega, by omega⟩, by omega, rfl, rfl, by (try rw [t1]); (try rw [m1]); (try rw [t2]); (try rw [p1]); (try rw [i1]); (try rw [i2]); (try rw [t3]); (try rw [m3]); (try rw [t4]); (try rw [t5]); first | (rw [cI_len, lA]; omega) | (rw [cI_len, lF]; omega) | (rw [cI_len, lM]; omega) | (rw [cI_len, lMF]; omega) | (rw [cI_len, lFM]; omega), by (try rw [t1]); (try rw [m1]); (try rw [t2]); (try rw [p1]); (try rw [i1]); (try rw [i2]); (try rw [t3]); (try rw [m3]); (try rw [t4]); (try rw [t5]); first | (rw [cI_len, lA]; omega) | (rw [cI_len, lF]; omega) | (rw [cI_len, lM]; omega) | (rw [cI_len, lMF]; omega) | (rw [cI_len, lFM]; omega), by omega, by (try rw [t1]); (try rw [m1]); (try rw [t2]); (try rw [p1]); (try rw [i1]); (try rw [i2]); (try rw [t3]); (try rw [m3]); (try rw [t4]); (try rw [t5]); first | exact ⟨rfl, _, rfl, lA.symm⟩ | exact ⟨rfl, _, rfl, lF.symm⟩ | exact ⟨rfl, _, rfl, lM.symm⟩ | exact ⟨rfl, _, rfl, lMF.symm⟩, by omega, ⟨rfl, rfl, by (try rw [t1]); (try rw [m1]); (try rw [t2]); (try rw [p1]); (try rw [i1]); (try rw [i2]); (try rw [t3]); (try rw [m3]); (try rw [t4]); (try rw [t5]); rw [hcomm]⟩, rfl, trivial⟩

theorem rl_head (hw : Known Try.prog (clsO wkO)) (x y z : Value) (P : List (Int × Int)) (B M : List Int) (n : Int) (w : World) (hc : P.length ≤ 80 → prE n (cR P) P.length = 0 → B.length ≤ 20 → M.length ≤ 20 → Goes Try.prog 62 (tlC (tlC (bodyC Try.f9))) ⟨[(0, .v (.int .i64 n)), (1, .xl x P.length 2 (cR P)), (2, .xl y B.length 1 (cU B)), (3, .xl z M.length 1 (cU M))], [], 0, []⟩ w (OutR Try.prog Try.f9 62 (.bool true) w)) : Goes Try.prog 62 (tlC (bodyC Try.f9)) ⟨[(0, .v (.int .i64 n)), (1, .xl x P.length 2 (cR P)), (2, .xl y B.length 1 (cU B)), (3, .xl z M.length 1 (cU M))], [], 0, []⟩ w (OutR Try.prog Try.f9 62 (.bool true) w) := by
  cases hq1 : (ltI 80 ↑P.length) with
  | true =>
    have ghq1 := ltI_true hq1
    exact goes_out Try.checked.mixed (known_rl hw) 200 (v := .v (.bool true)) (ps := [(!ltI 80 ↑P.length) = false, false = false, false = false, false = false, (!false) = true, true = true, true = true, true = true, true = true, true = true, true = true]) [.go, .go, .go, .go, .go, .go, .go, .b false, .b false, .b false, .b false, .go, .go, .go, .go, .b true, .b true, .b true, .go, .go, .b true, .b true, .b true, .go, .b true, .go] (by kernel_rfl) (by kernel_rfl) ⟨(by rw [hq1]; rfl), rfl, rfl, rfl, rfl, rfl, rfl, rfl, rfl, rfl, rfl, trivial⟩ rfl
  | false =>
    have ghq1 := ltI_false hq1
    cases hq2 : (eqI (prE n (cR P) P.length) 0) with
    | true =>
      cases hq3 : (ltI 20 ↑B.length) with
      | true =>
        have ghq3 := ltI_true hq3
        exact goes_out Try.checked.mixed (known_rl hw) 200 (v := .v (.bool true)) (ps := [(!ltI 80 ↑P.length) = true, true = true, true = true, 1 + 1 = 2 ∧ ∃ P_1, cR P = cR P_1 ∧ P.length = P_1.length, true = true, (!eqI (prE n (cR P) P.length) 0) = false, false = false, false = false, ltI 20 ↑B.length = true, true = true, true = true, true = true]) [.go, .go, .go, .go, .go, .go, .go, .b true, .go, .b true, .go, .b true, .b true, .go, .go, .go, .go, .go, .b false, .go, .b false, .go, .b false, .go, .go, .go, .b true, .b true, .b true, .go, .b true, .go] (by kernel_rfl) (by kernel_rfl) ⟨(by rw [hq1]; rfl), rfl, rfl, ⟨rfl, P, rfl, rfl⟩, rfl, (by rw [hq2]; rfl), rfl, rfl, hq3, rfl, rfl, rfl, trivial⟩ rfl
      | false =>
        have ghq3 := ltI_false hq3
        cases hq4 : (ltI 20 ↑M.length) with
        | true =>
          have ghq4 := ltI_true hq4
          exact goes_out Try.checked.mixed (known_rl hw) 200 (v := .v (.bool true)) (ps := [(!ltI 80 ↑P.length) = true, true = true, true = true, 1 + 1 = 2 ∧ ∃ P_1, cR P = cR P_1 ∧ P.length = P_1.length, true = true, (!eqI (prE n (cR P) P.length) 0) = false, false = false, false = false, ltI 20 ↑B.length = false, false = false, false = false, ltI 20 ↑M.length = true]) [.go, .go, .go, .go, .go, .go, .go, .b true, .go, .b true, .go, .b true, .b true, .go, .go, .go, .go, .go, .b false, .go, .b false, .go, .b false, .go, .go, .go, .b false, .go, .b false, .go, .b false, .go, .go, .b true, .go] (by kernel_rfl) (by kernel_rfl) ⟨(by rw [hq1]; rfl), rfl, rfl, ⟨rfl, P, rfl, rfl⟩, rfl, (by rw [hq2]; rfl), rfl, rfl, hq3, rfl, rfl, hq4, trivial⟩ rfl
        | false =>
          have ghq4 := ltI_false hq4
          exact goes_spine (T' := ⟨[(0, .v (.int .i64 n)), (1, .xl x P.length 2 (cR P)), (2, .xl y B.length 1 (cU B)), (3, .xl z M.length 1 (cU M))], [], 0, []⟩) (by kernel_rfl) (goes_told Try.checked.mixed (known_rl hw) 200 (e := .normal) (ps := [(!ltI 80 ↑P.length) = true, true = true, true = true, 1 + 1 = 2 ∧ ∃ P_1, cR P = cR P_1 ∧ P.length = P_1.length, true = true, (!eqI (prE n (cR P) P.length) 0) = false, false = false, false = false, ltI 20 ↑B.length = false, false = false, false = false, ltI 20 ↑M.length = false]) [.go, .go, .go, .go, .go, .go, .go, .b true, .go, .b true, .go, .b true, .b true, .go, .go, .go, .go, .go, .b false, .go, .b false, .go, .b false, .go, .go, .go, .b false, .go, .b false, .go, .b false, .go, .go, .b false] (by kernel_rfl) (by kernel_rfl) ⟨(by rw [hq1]; rfl), rfl, rfl, ⟨rfl, P, rfl, rfl⟩, rfl, (by rw [hq2]; rfl), rfl, rfl, hq3, rfl, rfl, hq4, trivial⟩ rfl) (hc (by omega) (by simpa [eqI_iff] using hq2) (by omega) (by omega))
    | false =>
      exact goes_out Try.checked.mixed (known_rl hw) 200 (v := .v (.bool true)) (ps := [(!ltI 80 ↑P.length) = true, true = true, true = true, 1 + 1 = 2 ∧ ∃ P_1, cR P = cR P_1 ∧ P.length = P_1.length, true = true, (!eqI (prE n (cR P) P.length) 0) = true, true = true, true = true, true = true, true = true, true = true, true = true]) [.go, .go, .go, .go, .go, .go, .go, .b true, .go, .b true, .go, .b true, .b true, .go, .go, .go, .go, .go, .b true, .b true, .b true, .go, .go, .b true, .b true, .b true, .go, .b true, .go] (by kernel_rfl) (by kernel_rfl) ⟨(by rw [hq1]; rfl), rfl, rfl, ⟨rfl, P, rfl, rfl⟩, rfl, (by rw [hq2]; rfl), rfl, rfl, rfl, rfl, rfl, rfl, trivial⟩ rfl

theorem relabelled_g (hw : Known Try.prog (clsO wkO)) (x y z : Value) (P : List (Int × Int)) (B M : List Int) (n : Int) (hB : AllU B) : GivesA Try.prog 9 [.v (.int .i64 n), .xl x P.length 2 (cR P), .xl y B.length 1 (cU B), .xl z M.length 1 (cU M)] (.bool true) := by
  refine givesA_parts 62 Try.func9 (by kernel_rfl) (by kernel_rfl) (by kernel_rfl) (fun w => ?_)
  refine goes_spine (T' := ⟨[(0, .v (.int .i64 n)), (1, .xl x P.length 2 (cR P)), (2, .xl y B.length 1 (cU B)), (3, .xl z M.length 1 (cU M))], [], 0, []⟩) (by kernel_rfl) (goes_told Try.checked.mixed (known_rl hw) 200 (e := .normal) (ps := []) [.go] (by kernel_rfl) (by kernel_rfl) trivial rfl) ?_
  refine rl_head hw x y z P B M n w (fun h1 h2 h3 h4 => ?_)
  obtain ⟨hn, -, -⟩ := prE_zero h2
  obtain ⟨m, rfl⟩ : ∃ m : Nat, n = m := ⟨n.toNat, by omega⟩
  exact rl_main hw x y z P B M m (by omega) h2 hB h4 w

end
end Go.Proofs.Ytchlehpjpgeejaa
