import Derived.Test.YtchlehpjpgeejaaD4
/- What is known of run. -/
namespace Go.Proofs.Ytchlehpjpgeejaa
set_option linter.unusedVariables false
set_option linter.unusedSimpArgs false
open Go Ev
noncomputable section
def unI : List AV → List Int
  | .v (.int _ a) :: l => a :: unI l
  | _ => []
theorem unI_cI : ∀ L : List Int, unI (cI L) = L
  | [] => rfl
  | q :: l => by simp only [cI, unI, unI_cI l]
def rnO2 : List AV → List AB → Option ((AV × List AB) × List Prop) := fun args xs =>
  match args with
  | [.xl y m k c, .xl z n j d] => match xs with
    | [] => some ((.slu 0 0 n 0, [.row (cI (madeK (unR c) (unI d) m)) 2 1]),
        [k = 2 ∧ c = cR (unR c) ∧ m = (unR c).length, j = 1 ∧ d = cI (unI d) ∧ n = (unI d).length, 1 ≤ n ∧ n ≤ 1000, m ≤ 80, ∀ i, i < m → pairAt n c i])
    | _ => none
  | _ => none
def rnO : OrcH := mOrc 63 rnO2
theorem known_rn : Known Try.prog (clsO rnO) := known_m (fun args xs r ys ps h hp => by
  unfold rnO2 at h
  split at h
  · split at h
    · rename_i y m k c z n j d _
      cases h
      obtain ⟨⟨rfl, e1, rfl⟩, ⟨rfl, e2, rfl⟩, h1, h2, h3, -⟩ := hp
      generalize unR c = P at *
      generalize unI d = L at *
      subst e1 e2
      refine ⟨fun x hx => absurd hx List.not_mem_nil, fun y hy => ?_, rrun_g y z P L h1 h2 h3⟩
      rcases List.mem_cons.1 hy with rfl | hy
      · exact freeB_row (freeL_plain (cI_plain _))
      · exact absurd hy List.not_mem_nil
    · cases h
  · cases h)
def rrT : OrcH := orO rcpO rnO
theorem known_rrT : Known Try.prog (clsO rrT) := known_or known_rcp known_rn
end
end Go.Proofs.Ytchlehpjpgeejaa
/- Run of the reference. -/
namespace Go.Proofs.Ytchlehpjpgeejaa
set_option linter.unusedVariables false
set_option linter.unusedSimpArgs false
open Go Ev
noncomputable section
noncomputable def qbK1 : Code := bodyC Try.f17
noncomputable def qbK3 : Code := tlC qbK1
noncomputable def qbK6 : Code := tlC qbK3
noncomputable def qbK9 : Code := tlC qbK6
noncomputable def qbK10 : Code := (hdC qbK6)
noncomputable def qbK12 : Code := tlC qbK10
noncomputable def qbK16 : Code := loopC qbK12
set_option maxHeartbeats 2000000 in
theorem qb_19 (y : Value) (z : Value) (P : List (Int × Int)) (L : List Int) (h0 : ¬ ruE (cR P) P.length (cI L) L.length = 0) (hqqb7_1 : (ltI (((L.length : Nat) : Int)) 2) = false) (hqqb7_2 : (ltI 12 ((L.length : Nat) : Int)) = false) (h0b : ∀ j, j < (L.length) → 0 ≤ intAt (cI L) (j * 1) ∧ intAt (cI L) (j * 1) ≤ 100000) (hqqb18_1 : (ltI ((L.length : Nat) : Int) ((L.length : Nat) : Int)) = false) (w : World) (hs : List Nat) : Goes Try.prog 45 qbK9 (⟨[(0, (.xl (y) (P.length) 2 (cR P))), (1, (.xl (z) (L.length) 1 (cI L)))], [], 0, []⟩) (BaseW.H w hs) (OutH Try.prog Try.f17 45 (.tuple #[.slice none 0 0, .int .i64 (ruE (cR P) P.length (cI L) L.length)]) w) := by
  have hcl_P := cR_len P
  have hcl_L := cI_len L
  have ghqqb7_1 := ltI_false hqqb7_1
  have ghqqb7_2 := ltI_false hqqb7_2
  have ghqqb18_1 := ltI_false hqqb18_1
  rcases Bool.eq_false_or_eq_true (eqI (prE (((L.length : Nat) : Int)) (cR P) P.length) 0) with hqqb20_1 | hqqb20_1
  · skip
    have ghqqb20_1 := eqI_true hqqb20_1
    exact absurd ((ruE_pr (by omega) h0b).trans (eqI_true hqqb20_1)) h0
  · skip
    have ghqqb20_1 := eqI_false hqqb20_1
    exact goes_leafA isR_e (goes_told Try.checked.mixed (known_rrT) 200 (T' := ⟨[(4, (.v (Value.slice none 0 0))), (5, (.v (.int .i64 (prE (((L.length : Nat) : Int)) (cR P) P.length))))], [], 0, []⟩) (e := .ret) (ps := [1 + 1 = 2 ∧ ∃ P_1, cR P = cR P_1 ∧ P.length = P_1.length, (!eqI (prE (((L.length : Nat) : Int)) (cR P) P.length) 0) = true, 1 + 1 = 2 ∧ ∃ P_1, cR P = cR P_1 ∧ P.length = P_1.length]) [.go, .go, .go, .go, .b true, .go, .go, .go, .go, .go] (by kernel_rfl) (by kernel_rfl) ⟨⟨rfl, P, rfl, rfl⟩, (by rw [hqqb20_1]; rfl), ⟨rfl, P, rfl, rfl⟩, trivial⟩ rfl) (Hd.en_eq (r := .tuple #[(Value.slice none 0 0), (.int .i64 (prE (((L.length : Nat) : Int)) (cR P) P.length))]) (by rw [ruE_pr (by omega) h0b]) (Hd.en_ret (v := (.tup [(.v (Value.slice none 0 0)), (.v (.int .i64 (prE (((L.length : Nat) : Int)) (cR P) P.length)))])) (by kernel_rfl) rfl))
set_option maxHeartbeats 4000000 in
theorem qb_17 (y : Value) (z : Value) (P : List (Int × Int)) (L : List Int) (h0 : ¬ ruE (cR P) P.length (cI L) L.length = 0) (hqqb7_1 : (ltI (((L.length : Nat) : Int)) 2) = false) (hqqb7_2 : (ltI 12 ((L.length : Nat) : Int)) = false) (i : Nat) (hi1 : i ≤ L.length) (hi2 : ∀ j, j < i → 0 ≤ intAt (cI L) (j * 1) ∧ intAt (cI L) (j * 1) ≤ 100000) (w : World) (hs : List Nat) : Goes Try.prog 45 qbK16 (⟨[(0, (.xl (y) (P.length) 2 (cR P))), (1, (.xl (z) (L.length) 1 (cI L))), (6, (.v (.int .i64 ((i : Nat) : Int))))], [], 0, []⟩) (BaseW.H w hs) (Hd.StepC Try.prog 45 0 (fun i : { i : Nat // i ≤ L.length ∧ ∀ j, j < i → 0 ≤ intAt (cI L) (j * 1) ∧ intAt (cI L) (j * 1) ≤ 100000 } => ⟨[(0, (.xl (y) (P.length) 2 (cR P))), (1, (.xl (z) (L.length) 1 (cI L))), (6, (.v (.int .i64 ((i.1 : Nat) : Int))))], [], 0, []⟩) (fun i : { i : Nat // i ≤ L.length ∧ ∀ j, j < i → 0 ≤ intAt (cI L) (j * 1) ∧ intAt (cI L) (j * 1) ≤ 100000 } => L.length - i.1) qbK9 w (OutH Try.prog Try.f17 45 (.tuple #[.slice none 0 0, .int .i64 (ruE (cR P) P.length (cI L) L.length)]) w) (⟨i, hi1, hi2⟩ : { i : Nat // i ≤ L.length ∧ ∀ j, j < i → 0 ≤ intAt (cI L) (j * 1) ∧ intAt (cI L) (j * 1) ≤ 100000 })) := by
  have hcl_P := cR_len P
  have hcl_L := cI_len L
  have ghqqb7_1 := ltI_false hqqb7_1
  have ghqqb7_2 := ltI_false hqqb7_2
  rcases Bool.eq_false_or_eq_true (ltI ((i : Nat) : Int) ((L.length : Nat) : Int)) with hqqb18_1 | hqqb18_1
  · skip
    have ghqqb18_1 := ltI_true hqqb18_1
    rcases Bool.eq_false_or_eq_true (ltI (intAt (cI L) (i * 1)) 0) with hqqb18_2 | hqqb18_2
    · skip
      have ghqqb18_2 := ltI_true hqqb18_2
      exact goes_leafA isR_e (goes_told Try.checked.mixed (known_rrT) 200 (T' := ⟨[(4, (.v (Value.slice none 0 0))), (5, (.v (.int .i64 (.ofNat 2))))], [], 0, []⟩) (e := .ret) (ps := [ltI ((i : Nat) : Int) ((L.length : Nat) : Int) = true, i < L.length, loadL Try.prog (cI L) (i * 1) 2 = some (AV.v (Value.int IntKind.i64 (intAt (cI L) (i * 1)))), ltI (intAt (cI L) (i * 1)) 0 = true, true = true, true = true, true = true, true = true, true = true]) [.go, .go, .go, .go, .b true, .go, .go, .sym, .sym, .go, .go, .b true, .b true, .b true, .b true, .b true, .go, .b true, .go, .go] (by kernel_rfl) (by kernel_rfl) ⟨hqqb18_1, (by omega), (cI_ld (by omega) 2 (Try.underlying2) rfl), hqqb18_2, rfl, rfl, rfl, rfl, rfl, trivial⟩ rfl) (Hd.en_so (by intro h; cases h) (by intro h; cases h) (Hd.en_eq (r := .tuple #[(Value.slice none 0 0), (.int .i64 2)]) (by rw [ruE_arg (show 2 ≤ L.length ∧ L.length ≤ 12 by omega) (show i < L.length by omega) (by omega)]) (Hd.en_ret (v := (.tup [(.v (Value.slice none 0 0)), (.v (.int .i64 (.ofNat 2)))])) (by kernel_rfl) rfl)))
    · skip
      have ghqqb18_2 := ltI_false hqqb18_2
      rcases Bool.eq_false_or_eq_true (ltI 100000 (intAt (cI L) (i * 1))) with hqqb18_3 | hqqb18_3
      · skip
        have ghqqb18_3 := ltI_true hqqb18_3
        exact goes_leafA isR_e (goes_told Try.checked.mixed (known_rrT) 200 (T' := ⟨[(4, (.v (Value.slice none 0 0))), (5, (.v (.int .i64 (.ofNat 2))))], [], 0, []⟩) (e := .ret) (ps := [ltI ((i : Nat) : Int) ((L.length : Nat) : Int) = true, i < L.length, loadL Try.prog (cI L) (i * 1) 2 = some (AV.v (Value.int IntKind.i64 (intAt (cI L) (i * 1)))), ltI (intAt (cI L) (i * 1)) 0 = false, false = false, false = false, i < L.length, false = false, loadL Try.prog (cI L) (i * 1) 2 = some (AV.v (Value.int IntKind.i64 (intAt (cI L) (i * 1)))), false = false, ltI 100000 (intAt (cI L) (i * 1)) = true]) [.go, .go, .go, .go, .b true, .go, .go, .sym, .sym, .go, .go, .b false, .go, .b false, .go, .b false, .sym, .b false, .sym, .b false, .go, .go, .b true, .go, .go] (by kernel_rfl) (by kernel_rfl) ⟨hqqb18_1, (by omega), (cI_ld (by omega) 2 (Try.underlying2) rfl), hqqb18_2, rfl, rfl, (by omega), rfl, (cI_ld (by omega) 2 (Try.underlying2) rfl), rfl, hqqb18_3, trivial⟩ rfl) (Hd.en_so (by intro h; cases h) (by intro h; cases h) (Hd.en_eq (r := .tuple #[(Value.slice none 0 0), (.int .i64 2)]) (by rw [ruE_arg (show 2 ≤ L.length ∧ L.length ≤ 12 by omega) (show i < L.length by omega) (by omega)]) (Hd.en_ret (v := (.tup [(.v (Value.slice none 0 0)), (.v (.int .i64 (.ofNat 2)))])) (by kernel_rfl) rfl)))
      · skip
        have ghqqb18_3 := ltI_false hqqb18_3
        exact goes_leafA isN_e (goes_told Try.checked.mixed (known_rrT) 200 (T' := ⟨[(0, (.xl (y) (P.length) 2 (cR P))), (1, (.xl (z) (L.length) 1 (cI L))), (6, (.v (.int .i64 (((i + 1) : Nat) : Int))))], [], 0, []⟩) (e := .normal) (ps := [ltI ((i : Nat) : Int) ((L.length : Nat) : Int) = true, i < L.length, loadL Try.prog (cI L) (i * 1) 2 = some (AV.v (Value.int IntKind.i64 (intAt (cI L) (i * 1)))), ltI (intAt (cI L) (i * 1)) 0 = false, false = false, false = false, i < L.length, false = false, loadL Try.prog (cI L) (i * 1) 2 = some (AV.v (Value.int IntKind.i64 (intAt (cI L) (i * 1)))), false = false, ltI 100000 (intAt (cI L) (i * 1)) = false, inR IntKind.i64 (((i : Nat) : Int) + 1)]) [.go, .go, .go, .go, .b true, .go, .go, .sym, .sym, .go, .go, .b false, .go, .b false, .go, .b false, .sym, .b false, .sym, .b false, .go, .go, .b false, .go, .go, .go] (by kernel_rfl) (by kernel_rfl) ⟨hqqb18_1, (by omega), (cI_ld (by omega) 2 (Try.underlying2) rfl), hqqb18_2, rfl, rfl, (by omega), rfl, (cI_ld (by omega) 2 (Try.underlying2) rfl), rfl, hqqb18_3, (by show -9223372036854775808 ≤ _ ∧ _ ≤ 9223372036854775807; constructor <;> omega), trivial⟩ rfl) (Hd.en_on (⟨i + 1, by omega, (ruI_next hi2 ⟨by omega, by omega⟩)⟩) (by show L.length - (i + 1) < L.length - i; omega) rfl)
  · skip
    have ghqqb18_1 := ltI_false hqqb18_1
    obtain rfl : i = L.length := by omega
    exact goes_leafA isX_e (goes_told Try.checked.mixed (known_rrT) 200 (T' := ⟨[(0, (.xl (y) (P.length) 2 (cR P))), (1, (.xl (z) (L.length) 1 (cI L)))], [], 0, []⟩) (e := .exit 0) (ps := [ltI ((L.length : Nat) : Int) ((L.length : Nat) : Int) = false]) [.go, .go, .go, .go, .b false] (by kernel_rfl) (by kernel_rfl) ⟨hqqb18_1, trivial⟩ rfl) (Hd.en_sx (qb_19 y z P L h0 hqqb7_1 hqqb7_2 hi2  hqqb18_1 w hs))
set_option maxHeartbeats 4000000 in
theorem qb_15 (y : Value) (z : Value) (P : List (Int × Int)) (L : List Int) (h0 : ¬ ruE (cR P) P.length (cI L) L.length = 0) (hqqb7_1 : (ltI (((L.length : Nat) : Int)) 2) = false) (hqqb7_2 : (ltI 12 ((L.length : Nat) : Int)) = false) (w : World) (hs : List Nat) : Goes Try.prog 45 qbK12 (⟨[(0, (.xl (y) (P.length) 2 (cR P))), (1, (.xl (z) (L.length) 1 (cI L))), (6, (.v (.int .i64 (.ofNat 0))))], [], 0, []⟩) (BaseW.H w hs) (Hd.AfterN Try.prog 45 qbK9 w (OutH Try.prog Try.f17 45 (.tuple #[.slice none 0 0, .int .i64 (ruE (cR P) P.length (cI L) L.length)]) w)) := by
  have hcl_P := cR_len P
  have hcl_L := cI_len L
  have ghqqb7_1 := ltI_false hqqb7_1
  have ghqqb7_2 := ltI_false hqqb7_2
  exact Hd.goes_loopA (id := 0) (by kernel_rfl) (by kernel_rfl) (fun i : { i : Nat // i ≤ L.length ∧ ∀ j, j < i → 0 ≤ intAt (cI L) (j * 1) ∧ intAt (cI L) (j * 1) ≤ 100000 } => ⟨[(0, (.xl (y) (P.length) 2 (cR P))), (1, (.xl (z) (L.length) 1 (cI L))), (6, (.v (.int .i64 ((i.1 : Nat) : Int))))], [], 0, []⟩) (fun i : { i : Nat // i ≤ L.length ∧ ∀ j, j < i → 0 ≤ intAt (cI L) (j * 1) ∧ intAt (cI L) (j * 1) ≤ 100000 } => L.length - i.1) (fun ix_ hs => qb_17 y z P L h0 hqqb7_1 hqqb7_2 ix_.1 ix_.2.1 ix_.2.2 w hs) ⟨0, Nat.zero_le _, (fun j hj => by omega)⟩ hs
set_option maxHeartbeats 2000000 in
theorem qb_14 (y : Value) (z : Value) (P : List (Int × Int)) (L : List Int) (h0 : ¬ ruE (cR P) P.length (cI L) L.length = 0) (hqqb7_1 : (ltI (((L.length : Nat) : Int)) 2) = false) (hqqb7_2 : (ltI 12 ((L.length : Nat) : Int)) = false) (w : World) (hs : List Nat) : Goes Try.prog 45 qbK12 (⟨[(0, (.xl (y) (P.length) 2 (cR P))), (1, (.xl (z) (L.length) 1 (cI L))), (6, (.v (.int .i64 (.ofNat 0))))], [], 0, []⟩) (BaseW.H w hs) (Hd.AfterN Try.prog 45 qbK9 w (OutH Try.prog Try.f17 45 (.tuple #[.slice none 0 0, .int .i64 (ruE (cR P) P.length (cI L) L.length)]) w)) := by
  exact qb_15 y z P L h0 hqqb7_1 hqqb7_2 w hs
set_option maxHeartbeats 2000000 in
theorem qb_11 (y : Value) (z : Value) (P : List (Int × Int)) (L : List Int) (h0 : ¬ ruE (cR P) P.length (cI L) L.length = 0) (hqqb7_1 : (ltI (((L.length : Nat) : Int)) 2) = false) (hqqb7_2 : (ltI 12 ((L.length : Nat) : Int)) = false) (w : World) (hs : List Nat) : Goes Try.prog 45 qbK10 (⟨[(0, (.xl (y) (P.length) 2 (cR P))), (1, (.xl (z) (L.length) 1 (cI L)))], [], 0, []⟩) (BaseW.H w hs) (Hd.AfterN Try.prog 45 qbK9 w (OutH Try.prog Try.f17 45 (.tuple #[.slice none 0 0, .int .i64 (ruE (cR P) P.length (cI L) L.length)]) w)) := by
  have hcl_P := cR_len P
  have hcl_L := cI_len L
  have ghqqb7_1 := ltI_false hqqb7_1
  have ghqqb7_2 := ltI_false hqqb7_2
  refine Hd.goes_seqA (by kernel_rfl) ?_
  exact goes_leafA isN_e (goes_told Try.checked.mixed (known_rrT) 200 (T' := ⟨[(0, (.xl (y) (P.length) 2 (cR P))), (1, (.xl (z) (L.length) 1 (cI L))), (6, (.v (.int .i64 (.ofNat 0))))], [], 0, []⟩) (e := .normal) (ps := []) [.go] (by kernel_rfl) (by kernel_rfl) trivial rfl) (Hd.en_n (qb_14 y z P L h0 hqqb7_1 hqqb7_2 w hs))
set_option maxHeartbeats 2000000 in
theorem qb_8 (y : Value) (z : Value) (P : List (Int × Int)) (L : List Int) (h0 : ¬ ruE (cR P) P.length (cI L) L.length = 0) (hqqb7_1 : (ltI (((L.length : Nat) : Int)) 2) = false) (hqqb7_2 : (ltI 12 ((L.length : Nat) : Int)) = false) (w : World) (hs : List Nat) : Goes Try.prog 45 qbK6 (⟨[(0, (.xl (y) (P.length) 2 (cR P))), (1, (.xl (z) (L.length) 1 (cI L)))], [], 0, []⟩) (BaseW.H w hs) (OutH Try.prog Try.f17 45 (.tuple #[.slice none 0 0, .int .i64 (ruE (cR P) P.length (cI L) L.length)]) w) := by
  exact Hd.goes_seqA (by kernel_rfl) (qb_11 y z P L h0 hqqb7_1 hqqb7_2 w hs)
set_option maxHeartbeats 2000000 in
theorem qb_5 (y : Value) (z : Value) (P : List (Int × Int)) (L : List Int) (h0 : ¬ ruE (cR P) P.length (cI L) L.length = 0) (w : World) (hs : List Nat) : Goes Try.prog 45 qbK3 (⟨[(0, (.xl (y) (P.length) 2 (cR P))), (1, (.xl (z) (L.length) 1 (cI L)))], [], 0, []⟩) (BaseW.H w hs) (OutH Try.prog Try.f17 45 (.tuple #[.slice none 0 0, .int .i64 (ruE (cR P) P.length (cI L) L.length)]) w) := by
  have hcl_P := cR_len P
  have hcl_L := cI_len L
  refine Hd.goes_seqA (by kernel_rfl) ?_
  rcases Bool.eq_false_or_eq_true (ltI (((L.length : Nat) : Int)) 2) with hqqb7_1 | hqqb7_1
  · skip
    have ghqqb7_1 := ltI_true hqqb7_1
    exact goes_leafA isR_e (goes_told Try.checked.mixed (known_rrT) 200 (T' := ⟨[(4, (.v (Value.slice none 0 0))), (5, (.v (.int .i64 (.ofNat 6))))], [], 0, []⟩) (e := .ret) (ps := [ltI (((L.length : Nat) : Int)) 2 = true, true = true, true = true, true = true]) [.go, .go, .go, .go, .b true, .b true, .b true, .go, .b true, .go, .go] (by kernel_rfl) (by kernel_rfl) ⟨hqqb7_1, rfl, rfl, rfl, trivial⟩ rfl) (Hd.en_o (by intro h; cases h) (Hd.en_eq (r := .tuple #[(Value.slice none 0 0), (.int .i64 6)]) (by rw [ruE_many (by omega)]) (Hd.en_ret (v := (.tup [(.v (Value.slice none 0 0)), (.v (.int .i64 (.ofNat 6)))])) (by kernel_rfl) rfl)))
  · skip
    have ghqqb7_1 := ltI_false hqqb7_1
    rcases Bool.eq_false_or_eq_true (ltI 12 ((L.length : Nat) : Int)) with hqqb7_2 | hqqb7_2
    · skip
      have ghqqb7_2 := ltI_true hqqb7_2
      exact goes_leafA isR_e (goes_told Try.checked.mixed (known_rrT) 200 (T' := ⟨[(4, (.v (Value.slice none 0 0))), (5, (.v (.int .i64 (.ofNat 6))))], [], 0, []⟩) (e := .ret) (ps := [ltI (((L.length : Nat) : Int)) 2 = false, false = false, false = false, ltI 12 ((L.length : Nat) : Int) = true]) [.go, .go, .go, .go, .b false, .go, .b false, .go, .b false, .go, .go, .b true, .go, .go] (by kernel_rfl) (by kernel_rfl) ⟨hqqb7_1, rfl, rfl, hqqb7_2, trivial⟩ rfl) (Hd.en_o (by intro h; cases h) (Hd.en_eq (r := .tuple #[(Value.slice none 0 0), (.int .i64 6)]) (by rw [ruE_many (by omega)]) (Hd.en_ret (v := (.tup [(.v (Value.slice none 0 0)), (.v (.int .i64 (.ofNat 6)))])) (by kernel_rfl) rfl)))
    · skip
      have ghqqb7_2 := ltI_false hqqb7_2
      exact goes_leafA isN_e (goes_told Try.checked.mixed (known_rrT) 200 (T' := ⟨[(0, (.xl (y) (P.length) 2 (cR P))), (1, (.xl (z) (L.length) 1 (cI L)))], [], 0, []⟩) (e := .normal) (ps := [ltI (((L.length : Nat) : Int)) 2 = false, false = false, false = false, ltI 12 ((L.length : Nat) : Int) = false]) [.go, .go, .go, .go, .b false, .go, .b false, .go, .b false, .go, .go, .b false] (by kernel_rfl) (by kernel_rfl) ⟨hqqb7_1, rfl, rfl, hqqb7_2, trivial⟩ rfl) (Hd.en_n (qb_8 y z P L h0 hqqb7_1 hqqb7_2 w hs))
set_option maxHeartbeats 2000000 in
theorem qb_2 (y : Value) (z : Value) (P : List (Int × Int)) (L : List Int) (h0 : ¬ ruE (cR P) P.length (cI L) L.length = 0) (w : World) (hs : List Nat) : Goes Try.prog 45 qbK1 (⟨[(0, (.xl y P.length 2 (cR P))), (1, (.xl z L.length 1 (cI L)))], [], 0, []⟩) (BaseW.H w hs) (OutH Try.prog Try.f17 45 (.tuple #[.slice none 0 0, .int .i64 (ruE (cR P) P.length (cI L) L.length)]) w) := by
  have hcl_P := cR_len P
  have hcl_L := cI_len L
  refine Hd.goes_seqA (by kernel_rfl) ?_
  exact goes_leafA isN_e (goes_told Try.checked.mixed (known_rrT) 200 (T' := ⟨[(0, (.xl (y) (P.length) 2 (cR P))), (1, (.xl (z) (L.length) 1 (cI L)))], [], 0, []⟩) (e := .normal) (ps := []) [.go, .go] (by kernel_rfl) (by kernel_rfl) trivial rfl) (Hd.en_n (qb_5 y z P L h0 w hs))
theorem rRun_bad (y : Value) (z : Value) (P : List (Int × Int)) (L : List Int) (h0 : ¬ ruE (cR P) P.length (cI L) L.length = 0) : GivesA Try.prog 17 [(.xl y P.length 2 (cR P)), (.xl z L.length 1 (cI L))] (.tuple #[.slice none 0 0, .int .i64 (ruE (cR P) P.length (cI L) L.length)]) :=
  givesA_partsH 45 Try.func17 (by kernel_rfl) (by kernel_rfl) (by kernel_rfl) (fun w => goes_less (by kernel_rfl) (by kernel_rfl) (by kernel_rfl) (by kernel_rfl) (qb_2 y z P L h0 w []))
noncomputable def qoK1 : Code := bodyC Try.f17
noncomputable def qoK3 : Code := tlC qoK1
noncomputable def qoK6 : Code := tlC qoK3
noncomputable def qoK9 : Code := tlC qoK6
noncomputable def qoK10 : Code := (hdC qoK6)
noncomputable def qoK12 : Code := tlC qoK10
noncomputable def qoK16 : Code := loopC qoK12
set_option maxHeartbeats 2000000 in
theorem qo_19 (y : Value) (z : Value) (P : List (Int × Int)) (L : List Int) (h0 : ruE (cR P) P.length (cI L) L.length = 0) (hqqo7_1 : (ltI (((L.length : Nat) : Int)) 2) = false) (hqqo7_2 : (ltI 12 ((L.length : Nat) : Int)) = false) (h0b : ∀ j, j < (L.length) → 0 ≤ intAt (cI L) (j * 1) ∧ intAt (cI L) (j * 1) ≤ 100000) (hqqo18_1 : (ltI ((L.length : Nat) : Int) ((L.length : Nat) : Int)) = false) (v : BaseW) (eb : Nat → Option Nat) (ec : Nat → Nat) (hs : List Nat) : Goes Try.prog 45 qoK9 (⟨[(0, (.xl (y) (P.length) 2 (cR P))), (1, (.xl (z) (L.length) 1 (cI L)))], [], 0, []⟩) (BaseW.H (bw v 0 eb ec) hs) (OutM Try.prog Try.f17 45 ((.tup [.slu 0 0 L.length 0, .v (.int .i64 0)])) [(.row (cI (madeK P L P.length)) 2 1)] (bw v 0 eb ec)) := by
  have hcl_P := cR_len P
  have hcl_L := cI_len L
  obtain ⟨hn, hok, hpr0⟩ := ruE_zero h0
  obtain ⟨-, hm, hpr⟩ := prE_zero hpr0
  have ghqqo7_1 := ltI_false hqqo7_1
  have ghqqo7_2 := ltI_false hqqo7_2
  have ghqqo18_1 := ltI_false hqqo18_1
  rcases Bool.eq_false_or_eq_true (eqI (prE (((L.length : Nat) : Int)) (cR P) P.length) 0) with hqqo20_1 | hqqo20_1
  · skip
    have ghqqo20_1 := eqI_true hqqo20_1
    exact goes_leafA isR_e (goes_told Try.checked.mixed (known_rrT) 200 (T' := ⟨[(4, (.slu 0 0 (L.length) 0)), (5, (.v (.int .i64 (.ofNat 0))))], [], 1, [(0, (.row (cI (madeK (unR (cR P)) (unI (cI L)) P.length)) 2 1))]⟩) (e := .ret) (ps := [1 + 1 = 2 ∧ ∃ P_1, cR P = cR P_1 ∧ P.length = P_1.length, (!eqI (prE (((L.length : Nat) : Int)) (cR P) P.length) 0) = false, FreeL (cR P), FreeL (cI L), 2 = 2 ∧ cR P = cR (unR (cR P)) ∧ P.length = (unR (cR P)).length, 1 = 1 ∧ cI L = cI (unI (cI L)) ∧ L.length = (unI (cI L)).length, 1 ≤ L.length ∧ L.length ≤ 1000, P.length ≤ 80, ∀ (i : Nat), i < P.length → pairAt (((L.length : Nat) : Int)) (cR P) i]) [.go, .go, .go, .go, .b false, .go, .go, .go, .go] (by kernel_rfl) (by kernel_rfl) ⟨⟨rfl, P, rfl, rfl⟩, (by rw [hqqo20_1]; rfl), (freeL_plain (cR_plain _)), (freeL_plain (cI_plain _)), ⟨rfl, by rw [unR_cR], by rw [unR_cR]⟩, ⟨rfl, by rw [unI_cI], by rw [unI_cI]⟩, ⟨by omega, by omega⟩, (by omega), hpr, trivial⟩ rfl) (en_eqM (r := (.tup [(.slu 0 0 (L.length) 0), (.v (.int .i64 (.ofNat 0)))])) (ys := [(.row (cI (madeK (unR (cR P)) (unI (cI L)) P.length)) 2 1)]) (by rfl) (by rw [unR_cR, unI_cI]) (en_retM (by kernel_rfl) (by kernel_rfl) rfl (.inr rfl)))
  · skip
    have ghqqo20_1 := eqI_false hqqo20_1
    exact absurd hpr0 (eqI_false hqqo20_1)
set_option maxHeartbeats 4000000 in
theorem qo_17 (y : Value) (z : Value) (P : List (Int × Int)) (L : List Int) (h0 : ruE (cR P) P.length (cI L) L.length = 0) (hqqo7_1 : (ltI (((L.length : Nat) : Int)) 2) = false) (hqqo7_2 : (ltI 12 ((L.length : Nat) : Int)) = false) (i : Nat) (hi1 : i ≤ L.length) (hi2 : ∀ j, j < i → 0 ≤ intAt (cI L) (j * 1) ∧ intAt (cI L) (j * 1) ≤ 100000) (v : BaseW) (eb : Nat → Option Nat) (ec : Nat → Nat) (hs : List Nat) : Goes Try.prog 45 qoK16 (⟨[(0, (.xl (y) (P.length) 2 (cR P))), (1, (.xl (z) (L.length) 1 (cI L))), (6, (.v (.int .i64 ((i : Nat) : Int))))], [], 0, []⟩) (BaseW.H (bw v 0 eb ec) hs) (Hd.StepC Try.prog 45 0 (fun i : { i : Nat // i ≤ L.length ∧ ∀ j, j < i → 0 ≤ intAt (cI L) (j * 1) ∧ intAt (cI L) (j * 1) ≤ 100000 } => ⟨[(0, (.xl (y) (P.length) 2 (cR P))), (1, (.xl (z) (L.length) 1 (cI L))), (6, (.v (.int .i64 ((i.1 : Nat) : Int))))], [], 0, []⟩) (fun i : { i : Nat // i ≤ L.length ∧ ∀ j, j < i → 0 ≤ intAt (cI L) (j * 1) ∧ intAt (cI L) (j * 1) ≤ 100000 } => L.length - i.1) qoK9 (bw v 0 eb ec) (OutM Try.prog Try.f17 45 ((.tup [.slu 0 0 L.length 0, .v (.int .i64 0)])) [(.row (cI (madeK P L P.length)) 2 1)] (bw v 0 eb ec)) (⟨i, hi1, hi2⟩ : { i : Nat // i ≤ L.length ∧ ∀ j, j < i → 0 ≤ intAt (cI L) (j * 1) ∧ intAt (cI L) (j * 1) ≤ 100000 })) := by
  have hcl_P := cR_len P
  have hcl_L := cI_len L
  obtain ⟨hn, hok, hpr0⟩ := ruE_zero h0
  obtain ⟨-, hm, hpr⟩ := prE_zero hpr0
  have ghqqo7_1 := ltI_false hqqo7_1
  have ghqqo7_2 := ltI_false hqqo7_2
  rcases Bool.eq_false_or_eq_true (ltI ((i : Nat) : Int) ((L.length : Nat) : Int)) with hqqo18_1 | hqqo18_1
  · skip
    have ghqqo18_1 := ltI_true hqqo18_1
    rcases Bool.eq_false_or_eq_true (ltI (intAt (cI L) (i * 1)) 0) with hqqo18_2 | hqqo18_2
    · skip
      have ghqqo18_2 := ltI_true hqqo18_2
      have hq := hok i (by omega)
      exfalso
      omega
    · skip
      have ghqqo18_2 := ltI_false hqqo18_2
      rcases Bool.eq_false_or_eq_true (ltI 100000 (intAt (cI L) (i * 1))) with hqqo18_3 | hqqo18_3
      · skip
        have ghqqo18_3 := ltI_true hqqo18_3
        have hq := hok i (by omega)
        exfalso
        omega
      · skip
        have ghqqo18_3 := ltI_false hqqo18_3
        exact goes_leafA isN_e (goes_told Try.checked.mixed (known_rrT) 200 (T' := ⟨[(0, (.xl (y) (P.length) 2 (cR P))), (1, (.xl (z) (L.length) 1 (cI L))), (6, (.v (.int .i64 (((i + 1) : Nat) : Int))))], [], 0, []⟩) (e := .normal) (ps := [ltI ((i : Nat) : Int) ((L.length : Nat) : Int) = true, i < L.length, loadL Try.prog (cI L) (i * 1) 2 = some (AV.v (Value.int IntKind.i64 (intAt (cI L) (i * 1)))), ltI (intAt (cI L) (i * 1)) 0 = false, false = false, false = false, i < L.length, false = false, loadL Try.prog (cI L) (i * 1) 2 = some (AV.v (Value.int IntKind.i64 (intAt (cI L) (i * 1)))), false = false, ltI 100000 (intAt (cI L) (i * 1)) = false, inR IntKind.i64 (((i : Nat) : Int) + 1)]) [.go, .go, .go, .go, .b true, .go, .go, .sym, .sym, .go, .go, .b false, .go, .b false, .go, .b false, .sym, .b false, .sym, .b false, .go, .go, .b false, .go, .go, .go] (by kernel_rfl) (by kernel_rfl) ⟨hqqo18_1, (by omega), (cI_ld (by omega) 2 (Try.underlying2) rfl), hqqo18_2, rfl, rfl, (by omega), rfl, (cI_ld (by omega) 2 (Try.underlying2) rfl), rfl, hqqo18_3, (by show -9223372036854775808 ≤ _ ∧ _ ≤ 9223372036854775807; constructor <;> omega), trivial⟩ rfl) (Hd.en_on (⟨i + 1, by omega, (ruI_next hi2 ⟨by omega, by omega⟩)⟩) (by show L.length - (i + 1) < L.length - i; omega) rfl)
  · skip
    have ghqqo18_1 := ltI_false hqqo18_1
    obtain rfl : i = L.length := by omega
    exact goes_leafA isX_e (goes_told Try.checked.mixed (known_rrT) 200 (T' := ⟨[(0, (.xl (y) (P.length) 2 (cR P))), (1, (.xl (z) (L.length) 1 (cI L)))], [], 0, []⟩) (e := .exit 0) (ps := [ltI ((L.length : Nat) : Int) ((L.length : Nat) : Int) = false]) [.go, .go, .go, .go, .b false] (by kernel_rfl) (by kernel_rfl) ⟨hqqo18_1, trivial⟩ rfl) (Hd.en_sx (qo_19 y z P L h0 hqqo7_1 hqqo7_2 hi2  hqqo18_1 v eb ec hs))
set_option maxHeartbeats 4000000 in
theorem qo_15 (y : Value) (z : Value) (P : List (Int × Int)) (L : List Int) (h0 : ruE (cR P) P.length (cI L) L.length = 0) (hqqo7_1 : (ltI (((L.length : Nat) : Int)) 2) = false) (hqqo7_2 : (ltI 12 ((L.length : Nat) : Int)) = false) (v : BaseW) (eb : Nat → Option Nat) (ec : Nat → Nat) (hs : List Nat) : Goes Try.prog 45 qoK12 (⟨[(0, (.xl (y) (P.length) 2 (cR P))), (1, (.xl (z) (L.length) 1 (cI L))), (6, (.v (.int .i64 (.ofNat 0))))], [], 0, []⟩) (BaseW.H (bw v 0 eb ec) hs) (Hd.AfterN Try.prog 45 qoK9 (bw v 0 eb ec) (OutM Try.prog Try.f17 45 ((.tup [.slu 0 0 L.length 0, .v (.int .i64 0)])) [(.row (cI (madeK P L P.length)) 2 1)] (bw v 0 eb ec))) := by
  have hcl_P := cR_len P
  have hcl_L := cI_len L
  obtain ⟨hn, hok, hpr0⟩ := ruE_zero h0
  obtain ⟨-, hm, hpr⟩ := prE_zero hpr0
  have ghqqo7_1 := ltI_false hqqo7_1
  have ghqqo7_2 := ltI_false hqqo7_2
  exact Hd.goes_loopA (id := 0) (by kernel_rfl) (by kernel_rfl) (fun i : { i : Nat // i ≤ L.length ∧ ∀ j, j < i → 0 ≤ intAt (cI L) (j * 1) ∧ intAt (cI L) (j * 1) ≤ 100000 } => ⟨[(0, (.xl (y) (P.length) 2 (cR P))), (1, (.xl (z) (L.length) 1 (cI L))), (6, (.v (.int .i64 ((i.1 : Nat) : Int))))], [], 0, []⟩) (fun i : { i : Nat // i ≤ L.length ∧ ∀ j, j < i → 0 ≤ intAt (cI L) (j * 1) ∧ intAt (cI L) (j * 1) ≤ 100000 } => L.length - i.1) (fun ix_ hs => qo_17 y z P L h0 hqqo7_1 hqqo7_2 ix_.1 ix_.2.1 ix_.2.2 v eb ec hs) ⟨0, Nat.zero_le _, (fun j hj => by omega)⟩ hs
set_option maxHeartbeats 2000000 in
theorem qo_14 (y : Value) (z : Value) (P : List (Int × Int)) (L : List Int) (h0 : ruE (cR P) P.length (cI L) L.length = 0) (hqqo7_1 : (ltI (((L.length : Nat) : Int)) 2) = false) (hqqo7_2 : (ltI 12 ((L.length : Nat) : Int)) = false) (v : BaseW) (eb : Nat → Option Nat) (ec : Nat → Nat) (hs : List Nat) : Goes Try.prog 45 qoK12 (⟨[(0, (.xl (y) (P.length) 2 (cR P))), (1, (.xl (z) (L.length) 1 (cI L))), (6, (.v (.int .i64 (.ofNat 0))))], [], 0, []⟩) (BaseW.H (bw v 0 eb ec) hs) (Hd.AfterN Try.prog 45 qoK9 (bw v 0 eb ec) (OutM Try.prog Try.f17 45 ((.tup [.slu 0 0 L.length 0, .v (.int .i64 0)])) [(.row (cI (madeK P L P.length)) 2 1)] (bw v 0 eb ec))) := by
  exact qo_15 y z P L h0 hqqo7_1 hqqo7_2 v eb ec hs
set_option maxHeartbeats 2000000 in
theorem qo_11 (y : Value) (z : Value) (P : List (Int × Int)) (L : List Int) (h0 : ruE (cR P) P.length (cI L) L.length = 0) (hqqo7_1 : (ltI (((L.length : Nat) : Int)) 2) = false) (hqqo7_2 : (ltI 12 ((L.length : Nat) : Int)) = false) (v : BaseW) (eb : Nat → Option Nat) (ec : Nat → Nat) (hs : List Nat) : Goes Try.prog 45 qoK10 (⟨[(0, (.xl (y) (P.length) 2 (cR P))), (1, (.xl (z) (L.length) 1 (cI L)))], [], 0, []⟩) (BaseW.H (bw v 0 eb ec) hs) (Hd.AfterN Try.prog 45 qoK9 (bw v 0 eb ec) (OutM Try.prog Try.f17 45 ((.tup [.slu 0 0 L.length 0, .v (.int .i64 0)])) [(.row (cI (madeK P L P.length)) 2 1)] (bw v 0 eb ec))) := by
  have hcl_P := cR_len P
  have hcl_L := cI_len L
  obtain ⟨hn, hok, hpr0⟩ := ruE_zero h0
  obtain ⟨-, hm, hpr⟩ := prE_zero hpr0
  have ghqqo7_1 := ltI_false hqqo7_1
  have ghqqo7_2 := ltI_false hqqo7_2
  refine Hd.goes_seqA (by kernel_rfl) ?_
  exact goes_leafA isN_e (goes_told Try.checked.mixed (known_rrT) 200 (T' := ⟨[(0, (.xl (y) (P.length) 2 (cR P))), (1, (.xl (z) (L.length) 1 (cI L))), (6, (.v (.int .i64 (.ofNat 0))))], [], 0, []⟩) (e := .normal) (ps := []) [.go] (by kernel_rfl) (by kernel_rfl) trivial rfl) (Hd.en_n (qo_14 y z P L h0 hqqo7_1 hqqo7_2 v eb ec hs))
set_option maxHeartbeats 2000000 in
theorem qo_8 (y : Value) (z : Value) (P : List (Int × Int)) (L : List Int) (h0 : ruE (cR P) P.length (cI L) L.length = 0) (hqqo7_1 : (ltI (((L.length : Nat) : Int)) 2) = false) (hqqo7_2 : (ltI 12 ((L.length : Nat) : Int)) = false) (v : BaseW) (eb : Nat → Option Nat) (ec : Nat → Nat) (hs : List Nat) : Goes Try.prog 45 qoK6 (⟨[(0, (.xl (y) (P.length) 2 (cR P))), (1, (.xl (z) (L.length) 1 (cI L)))], [], 0, []⟩) (BaseW.H (bw v 0 eb ec) hs) (OutM Try.prog Try.f17 45 ((.tup [.slu 0 0 L.length 0, .v (.int .i64 0)])) [(.row (cI (madeK P L P.length)) 2 1)] (bw v 0 eb ec)) := by
  exact Hd.goes_seqA (by kernel_rfl) (qo_11 y z P L h0 hqqo7_1 hqqo7_2 v eb ec hs)
set_option maxHeartbeats 2000000 in
theorem qo_5 (y : Value) (z : Value) (P : List (Int × Int)) (L : List Int) (h0 : ruE (cR P) P.length (cI L) L.length = 0) (v : BaseW) (eb : Nat → Option Nat) (ec : Nat → Nat) (hs : List Nat) : Goes Try.prog 45 qoK3 (⟨[(0, (.xl (y) (P.length) 2 (cR P))), (1, (.xl (z) (L.length) 1 (cI L)))], [], 0, []⟩) (BaseW.H (bw v 0 eb ec) hs) (OutM Try.prog Try.f17 45 ((.tup [.slu 0 0 L.length 0, .v (.int .i64 0)])) [(.row (cI (madeK P L P.length)) 2 1)] (bw v 0 eb ec)) := by
  have hcl_P := cR_len P
  have hcl_L := cI_len L
  obtain ⟨hn, hok, hpr0⟩ := ruE_zero h0
  obtain ⟨-, hm, hpr⟩ := prE_zero hpr0
  refine Hd.goes_seqA (by kernel_rfl) ?_
  rcases Bool.eq_false_or_eq_true (ltI (((L.length : Nat) : Int)) 2) with hqqo7_1 | hqqo7_1
  · skip
    have ghqqo7_1 := ltI_true hqqo7_1
    exfalso
    omega
  · skip
    have ghqqo7_1 := ltI_false hqqo7_1
    rcases Bool.eq_false_or_eq_true (ltI 12 ((L.length : Nat) : Int)) with hqqo7_2 | hqqo7_2
    · skip
      have ghqqo7_2 := ltI_true hqqo7_2
      exfalso
      omega
    · skip
      have ghqqo7_2 := ltI_false hqqo7_2
      exact goes_leafA isN_e (goes_told Try.checked.mixed (known_rrT) 200 (T' := ⟨[(0, (.xl (y) (P.length) 2 (cR P))), (1, (.xl (z) (L.length) 1 (cI L)))], [], 0, []⟩) (e := .normal) (ps := [ltI (((L.length : Nat) : Int)) 2 = false, false = false, false = false, ltI 12 ((L.length : Nat) : Int) = false]) [.go, .go, .go, .go, .b false, .go, .b false, .go, .b false, .go, .go, .b false] (by kernel_rfl) (by kernel_rfl) ⟨hqqo7_1, rfl, rfl, hqqo7_2, trivial⟩ rfl) (Hd.en_n (qo_8 y z P L h0 hqqo7_1 hqqo7_2 v eb ec hs))
set_option maxHeartbeats 2000000 in
theorem qo_2 (y : Value) (z : Value) (P : List (Int × Int)) (L : List Int) (h0 : ruE (cR P) P.length (cI L) L.length = 0) (v : BaseW) (eb : Nat → Option Nat) (ec : Nat → Nat) (hs : List Nat) : Goes Try.prog 45 qoK1 (⟨[(0, (.xl y P.length 2 (cR P))), (1, (.xl z L.length 1 (cI L)))], [], 0, []⟩) (BaseW.H (bw v 0 eb ec) hs) (OutM Try.prog Try.f17 45 ((.tup [.slu 0 0 L.length 0, .v (.int .i64 0)])) [(.row (cI (madeK P L P.length)) 2 1)] (bw v 0 eb ec)) := by
  have hcl_P := cR_len P
  have hcl_L := cI_len L
  obtain ⟨hn, hok, hpr0⟩ := ruE_zero h0
  obtain ⟨-, hm, hpr⟩ := prE_zero hpr0
  refine Hd.goes_seqA (by kernel_rfl) ?_
  exact goes_leafA isN_e (goes_told Try.checked.mixed (known_rrT) 200 (T' := ⟨[(0, (.xl (y) (P.length) 2 (cR P))), (1, (.xl (z) (L.length) 1 (cI L)))], [], 0, []⟩) (e := .normal) (ps := []) [.go, .go] (by kernel_rfl) (by kernel_rfl) trivial rfl) (Hd.en_n (qo_5 y z P L h0 v eb ec hs))
theorem rRun_ok (y : Value) (z : Value) (P : List (Int × Int)) (L : List Int) (h0 : ruE (cR P) P.length (cI L) L.length = 0) : GivesM Try.prog 17 [(.xl y P.length 2 (cR P)), (.xl z L.length 1 (cI L))] [] ((.tup [.slu 0 0 L.length 0, .v (.int .i64 0)])) [(.row (cI (madeK P L P.length)) 2 1)] :=
  givesM_parts 45 (by kernel_rfl) Try.func17 (by kernel_rfl) (by kernel_rfl) (by kernel_rfl) (fun v eb ec => goes_less (by kernel_rfl) (by kernel_rfl) (by kernel_rfl) (by kernel_rfl) (qo_2 y z P L h0 v eb ec []))
noncomputable def enK1 : Code := bodyC Try.f19
set_option maxHeartbeats 2000000 in
theorem en_2 (y : Value) (L : Nat) (h0 : prE (L : Int) [] 0 = 0) (w : World) (hs : List Nat) : Goes Try.prog 94 enK1 (⟨[(0, (.v (.int .i64 (L : Int)))), (1, (.xl y 0 2 []))], [], 0, []⟩) (BaseW.H w hs) (OutH Try.prog Try.f19 94 (.tuple #[.int .i64 0, .int .i64 (prE (L : Int) [] 0)]) w) := by
  rcases Bool.eq_false_or_eq_true (eqI (prE ((L : Nat) : Int) [] 0) 0) with hqen3_1 | hqen3_1
  · skip
    have ghqen3_1 := eqI_true hqen3_1
    exact goes_leafA isR_e (goes_told Try.checked.mixed (known_rcp) 200 (T' := ⟨[(4, (.v (.int .i64 (.ofNat 0)))), (5, (.v (.int .i64 (.ofNat 0))))], [], 0, []⟩) (e := .ret) (ps := [1 + 1 = 2 ∧ ∃ P, [] = cR P ∧ 0 = P.length, (!eqI (prE ((L : Nat) : Int) [] 0) 0) = false, ltI 0 ((0 : Nat) : Int) = false]) [.go, .go, .go, .go, .go, .b false, .go, .go, .go, .go, .go, .go, .go, .b false, .go, .go, .go] (by kernel_rfl) (by kernel_rfl) ⟨⟨rfl, [], rfl, rfl⟩, (by rw [hqen3_1]; rfl), rfl, trivial⟩ rfl) (Hd.en_eq (r := .tuple #[(.int .i64 0), (.int .i64 0)]) (by rw [h0]) (Hd.en_ret (v := (.tup [(.v (.int .i64 (.ofNat 0))), (.v (.int .i64 (.ofNat 0)))])) (by kernel_rfl) rfl))
  · skip
    have ghqen3_1 := eqI_false hqen3_1
    exact absurd h0 (eqI_false hqen3_1)
theorem rDepth_nil (y : Value) (L : Nat) (h0 : prE (L : Int) [] 0 = 0) : GivesA Try.prog 19 [(.v (.int .i64 (L : Int))), (.xl y 0 2 [])] (.tuple #[.int .i64 0, .int .i64 (prE (L : Int) [] 0)]) :=
  givesA_partsH 94 Try.func19 (by kernel_rfl) (by kernel_rfl) (by kernel_rfl) (fun w => goes_less (by kernel_rfl) (by kernel_rfl) (by kernel_rfl) (by kernel_rfl) (en_2 y L h0 w []))
end
end Go.Proofs.Ytchlehpjpgeejaa
