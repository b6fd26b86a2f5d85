import Derived.Test.YtchlehpjpgeejaaP24a
/- Run. -/
namespace Go.Proofs.Ytchlehpjpgeejaa
set_option linter.unusedVariables false
set_option linter.unusedSimpArgs false
open Go Ev
noncomputable section
def okI (lo hi : Int) (c : List AV) (n : Nat) : Bool := decide (∀ i, i < n → lo ≤ intAt c (i * 1) ∧ intAt c (i * 1) ≤ hi)
theorem okI_all {lo hi : Int} {c : List AV} {n : Nat} : okI lo hi c n = true ↔ ∀ i, i < n → lo ≤ intAt c (i * 1) ∧ intAt c (i * 1) ≤ hi := by unfold okI; rw [decide_eq_true_eq]
def ruE (c : List AV) (m : Nat) (d : List AV) (n : Nat) : Int := if 2 ≤ n ∧ n ≤ 12 then (match okI 0 100000 d n with | true => prE n c m | false => 2) else 6
theorem ruE_many {c d : List AV} {m n : Nat} (h : ¬ (2 ≤ n ∧ n ≤ 12)) : ruE c m d n = 6 := if_neg h
theorem ruE_arg {c d : List AV} {m n i : Nat} (h : 2 ≤ n ∧ n ≤ 12) (hi : i < n) (h2 : ¬ (0 ≤ intAt d (i * 1) ∧ intAt d (i * 1) ≤ 100000)) : ruE c m d n = 2 := by
  unfold ruE
  rw [if_pos h]
  cases e : okI 0 100000 d n with
  | true => exact absurd (okI_all.1 e i hi) h2
  | false => rfl
theorem ruE_pr {c d : List AV} {m n : Nat} (h : 2 ≤ n ∧ n ≤ 12) (h2 : ∀ i, i < n → 0 ≤ intAt d (i * 1) ∧ intAt d (i * 1) ≤ 100000) : ruE c m d n = prE n c m := by
  unfold ruE
  rw [if_pos h, okI_all.2 h2]
def RuI (c : List AV) (n : Nat) : Type := { i : Nat // i ≤ n ∧ ∀ j, j < i → 0 ≤ intAt c (j * 1) ∧ intAt c (j * 1) ≤ 100000 }
theorem ruI_next {c : List AV} {i : Nat} (h : ∀ j, j < i → 0 ≤ intAt c (j * 1) ∧ intAt c (j * 1) ≤ 100000) (k : 0 ≤ intAt c (i * 1) ∧ intAt c (i * 1) ≤ 100000) : ∀ j, j < i + 1 → 0 ≤ intAt c (j * 1) ∧ intAt c (j * 1) ≤ 100000 := fun j hj => by
  by_cases e : j < i
  · exact h j e
  · rw [show j = i by omega]; exact k
theorem prE_zero {n : Int} {c : List AV} {m : Nat} (h : prE n c m = 0) : (2 ≤ n ∧ n ≤ 12) ∧ m ≤ 80 ∧ ∀ i, i < m → pairAt n c i := by
  unfold prE at h
  by_cases h1 : 2 ≤ n ∧ n ≤ 12
  · rw [if_pos h1] at h
    by_cases h2 : m ≤ 80
    · rw [if_pos h2] at h
      cases e : okP n c m with
      | true => exact ⟨h1, h2, okP_all.1 e⟩
      | false => rw [e] at h; cases h
    · rw [if_neg h2] at h; cases h
  · rw [if_neg h1] at h; cases h
theorem ruE_zero {c d : List AV} {m n : Nat} (h : ruE c m d n = 0) : (2 ≤ n ∧ n ≤ 12) ∧ (∀ i, i < n → 0 ≤ intAt d (i * 1) ∧ intAt d (i * 1) ≤ 100000) ∧ prE n c m = 0 := by
  by_cases h1 : 2 ≤ n ∧ n ≤ 12
  · cases e : okI 0 100000 d n with
    | true =>
      have e2 := okI_all.1 e
      rw [ruE_pr h1 e2] at h
      exact ⟨h1, e2, h⟩
    | false => unfold ruE at h; rw [if_pos h1, e] at h; cases h
  · rw [ruE_many h1] at h; cases h
theorem cmpx_t {l : List Int} {q : Int × Int} (ha : 0 + q.1.toNat * 1 < l.length) (hb : 0 + q.2.toNat * 1 < l.length) (h : intAt (cI l) (0 + q.1.toNat * 1) < intAt (cI l) (0 + q.2.toNat * 1)) :
    cI (cmpx l q) = splice (splice (cI l) (0 + q.1.toNat * 1) [.v (.int .i64 (intAt (cI l) (0 + q.2.toNat * 1)))]) (0 + q.2.toNat * 1) [.v (.int .i64 (intAt (cI l) (0 + q.1.toNat * 1)))] := by
  rw [cI_intD ha, cI_intD hb] at h ⊢
  rw [cI_set ha, cI_set (by rw [List.length_set]; exact hb)]
  simp only [Nat.zero_add, Nat.mul_one] at h ⊢
  unfold cmpx
  rw [if_pos h]
theorem cmpx_f {l : List Int} {q : Int × Int} (ha : 0 + q.1.toNat * 1 < l.length) (hb : 0 + q.2.toNat * 1 < l.length) (h : ¬ intAt (cI l) (0 + q.1.toNat * 1) < intAt (cI l) (0 + q.2.toNat * 1)) : cmpx l q = l := by
  rw [cI_intD ha, cI_intD hb] at h
  simp only [Nat.zero_add, Nat.mul_one] at h
  unfold cmpx
  rw [if_neg h]
def CnI (n : Nat) : Type := { i : Nat // i ≤ n }
def rbC0 : Code := bodyC Try.f16
def rbC1 : Code := tlC rbC0
set_option maxHeartbeats 2000000 in
theorem rb_0 (y z : Value) (P : List (Int × Int)) (L : List Int) (h0 : ¬ ruE (cR P) P.length (cI L) L.length = 0) (w : World) (hc : Goes Try.prog 76 rbC1 (⟨[(0, .xl y P.length 2 (cR P)), (1, .xl z L.length 1 (cI L))], [], 0, []⟩) w (OutR Try.prog Try.f16 76 (.tuple #[.slice none 0 0, .int .i64 (ruE (cR P) P.length (cI L) L.length)]) w)) : Goes Try.prog 76 rbC0 (argLit [.xl y P.length 2 (cR P), .xl z L.length 1 (cI L)]) w (OutR Try.prog Try.f16 76 (.tuple #[.slice none 0 0, .int .i64 (ruE (cR P) P.length (cI L) L.length)]) w) := by
  exact goes_spine (T' := ⟨[(0, .xl y P.length 2 (cR P)), (1, .xl z L.length 1 (cI L))], [], 0, []⟩) (by kernel_rfl) (goes_told Try.checked.mixed (known_cp) 200 (e := .normal) (ps := []) [.go, .go] (by kernel_rfl) (by kernel_rfl) trivial rfl) (hc)
def rbC2 : Code := tlC rbC1
set_option maxHeartbeats 2000000 in
theorem rb_1 (y z : Value) (P : List (Int × Int)) (L : List Int) (h0 : ¬ ruE (cR P) P.length (cI L) L.length = 0) (w : World) (hc : (2 ≤ L.length ∧ L.length ≤ 12) → Goes Try.prog 76 rbC2 (⟨[(0, .xl y P.length 2 (cR P)), (1, .xl z L.length 1 (cI L))], [], 0, []⟩) w (OutR Try.prog Try.f16 76 (.tuple #[.slice none 0 0, .int .i64 (ruE (cR P) P.length (cI L) L.length)]) w)) : Goes Try.prog 76 rbC1 (⟨[(0, .xl y P.length 2 (cR P)), (1, .xl z L.length 1 (cI L))], [], 0, []⟩) w (OutR Try.prog Try.f16 76 (.tuple #[.slice none 0 0, .int .i64 (ruE (cR P) P.length (cI L) L.length)]) w) := by
  cases hq1 : (ltI (↑L.length) 2) with
  | true =>
    have ghq1 := ltI_true hq1
    rw [ruE_many (by omega)]
    exact goes_out Try.checked.mixed (known_cp) 200 (v := .tup [(.v (.slice none 0 0)), (.v (.int .i64 (.ofNat 6)))]) (ps := [(!ltI (↑L.length) 2) = false, false = false, false = false, (!false) = true]) [.go, .go, .go, .go, .go, .go, .go, .go, .go, .b false, .b false, .b false, .go, .go, .go, .go, .b true, .go, .go] (by kernel_rfl) (by kernel_rfl) ⟨(by rw [hq1]; rfl), rfl, rfl, rfl, trivial⟩ rfl
  | false =>
    have ghq1 := ltI_false hq1
    cases hq2 : (ltI 12 ↑L.length) with
    | true =>
      have ghq2 := ltI_true hq2
      rw [ruE_many (by omega)]
      exact goes_out Try.checked.mixed (known_cp) 200 (v := .tup [(.v (.slice none 0 0)), (.v (.int .i64 (.ofNat 6)))]) (ps := [(!ltI (↑L.length) 2) = true, true = true, true = true, (!!ltI 12 ↑L.length) = true]) [.go, .go, .go, .go, .go, .go, .go, .go, .go, .b true, .go, .b true, .go, .b true, .go, .go, .go, .go, .go, .b true, .go, .go] (by kernel_rfl) (by kernel_rfl) ⟨(by rw [hq1]; rfl), rfl, rfl, (by rw [hq2]; rfl), trivial⟩ rfl
    | false =>
      have ghq2 := ltI_false hq2
      exact goes_spine (T' := ⟨[(0, .xl y P.length 2 (cR P)), (1, .xl z L.length 1 (cI L))], [], 0, []⟩) (by kernel_rfl) (goes_told Try.checked.mixed (known_cp) 200 (e := .normal) (ps := [(!ltI (↑L.length) 2) = true, true = true, true = true, (!!ltI 12 ↑L.length) = false]) [.go, .go, .go, .go, .go, .go, .go, .go, .go, .b true, .go, .b true, .go, .b true, .go, .go, .go, .go, .go, .b false] (by kernel_rfl) (by kernel_rfl) ⟨(by rw [hq1]; rfl), rfl, rfl, (by rw [hq2]; rfl), trivial⟩ rfl) (hc (by omega))
def rbC3 : Code := tlC rbC2
set_option maxHeartbeats 4000000 in
theorem rb_2 (y z : Value) (P : List (Int × Int)) (L : List Int) (h0 : ¬ ruE (cR P) P.length (cI L) L.length = 0) (hn : 2 ≤ L.length ∧ L.length ≤ 12) (w : World) (hc : ∀ i : RuI (cI L) L.length, L.length ≤ i.1 → Goes Try.prog 76 rbC3 (⟨[(0, .xl y P.length 2 (cR P)), (1, .xl z L.length 1 (cI L)), (16, .xl z L.length 1 (cI L)), (17, .v (.int .i64 L.length)), (18, .v (.int .i64 (i.1 : Nat)))], [], 0, []⟩) w (OutR Try.prog Try.f16 76 (.tuple #[.slice none 0 0, .int .i64 (ruE (cR P) P.length (cI L) L.length)]) w)) : Goes Try.prog 76 rbC2 (⟨[(0, .xl y P.length 2 (cR P)), (1, .xl z L.length 1 (cI L))], [], 0, []⟩) w (OutR Try.prog Try.f16 76 (.tuple #[.slice none 0 0, .int .i64 (ruE (cR P) P.length (cI L) L.length)]) w) := by
  refine goes_spineQ (ι := RuI (cI L) L.length) (T := fun i => ⟨[(0, .xl y P.length 2 (cR P)), (1, .xl z L.length 1 (cI L)), (16, .xl z L.length 1 (cI L)), (17, .v (.int .i64 L.length)), (18, .v (.int .i64 (i.1 : Nat)))], [], 0, []⟩) (R := fun i => L.length ≤ i.1) (by kernel_rfl)
    (goes_spine (T' := ⟨[(0, .xl y P.length 2 (cR P)), (1, .xl z L.length 1 (cI L)), (16, .xl z L.length 1 (cI L)), (17, .v (.int .i64 L.length)), (18, .v (.int .i64 (0 : Nat)))], [], 0, []⟩) (by kernel_rfl) (goes_told Try.checked.mixed (known_cp) 200 (e := .normal) (ps := []) [.go, .go, .go] (by kernel_rfl) (by kernel_rfl) trivial rfl)
      (goes_blockloop (by kernel_rfl) (fun i : RuI (cI L) L.length => ⟨[(0, .xl y P.length 2 (cR P)), (1, .xl z L.length 1 (cI L)), (16, .xl z L.length 1 (cI L)), (17, .v (.int .i64 L.length)), (18, .v (.int .i64 (i.1 : Nat)))], [], 0, []⟩) (fun i => L.length - i.1) (fun i => ?_) ⟨0, Nat.zero_le _, fun j hj => by omega⟩)) hc
  obtain ⟨i, hi1, hi2⟩ := i
  show (∃ j : RuI (cI L) L.length, L.length - j.1 < L.length - i ∧ Goes Try.prog 76 (loopC (tlC (hdC rbC2))) (⟨[(0, .xl y P.length 2 (cR P)), (1, .xl z L.length 1 (cI L)), (16, .xl z L.length 1 (cI L)), (17, .v (.int .i64 L.length)), (18, .v (.int .i64 (i : Nat)))], [], 0, []⟩) w (Land 76 isN (⟨[(0, .xl y P.length 2 (cR P)), (1, .xl z L.length 1 (cI L)), (16, .xl z L.length 1 (cI L)), (17, .v (.int .i64 L.length)), (18, .v (.int .i64 (j.1 : Nat)))], [], 0, []⟩) w)) ∨ (L.length ≤ i ∧ Goes Try.prog 76 (loopC (tlC (hdC rbC2))) (⟨[(0, .xl y P.length 2 (cR P)), (1, .xl z L.length 1 (cI L)), (16, .xl z L.length 1 (cI L)), (17, .v (.int .i64 L.length)), (18, .v (.int .i64 (i : Nat)))], [], 0, []⟩) w (Land 76 (isX 0) (⟨[(0, .xl y P.length 2 (cR P)), (1, .xl z L.length 1 (cI L)), (16, .xl z L.length 1 (cI L)), (17, .v (.int .i64 L.length)), (18, .v (.int .i64 (i : Nat)))], [], 0, []⟩) w)) ∨ Goes Try.prog 76 (loopC (tlC (hdC rbC2))) (⟨[(0, .xl y P.length 2 (cR P)), (1, .xl z L.length 1 (cI L)), (16, .xl z L.length 1 (cI L)), (17, .v (.int .i64 L.length)), (18, .v (.int .i64 (i : Nat)))], [], 0, []⟩) w (fun e a w' => e = .ret ∧ (OutR Try.prog Try.f16 76 (.tuple #[.slice none 0 0, .int .i64 (ruE (cR P) P.length (cI L) L.length)]) w) .ret a w')
  have hcl := cI_len L
  cases hq1 : (ltI ↑i ↑L.length) with
  | true =>
    have ghq1 := ltI_true hq1
    cases hq2 : (ltI (intAt (cI L) (i * 1)) 0) with
    | true =>
      have ghq2 := ltI_true hq2
      rw [ruE_arg hn (show i < L.length by omega) (by omega)]
      exact .inr (.inr (goes_ret Try.checked.mixed (known_cp) 200 (v := .tup [(.v (.slice none 0 0)), (.v (.int .i64 (.ofNat 2)))]) (ps := [ltI ↑i ↑L.length = true, i < L.length, loadL Try.prog (cI L) (i * 1) 2 = some (AV.v (Value.int IntKind.i64 (intAt (cI L) (i * 1)))), (!ltI (intAt (cI L) (i * 1)) 0) = false, false = false, false = false, (!false) = true]) [.go, .b true, .sym, .sym, .go, .go, .go, .go, .go, .go, .go, .b false, .b false, .b false, .go, .go, .go, .b true, .go, .go] (by kernel_rfl) (by kernel_rfl) ⟨hq1, (by omega), (by rw [Nat.mul_one]; exact cI_load (by omega) 2 (Try.underlying2) rfl), (by rw [hq2]; rfl), rfl, rfl, rfl, trivial⟩ rfl))
    | false =>
      have ghq2 := ltI_false hq2
      cases hq3 : (ltI 100000 (intAt (cI L) (i * 1))) with
      | true =>
        have ghq3 := ltI_true hq3
        rw [ruE_arg hn (show i < L.length by omega) (by omega)]
        exact .inr (.inr (goes_ret Try.checked.mixed (known_cp) 200 (v := .tup [(.v (.slice none 0 0)), (.v (.int .i64 (.ofNat 2)))]) (ps := [ltI ↑i ↑L.length = true, i < L.length, loadL Try.prog (cI L) (i * 1) 2 = some (AV.v (Value.int IntKind.i64 (intAt (cI L) (i * 1)))), (!ltI (intAt (cI L) (i * 1)) 0) = true, true = true, true = true, (!!ltI 100000 (intAt (cI L) (i * 1))) = true]) [.go, .b true, .sym, .sym, .go, .go, .go, .go, .go, .go, .go, .b true, .go, .b true, .go, .b true, .go, .go, .go, .go, .b true, .go, .go] (by kernel_rfl) (by kernel_rfl) ⟨hq1, (by omega), (by rw [Nat.mul_one]; exact cI_load (by omega) 2 (Try.underlying2) rfl), (by rw [hq2]; rfl), rfl, rfl, (by rw [hq3]; rfl), trivial⟩ rfl))
      | false =>
        have ghq3 := ltI_false hq3
        refine .inl ⟨⟨i + 1, by omega, ruI_next hi2 ⟨by omega, by omega⟩⟩, (by show L.length - (i + 1) < L.length - i; omega), ?_⟩
        exact goes_told Try.checked.mixed (known_cp) 200 (e := .normal) (ps := [ltI ↑i ↑L.length = true, i < L.length, loadL Try.prog (cI L) (i * 1) 2 = some (AV.v (Value.int IntKind.i64 (intAt (cI L) (i * 1)))), (!ltI (intAt (cI L) (i * 1)) 0) = true, true = true, true = true, (!!ltI 100000 (intAt (cI L) (i * 1))) = false, inR IntKind.i64 (↑i + 1)]) [.go, .b true, .sym, .sym, .go, .go, .go, .go, .go, .go, .go, .b true, .go, .b true, .go, .b true, .go, .go, .go, .go, .b false, .go, .go] (by kernel_rfl) (by kernel_rfl) ⟨hq1, (by omega), (by rw [Nat.mul_one]; exact cI_load (by omega) 2 (Try.underlying2) rfl), (by rw [hq2]; rfl), rfl, rfl, (by rw [hq3]; rfl), (by show -9223372036854775808 ≤ _ ∧ _ ≤ 9223372036854775807; constructor <;> omega), trivial⟩ rfl
  | false =>
    have ghq1 := ltI_false hq1
    exact .inr (.inl ⟨(by show L.length ≤ i; omega), goes_told Try.checked.mixed (known_cp) 200 (e := .exit 0) (ps := [ltI ↑i ↑L.length = false]) [.go, .b false] (by kernel_rfl) (by kernel_rfl) ⟨hq1, trivial⟩ rfl⟩)
theorem rb_3 (y z : Value) (P : List (Int × Int)) (L : List Int) (i : Nat) (h0 : ¬ ruE (cR P) P.length (cI L) L.length = 0) (hn : 2 ≤ L.length ∧ L.length ≤ 12) (hok : ∀ i, i < L.length → 0 ≤ intAt (cI L) (i * 1) ∧ intAt (cI L) (i * 1) ≤ 100000) (w : World) : Goes Try.prog 76 rbC3 (⟨[(0, .xl y P.length 2 (cR P)), (1, .xl z L.length 1 (cI L)), (16, .xl z L.length 1 (cI L)), (17, .v (.int .i64 L.length)), (18, .v (.int .i64 (i : Nat)))], [], 0, []⟩) w (OutR Try.prog Try.f16 76 (.tuple #[.slice none 0 0, .int .i64 (ruE (cR P) P.length (cI L) L.length)]) w) := by
  cases hq1 : (eqI (prE (↑L.length) (cR P) P.length) 0) with
  | true =>
    exfalso
    rw [ruE_pr hn hok] at h0
    simp [eqI_iff] at hq1
    exact h0 hq1
  | false =>
    rw [ruE_pr hn hok]
    exact goes_out Try.checked.mixed (known_cp) 200 (v := .tup [.v (.slice none 0 0), .v (.int .i64 (prE (L.length : Int) (cR P) P.length))]) (ps := [1 + 1 = 2 ∧ ∃ P_1, cR P = cR P_1 ∧ P.length = P_1.length, (!eqI (prE (↑L.length) (cR P) P.length) 0) = true]) [.go, .go, .go, .go, .go, .go, .b true, .go, .go, .go] (by kernel_rfl) (by kernel_rfl) ⟨⟨rfl, P, rfl, rfl⟩, (by rw [hq1]; rfl), trivial⟩ rfl
theorem Run_bad (y z : Value) (P : List (Int × Int)) (L : List Int) (h0 : ¬ ruE (cR P) P.length (cI L) L.length = 0) : GivesA Try.prog 16 [.xl y P.length 2 (cR P), .xl z L.length 1 (cI L)] (.tuple #[.slice none 0 0, .int .i64 (ruE (cR P) P.length (cI L) L.length)]) :=
  givesA_parts 76 Try.func16 (by kernel_rfl) (by kernel_rfl) (by kernel_rfl) (fun w => rb_0 y z P L h0 w (rb_1 y z P L h0 w (fun hn => rb_2 y z P L h0 hn w (fun i hi => rb_3 y z P L i.1 h0 hn (fun j hj => i.2.2 j (Nat.lt_of_lt_of_le hj hi)) w))))
def roC0 : Code := bodyC Try.f16
def roC1 : Code := tlC roC0
set_option maxHeartbeats 2000000 in
theorem ro_0 (y z : Value) (P : List (Int × Int)) (L : List Int) (h0 : ruE (cR P) P.length (cI L) L.length = 0) (w : World) (hc : Goes Try.prog 76 roC1 (⟨[(0, .xl y P.length 2 (cR P)), (1, .xl z L.length 1 (cI L))], [], 0, []⟩) w (OutB Try.prog Try.f16 76 (fun b => .tup [.sl b 0 L.length L.length, .v (.int .i64 0)]) (.cells (cI (madeK P L P.length)) 2) w)) : Goes Try.prog 76 roC0 (argLit [.xl y P.length 2 (cR P), .xl z L.length 1 (cI L)]) w (OutB Try.prog Try.f16 76 (fun b => .tup [.sl b 0 L.length L.length, .v (.int .i64 0)]) (.cells (cI (madeK P L P.length)) 2) w) := by
  exact goes_spine (T' := ⟨[(0, .xl y P.length 2 (cR P)), (1, .xl z L.length 1 (cI L))], [], 0, []⟩) (by kernel_rfl) (goes_told Try.checked.mixed (known_cp) 200 (e := .normal) (ps := []) [.go, .go] (by kernel_rfl) (by kernel_rfl) trivial rfl) (hc)
def roC2 : Code := tlC roC1
set_option maxHeartbeats 2000000 in
theorem ro_1 (y z : Value) (P : List (Int × Int)) (L : List Int) (h0 : ruE (cR P) P.length (cI L) L.length = 0) (w : World) (hc : (2 ≤ L.length ∧ L.length ≤ 12) → Goes Try.prog 76 roC2 (⟨[(0, .xl y P.length 2 (cR P)), (1, .xl z L.length 1 (cI L))], [], 0, []⟩) w (OutB Try.prog Try.f16 76 (fun b => .tup [.sl b 0 L.length L.length, .v (.int .i64 0)]) (.cells (cI (madeK P L P.length)) 2) w)) : Goes Try.prog 76 roC1 (⟨[(0, .xl y P.length 2 (cR P)), (1, .xl z L.length 1 (cI L))], [], 0, []⟩) w (OutB Try.prog Try.f16 76 (fun b => .tup [.sl b 0 L.length L.length, .v (.int .i64 0)]) (.cells (cI (madeK P L P.length)) 2) w) := by
  cases hq1 : (ltI (↑L.length) 2) with
  | true =>
    have ghq1 := ltI_true hq1
    exfalso
    obtain ⟨hn, hok, hpr0⟩ := ruE_zero h0
    omega
  | false =>
    have ghq1 := ltI_false hq1
    cases hq2 : (ltI 12 ↑L.length) with
    | true =>
      have ghq2 := ltI_true hq2
      exfalso
      obtain ⟨hn, hok, hpr0⟩ := ruE_zero h0
      omega
    | false =>
      have ghq2 := ltI_false hq2
      exact goes_spine (T' := ⟨[(0, .xl y P.length 2 (cR P)), (1, .xl z L.length 1 (cI L))], [], 0, []⟩) (by kernel_rfl) (goes_told Try.checked.mixed (known_cp) 200 (e := .normal) (ps := [(!ltI (↑L.length) 2) = true, true = true, true = true, (!!ltI 12 ↑L.length) = false]) [.go, .go, .go, .go, .go, .go, .go, .go, .go, .b true, .go, .b true, .go, .b true, .go, .go, .go, .go, .go, .b false] (by kernel_rfl) (by kernel_rfl) ⟨(by rw [hq1]; rfl), rfl, rfl, (by rw [hq2]; rfl), trivial⟩ rfl) (hc (by omega))
def roC3 : Code := tlC roC2
set_option maxHeartbeats 4000000 in
theorem ro_2 (y z : Value) (P : List (Int × Int)) (L : List Int) (h0 : ruE (cR P) P.length (cI L) L.length = 0) (hn : 2 ≤ L.length ∧ L.length ≤ 12) (w : World) (hc : ∀ i : RuI (cI L) L.length, L.length ≤ i.1 → Goes Try.prog 76 roC3 (⟨[(0, .xl y P.length 2 (cR P)), (1, .xl z L.length 1 (cI L)), (16, .xl z L.length 1 (cI L)), (17, .v (.int .i64 L.length)), (18, .v (.int .i64 (i.1 : Nat)))], [], 0, []⟩) w (OutB Try.prog Try.f16 76 (fun b => .tup [.sl b 0 L.length L.length, .v (.int .i64 0)]) (.cells (cI (madeK P L P.length)) 2) w)) : Goes Try.prog 76 roC2 (⟨[(0, .xl y P.length 2 (cR P)), (1, .xl z L.length 1 (cI L))], [], 0, []⟩) w (OutB Try.prog Try.f16 76 (fun b => .tup [.sl b 0 L.length L.length, .v (.int .i64 0)]) (.cells (cI (madeK P L P.length)) 2) w) := by
  refine goes_spineQ (ι := RuI (cI L) L.length) (T := fun i => ⟨[(0, .xl y P.length 2 (cR P)), (1, .xl z L.length 1 (cI L)), (16, .xl z L.length 1 (cI L)), (17, .v (.int .i64 L.length)), (18, .v (.int .i64 (i.1 : Nat)))], [], 0, []⟩) (R := fun i => L.length ≤ i.1) (by kernel_rfl)
    (goes_spine (T' := ⟨[(0, .xl y P.length 2 (cR P)), (1, .xl z L.length 1 (cI L)), (16, .xl z L.length 1 (cI L)), (17, .v (.int .i64 L.length)), (18, .v (.int .i64 (0 : Nat)))], [], 0, []⟩) (by kernel_rfl) (goes_told Try.checked.mixed (known_cp) 200 (e := .normal) (ps := []) [.go, .go, .go] (by kernel_rfl) (by kernel_rfl) trivial rfl)
      (goes_blockloop (by kernel_rfl) (fun i : RuI (cI L) L.length => ⟨[(0, .xl y P.length 2 (cR P)), (1, .xl z L.length 1 (cI L)), (16, .xl z L.length 1 (cI L)), (17, .v (.int .i64 L.length)), (18, .v (.int .i64 (i.1 : Nat)))], [], 0, []⟩) (fun i => L.length - i.1) (fun i => ?_) ⟨0, Nat.zero_le _, fun j hj => by omega⟩)) hc
  obtain ⟨i, hi1, hi2⟩ := i
  show (∃ j : RuI (cI L) L.length, L.length - j.1 < L.length - i ∧ Goes Try.prog 76 (loopC (tlC (hdC roC2))) (⟨[(0, .xl y P.length 2 (cR P)), (1, .xl z L.length 1 (cI L)), (16, .xl z L.length 1 (cI L)), (17, .v (.int .i64 L.length)), (18, .v (.int .i64 (i : Nat)))], [], 0, []⟩) w (Land 76 isN (⟨[(0, .xl y P.length 2 (cR P)), (1, .xl z L.length 1 (cI L)), (16, .xl z L.length 1 (cI L)), (17, .v (.int .i64 L.length)), (18, .v (.int .i64 (j.1 : Nat)))], [], 0, []⟩) w)) ∨ (L.length ≤ i ∧ Goes Try.prog 76 (loopC (tlC (hdC roC2))) (⟨[(0, .xl y P.length 2 (cR P)), (1, .xl z L.length 1 (cI L)), (16, .xl z L.length 1 (cI L)), (17, .v (.int .i64 L.length)), (18, .v (.int .i64 (i : Nat)))], [], 0, []⟩) w (Land 76 (isX 0) (⟨[(0, .xl y P.length 2 (cR P)), (1, .xl z L.length 1 (cI L)), (16, .xl z L.length 1 (cI L)), (17, .v (.int .i64 L.length)), (18, .v (.int .i64 (i : Nat)))], [], 0, []⟩) w)) ∨ Goes Try.prog 76 (loopC (tlC (hdC roC2))) (⟨[(0, .xl y P.length 2 (cR P)), (1, .xl z L.length 1 (cI L)), (16, .xl z L.length 1 (cI L)), (17, .v (.int .i64 L.length)), (18, .v (.int .i64 (i : Nat)))], [], 0, []⟩) w (fun e a w' => e = .ret ∧ (OutB Try.prog Try.f16 76 (fun b => .tup [.sl b 0 L.length L.length, .v (.int .i64 0)]) (.cells (cI (madeK P L P.length)) 2) w) .ret a w')
  have hcl := cI_len L
  cases hq1 : (ltI ↑i ↑L.length) with
  | true =>
    have ghq1 := ltI_true hq1
    cases hq2 : (ltI (intAt (cI L) (i * 1)) 0) with
    | true =>
      have ghq2 := ltI_true hq2
      exfalso
      obtain ⟨hn, hok, hpr0⟩ := ruE_zero h0
      have := hok i (by omega)
      omega
    | false =>
      have ghq2 := ltI_false hq2
      cases hq3 : (ltI 100000 (intAt (cI L) (i * 1))) with
      | true =>
        have ghq3 := ltI_true hq3
        exfalso
        obtain ⟨hn, hok, hpr0⟩ := ruE_zero h0
        have := hok i (by omega)
        omega
      | false =>
        have ghq3 := ltI_false hq3
        refine .inl ⟨⟨i + 1, by omega, ruI_next hi2 ⟨by omega, by omega⟩⟩, (by show L.length - (i + 1) < L.length - i; omega), ?_⟩
        exact goes_told Try.checked.mixed (known_cp) 200 (e := .normal) (ps := [ltI ↑i ↑L.length = true, i < L.length, loadL Try.prog (cI L) (i * 1) 2 = some (AV.v (Value.int IntKind.i64 (intAt (cI L) (i * 1)))), (!ltI (intAt (cI L) (i * 1)) 0) = true, true = true, true = true, (!!ltI 100000 (intAt (cI L) (i * 1))) = false, inR IntKind.i64 (↑i + 1)]) [.go, .b true, .sym, .sym, .go, .go, .go, .go, .go, .go, .go, .b true, .go, .b true, .go, .b true, .go, .go, .go, .go, .b false, .go, .go] (by kernel_rfl) (by kernel_rfl) ⟨hq1, (by omega), (by rw [Nat.mul_one]; exact cI_load (by omega) 2 (Try.underlying2) rfl), (by rw [hq2]; rfl), rfl, rfl, (by rw [hq3]; rfl), (by show -9223372036854775808 ≤ _ ∧ _ ≤ 9223372036854775807; constructor <;> omega), trivial⟩ rfl
  | false =>
    have ghq1 := ltI_false hq1
    exact .inr (.inl ⟨(by show L.length ≤ i; omega), goes_told Try.checked.mixed (known_cp) 200 (e := .exit 0) (ps := [ltI ↑i ↑L.length = false]) [.go, .b false] (by kernel_rfl) (by kernel_rfl) ⟨hq1, trivial⟩ rfl⟩)
def roC4 : Code := tlC roC3
set_option maxHeartbeats 2000000 in
theorem ro_3 (y z : Value) (P : List (Int × Int)) (L : List Int) (i : Nat) (h0 : ruE (cR P) P.length (cI L) L.length = 0) (hn : 2 ≤ L.length ∧ L.length ≤ 12) (hok : ∀ i, i < L.length → 0 ≤ intAt (cI L) (i * 1) ∧ intAt (cI L) (i * 1) ≤ 100000) (w : World) (hc : Goes Try.prog 76 roC4 (⟨[(0, .xl y P.length 2 (cR P)), (1, .xl z L.length 1 (cI L))], [], 0, []⟩) w (OutB Try.prog Try.f16 76 (fun b => .tup [.sl b 0 L.length L.length, .v (.int .i64 0)]) (.cells (cI (madeK P L P.length)) 2) w)) : Goes Try.prog 76 roC3 (⟨[(0, .xl y P.length 2 (cR P)), (1, .xl z L.length 1 (cI L)), (16, .xl z L.length 1 (cI L)), (17, .v (.int .i64 L.length)), (18, .v (.int .i64 (i : Nat)))], [], 0, []⟩) w (OutB Try.prog Try.f16 76 (fun b => .tup [.sl b 0 L.length L.length, .v (.int .i64 0)]) (.cells (cI (madeK P L P.length)) 2) w) := by
  cases hq1 : (eqI (prE (↑L.length) (cR P) P.length) 0) with
  | true =>
    exact goes_spine (T' := ⟨[(0, .xl y P.length 2 (cR P)), (1, .xl z L.length 1 (cI L))], [], 0, []⟩) (by kernel_rfl) (goes_told Try.checked.mixed (known_cp) 200 (e := .normal) (ps := [1 + 1 = 2 ∧ ∃ P_1, cR P = cR P_1 ∧ P.length = P_1.length, (!eqI (prE (↑L.length) (cR P) P.length) 0) = false]) [.go, .go, .go, .go, .go, .go, .b false] (by kernel_rfl) (by kernel_rfl) ⟨⟨rfl, P, rfl, rfl⟩, (by rw [hq1]; rfl), trivial⟩ rfl) (hc)
  | false =>
    exfalso
    obtain ⟨-, -, hpr0⟩ := ruE_zero h0
    rw [hpr0] at hq1
    cases hq1
def roC5 : Code := tlC roC4
set_option maxHeartbeats 2000000 in
theorem ro_4 (y z : Value) (P : List (Int × Int)) (L : List Int) (h0 : ruE (cR P) P.length (cI L) L.length = 0) (hn : 2 ≤ L.length ∧ L.length ≤ 12) (hok : ∀ i, i < L.length → 0 ≤ intAt (cI L) (i * 1) ∧ intAt (cI L) (i * 1) ≤ 100000) (hm : P.length ≤ 80) (hpr : ∀ i, i < P.length → pairAt L.length (cR P) i) (w : World) (hc : Goes Try.prog 76 roC5 (⟨[(0, .xl y P.length 2 (cR P)), (1, .xl z L.length 1 (cI L)), (9, .sl 0 0 L.length L.length)], [], 1, [(0, .cells (repL L.length [.v (.int .i64 0)]) 2)]⟩) w (OutB Try.prog Try.f16 76 (fun b => .tup [.sl b 0 L.length L.length, .v (.int .i64 0)]) (.cells (cI (madeK P L P.length)) 2) w)) : Goes Try.prog 76 roC4 (⟨[(0, .xl y P.length 2 (cR P)), (1, .xl z L.length 1 (cI L))], [], 0, []⟩) w (OutB Try.prog Try.f16 76 (fun b => .tup [.sl b 0 L.length L.length, .v (.int .i64 0)]) (.cells (cI (madeK P L P.length)) 2) w) := by
  exact goes_spine (T' := ⟨[(0, .xl y P.length 2 (cR P)), (1, .xl z L.length 1 (cI L)), (9, .sl 0 0 L.length L.length)], [], 1, [(0, .cells (repL L.length [.v (.int .i64 0)]) 2)]⟩) (by kernel_rfl) (goes_told Try.checked.mixed (known_cp) 200 (e := .normal) (ps := [L.length ≤ L.length, L.length ≤ 1000000]) [.go, .go, .sym, .go] (by kernel_rfl) (by kernel_rfl) ⟨(Nat.le_refl _), (by omega), trivial⟩ rfl) (hc)
def roC6 : Code := tlC roC5
set_option maxHeartbeats 2000000 in
theorem ro_5 (y z : Value) (P : List (Int × Int)) (L : List Int) (h0 : ruE (cR P) P.length (cI L) L.length = 0) (hn : 2 ≤ L.length ∧ L.length ≤ 12) (hok : ∀ i, i < L.length → 0 ≤ intAt (cI L) (i * 1) ∧ intAt (cI L) (i * 1) ≤ 100000) (hm : P.length ≤ 80) (hpr : ∀ i, i < P.length → pairAt L.length (cR P) i) (w : World) (hc : Goes Try.prog 76 roC6 (⟨[(0, .xl y P.length 2 (cR P)), (1, .xl z L.length 1 (cI L)), (9, .sl 0 0 L.length L.length)], [], 1, [(0, .cells (cI L) 2)]⟩) w (OutB Try.prog Try.f16 76 (fun b => .tup [.sl b 0 L.length L.length, .v (.int .i64 0)]) (.cells (cI (madeK P L P.length)) 2) w)) : Goes Try.prog 76 roC5 (⟨[(0, .xl y P.length 2 (cR P)), (1, .xl z L.length 1 (cI L)), (9, .sl 0 0 L.length L.length)], [], 1, [(0, .cells (repL L.length [.v (.int .i64 0)]) 2)]⟩) w (OutB Try.prog Try.f16 76 (fun b => .tup [.sl b 0 L.length L.length, .v (.int .i64 0)]) (.cells (cI (madeK P L P.length)) 2) w) := by
  exact goes_spine (T' := ⟨[(0, .xl y P.length 2 (cR P)), (1, .xl z L.length 1 (cI L)), (9, .sl 0 0 L.length L.length)], [], 1, [(0, .cells (cI L) 2)]⟩) (by kernel_rfl) (goes_told Try.checked.mixed (known_cp) 200 (e := .normal) (ps := [L.length = L.length, (cI L).length = L.length * 1, (repL L.length [AV.v (Value.int IntKind.i64 0)]).length = L.length * 1, allOne (cI L) = true]) [.go, .go, .sym] (by kernel_rfl) (by kernel_rfl) ⟨rfl, (by rw [cI_len]; omega), (by rw [cI_rep, cI_len, List.length_replicate]; omega), (cI_one L), trivial⟩ rfl) (hc)
def roC7 : Code := tlC roC6
set_option maxHeartbeats 4000000 in
theorem ro_6 (y z : Value) (P : List (Int × Int)) (L : List Int) (h0 : ruE (cR P) P.length (cI L) L.length = 0) (hn : 2 ≤ L.length ∧ L.length ≤ 12) (hok : ∀ i, i < L.length → 0 ≤ intAt (cI L) (i * 1) ∧ intAt (cI L) (i * 1) ≤ 100000) (hm : P.length ≤ 80) (hpr : ∀ i, i < P.length → pairAt L.length (cR P) i) (w : World) (hc : ∀ i : CnI P.length, P.length ≤ i.1 → Goes Try.prog 76 roC7 (⟨[(9, .sl 0 0 L.length L.length), (39, .xl y P.length 2 (cR P)), (40, .v (.int .i64 P.length)), (41, .v (.int .i64 (i.1 : Nat)))], [], 1, [(0, .cells (cI (madeK P L i.1)) 2)]⟩) w (OutB Try.prog Try.f16 76 (fun b => .tup [.sl b 0 L.length L.length, .v (.int .i64 0)]) (.cells (cI (madeK P L P.length)) 2) w)) : Goes Try.prog 76 roC6 (⟨[(0, .xl y P.length 2 (cR P)), (1, .xl z L.length 1 (cI L)), (9, .sl 0 0 L.length L.length)], [], 1, [(0, .cells (cI L) 2)]⟩) w (OutB Try.prog Try.f16 76 (fun b => .tup [.sl b 0 L.length L.length, .v (.int .i64 0)]) (.cells (cI (madeK P L P.length)) 2) w) := by
  refine goes_spineQ (ι := CnI P.length) (T := fun i => ⟨[(9, .sl 0 0 L.length L.length), (39, .xl y P.length 2 (cR P)), (40, .v (.int .i64 P.length)), (41, .v (.int .i64 (i.1 : Nat)))], [], 1, [(0, .cells (cI (madeK P L i.1)) 2)]⟩) (R := fun i => P.length ≤ i.1) (by kernel_rfl)
    (goes_spine (T' := ⟨[(9, .sl 0 0 L.length L.length), (39, .xl y P.length 2 (cR P)), (40, .v (.int .i64 P.length)), (41, .v (.int .i64 (0 : Nat)))], [], 1, [(0, .cells (cI (madeK P L 0)) 2)]⟩) (by kernel_rfl) (goes_told Try.checked.mixed (known_cp) 200 (e := .normal) (ps := []) [.go, .go, .go] (by kernel_rfl) (by kernel_rfl) trivial rfl)
      (goes_blockloop (by kernel_rfl) (fun i : CnI P.length => ⟨[(9, .sl 0 0 L.length L.length), (39, .xl y P.length 2 (cR P)), (40, .v (.int .i64 P.length)), (41, .v (.int .i64 (i.1 : Nat)))], [], 1, [(0, .cells (cI (madeK P L i.1)) 2)]⟩) (fun i => P.length - i.1) (fun i => ?_) ⟨0, Nat.zero_le _⟩)) hc
  obtain ⟨i, hi1⟩ := i
  show (∃ j : CnI P.length, P.length - j.1 < P.length - i ∧ Goes Try.prog 76 (loopC (tlC (hdC roC6))) (⟨[(9, .sl 0 0 L.length L.length), (39, .xl y P.length 2 (cR P)), (40, .v (.int .i64 P.length)), (41, .v (.int .i64 (i : Nat)))], [], 1, [(0, .cells (cI (madeK P L i)) 2)]⟩) w (Land 76 isN (⟨[(9, .sl 0 0 L.length L.length), (39, .xl y P.length 2 (cR P)), (40, .v (.int .i64 P.length)), (41, .v (.int .i64 (j.1 : Nat)))], [], 1, [(0, .cells (cI (madeK P L j.1)) 2)]⟩) w)) ∨ (P.length ≤ i ∧ Goes Try.prog 76 (loopC (tlC (hdC roC6))) (⟨[(9, .sl 0 0 L.length L.length), (39, .xl y P.length 2 (cR P)), (40, .v (.int .i64 P.length)), (41, .v (.int .i64 (i : Nat)))], [], 1, [(0, .cells (cI (madeK P L i)) 2)]⟩) w (Land 76 (isX 2) (⟨[(9, .sl 0 0 L.length L.length), (39, .xl y P.length 2 (cR P)), (40, .v (.int .i64 P.length)), (41, .v (.int .i64 (i : Nat)))], [], 1, [(0, .cells (cI (madeK P L i)) 2)]⟩) w)) ∨ Goes Try.prog 76 (loopC (tlC (hdC roC6))) (⟨[(9, .sl 0 0 L.length L.length), (39, .xl y P.length 2 (cR P)), (40, .v (.int .i64 P.length)), (41, .v (.int .i64 (i : Nat)))], [], 1, [(0, .cells (cI (madeK P L i)) 2)]⟩) w (fun e a w' => e = .ret ∧ (OutB Try.prog Try.f16 76 (fun b => .tup [.sl b 0 L.length L.length, .v (.int .i64 0)]) (.cells (cI (madeK P L P.length)) 2) w) .ret a w')
  have hcl := cR_len P
  cases hq1 : (ltI ↑i ↑P.length) with
  | true =>
    have ghq1 := ltI_true hq1
    have hp := hpr i (by omega)
    unfold pairAt at hp
    have hA : 0 + (intAt (cR P) (i * 2 + 0)).toNat * 1 < (madeK P L i).length := by rw [madeK_len]; omega
    have hB : 0 + (intAt (cR P) (i * 2 + 1)).toNat * 1 < (madeK P L i).length := by rw [madeK_len]; omega
    have hA1 : (intAt (cR P) (i * 2 + 0)).toNat < L.length := by omega
    have hB1 : (intAt (cR P) (i * 2 + 1)).toNat < L.length := by omega
    have hlm := cI_len (madeK P L i)
    cases hq2 : (ltI (intAt (cI (madeK P L i)) (0 + (intAt (cR P) (i * 2 + 0)).toNat * 1)) (intAt (cI (madeK P L i)) (0 + (intAt (cR P) (i * 2 + 1)).toNat * 1))) with
    | true =>
      obtain ⟨ea, eb⟩ := cR_int (L := P) (i := i) (List.getElem?_eq_getElem (by omega))
      have en : madeK P L (i + 1) = cmpx (madeK P L i) ((intAt (cR P) (i * 2 + 0)), (intAt (cR P) (i * 2 + 1))) := by rw [madeK_next (by omega)]; congr 1; exact Prod.ext ea.symm eb.symm
      have ec := cmpx_t (l := madeK P L i) (q := ((intAt (cR P) (i * 2 + 0)), (intAt (cR P) (i * 2 + 1)))) hA hB (ltI_true hq2)
      refine .inl ⟨⟨i + 1, by omega⟩, (by show P.length - (i + 1) < P.length - i; omega), ?_⟩
      show Goes _ _ _ _ _ (Land _ isN (⟨[(9, .sl 0 0 L.length L.length), (39, .xl y P.length 2 (cR P)), (40, .v (.int .i64 P.length)), (41, .v (.int .i64 (i + 1 : Nat)))], [], 1, [(0, .cells (cI (madeK P L (i + 1))) 2)]⟩) _)
      rw [en, ec]
      exact goes_cut Try.checked.mixed (known_cp) 200 (e := .normal) (m := 2) (ps := [ltI ↑i ↑P.length = true, i < P.length, loadL Try.prog (cR P) (i * 2) 75 = some (AV.agg [AV.v (Value.int IntKind.i64 (intAt (cR P) (i * 2 + 0))), AV.v (Value.int IntKind.i64 (intAt (cR P) (i * 2 + 1)))]), 0 ≤ intAt (cR P) (i * 2 + 1), (intAt (cR P) (i * 2 + 1)).toNat < L.length, loadL Try.prog (cI (madeK P L i)) (0 + (intAt (cR P) (i * 2 + 1)).toNat * 1) 2 = some (AV.v (Value.int IntKind.i64 (intAt (cI (madeK P L i)) (0 + (intAt (cR P) (i * 2 + 1)).toNat * 1)))), 0 ≤ intAt (cR P) (i * 2 + 0), (intAt (cR P) (i * 2 + 0)).toNat < L.length, loadL Try.prog (cI (madeK P L i)) (0 + (intAt (cR P) (i * 2 + 0)).toNat * 1) 2 = some (AV.v (Value.int IntKind.i64 (intAt (cI (madeK P L i)) (0 + (intAt (cR P) (i * 2 + 0)).toNat * 1)))), ltI (intAt (cI (madeK P L i)) (0 + (intAt (cR P) (i * 2 + 0)).toNat * 1)) (intAt (cI (madeK P L i)) (0 + (intAt (cR P) (i * 2 + 1)).toNat * 1)) = true, 0 ≤ intAt (cR P) (i * 2 + 1), (intAt (cR P) (i * 2 + 1)).toNat < L.length, loadL Try.prog (cI (madeK P L i)) (0 + (intAt (cR P) (i * 2 + 1)).toNat * 1) 2 = some (AV.v (Value.int IntKind.i64 (intAt (cI (madeK P L i)) (0 + (intAt (cR P) (i * 2 + 1)).toNat * 1)))), 0 ≤ intAt (cR P) (i * 2 + 0), (intAt (cR P) (i * 2 + 0)).toNat < L.length, loadL Try.prog (cI (madeK P L i)) (0 + (intAt (cR P) (i * 2 + 0)).toNat * 1) 2 = some (AV.v (Value.int IntKind.i64 (intAt (cI (madeK P L i)) (0 + (intAt (cR P) (i * 2 + 0)).toNat * 1)))), 0 ≤ intAt (cR P) (i * 2 + 0), (intAt (cR P) (i * 2 + 0)).toNat < L.length, 0 + (intAt (cR P) (i * 2 + 0)).toNat * 1 + (AV.v (Value.int IntKind.i64 (intAt (cI (madeK P L i)) (0 + (intAt (cR P) (i * 2 + 1)).toNat * 1)))).cells.length ≤ (cI (madeK P L i)).length, 0 ≤ intAt (cR P) (i * 2 + 1), (intAt (cR P) (i * 2 + 1)).toNat < L.length, 0 + (intAt (cR P) (i * 2 + 1)).toNat * 1 + (AV.v (Value.int IntKind.i64 (intAt (cI (madeK P L i)) (0 + (intAt (cR P) (i * 2 + 0)).toNat * 1)))).cells.length ≤ (splice (cI (madeK P L i)) (0 + (intAt (cR P) (i * 2 + 0)).toNat * 1) (AV.v (Value.int IntKind.i64 (intAt (cI (madeK P L i)) (0 + (intAt (cR P) (i * 2 + 1)).toNat * 1)))).cells).length, inR IntKind.i64 (↑i + 1)]) [.go, .b true, .sym, .sym, .go, .go, .go, .go, .go, .nat, .sym, .go, .go, .go, .nat, .sym, .go, .b true, .go, .go, .go, .go, .go, .go, .go, .go, .go, .nat, .sym, .go, .go, .go, .nat, .sym, .nat, .sym, .nat, .sym, .go, .go] (by kernel_rfl) (by kernel_rfl) ⟨hq1, (by omega), (cR_load (by omega) 75 (Try.underlying75) rfl (inf := (Try.prog.info? 75).getD default) (by kernel_rfl) (by kernel_rfl)), (by omega), hB1, (cI_load hB 2 (Try.underlying2) rfl), (by omega), hA1, (cI_load hA 2 (Try.underlying2) rfl), hq2, (by omega), hB1, (cI_load hB 2 (Try.underlying2) rfl), (by omega), hA1, (cI_load hA 2 (Try.underlying2) rfl), (by omega), hA1, (by rw [hlm]; exact hA), (by omega), hB1, (by show _ + 1 ≤ (splice _ _ [_]).length; rw [cI_set hA, cI_len, List.length_set]; exact hB), (by show -9223372036854775808 ≤ _ ∧ _ ≤ 9223372036854775807; constructor <;> omega), trivial⟩ rfl (by show 1 ≤ 2; decide) ⟨⟨nb_sl (by show 0 < 1; decide), nb_xl (cR_plain P), nb_v _, nb_v _, trivial⟩, ⟨⟨by show 0 < 1; decide, nbb_plain (by first | exact cI_plain _ | (rw [← ec]; exact cI_plain _))⟩, trivial⟩, rfl⟩
    | false =>
      obtain ⟨ea, eb⟩ := cR_int (L := P) (i := i) (List.getElem?_eq_getElem (by omega))
      have en : madeK P L (i + 1) = cmpx (madeK P L i) ((intAt (cR P) (i * 2 + 0)), (intAt (cR P) (i * 2 + 1))) := by rw [madeK_next (by omega)]; congr 1; exact Prod.ext ea.symm eb.symm
      have ec := cmpx_f (l := madeK P L i) (q := ((intAt (cR P) (i * 2 + 0)), (intAt (cR P) (i * 2 + 1)))) hA hB (Int.not_lt.2 (ltI_false hq2))
      refine .inl ⟨⟨i + 1, by omega⟩, (by show P.length - (i + 1) < P.length - i; omega), ?_⟩
      show Goes _ _ _ _ _ (Land _ isN (⟨[(9, .sl 0 0 L.length L.length), (39, .xl y P.length 2 (cR P)), (40, .v (.int .i64 P.length)), (41, .v (.int .i64 (i + 1 : Nat)))], [], 1, [(0, .cells (cI (madeK P L (i + 1))) 2)]⟩) _)
      rw [en, ec]
      exact goes_cut Try.checked.mixed (known_cp) 200 (e := .normal) (m := 2) (ps := [ltI ↑i ↑P.length = true, i < P.length, loadL Try.prog (cR P) (i * 2) 75 = some (AV.agg [AV.v (Value.int IntKind.i64 (intAt (cR P) (i * 2 + 0))), AV.v (Value.int IntKind.i64 (intAt (cR P) (i * 2 + 1)))]), 0 ≤ intAt (cR P) (i * 2 + 1), (intAt (cR P) (i * 2 + 1)).toNat < L.length, loadL Try.prog (cI (madeK P L i)) (0 + (intAt (cR P) (i * 2 + 1)).toNat * 1) 2 = some (AV.v (Value.int IntKind.i64 (intAt (cI (madeK P L i)) (0 + (intAt (cR P) (i * 2 + 1)).toNat * 1)))), 0 ≤ intAt (cR P) (i * 2 + 0), (intAt (cR P) (i * 2 + 0)).toNat < L.length, loadL Try.prog (cI (madeK P L i)) (0 + (intAt (cR P) (i * 2 + 0)).toNat * 1) 2 = some (AV.v (Value.int IntKind.i64 (intAt (cI (madeK P L i)) (0 + (intAt (cR P) (i * 2 + 0)).toNat * 1)))), ltI (intAt (cI (madeK P L i)) (0 + (intAt (cR P) (i * 2 + 0)).toNat * 1)) (intAt (cI (madeK P L i)) (0 + (intAt (cR P) (i * 2 + 1)).toNat * 1)) = false, inR IntKind.i64 (↑i + 1)]) [.go, .b true, .sym, .sym, .go, .go, .go, .go, .go, .nat, .sym, .go, .go, .go, .nat, .sym, .go, .b false, .go, .go] (by kernel_rfl) (by kernel_rfl) ⟨hq1, (by omega), (cR_load (by omega) 75 (Try.underlying75) rfl (inf := (Try.prog.info? 75).getD default) (by kernel_rfl) (by kernel_rfl)), (by omega), hB1, (cI_load hB 2 (Try.underlying2) rfl), (by omega), hA1, (cI_load hA 2 (Try.underlying2) rfl), hq2, (by show -9223372036854775808 ≤ _ ∧ _ ≤ 9223372036854775807; constructor <;> omega), trivial⟩ rfl (by show 1 ≤ 2; decide) ⟨⟨nb_sl (by show 0 < 1; decide), nb_xl (cR_plain P), nb_v _, nb_v _, trivial⟩, ⟨⟨by show 0 < 1; decide, nbb_plain (by first | exact cI_plain _ | (rw [← ec]; exact cI_plain _))⟩, trivial⟩, rfl⟩
  | false =>
    have ghq1 := ltI_false hq1
    exact .inr (.inl ⟨(by show P.length ≤ i; omega), goes_told Try.checked.mixed (known_cp) 200 (e := .exit 2) (ps := [ltI ↑i ↑P.length = false]) [.go, .b false] (by kernel_rfl) (by kernel_rfl) ⟨hq1, trivial⟩ rfl⟩)
theorem ro_7 (y z : Value) (P : List (Int × Int)) (L : List Int) (h0 : ruE (cR P) P.length (cI L) L.length = 0) (w : World) : Goes Try.prog 76 roC7 (⟨[(9, .sl 0 0 L.length L.length), (39, .xl y P.length 2 (cR P)), (40, .v (.int .i64 P.length)), (41, .v (.int .i64 (P.length : Nat)))], [], 1, [(0, .cells (cI (madeK P L (P.length))) 2)]⟩) w (OutB Try.prog Try.f16 76 (fun b => .tup [.sl b 0 L.length L.length, .v (.int .i64 0)]) (.cells (cI (madeK P L P.length)) 2) w) :=
  goes_outB Try.checked.mixed known_cp 200 (ps := []) [.go, .go, .go] 0 (by kernel_rfl) (by kernel_rfl) trivial
theorem Run_ok (y z : Value) (P : List (Int × Int)) (L : List Int) (h0 : ruE (cR P) P.length (cI L) L.length = 0) : GivesB Try.prog 16 [.xl y P.length 2 (cR P), .xl z L.length 1 (cI L)] (fun b => .tup [.sl b 0 L.length L.length, .v (.int .i64 0)]) (.cells (cI (madeK P L P.length)) 2) := by
  obtain ⟨hn, hok, hpr0⟩ := ruE_zero h0
  obtain ⟨-, hm, hpr⟩ := prE_zero hpr0
  exact givesB_parts 76 Try.func16 (by kernel_rfl) (by kernel_rfl) (by kernel_rfl) (one_slE L.length 0 (cI_plain _)) (fun w => ro_0 y z P L h0 w (ro_1 y z P L h0 w (fun hn => ro_2 y z P L h0 hn w (fun i hi => ro_3 y z P L i.1 h0 hn hok w (ro_4 y z P L h0 hn hok hm hpr w (ro_5 y z P L h0 hn hok hm hpr w (ro_6 y z P L h0 hn hok hm hpr w (fun j hj => by
    obtain ⟨j, hj1⟩ := j
    have hj2 : P.length ≤ j := hj
    have : j = P.length := by omega
    subst this
    exact ro_7 y z P L h0 w))))))))
end
end Go.Proofs.Ytchlehpjpgeejaa
