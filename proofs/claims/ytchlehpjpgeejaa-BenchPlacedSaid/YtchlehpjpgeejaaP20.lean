/- The law of places: its loops. -/
import Derived.Test.YtchlehpjpgeejaaP19
namespace Go.Proofs.Ytchlehpjpgeejaa
set_option linter.unusedVariables false
set_option linter.unusedSimpArgs false
open Go Ev
noncomputable section

def bpC2 : Code := tlC (tlC (bodyC Try.f13))
def bpC3 : Code := tlC bpC2
def bpC4 : Code := tlC bpC3
def bpC8 : Code := tlC (tlC (tlC (tlC bpC4)))
def bpL1 : Code := loopC (tlC (hdC bpC3))
def bpL2 : Code := loopC (tlC (hdC bpC8))
def bpTm (y z : Value) (L : List (Int × Int)) (B : List Int) (q : Int) : Ev.Lit := ⟨[(0, .xl y L.length 2 (cR L)), (1, .xl z B.length 1 (cU B)), (2, .v (.int .u8 q)), (7, .v (.slice none 0 0)), (8, .v (.int .i64 6))], [], 0, []⟩
def bpTa (y z : Value) (L : List (Int × Int)) (B : List Int) (q : Int) (i : Nat) : Ev.Lit := ⟨[(0, .xl y L.length 2 (cR L)), (1, .xl z B.length 1 (cU B)), (2, .v (.int .u8 q)), (7, .v (.slice none 0 0)), (8, .v (.int .i64 2)), (9, .v (.int .i64 i))], [], 0, []⟩
def bpTk (y z : Value) (L : List (Int × Int)) (B : List Int) (q : Int) (i : Nat) : Ev.Lit := ⟨[(0, .xl y L.length 2 (cR L)), (1, .xl z B.length 1 (cU B)), (2, .v (.int .u8 q)), (7, .sl 0 0 L.length L.length), (8, .v (.int .i64 0)), (9, .v (.int .i64 i))], [], 1, [(0, .cells (plUp (cR L) L.length L.length) 44)]⟩
def bpT2 (y z : Value) (L : List (Int × Int)) (B : List Int) (k : Nat) (o m c d : Int) (i : Nat) : Ev.Lit := ⟨[(0, .xl y L.length 2 (cR L)), (1, .xl z B.length 1 (cU B)), (7, .sl 0 0 L.length L.length), (10, .v (.int .i64 k)), (11, .v (.int .i64 m)), (12, .v (.int .i64 c)), (13, .v (.int .i64 d)), (14, .v (.int .i64 o)), (15, .v (.int .i64 i))], [], 1, [(0, .cells (plUp (cR L) L.length L.length) 44)]⟩
def bpTb (y z : Value) (L : List (Int × Int)) (B : List Int) (k : Nat) : Ev.Lit := ⟨[(0, .xl y L.length 2 (cR L)), (1, .xl z B.length 1 (cU B)), (7, .sl 0 0 L.length L.length), (10, .v (.int .i64 k))], [], 1, [(0, .cells (plUp (cR L) L.length L.length) 44)]⟩

theorem plUp_at (c : List AV) (n : Nat) : ∀ (i k : Nat), k < i → (plUp c n i).length = i * 2 ∧ (plUp c n i)[k * 2]? = some (.v (.int .i64 (pcLo c k n))) ∧ (plUp c n i)[k * 2 + 1]? = some (.v (.int .i64 (pcHi c k n)))
  | 0, k, h => by omega
  | i + 1, k, h => by
    have hl : ∀ j, (plUp c n j).length = j * 2 := by
      intro j
      induction j with
      | zero => rfl
      | succ j ih => simp only [plUp, List.length_append, ih, List.length_cons, List.length_nil]; omega
    refine ⟨hl _, ?_⟩
    by_cases e : k < i
    · obtain ⟨-, h1, h2⟩ := plUp_at c n i k e
      simp only [plUp]
      rw [List.getElem?_append_left (by rw [hl]; omega), List.getElem?_append_left (by rw [hl]; omega)]
      exact ⟨h1, h2⟩
    · have : k = i := by omega
      subst this
      simp only [plUp]
      rw [List.getElem?_append_right (by rw [hl]; omega), List.getElem?_append_right (by rw [hl]; omega), hl]
      simp
theorem plUp_load1 {c : List AV} {n j : Nat} (h : j < n * 2) (t : TypeId) {d : TypeDesc} (hd : Try.prog.underlying t = some d) (ha : aggD d = false) : loadL Try.prog (plUp c n n) j t = some (.v (.int .i64 (intAt (plUp c n n) j))) := by
  have key : (plUp c n n)[j]? = some (.v (.int .i64 (intAt (plUp c n n) j))) := by
    by_cases e : j % 2 = 0
    · have h1 := (plUp_at c n n (j / 2) (by omega)).2.1
      rw [show j / 2 * 2 = j by omega] at h1
      rw [intAt_of h1]; exact h1
    · have h1 := (plUp_at c n n (j / 2) (by omega)).2.2
      rw [show j / 2 * 2 + 1 = j by omega] at h1
      rw [intAt_of h1]; exact h1
  simp only [loadL, hd, ha, getL_eq, key]
theorem plUp_int {c : List AV} {n k : Nat} (h : k < n) : intAt (plUp c n n) (0 + k * 2 + 0) = pcLo c k n ∧ intAt (plUp c n n) (0 + k * 2 + 1) = pcHi c k n := by
  obtain ⟨-, h1, h2⟩ := plUp_at c n n k h
  rw [Nat.zero_add]
  exact ⟨intAt_of h1, intAt_of h2⟩
theorem plUp_load {c : List AV} {n k : Nat} (h : k < n) (t : TypeId) {d : TypeDesc} (hd : Try.prog.underlying t = some d) (ha : aggD d = true) {inf : TypeInfo} (hf : Try.prog.info? t = some inf) (h2 : inf.size = 2) :
    loadL Try.prog (plUp c n n) (0 + k * 2) t = some (.agg [.v (.int .i64 (intAt (plUp c n n) (0 + k * 2 + 0))), .v (.int .i64 (intAt (plUp c n n) (0 + k * 2 + 1)))]) := by
  obtain ⟨e1, e2⟩ := plUp_int (c := c) h
  obtain ⟨hl, h3, h4⟩ := plUp_at c n n k h
  rw [e1, e2, Nat.zero_add]
  have hsub : sub (plUp c n n) (k * 2) 2 = some [.v (.int .i64 (pcLo c k n)), .v (.int .i64 (pcHi c k n))] := by
    unfold sub
    rw [Nat.ble_eq_true_of_le (by omega)]
    simp only [Option.some.injEq]
    apply List.ext_getElem?
    intro j
    rw [List.getElem?_take]
    match j with
    | 0 => simp only [List.getElem?_drop, Nat.add_zero, h3]; rfl
    | 1 => simp only [List.getElem?_drop, h4]; rfl
    | j + 2 => simp; omega
  simp only [loadL, hd, ha, hf, h2, hsub]
/-- The range at a place is a valid one. -/
def okAt (c : List AV) (j : Nat) : Prop := 0 ≤ intAt c (j * 2 + 0) ∧ intAt c (j * 2 + 0) ≤ intAt c (j * 2 + 1) ∧ intAt c (j * 2 + 1) ≤ 100000
theorem okAt_all {c : List AV} {n : Nat} : okC 0 100000 c n = true ↔ ∀ j, j < n → okAt c j := by
  unfold okC okAt
  rw [decide_eq_true_eq]
  exact Iff.rfl
def upMid (c b : List AV) (n : Nat) (o : Int) (k j : Nat) : Bool := match eqI (j : Int) (k : Int) with
  | true => false
  | false => ltI o (pickN (intAt c (j * 2 + 0)) (intAt c (j * 2 + 1)) (numN b n j))
/-- How many of the first ones have more than this. -/
def mnN (c b : List AV) (n : Nat) (o : Int) (k i : Nat) : Int := cntI (upMid c b n o k) i
theorem cnt_le {f g : Nat → Bool} : ∀ (i : Nat), (∀ j, j < i → f j = true → g j = true) → cntI f i ≤ cntI g i
  | 0, _ => Int.le_refl _
  | i + 1, h => by
    have ih := cnt_le i (fun j hj => h j (by omega))
    have hi := h i (by omega)
    unfold cntI
    cases hf : f i with
    | true => rw [hi hf]; simp only; omega
    | false =>
      simp only
      split <;> omega
theorem upMid_t {c b : List AV} {n : Nat} {o : Int} {k j : Nat} (h : eqI (j : Int) (k : Int) = true) : upMid c b n o k j = false := by simp only [upMid, h]
theorem upMid_f {c b : List AV} {n : Nat} {o : Int} {k j : Nat} (h : eqI (j : Int) (k : Int) = false) : upMid c b n o k j = ltI o (pickN (intAt c (j * 2 + 0)) (intAt c (j * 2 + 1)) (numN b n j)) := by simp only [upMid, h]
theorem mn_bd {L : List (Int × Int)} {B : List Int} (hB : AllU B) (hok : ∀ j, j < L.length → okAt (cR L) j) {k : Nat} (hk : k < L.length) :
    pcLo (cR L) k L.length ≤ mnN (cR L) (cU B) B.length (pickN (intAt (cR L) (k * 2 + 0)) (intAt (cR L) (k * 2 + 1)) (numN (cU B) B.length k)) k L.length ∧ mnN (cR L) (cU B) B.length (pickN (intAt (cR L) (k * 2 + 0)) (intAt (cR L) (k * 2 + 1)) (numN (cU B) B.length k)) k L.length ≤ pcHi (cR L) k L.length := by
  obtain ⟨k1, k2, k3⟩ := hok k hk
  have nk := numN_bd hB k
  have pk := pick_bd (lo := intAt (cR L) (k * 2 + 0)) (hi := intAt (cR L) (k * 2 + 1)) (b := numN (cU B) B.length k) ⟨k1, k2, by omega, nk.1, nk.2⟩
  constructor
  · refine cnt_le _ (fun j hj hf => ?_)
    obtain ⟨j1, j2, j3⟩ := hok j hj
    have nj := numN_bd hB j
    have pj := pick_bd (lo := intAt (cR L) (j * 2 + 0)) (hi := intAt (cR L) (j * 2 + 1)) (b := numN (cU B) B.length j) ⟨j1, j2, by omega, nj.1, nj.2⟩
    cases he : eqI (j : Int) (k : Int) with
    | true => rw [upLo_eq he] at hf; cases hf
    | false =>
      rw [upLo_ne he] at hf
      rw [upMid_f he]
      have := ltI_true hf
      exact ltI_lt (by omega)
  · refine cnt_le _ (fun j hj hf => ?_)
    obtain ⟨j1, j2, j3⟩ := hok j hj
    have nj := numN_bd hB j
    have pj := pick_bd (lo := intAt (cR L) (j * 2 + 0)) (hi := intAt (cR L) (j * 2 + 1)) (b := numN (cU B) B.length j) ⟨j1, j2, by omega, nj.1, nj.2⟩
    cases he : eqI (j : Int) (k : Int) with
    | true => rw [upMid_t he] at hf; cases hf
    | false =>
      rw [upMid_f he] at hf
      rw [upHi_ne he]
      have := ltI_true hf
      exact ltI_lt (by omega)
def bpI (c : List AV) (n : Nat) : Type := { i : Nat // i ≤ n ∧ ∀ j, j < i → okAt c j }
theorem okAt_next {c : List AV} {i : Nat} (h : ∀ j, j < i → okAt c j) (k : okAt c i) : ∀ j, j < i + 1 → okAt c j := fun j hj => by
  by_cases e : j < i
  · exact h j e
  · rw [show j = i by omega]; exact k
/-- Places: what is known, whatever the length. -/
def many2S : List Vw → Option (Res1 × List Prop) := fun vs =>
  match vs with
  | [.lst n k c] => some (.val (.tup [.v (.slice none 0 0), .v (.int .i64 6)]), [k = 2 ∧ ∃ L, c = cR L ∧ n = L.length, ¬ (1 ≤ n ∧ n ≤ 12)])
  | _ => none
theorem known_many2 : Known Try.prog (clsO (avOrc 38 [2] many2S)) := known_av (fun vs r ps h hp => by
  unfold many2S at h
  split at h
  · cases h
    obtain ⟨⟨rfl, L, rfl, rfl⟩, h2, -⟩ := hp
    refine ⟨⟨⟨_, cR_plain L⟩, trivial⟩, fun ys hy => ?_⟩
    obtain ⟨y1, rfl⟩ := len1 hy
    exact ⟨_, rfl, Places_many y1 L h2⟩
  · cases h)

theorem bp_many (hw : Known Try.prog (clsO wkO)) (y z : Value) (L : List (Int × Int)) (B : List Int) (q : Int) (h1 : ¬ (1 ≤ L.length ∧ L.length ≤ 12)) (w : World) : Goes Try.prog 185 bpC2 (bpTm y z L B q) w (OutR Try.prog Try.f13 185 (.bool true) w) := by
  cases hq1 : (ltI (↑L.length) 1) with
  | true =>
    have ghq1 := ltI_true hq1
    cases hq2 : (ltI 0 ↑L.length) with
    | true =>
      have ghq2 := ltI_true hq2
      cases hq3 : (ltI 12 ↑L.length) with
      | true =>
        have ghq3 := ltI_true hq3
        exact goes_out Try.checked.mixed (known_pp hw) 200 (v := .v (.bool true)) (ps := [ltI (↑L.length) 1 = true, true = true, true = true, true = true, true = true, true = true, true = true, ltI 0 ↑L.length = true, true = true, true = true, (!ltI 12 ↑L.length) = false, false = false, eqI 6 6 = true]) [.go, .go, .go, .go, .b true, .b true, .b true, .go, .go, .b true, .b true, .b true, .go, .b true, .go, .go, .go, .go, .b true, .go, .b true, .go, .b true, .go, .go, .go, .b false, .go, .b false, .go, .go, .go, .b true, .go, .go] (by kernel_rfl) (by kernel_rfl) ⟨hq1, rfl, rfl, rfl, rfl, rfl, rfl, hq2, rfl, rfl, (by rw [hq3]; rfl), rfl, rfl, trivial⟩ rfl
      | false =>
        have ghq3 := ltI_false hq3
        exact goes_out Try.checked.mixed (known_pp hw) 200 (v := .v (.bool true)) (ps := [ltI (↑L.length) 1 = true, true = true, true = true, true = true, true = true, true = true, true = true, ltI 0 ↑L.length = true, true = true, true = true, (!ltI 12 ↑L.length) = true, true = true, true = true]) [.go, .go, .go, .go, .b true, .b true, .b true, .go, .go, .b true, .b true, .b true, .go, .b true, .go, .go, .go, .go, .b true, .go, .b true, .go, .b true, .go, .go, .go, .b true, .b true, .go, .go, .b true, .go, .go] (by kernel_rfl) (by kernel_rfl) ⟨hq1, rfl, rfl, rfl, rfl, rfl, rfl, hq2, rfl, rfl, (by rw [hq3]; rfl), rfl, rfl, trivial⟩ rfl
    | false =>
      have ghq2 := ltI_false hq2
      exact goes_out Try.checked.mixed (known_pp hw) 200 (v := .v (.bool true)) (ps := [ltI (↑L.length) 1 = true, true = true, true = true, true = true, true = true, true = true, true = true, ltI 0 ↑L.length = false, false = false, false = false, false = false, false = false, eqI 6 6 = true]) [.go, .go, .go, .go, .b true, .b true, .b true, .go, .go, .b true, .b true, .b true, .go, .b true, .go, .go, .go, .go, .b false, .b false, .b false, .go, .go, .b false, .go, .b false, .go, .go, .go, .b true, .go, .go] (by kernel_rfl) (by kernel_rfl) ⟨hq1, rfl, rfl, rfl, rfl, rfl, rfl, hq2, rfl, rfl, rfl, rfl, rfl, trivial⟩ rfl
  | false =>
    have ghq1 := ltI_false hq1
    cases hq4 : (ltI 12 ↑L.length) with
    | true =>
      have ghq4 := ltI_true hq4
      cases hq5 : (ltI 0 ↑L.length) with
      | true =>
        have ghq5 := ltI_true hq5
        exact goes_out Try.checked.mixed (known_pp hw) 200 (v := .v (.bool true)) (ps := [ltI (↑L.length) 1 = false, false = false, false = false, ltI 12 ↑L.length = true, true = true, true = true, true = true, ltI 0 ↑L.length = true, true = true, true = true, (!ltI 12 ↑L.length) = false, false = false, eqI 6 6 = true]) [.go, .go, .go, .go, .b false, .go, .b false, .go, .b false, .go, .go, .go, .b true, .b true, .b true, .go, .b true, .go, .go, .go, .go, .b true, .go, .b true, .go, .b true, .go, .go, .go, .b false, .go, .b false, .go, .go, .go, .b true, .go, .go] (by kernel_rfl) (by kernel_rfl) ⟨hq1, rfl, rfl, hq4, rfl, rfl, rfl, hq5, rfl, rfl, (by rw [hq4]; rfl), rfl, rfl, trivial⟩ rfl
      | false =>
        have ghq5 := ltI_false hq5
        exact goes_out Try.checked.mixed (known_pp hw) 200 (v := .v (.bool true)) (ps := [ltI (↑L.length) 1 = false, false = false, false = false, ltI 12 ↑L.length = true, true = true, true = true, true = true, ltI 0 ↑L.length = false, false = false, false = false, false = false, false = false, eqI 6 6 = true]) [.go, .go, .go, .go, .b false, .go, .b false, .go, .b false, .go, .go, .go, .b true, .b true, .b true, .go, .b true, .go, .go, .go, .go, .b false, .b false, .b false, .go, .go, .b false, .go, .b false, .go, .go, .go, .b true, .go, .go] (by kernel_rfl) (by kernel_rfl) ⟨hq1, rfl, rfl, hq4, rfl, rfl, rfl, hq5, rfl, rfl, rfl, rfl, rfl, trivial⟩ rfl
    | false =>
      have ghq4 := ltI_false hq4
      cases hq6 : (ltI 20 ↑B.length) with
      | true =>
        have ghq6 := ltI_true hq6
        cases hq7 : (ltI 0 ↑L.length) with
        | true =>
          have ghq7 := ltI_true hq7
          exact goes_out Try.checked.mixed (known_pp hw) 200 (v := .v (.bool true)) (ps := [ltI (↑L.length) 1 = false, false = false, false = false, ltI 12 ↑L.length = false, false = false, false = false, ltI 20 ↑B.length = true, ltI 0 ↑L.length = true, true = true, true = true, (!ltI 12 ↑L.length) = true, true = true, true = true]) [.go, .go, .go, .go, .b false, .go, .b false, .go, .b false, .go, .go, .go, .b false, .go, .b false, .go, .b false, .go, .go, .b true, .go, .go, .go, .go, .b true, .go, .b true, .go, .b true, .go, .go, .go, .b true, .b true, .go, .go, .b true, .go, .go] (by kernel_rfl) (by kernel_rfl) ⟨hq1, rfl, rfl, hq4, rfl, rfl, hq6, hq7, rfl, rfl, (by rw [hq4]; rfl), rfl, rfl, trivial⟩ rfl
        | false =>
          have ghq7 := ltI_false hq7
          exact goes_out Try.checked.mixed (known_pp hw) 200 (v := .v (.bool true)) (ps := [ltI (↑L.length) 1 = false, false = false, false = false, ltI 12 ↑L.length = false, false = false, false = false, ltI 20 ↑B.length = true, ltI 0 ↑L.length = false, false = false, false = false, false = false, false = false, eqI 6 6 = true]) [.go, .go, .go, .go, .b false, .go, .b false, .go, .b false, .go, .go, .go, .b false, .go, .b false, .go, .b false, .go, .go, .b true, .go, .go, .go, .go, .b false, .b false, .b false, .go, .go, .b false, .go, .b false, .go, .go, .go, .b true, .go, .go] (by kernel_rfl) (by kernel_rfl) ⟨hq1, rfl, rfl, hq4, rfl, rfl, hq6, hq7, rfl, rfl, rfl, rfl, rfl, trivial⟩ rfl
      | false =>
        have ghq6 := ltI_false hq6
        exact absurd (by omega : 1 ≤ L.length ∧ L.length ≤ 12) h1

def bpTa0 (y z : Value) (L : List (Int × Int)) (B : List Int) (q : Int) : Ev.Lit := ⟨(bpTa y z L B q 0).tms.take 5, [], (bpTa y z L B q 0).n, (bpTa y z L B q 0).bs⟩

theorem bp_arg2 (hw : Known Try.prog (clsO wkO)) (y z : Value) (L : List (Int × Int)) (B : List Int) (q : Int) (h1 : 1 ≤ L.length ∧ L.length ≤ 12) (w : World) (hc : B.length ≤ 20 → Goes Try.prog 185 bpC3 (bpTa0 y z L B q) w (OutR Try.prog Try.f13 185 (.bool true) w)) : Goes Try.prog 185 bpC2 (bpTa0 y z L B q) w (OutR Try.prog Try.f13 185 (.bool true) w) := by
  cases hq1 : (ltI (↑L.length) 1) with
  | true =>
    have ghq1 := ltI_true hq1
    cases hq2 : (ltI 0 ↑L.length) with
    | true =>
      have ghq2 := ltI_true hq2
      cases hq3 : (ltI 12 ↑L.length) with
      | true =>
        have ghq3 := ltI_true hq3
        omega
      | false =>
        have ghq3 := ltI_false hq3
        exact goes_out Try.checked.mixed (known_pp hw) 200 (v := .v (.bool true)) (ps := [ltI (↑L.length) 1 = true, true = true, true = true, true = true, true = true, true = true, true = true, ltI 0 ↑L.length = true, true = true, true = true, (!ltI 12 ↑L.length) = true, true = true, true = true]) [.go, .go, .go, .go, .b true, .b true, .b true, .go, .go, .b true, .b true, .b true, .go, .b true, .go, .go, .go, .go, .b true, .go, .b true, .go, .b true, .go, .go, .go, .b true, .b true, .go, .go, .b true, .go, .go] (by kernel_rfl) (by kernel_rfl) ⟨hq1, rfl, rfl, rfl, rfl, rfl, rfl, hq2, rfl, rfl, (by rw [hq3]; rfl), rfl, rfl, trivial⟩ rfl
    | false =>
      have ghq2 := ltI_false hq2
      omega
  | false =>
    have ghq1 := ltI_false hq1
    cases hq4 : (ltI 12 ↑L.length) with
    | true =>
      have ghq4 := ltI_true hq4
      cases hq5 : (ltI 0 ↑L.length) with
      | true =>
        have ghq5 := ltI_true hq5
        omega
      | false =>
        have ghq5 := ltI_false hq5
        omega
    | false =>
      have ghq4 := ltI_false hq4
      cases hq6 : (ltI 20 ↑B.length) with
      | true =>
        have ghq6 := ltI_true hq6
        cases hq7 : (ltI 0 ↑L.length) with
        | true =>
          have ghq7 := ltI_true hq7
          exact goes_out Try.checked.mixed (known_pp hw) 200 (v := .v (.bool true)) (ps := [ltI (↑L.length) 1 = false, false = false, false = false, ltI 12 ↑L.length = false, false = false, false = false, ltI 20 ↑B.length = true, ltI 0 ↑L.length = true, true = true, true = true, (!ltI 12 ↑L.length) = true, true = true, true = true]) [.go, .go, .go, .go, .b false, .go, .b false, .go, .b false, .go, .go, .go, .b false, .go, .b false, .go, .b false, .go, .go, .b true, .go, .go, .go, .go, .b true, .go, .b true, .go, .b true, .go, .go, .go, .b true, .b true, .go, .go, .b true, .go, .go] (by kernel_rfl) (by kernel_rfl) ⟨hq1, rfl, rfl, hq4, rfl, rfl, hq6, hq7, rfl, rfl, (by rw [hq4]; rfl), rfl, rfl, trivial⟩ rfl
        | false =>
          have ghq7 := ltI_false hq7
          omega
      | false =>
        have ghq6 := ltI_false hq6
        exact goes_spine (T' := bpTa0 y z L B q) (by kernel_rfl) (goes_told Try.checked.mixed (known_pp hw) 200 (e := .normal) (ps := [ltI (↑L.length) 1 = false, false = false, false = false, ltI 12 ↑L.length = false, false = false, false = false, ltI 20 ↑B.length = false]) [.go, .go, .go, .go, .b false, .go, .b false, .go, .b false, .go, .go, .go, .b false, .go, .b false, .go, .b false, .go, .go, .b false] (by kernel_rfl) (by kernel_rfl) ⟨hq1, rfl, rfl, hq4, rfl, rfl, hq6, trivial⟩ rfl) (hc (by omega))

set_option maxHeartbeats 2000000 in
theorem bp_arg3 (hw : Known Try.prog (clsO wkO)) (y z : Value) (L : List (Int × Int)) (B : List Int) (q : Int) (hL : L.length ≤ 12) (w : World) (hc : ∀ i : bpI (cR L) L.length, L.length ≤ i.1 → Goes Try.prog 185 bpC4 (bpTa y z L B q i.1) w (OutR Try.prog Try.f13 185 (.bool true) w)) : Goes Try.prog 185 bpC3 (bpTa0 y z L B q) w (OutR Try.prog Try.f13 185 (.bool true) w) := by
  refine goes_spineQ (ι := bpI (cR L) L.length) (T := fun i => bpTa y z L B q i.1) (R := fun i => L.length ≤ i.1) (by kernel_rfl)
    (goes_spine (T' := bpTa y z L B q 0) (by kernel_rfl) (goes_told Try.checked.mixed (known_pp hw) 200 (e := .normal) (ps := []) [.go] (by kernel_rfl) (by kernel_rfl) trivial rfl)
      (goes_blockloop (by kernel_rfl) (fun i : bpI (cR L) L.length => bpTa y z L B q i.1) (fun i => L.length - i.1) (fun i => ?_) ⟨0, Nat.zero_le _, fun j hj => by omega⟩)) hc
  obtain ⟨i, hi1, hi2⟩ := i
  have hcl := cR_len L
  show (∃ j : bpI (cR L) L.length, L.length - j.1 < L.length - i ∧ Goes Try.prog 185 bpL1 (bpTa y z L B q i) w (Land 185 isN (bpTa y z L B q j.1) w)) ∨ (L.length ≤ i ∧ Goes Try.prog 185 bpL1 (bpTa y z L B q i) w (Land 185 (isX 0) (bpTa y z L B q i) w)) ∨ Goes Try.prog 185 bpL1 (bpTa y z L B q i) w (fun e a w' => e = .ret ∧ OutR Try.prog Try.f13 185 (.bool true) w .ret a w')
  cases hq1 : (ltI ↑i ↑L.length) with
  | true =>
    have ghq1 := ltI_true hq1
    cases hq2 : (ltI (intAt (cR L) (i * 2 + 0)) 0) with
    | true =>
      have ghq2 := ltI_true hq2
      exact .inr (.inr (goes_ret Try.checked.mixed (known_pp hw) 200 (v := .v (.bool true)) (ps := [ltI ↑i ↑L.length = true, i < L.length, i * 2 + 0 < (cR L).length, loadL Try.prog (cR L) (i * 2 + 0) 2 = some (AV.v (Value.int IntKind.i64 (intAt (cR L) (i * 2 + 0)))), ltI (intAt (cR L) (i * 2 + 0)) 0 = true, true = true, true = true, true = true, true = true, true = true, true = true, true = true, true = true, true = true, true = true, true = true, true = true, true = true, true = true, true = true, true = true, true = true, eqI 2 2 = true]) [.go, .go, .go, .go, .b true, .go, .go, .sym, .sym, .sym, .go, .go, .b true, .b true, .b true, .b true, .b true, .b true, .b true, .b true, .b true, .b true, .b true, .go, .go, .b true, .b true, .b true, .b true, .b true, .b true, .go, .b true, .go, .go, .go, .b true, .go, .go] (by kernel_rfl) (by kernel_rfl) ⟨hq1, (by omega), (by omega), (cR_load1 (by omega) 2 (Try.underlying2) rfl), hq2, rfl, rfl, rfl, rfl, rfl, rfl, rfl, rfl, rfl, rfl, rfl, rfl, rfl, rfl, rfl, rfl, rfl, rfl, trivial⟩ rfl))
    | false =>
      have ghq2 := ltI_false hq2
      cases hq3 : (ltI (intAt (cR L) (i * 2 + 1)) (intAt (cR L) (i * 2 + 0))) with
      | true =>
        have ghq3 := ltI_true hq3
        exact .inr (.inr (goes_ret Try.checked.mixed (known_pp hw) 200 (v := .v (.bool true)) (ps := [ltI ↑i ↑L.length = true, i < L.length, i * 2 + 0 < (cR L).length, loadL Try.prog (cR L) (i * 2 + 0) 2 = some (AV.v (Value.int IntKind.i64 (intAt (cR L) (i * 2 + 0)))), ltI (intAt (cR L) (i * 2 + 0)) 0 = false, false = false, false = false, i < L.length, false = false, i * 2 + 0 < (cR L).length, false = false, loadL Try.prog (cR L) (i * 2 + 0) 2 = some (AV.v (Value.int IntKind.i64 (intAt (cR L) (i * 2 + 0)))), false = false, false = false, false = false, i < L.length, false = false, i * 2 + 1 < (cR L).length, false = false, loadL Try.prog (cR L) (i * 2 + 1) 2 = some (AV.v (Value.int IntKind.i64 (intAt (cR L) (i * 2 + 1)))), false = false, ltI (intAt (cR L) (i * 2 + 1)) (intAt (cR L) (i * 2 + 0)) = true, true = true, true = true, true = true, true = true, true = true, true = true, eqI 2 2 = true]) [.go, .go, .go, .go, .b true, .go, .go, .sym, .sym, .sym, .go, .go, .b false, .go, .b false, .go, .b false, .sym, .b false, .sym, .b false, .sym, .b false, .go, .b false, .go, .b false, .sym, .b false, .sym, .b false, .sym, .b false, .go, .go, .go, .b true, .b true, .b true, .b true, .b true, .b true, .go, .b true, .go, .go, .go, .b true, .go, .go] (by kernel_rfl) (by kernel_rfl) ⟨hq1, (by omega), (by omega), (cR_load1 (by omega) 2 (Try.underlying2) rfl), hq2, rfl, rfl, (by omega), rfl, (by omega), rfl, (cR_load1 (by omega) 2 (Try.underlying2) rfl), rfl, rfl, rfl, (by omega), rfl, (by omega), rfl, (cR_load1 (by omega) 2 (Try.underlying2) rfl), rfl, hq3, rfl, rfl, rfl, rfl, rfl, rfl, rfl, trivial⟩ rfl))
      | false =>
        have ghq3 := ltI_false hq3
        cases hq4 : (ltI 100000 (intAt (cR L) (i * 2 + 1))) with
        | true =>
          have ghq4 := ltI_true hq4
          exact .inr (.inr (goes_ret Try.checked.mixed (known_pp hw) 200 (v := .v (.bool true)) (ps := [ltI ↑i ↑L.length = true, i < L.length, i * 2 + 0 < (cR L).length, loadL Try.prog (cR L) (i * 2 + 0) 2 = some (AV.v (Value.int IntKind.i64 (intAt (cR L) (i * 2 + 0)))), ltI (intAt (cR L) (i * 2 + 0)) 0 = false, false = false, false = false, i < L.length, false = false, i * 2 + 0 < (cR L).length, false = false, loadL Try.prog (cR L) (i * 2 + 0) 2 = some (AV.v (Value.int IntKind.i64 (intAt (cR L) (i * 2 + 0)))), false = false, false = false, false = false, i < L.length, false = false, i * 2 + 1 < (cR L).length, false = false, loadL Try.prog (cR L) (i * 2 + 1) 2 = some (AV.v (Value.int IntKind.i64 (intAt (cR L) (i * 2 + 1)))), false = false, ltI (intAt (cR L) (i * 2 + 1)) (intAt (cR L) (i * 2 + 0)) = false, false = false, false = false, i < L.length, false = false, i * 2 + 1 < (cR L).length, false = false, loadL Try.prog (cR L) (i * 2 + 1) 2 = some (AV.v (Value.int IntKind.i64 (intAt (cR L) (i * 2 + 1)))), false = false, ltI 100000 (intAt (cR L) (i * 2 + 1)) = true, eqI 2 2 = true]) [.go, .go, .go, .go, .b true, .go, .go, .sym, .sym, .sym, .go, .go, .b false, .go, .b false, .go, .b false, .sym, .b false, .sym, .b false, .sym, .b false, .go, .b false, .go, .b false, .sym, .b false, .sym, .b false, .sym, .b false, .go, .go, .go, .b false, .go, .b false, .go, .b false, .sym, .b false, .sym, .b false, .sym, .b false, .go, .go, .b true, .go, .go, .go, .b true, .go, .go] (by kernel_rfl) (by kernel_rfl) ⟨hq1, (by omega), (by omega), (cR_load1 (by omega) 2 (Try.underlying2) rfl), hq2, rfl, rfl, (by omega), rfl, (by omega), rfl, (cR_load1 (by omega) 2 (Try.underlying2) rfl), rfl, rfl, rfl, (by omega), rfl, (by omega), rfl, (cR_load1 (by omega) 2 (Try.underlying2) rfl), rfl, hq3, rfl, rfl, (by omega), rfl, (by omega), rfl, (cR_load1 (by omega) 2 (Try.underlying2) rfl), rfl, hq4, rfl, trivial⟩ rfl))
        | false =>
          have ghq4 := ltI_false hq4
          exact .inl ⟨⟨i + 1, by omega, okAt_next hi2 ⟨by omega, by omega, by omega⟩⟩, (by show L.length - (i + 1) < L.length - i; omega), goes_told Try.checked.mixed (known_pp hw) 200 (e := .normal) (ps := [ltI ↑i ↑L.length = true, i < L.length, i * 2 + 0 < (cR L).length, loadL Try.prog (cR L) (i * 2 + 0) 2 = some (AV.v (Value.int IntKind.i64 (intAt (cR L) (i * 2 + 0)))), ltI (intAt (cR L) (i * 2 + 0)) 0 = false, false = false, false = false, i < L.length, false = false, i * 2 + 0 < (cR L).length, false = false, loadL Try.prog (cR L) (i * 2 + 0) 2 = some (AV.v (Value.int IntKind.i64 (intAt (cR L) (i * 2 + 0)))), false = false, false = false, false = false, i < L.length, false = false, i * 2 + 1 < (cR L).length, false = false, loadL Try.prog (cR L) (i * 2 + 1) 2 = some (AV.v (Value.int IntKind.i64 (intAt (cR L) (i * 2 + 1)))), false = false, ltI (intAt (cR L) (i * 2 + 1)) (intAt (cR L) (i * 2 + 0)) = false, false = false, false = false, i < L.length, false = false, i * 2 + 1 < (cR L).length, false = false, loadL Try.prog (cR L) (i * 2 + 1) 2 = some (AV.v (Value.int IntKind.i64 (intAt (cR L) (i * 2 + 1)))), false = false, ltI 100000 (intAt (cR L) (i * 2 + 1)) = false, inR IntKind.i64 (↑i + 1)]) [.go, .go, .go, .go, .b true, .go, .go, .sym, .sym, .sym, .go, .go, .b false, .go, .b false, .go, .b false, .sym, .b false, .sym, .b false, .sym, .b false, .go, .b false, .go, .b false, .sym, .b false, .sym, .b false, .sym, .b false, .go, .go, .go, .b false, .go, .b false, .go, .b false, .sym, .b false, .sym, .b false, .sym, .b false, .go, .go, .b false, .go, .go, .go] (by kernel_rfl) (by kernel_rfl) ⟨hq1, (by omega), (by omega), (cR_load1 (by omega) 2 (Try.underlying2) rfl), hq2, rfl, rfl, (by omega), rfl, (by omega), rfl, (cR_load1 (by omega) 2 (Try.underlying2) rfl), rfl, rfl, rfl, (by omega), rfl, (by omega), rfl, (cR_load1 (by omega) 2 (Try.underlying2) rfl), rfl, hq3, rfl, rfl, (by omega), rfl, (by omega), rfl, (cR_load1 (by omega) 2 (Try.underlying2) rfl), rfl, hq4, (by show -9223372036854775808 ≤ _ ∧ _ ≤ 9223372036854775807; constructor <;> omega), trivial⟩ rfl⟩
  | false =>
    have ghq1 := ltI_false hq1
    exact .inr (.inl ⟨(by show L.length ≤ i; omega), goes_told Try.checked.mixed (known_pp hw) 200 (e := .exit 0) (ps := [ltI ↑i ↑L.length = false]) [.go, .go, .go, .go, .b false] (by kernel_rfl) (by kernel_rfl) ⟨hq1, trivial⟩ rfl⟩)

def bpTk0 (y z : Value) (L : List (Int × Int)) (B : List Int) (q : Int) : Ev.Lit := ⟨(bpTk y z L B q 0).tms.take 5, [], (bpTk y z L B q 0).n, (bpTk y z L B q 0).bs⟩

theorem bp_ok2 (hw : Known Try.prog (clsO wkO)) (y z : Value) (L : List (Int × Int)) (B : List Int) (q : Int) (h1 : 1 ≤ L.length ∧ L.length ≤ 12) (w : World) (hc : B.length ≤ 20 → Goes Try.prog 185 bpC3 (bpTk0 y z L B q) w (OutR Try.prog Try.f13 185 (.bool true) w)) : Goes Try.prog 185 bpC2 (bpTk0 y z L B q) w (OutR Try.prog Try.f13 185 (.bool true) w) := by
  cases hq1 : (ltI (↑L.length) 1) with
  | true =>
    have ghq1 := ltI_true hq1
    cases hq2 : (ltI 0 ↑L.length) with
    | true =>
      have ghq2 := ltI_true hq2
      cases hq3 : (ltI 12 ↑L.length) with
      | true =>
        have ghq3 := ltI_true hq3
        omega
      | false =>
        have ghq3 := ltI_false hq3
        exact goes_out Try.checked.mixed (known_pp hw) 200 (v := .v (.bool true)) (ps := [ltI (↑L.length) 1 = true, true = true, true = true, true = true, true = true, true = true, true = true, ltI 0 ↑L.length = true, true = true, true = true, (!ltI 12 ↑L.length) = true, true = true, true = true]) [.go, .go, .go, .go, .b true, .b true, .b true, .go, .go, .b true, .b true, .b true, .go, .b true, .go, .go, .go, .go, .b true, .go, .b true, .go, .b true, .go, .go, .go, .b true, .b true, .go, .go, .b true, .go, .go] (by kernel_rfl) (by kernel_rfl) ⟨hq1, rfl, rfl, rfl, rfl, rfl, rfl, hq2, rfl, rfl, (by rw [hq3]; rfl), rfl, rfl, trivial⟩ rfl
    | false =>
      have ghq2 := ltI_false hq2
      omega
  | false =>
    have ghq1 := ltI_false hq1
    cases hq4 : (ltI 12 ↑L.length) with
    | true =>
      have ghq4 := ltI_true hq4
      cases hq5 : (ltI 0 ↑L.length) with
      | true =>
        have ghq5 := ltI_true hq5
        omega
      | false =>
        have ghq5 := ltI_false hq5
        omega
    | false =>
      have ghq4 := ltI_false hq4
      cases hq6 : (ltI 20 ↑B.length) with
      | true =>
        have ghq6 := ltI_true hq6
        cases hq7 : (ltI 0 ↑L.length) with
        | true =>
          have ghq7 := ltI_true hq7
          exact goes_out Try.checked.mixed (known_pp hw) 200 (v := .v (.bool true)) (ps := [ltI (↑L.length) 1 = false, false = false, false = false, ltI 12 ↑L.length = false, false = false, false = false, ltI 20 ↑B.length = true, ltI 0 ↑L.length = true, true = true, true = true, (!ltI 12 ↑L.length) = true, true = true, true = true]) [.go, .go, .go, .go, .b false, .go, .b false, .go, .b false, .go, .go, .go, .b false, .go, .b false, .go, .b false, .go, .go, .b true, .go, .go, .go, .go, .b true, .go, .b true, .go, .b true, .go, .go, .go, .b true, .b true, .go, .go, .b true, .go, .go] (by kernel_rfl) (by kernel_rfl) ⟨hq1, rfl, rfl, hq4, rfl, rfl, hq6, hq7, rfl, rfl, (by rw [hq4]; rfl), rfl, rfl, trivial⟩ rfl
        | false =>
          have ghq7 := ltI_false hq7
          omega
      | false =>
        have ghq6 := ltI_false hq6
        exact goes_spine (T' := bpTk0 y z L B q) (by kernel_rfl) (goes_told Try.checked.mixed (known_pp hw) 200 (e := .normal) (ps := [ltI (↑L.length) 1 = false, false = false, false = false, ltI 12 ↑L.length = false, false = false, false = false, ltI 20 ↑B.length = false]) [.go, .go, .go, .go, .b false, .go, .b false, .go, .b false, .go, .go, .go, .b false, .go, .b false, .go, .b false, .go, .go, .b false] (by kernel_rfl) (by kernel_rfl) ⟨hq1, rfl, rfl, hq4, rfl, rfl, hq6, trivial⟩ rfl) (hc (by omega))

set_option maxHeartbeats 2000000 in
theorem bp_ok3 (hw : Known Try.prog (clsO wkO)) (y z : Value) (L : List (Int × Int)) (B : List Int) (q : Int) (hL : L.length ≤ 12) (hok : ∀ j, j < L.length → okAt (cR L) j) (w : World) (hc : ∀ i : bpI (cR L) L.length, L.length ≤ i.1 → Goes Try.prog 185 bpC4 (bpTk y z L B q i.1) w (OutR Try.prog Try.f13 185 (.bool true) w)) : Goes Try.prog 185 bpC3 (bpTk0 y z L B q) w (OutR Try.prog Try.f13 185 (.bool true) w) := by
  refine goes_spineQ (ι := bpI (cR L) L.length) (T := fun i => bpTk y z L B q i.1) (R := fun i => L.length ≤ i.1) (by kernel_rfl)
    (goes_spine (T' := bpTk y z L B q 0) (by kernel_rfl) (goes_told Try.checked.mixed (known_pp hw) 200 (e := .normal) (ps := []) [.go] (by kernel_rfl) (by kernel_rfl) trivial rfl)
      (goes_blockloop (by kernel_rfl) (fun i : bpI (cR L) L.length => bpTk y z L B q i.1) (fun i => L.length - i.1) (fun i => ?_) ⟨0, Nat.zero_le _, fun j hj => by omega⟩)) hc
  obtain ⟨i, hi1, hi2⟩ := i
  have hcl := cR_len L
  show (∃ j : bpI (cR L) L.length, L.length - j.1 < L.length - i ∧ Goes Try.prog 185 bpL1 (bpTk y z L B q i) w (Land 185 isN (bpTk y z L B q j.1) w)) ∨ (L.length ≤ i ∧ Goes Try.prog 185 bpL1 (bpTk y z L B q i) w (Land 185 (isX 0) (bpTk y z L B q i) w)) ∨ Goes Try.prog 185 bpL1 (bpTk y z L B q i) w (fun e a w' => e = .ret ∧ OutR Try.prog Try.f13 185 (.bool true) w .ret a w')
  cases hq1 : (ltI ↑i ↑L.length) with
  | true =>
    have ghq1 := ltI_true hq1
    cases hq2 : (ltI (intAt (cR L) (i * 2 + 0)) 0) with
    | true =>
      have ghq2 := ltI_true hq2
      exact absurd (hok i (by omega)) (by unfold okAt; omega)
    | false =>
      have ghq2 := ltI_false hq2
      cases hq3 : (ltI (intAt (cR L) (i * 2 + 1)) (intAt (cR L) (i * 2 + 0))) with
      | true =>
        have ghq3 := ltI_true hq3
        exact absurd (hok i (by omega)) (by unfold okAt; omega)
      | false =>
        have ghq3 := ltI_false hq3
        cases hq4 : (ltI 100000 (intAt (cR L) (i * 2 + 1))) with
        | true =>
          have ghq4 := ltI_true hq4
          exact absurd (hok i (by omega)) (by unfold okAt; omega)
        | false =>
          have ghq4 := ltI_false hq4
          exact .inl ⟨⟨i + 1, by omega, okAt_next hi2 ⟨by omega, by omega, by omega⟩⟩, (by show L.length - (i + 1) < L.length - i; omega), goes_told Try.checked.mixed (known_pp hw) 200 (e := .normal) (ps := [ltI ↑i ↑L.length = true, i < L.length, i * 2 + 0 < (cR L).length, loadL Try.prog (cR L) (i * 2 + 0) 2 = some (AV.v (Value.int IntKind.i64 (intAt (cR L) (i * 2 + 0)))), ltI (intAt (cR L) (i * 2 + 0)) 0 = false, false = false, false = false, i < L.length, false = false, i * 2 + 0 < (cR L).length, false = false, loadL Try.prog (cR L) (i * 2 + 0) 2 = some (AV.v (Value.int IntKind.i64 (intAt (cR L) (i * 2 + 0)))), false = false, false = false, false = false, i < L.length, false = false, i * 2 + 1 < (cR L).length, false = false, loadL Try.prog (cR L) (i * 2 + 1) 2 = some (AV.v (Value.int IntKind.i64 (intAt (cR L) (i * 2 + 1)))), false = false, ltI (intAt (cR L) (i * 2 + 1)) (intAt (cR L) (i * 2 + 0)) = false, false = false, false = false, i < L.length, false = false, i * 2 + 1 < (cR L).length, false = false, loadL Try.prog (cR L) (i * 2 + 1) 2 = some (AV.v (Value.int IntKind.i64 (intAt (cR L) (i * 2 + 1)))), false = false, ltI 100000 (intAt (cR L) (i * 2 + 1)) = false, inR IntKind.i64 (↑i + 1)]) [.go, .go, .go, .go, .b true, .go, .go, .sym, .sym, .sym, .go, .go, .b false, .go, .b false, .go, .b false, .sym, .b false, .sym, .b false, .sym, .b false, .go, .b false, .go, .b false, .sym, .b false, .sym, .b false, .sym, .b false, .go, .go, .go, .b false, .go, .b false, .go, .b false, .sym, .b false, .sym, .b false, .sym, .b false, .go, .go, .b false, .go, .go, .go] (by kernel_rfl) (by kernel_rfl) ⟨hq1, (by omega), (by omega), (cR_load1 (by omega) 2 (Try.underlying2) rfl), hq2, rfl, rfl, (by omega), rfl, (by omega), rfl, (cR_load1 (by omega) 2 (Try.underlying2) rfl), rfl, rfl, rfl, (by omega), rfl, (by omega), rfl, (cR_load1 (by omega) 2 (Try.underlying2) rfl), rfl, hq3, rfl, rfl, (by omega), rfl, (by omega), rfl, (cR_load1 (by omega) 2 (Try.underlying2) rfl), rfl, hq4, (by show -9223372036854775808 ≤ _ ∧ _ ≤ 9223372036854775807; constructor <;> omega), trivial⟩ rfl⟩
  | false =>
    have ghq1 := ltI_false hq1
    exact .inr (.inl ⟨(by show L.length ≤ i; omega), goes_told Try.checked.mixed (known_pp hw) 200 (e := .exit 0) (ps := [ltI ↑i ↑L.length = false]) [.go, .go, .go, .go, .b false] (by kernel_rfl) (by kernel_rfl) ⟨hq1, trivial⟩ rfl⟩)

def bpJ (n : Nat) : Type := { i : Nat // i ≤ n }
def bpO (L : List (Int × Int)) (B : List Int) (k : Nat) : Int := pickN (intAt (cR L) (k * 2 + 0)) (intAt (cR L) (k * 2 + 1)) (numN (cU B) B.length k)
def bpF (y z : Value) (L : List (Int × Int)) (B : List Int) (k : Nat) (o : Int) (i : Nat) : Ev.Lit := bpT2 y z L B k o (mnN (cR L) (cU B) B.length o k i) (pcLo (cR L) k i) (pcHi (cR L) k i) i
set_option maxHeartbeats 4000000 in
theorem bp_loop2 (hw : Known Try.prog (clsO wkO)) (y z : Value) (L : List (Int × Int)) (B : List Int) (hL : L.length ≤ 12) (hB : AllU B) (hok : ∀ j, j < L.length → okAt (cR L) j) (k : Nat) (hk : k < L.length) (o : Int) (w : World) (Q : Exit → Act → World → Prop) : Goes Try.prog 185 (tlC (hdC bpC8)) (bpF y z L B k o 0) w (LandQ 185 (fun i : bpJ L.length => bpF y z L B k o i.1) (fun i => L.length ≤ i.1) w Q) := by
  refine goes_blockloop (by kernel_rfl) (fun i : bpJ L.length => bpF y z L B k o i.1) (fun i => L.length - i.1) (fun i => ?_) ⟨0, Nat.zero_le _⟩
  obtain ⟨i, hi1⟩ := i
  have hcl := cR_len L
  have b1 : 0 ≤ mnN (cR L) (cU B) B.length o k i ∧ mnN (cR L) (cU B) B.length o k i ≤ i := cntI_bd _ i
  have b2 : 0 ≤ pcLo (cR L) k i ∧ pcLo (cR L) k i ≤ i := cntI_bd _ i
  have b3 : 0 ≤ pcHi (cR L) k i ∧ pcHi (cR L) k i ≤ i := cntI_bd _ i
  show (∃ j : bpJ L.length, L.length - j.1 < L.length - i ∧ Goes Try.prog 185 bpL2 (bpF y z L B k o i) w (Land 185 isN (bpF y z L B k o j.1) w)) ∨ (L.length ≤ i ∧ Goes Try.prog 185 bpL2 (bpF y z L B k o i) w (Land 185 (isX 2) (bpF y z L B k o i) w)) ∨ Goes Try.prog 185 bpL2 (bpF y z L B k o i) w (fun e a w' => e = .ret ∧ Q .ret a w')
  cases hq1 : (ltI ↑i ↑L.length) with
  | true =>
    have ghq1 := ltI_true hq1
    cases hq2 : (eqI ↑i ↑k) with
    | true =>
      have e1 : mnN (cR L) (cU B) B.length o k (i + 1) = mnN (cR L) (cU B) B.length o k i := cnt_f (upMid_t hq2)
      have e2 : pcLo (cR L) k (i + 1) = pcLo (cR L) k i := cnt_f (upLo_eq hq2)
      have e3 : pcHi (cR L) k (i + 1) = pcHi (cR L) k i := cnt_f (upHi_eq hq2)
      refine .inl ⟨⟨i + 1, by omega⟩, (by show L.length - (i + 1) < L.length - i; omega), ?_⟩
      show Goes _ _ _ _ _ (Land _ isN (bpT2 y z L B k o (mnN (cR L) (cU B) B.length o k (i + 1)) (pcLo (cR L) k (i + 1)) (pcHi (cR L) k (i + 1)) (i + 1)) _)
      rw [e1, e2, e3]
      exact goes_told Try.checked.mixed (known_pp hw) 200 (e := .normal) (ps := [ltI ↑i ↑L.length = true, eqI ↑i ↑k = true, inR IntKind.i64 (↑i + 1)]) [.go, .go, .go, .go, .b true, .go, .go, .go, .b true, .go, .go, .go] (by kernel_rfl) (by kernel_rfl) ⟨hq1, hq2, (by show -9223372036854775808 ≤ _ ∧ _ ≤ 9223372036854775807; constructor <;> omega), trivial⟩ rfl
    | false =>
      cases hq3 : (ltI o (pickN (intAt (cR L) (i * 2 + 0)) (intAt (cR L) (i * 2 + 1)) (numN (cU B) B.length i))) with
      | true =>
        cases hq4 : (ltI (intAt (cR L) (k * 2 + 1)) (intAt (cR L) (i * 2 + 0))) with
        | true =>
          cases hq5 : (ltI (intAt (cR L) (k * 2 + 0)) (intAt (cR L) (i * 2 + 1))) with
          | true =>
            have e1 : mnN (cR L) (cU B) B.length o k (i + 1) = mnN (cR L) (cU B) B.length o k i + 1 := cnt_t ((upMid_f hq2).trans hq3)
            have e2 : pcLo (cR L) k (i + 1) = pcLo (cR L) k i + 1 := cnt_t ((upLo_ne hq2).trans hq4)
            have e3 : pcHi (cR L) k (i + 1) = pcHi (cR L) k i + 1 := cnt_t ((upHi_ne hq2).trans hq5)
            refine .inl ⟨⟨i + 1, by omega⟩, (by show L.length - (i + 1) < L.length - i; omega), ?_⟩
            show Goes _ _ _ _ _ (Land _ isN (bpT2 y z L B k o (mnN (cR L) (cU B) B.length o k (i + 1)) (pcLo (cR L) k (i + 1)) (pcHi (cR L) k (i + 1)) (i + 1)) _)
            rw [e1, e2, e3]
            exact goes_told Try.checked.mixed (known_pp hw) 200 (e := .normal) (ps := [ltI ↑i ↑L.length = true, eqI ↑i ↑k = false, i < L.length, loadL Try.prog (cR L) (i * 2) 44 = some (AV.agg [AV.v (Value.int IntKind.i64 (intAt (cR L) (i * 2 + 0))), AV.v (Value.int IntKind.i64 (intAt (cR L) (i * 2 + 1)))]), IsU (0 + 1) B.length (cU B), PickP (intAt (cR L) (i * 2 + 0)) (intAt (cR L) (i * 2 + 1)) (numN (cU B) B.length i), ltI o (pickN (intAt (cR L) (i * 2 + 0)) (intAt (cR L) (i * 2 + 1)) (numN (cU B) B.length i)) = true, inR IntKind.i64 (mnN (cR L) (cU B) B.length o k i + 1), i < L.length, i * 2 + 0 < (cR L).length, loadL Try.prog (cR L) (i * 2 + 0) 2 = some (AV.v (Value.int IntKind.i64 (intAt (cR L) (i * 2 + 0)))), k < L.length, k * 2 + 1 < (cR L).length, loadL Try.prog (cR L) (k * 2 + 1) 2 = some (AV.v (Value.int IntKind.i64 (intAt (cR L) (k * 2 + 1)))), ltI (intAt (cR L) (k * 2 + 1)) (intAt (cR L) (i * 2 + 0)) = true, inR IntKind.i64 (pcLo (cR L) k i + 1), i < L.length, i * 2 + 1 < (cR L).length, loadL Try.prog (cR L) (i * 2 + 1) 2 = some (AV.v (Value.int IntKind.i64 (intAt (cR L) (i * 2 + 1)))), k < L.length, k * 2 + 0 < (cR L).length, loadL Try.prog (cR L) (k * 2 + 0) 2 = some (AV.v (Value.int IntKind.i64 (intAt (cR L) (k * 2 + 0)))), ltI (intAt (cR L) (k * 2 + 0)) (intAt (cR L) (i * 2 + 1)) = true, inR IntKind.i64 (pcHi (cR L) k i + 1), inR IntKind.i64 (↑i + 1)]) [.go, .go, .go, .go, .b true, .go, .go, .go, .b false, .go, .go, .sym, .sym, .go, .go, .go, .go, .b true, .go, .go, .go, .go, .go, .sym, .sym, .sym, .go, .go, .sym, .sym, .sym, .go, .b true, .go, .go, .go, .go, .go, .sym, .sym, .sym, .go, .go, .sym, .sym, .sym, .go, .b true, .go, .go, .go, .go, .go, .go] (by kernel_rfl) (by kernel_rfl) ⟨hq1, hq2, (by omega), (cR_load (by omega) 44 (Try.underlying44) rfl (inf := (Try.prog.info? 44).getD default) (by kernel_rfl) (by kernel_rfl)), ⟨rfl, B, rfl, rfl⟩, ⟨(hok i (by omega)).1, (hok i (by omega)).2.1, (by have := (hok i (by omega)).2.2; omega), (numN_bd hB i).1, (numN_bd hB i).2⟩, hq3, (by show -9223372036854775808 ≤ _ ∧ _ ≤ 9223372036854775807; constructor <;> omega), (by omega), (by omega), (cR_load1 (by omega) 2 (Try.underlying2) rfl), (by omega), (by omega), (cR_load1 (by omega) 2 (Try.underlying2) rfl), hq4, (by show -9223372036854775808 ≤ _ ∧ _ ≤ 9223372036854775807; constructor <;> omega), (by omega), (by omega), (cR_load1 (by omega) 2 (Try.underlying2) rfl), (by omega), (by omega), (cR_load1 (by omega) 2 (Try.underlying2) rfl), hq5, (by show -9223372036854775808 ≤ _ ∧ _ ≤ 9223372036854775807; constructor <;> omega), (by show -9223372036854775808 ≤ _ ∧ _ ≤ 9223372036854775807; constructor <;> omega), trivial⟩ rfl
          | false =>
            have e1 : mnN (cR L) (cU B) B.length o k (i + 1) = mnN (cR L) (cU B) B.length o k i + 1 := cnt_t ((upMid_f hq2).trans hq3)
            have e2 : pcLo (cR L) k (i + 1) = pcLo (cR L) k i + 1 := cnt_t ((upLo_ne hq2).trans hq4)
            have e3 : pcHi (cR L) k (i + 1) = pcHi (cR L) k i := cnt_f ((upHi_ne hq2).trans hq5)
            refine .inl ⟨⟨i + 1, by omega⟩, (by show L.length - (i + 1) < L.length - i; omega), ?_⟩
            show Goes _ _ _ _ _ (Land _ isN (bpT2 y z L B k o (mnN (cR L) (cU B) B.length o k (i + 1)) (pcLo (cR L) k (i + 1)) (pcHi (cR L) k (i + 1)) (i + 1)) _)
            rw [e1, e2, e3]
            exact goes_told Try.checked.mixed (known_pp hw) 200 (e := .normal) (ps := [ltI ↑i ↑L.length = true, eqI ↑i ↑k = false, i < L.length, loadL Try.prog (cR L) (i * 2) 44 = some (AV.agg [AV.v (Value.int IntKind.i64 (intAt (cR L) (i * 2 + 0))), AV.v (Value.int IntKind.i64 (intAt (cR L) (i * 2 + 1)))]), IsU (0 + 1) B.length (cU B), PickP (intAt (cR L) (i * 2 + 0)) (intAt (cR L) (i * 2 + 1)) (numN (cU B) B.length i), ltI o (pickN (intAt (cR L) (i * 2 + 0)) (intAt (cR L) (i * 2 + 1)) (numN (cU B) B.length i)) = true, inR IntKind.i64 (mnN (cR L) (cU B) B.length o k i + 1), i < L.length, i * 2 + 0 < (cR L).length, loadL Try.prog (cR L) (i * 2 + 0) 2 = some (AV.v (Value.int IntKind.i64 (intAt (cR L) (i * 2 + 0)))), k < L.length, k * 2 + 1 < (cR L).length, loadL Try.prog (cR L) (k * 2 + 1) 2 = some (AV.v (Value.int IntKind.i64 (intAt (cR L) (k * 2 + 1)))), ltI (intAt (cR L) (k * 2 + 1)) (intAt (cR L) (i * 2 + 0)) = true, inR IntKind.i64 (pcLo (cR L) k i + 1), i < L.length, i * 2 + 1 < (cR L).length, loadL Try.prog (cR L) (i * 2 + 1) 2 = some (AV.v (Value.int IntKind.i64 (intAt (cR L) (i * 2 + 1)))), k < L.length, k * 2 + 0 < (cR L).length, loadL Try.prog (cR L) (k * 2 + 0) 2 = some (AV.v (Value.int IntKind.i64 (intAt (cR L) (k * 2 + 0)))), ltI (intAt (cR L) (k * 2 + 0)) (intAt (cR L) (i * 2 + 1)) = false, inR IntKind.i64 (↑i + 1)]) [.go, .go, .go, .go, .b true, .go, .go, .go, .b false, .go, .go, .sym, .sym, .go, .go, .go, .go, .b true, .go, .go, .go, .go, .go, .sym, .sym, .sym, .go, .go, .sym, .sym, .sym, .go, .b true, .go, .go, .go, .go, .go, .sym, .sym, .sym, .go, .go, .sym, .sym, .sym, .go, .b false, .go, .go, .go] (by kernel_rfl) (by kernel_rfl) ⟨hq1, hq2, (by omega), (cR_load (by omega) 44 (Try.underlying44) rfl (inf := (Try.prog.info? 44).getD default) (by kernel_rfl) (by kernel_rfl)), ⟨rfl, B, rfl, rfl⟩, ⟨(hok i (by omega)).1, (hok i (by omega)).2.1, (by have := (hok i (by omega)).2.2; omega), (numN_bd hB i).1, (numN_bd hB i).2⟩, hq3, (by show -9223372036854775808 ≤ _ ∧ _ ≤ 9223372036854775807; constructor <;> omega), (by omega), (by omega), (cR_load1 (by omega) 2 (Try.underlying2) rfl), (by omega), (by omega), (cR_load1 (by omega) 2 (Try.underlying2) rfl), hq4, (by show -9223372036854775808 ≤ _ ∧ _ ≤ 9223372036854775807; constructor <;> omega), (by omega), (by omega), (cR_load1 (by omega) 2 (Try.underlying2) rfl), (by omega), (by omega), (cR_load1 (by omega) 2 (Try.underlying2) rfl), hq5, (by show -9223372036854775808 ≤ _ ∧ _ ≤ 9223372036854775807; constructor <;> omega), trivial⟩ rfl
        | false =>
          cases hq6 : (ltI (intAt (cR L) (k * 2 + 0)) (intAt (cR L) (i * 2 + 1))) with
          | true =>
            have e1 : mnN (cR L) (cU B) B.length o k (i + 1) = mnN (cR L) (cU B) B.length o k i + 1 := cnt_t ((upMid_f hq2).trans hq3)
            have e2 : pcLo (cR L) k (i + 1) = pcLo (cR L) k i := cnt_f ((upLo_ne hq2).trans hq4)
            have e3 : pcHi (cR L) k (i + 1) = pcHi (cR L) k i + 1 := cnt_t ((upHi_ne hq2).trans hq6)
            refine .inl ⟨⟨i + 1, by omega⟩, (by show L.length - (i + 1) < L.length - i; omega), ?_⟩
            show Goes _ _ _ _ _ (Land _ isN (bpT2 y z L B k o (mnN (cR L) (cU B) B.length o k (i + 1)) (pcLo (cR L) k (i + 1)) (pcHi (cR L) k (i + 1)) (i + 1)) _)
            rw [e1, e2, e3]
            exact goes_told Try.checked.mixed (known_pp hw) 200 (e := .normal) (ps := [ltI ↑i ↑L.length = true, eqI ↑i ↑k = false, i < L.length, loadL Try.prog (cR L) (i * 2) 44 = some (AV.agg [AV.v (Value.int IntKind.i64 (intAt (cR L) (i * 2 + 0))), AV.v (Value.int IntKind.i64 (intAt (cR L) (i * 2 + 1)))]), IsU (0 + 1) B.length (cU B), PickP (intAt (cR L) (i * 2 + 0)) (intAt (cR L) (i * 2 + 1)) (numN (cU B) B.length i), ltI o (pickN (intAt (cR L) (i * 2 + 0)) (intAt (cR L) (i * 2 + 1)) (numN (cU B) B.length i)) = true, inR IntKind.i64 (mnN (cR L) (cU B) B.length o k i + 1), i < L.length, i * 2 + 0 < (cR L).length, loadL Try.prog (cR L) (i * 2 + 0) 2 = some (AV.v (Value.int IntKind.i64 (intAt (cR L) (i * 2 + 0)))), k < L.length, k * 2 + 1 < (cR L).length, loadL Try.prog (cR L) (k * 2 + 1) 2 = some (AV.v (Value.int IntKind.i64 (intAt (cR L) (k * 2 + 1)))), ltI (intAt (cR L) (k * 2 + 1)) (intAt (cR L) (i * 2 + 0)) = false, i < L.length, i * 2 + 1 < (cR L).length, loadL Try.prog (cR L) (i * 2 + 1) 2 = some (AV.v (Value.int IntKind.i64 (intAt (cR L) (i * 2 + 1)))), k < L.length, k * 2 + 0 < (cR L).length, loadL Try.prog (cR L) (k * 2 + 0) 2 = some (AV.v (Value.int IntKind.i64 (intAt (cR L) (k * 2 + 0)))), ltI (intAt (cR L) (k * 2 + 0)) (intAt (cR L) (i * 2 + 1)) = true, inR IntKind.i64 (pcHi (cR L) k i + 1), inR IntKind.i64 (↑i + 1)]) [.go, .go, .go, .go, .b true, .go, .go, .go, .b false, .go, .go, .sym, .sym, .go, .go, .go, .go, .b true, .go, .go, .go, .go, .go, .sym, .sym, .sym, .go, .go, .sym, .sym, .sym, .go, .b false, .go, .go, .sym, .sym, .sym, .go, .go, .sym, .sym, .sym, .go, .b true, .go, .go, .go, .go, .go, .go] (by kernel_rfl) (by kernel_rfl) ⟨hq1, hq2, (by omega), (cR_load (by omega) 44 (Try.underlying44) rfl (inf := (Try.prog.info? 44).getD default) (by kernel_rfl) (by kernel_rfl)), ⟨rfl, B, rfl, rfl⟩, ⟨(hok i (by omega)).1, (hok i (by omega)).2.1, (by have := (hok i (by omega)).2.2; omega), (numN_bd hB i).1, (numN_bd hB i).2⟩, hq3, (by show -9223372036854775808 ≤ _ ∧ _ ≤ 9223372036854775807; constructor <;> omega), (by omega), (by omega), (cR_load1 (by omega) 2 (Try.underlying2) rfl), (by omega), (by omega), (cR_load1 (by omega) 2 (Try.underlying2) rfl), hq4, (by omega), (by omega), (cR_load1 (by omega) 2 (Try.underlying2) rfl), (by omega), (by omega), (cR_load1 (by omega) 2 (Try.underlying2) rfl), hq6, (by show -9223372036854775808 ≤ _ ∧ _ ≤ 9223372036854775807; constructor <;> omega), (by show -9223372036854775808 ≤ _ ∧ _ ≤ 9223372036854775807; constructor <;> omega), trivial⟩ rfl
          | false =>
            have e1 : mnN (cR L) (cU B) B.length o k (i + 1) = mnN (cR L) (cU B) B.length o k i + 1 := cnt_t ((upMid_f hq2).trans hq3)
            have e2 : pcLo (cR L) k (i + 1) = pcLo (cR L) k i := cnt_f ((upLo_ne hq2).trans hq4)
            have e3 : pcHi (cR L) k (i + 1) = pcHi (cR L) k i := cnt_f ((upHi_ne hq2).trans hq6)
            refine .inl ⟨⟨i + 1, by omega⟩, (by show L.length - (i + 1) < L.length - i; omega), ?_⟩
            show Goes _ _ _ _ _ (Land _ isN (bpT2 y z L B k o (mnN (cR L) (cU B) B.length o k (i + 1)) (pcLo (cR L) k (i + 1)) (pcHi (cR L) k (i + 1)) (i + 1)) _)
            rw [e1, e2, e3]
            exact goes_told Try.checked.mixed (known_pp hw) 200 (e := .normal) (ps := [ltI ↑i ↑L.length = true, eqI ↑i ↑k = false, i < L.length, loadL Try.prog (cR L) (i * 2) 44 = some (AV.agg [AV.v (Value.int IntKind.i64 (intAt (cR L) (i * 2 + 0))), AV.v (Value.int IntKind.i64 (intAt (cR L) (i * 2 + 1)))]), IsU (0 + 1) B.length (cU B), PickP (intAt (cR L) (i * 2 + 0)) (intAt (cR L) (i * 2 + 1)) (numN (cU B) B.length i), ltI o (pickN (intAt (cR L) (i * 2 + 0)) (intAt (cR L) (i * 2 + 1)) (numN (cU B) B.length i)) = true, inR IntKind.i64 (mnN (cR L) (cU B) B.length o k i + 1), i < L.length, i * 2 + 0 < (cR L).length, loadL Try.prog (cR L) (i * 2 + 0) 2 = some (AV.v (Value.int IntKind.i64 (intAt (cR L) (i * 2 + 0)))), k < L.length, k * 2 + 1 < (cR L).length, loadL Try.prog (cR L) (k * 2 + 1) 2 = some (AV.v (Value.int IntKind.i64 (intAt (cR L) (k * 2 + 1)))), ltI (intAt (cR L) (k * 2 + 1)) (intAt (cR L) (i * 2 + 0)) = false, i < L.length, i * 2 + 1 < (cR L).length, loadL Try.prog (cR L) (i * 2 + 1) 2 = some (AV.v (Value.int IntKind.i64 (intAt (cR L) (i * 2 + 1)))), k < L.length, k * 2 + 0 < (cR L).length, loadL Try.prog (cR L) (k * 2 + 0) 2 = some (AV.v (Value.int IntKind.i64 (intAt (cR L) (k * 2 + 0)))), ltI (intAt (cR L) (k * 2 + 0)) (intAt (cR L) (i * 2 + 1)) = false, inR IntKind.i64 (↑i + 1)]) [.go, .go, .go, .go, .b true, .go, .go, .go, .b false, .go, .go, .sym, .sym, .go, .go, .go, .go, .b true, .go, .go, .go, .go, .go, .sym, .sym, .sym, .go, .go, .sym, .sym, .sym, .go, .b false, .go, .go, .sym, .sym, .sym, .go, .go, .sym, .sym, .sym, .go, .b false, .go, .go, .go] (by kernel_rfl) (by kernel_rfl) ⟨hq1, hq2, (by omega), (cR_load (by omega) 44 (Try.underlying44) rfl (inf := (Try.prog.info? 44).getD default) (by kernel_rfl) (by kernel_rfl)), ⟨rfl, B, rfl, rfl⟩, ⟨(hok i (by omega)).1, (hok i (by omega)).2.1, (by have := (hok i (by omega)).2.2; omega), (numN_bd hB i).1, (numN_bd hB i).2⟩, hq3, (by show -9223372036854775808 ≤ _ ∧ _ ≤ 9223372036854775807; constructor <;> omega), (by omega), (by omega), (cR_load1 (by omega) 2 (Try.underlying2) rfl), (by omega), (by omega), (cR_load1 (by omega) 2 (Try.underlying2) rfl), hq4, (by omega), (by omega), (cR_load1 (by omega) 2 (Try.underlying2) rfl), (by omega), (by omega), (cR_load1 (by omega) 2 (Try.underlying2) rfl), hq6, (by show -9223372036854775808 ≤ _ ∧ _ ≤ 9223372036854775807; constructor <;> omega), trivial⟩ rfl
      | false =>
        cases hq7 : (ltI (intAt (cR L) (k * 2 + 1)) (intAt (cR L) (i * 2 + 0))) with
        | true =>
          cases hq8 : (ltI (intAt (cR L) (k * 2 + 0)) (intAt (cR L) (i * 2 + 1))) with
          | true =>
            have e1 : mnN (cR L) (cU B) B.length o k (i + 1) = mnN (cR L) (cU B) B.length o k i := cnt_f ((upMid_f hq2).trans hq3)
            have e2 : pcLo (cR L) k (i + 1) = pcLo (cR L) k i + 1 := cnt_t ((upLo_ne hq2).trans hq7)
            have e3 : pcHi (cR L) k (i + 1) = pcHi (cR L) k i + 1 := cnt_t ((upHi_ne hq2).trans hq8)
            refine .inl ⟨⟨i + 1, by omega⟩, (by show L.length - (i + 1) < L.length - i; omega), ?_⟩
            show Goes _ _ _ _ _ (Land _ isN (bpT2 y z L B k o (mnN (cR L) (cU B) B.length o k (i + 1)) (pcLo (cR L) k (i + 1)) (pcHi (cR L) k (i + 1)) (i + 1)) _)
            rw [e1, e2, e3]
            exact goes_told Try.checked.mixed (known_pp hw) 200 (e := .normal) (ps := [ltI ↑i ↑L.length = true, eqI ↑i ↑k = false, i < L.length, loadL Try.prog (cR L) (i * 2) 44 = some (AV.agg [AV.v (Value.int IntKind.i64 (intAt (cR L) (i * 2 + 0))), AV.v (Value.int IntKind.i64 (intAt (cR L) (i * 2 + 1)))]), IsU (0 + 1) B.length (cU B), PickP (intAt (cR L) (i * 2 + 0)) (intAt (cR L) (i * 2 + 1)) (numN (cU B) B.length i), ltI o (pickN (intAt (cR L) (i * 2 + 0)) (intAt (cR L) (i * 2 + 1)) (numN (cU B) B.length i)) = false, i < L.length, i * 2 + 0 < (cR L).length, loadL Try.prog (cR L) (i * 2 + 0) 2 = some (AV.v (Value.int IntKind.i64 (intAt (cR L) (i * 2 + 0)))), k < L.length, k * 2 + 1 < (cR L).length, loadL Try.prog (cR L) (k * 2 + 1) 2 = some (AV.v (Value.int IntKind.i64 (intAt (cR L) (k * 2 + 1)))), ltI (intAt (cR L) (k * 2 + 1)) (intAt (cR L) (i * 2 + 0)) = true, inR IntKind.i64 (pcLo (cR L) k i + 1), i < L.length, i * 2 + 1 < (cR L).length, loadL Try.prog (cR L) (i * 2 + 1) 2 = some (AV.v (Value.int IntKind.i64 (intAt (cR L) (i * 2 + 1)))), k < L.length, k * 2 + 0 < (cR L).length, loadL Try.prog (cR L) (k * 2 + 0) 2 = some (AV.v (Value.int IntKind.i64 (intAt (cR L) (k * 2 + 0)))), ltI (intAt (cR L) (k * 2 + 0)) (intAt (cR L) (i * 2 + 1)) = true, inR IntKind.i64 (pcHi (cR L) k i + 1), inR IntKind.i64 (↑i + 1)]) [.go, .go, .go, .go, .b true, .go, .go, .go, .b false, .go, .go, .sym, .sym, .go, .go, .go, .go, .b false, .go, .go, .sym, .sym, .sym, .go, .go, .sym, .sym, .sym, .go, .b true, .go, .go, .go, .go, .go, .sym, .sym, .sym, .go, .go, .sym, .sym, .sym, .go, .b true, .go, .go, .go, .go, .go, .go] (by kernel_rfl) (by kernel_rfl) ⟨hq1, hq2, (by omega), (cR_load (by omega) 44 (Try.underlying44) rfl (inf := (Try.prog.info? 44).getD default) (by kernel_rfl) (by kernel_rfl)), ⟨rfl, B, rfl, rfl⟩, ⟨(hok i (by omega)).1, (hok i (by omega)).2.1, (by have := (hok i (by omega)).2.2; omega), (numN_bd hB i).1, (numN_bd hB i).2⟩, hq3, (by omega), (by omega), (cR_load1 (by omega) 2 (Try.underlying2) rfl), (by omega), (by omega), (cR_load1 (by omega) 2 (Try.underlying2) rfl), hq7, (by show -9223372036854775808 ≤ _ ∧ _ ≤ 9223372036854775807; constructor <;> omega), (by omega), (by omega), (cR_load1 (by omega) 2 (Try.underlying2) rfl), (by omega), (by omega), (cR_load1 (by omega) 2 (Try.underlying2) rfl), hq8, (by show -9223372036854775808 ≤ _ ∧ _ ≤ 9223372036854775807; constructor <;> omega), (by show -9223372036854775808 ≤ _ ∧ _ ≤ 9223372036854775807; constructor <;> omega), trivial⟩ rfl
          | false =>
            have e1 : mnN (cR L) (cU B) B.length o k (i + 1) = mnN (cR L) (cU B) B.length o k i := cnt_f ((upMid_f hq2).trans hq3)
            have e2 : pcLo (cR L) k (i + 1) = pcLo (cR L) k i + 1 := cnt_t ((upLo_ne hq2).trans hq7)
            have e3 : pcHi (cR L) k (i + 1) = pcHi (cR L) k i := cnt_f ((upHi_ne hq2).trans hq8)
            refine .inl ⟨⟨i + 1, by omega⟩, (by show L.length - (i + 1) < L.length - i; omega), ?_⟩
            show Goes _ _ _ _ _ (Land _ isN (bpT2 y z L B k o (mnN (cR L) (cU B) B.length o k (i + 1)) (pcLo (cR L) k (i + 1)) (pcHi (cR L) k (i + 1)) (i + 1)) _)
            rw [e1, e2, e3]
            exact goes_told Try.checked.mixed (known_pp hw) 200 (e := .normal) (ps := [ltI ↑i ↑L.length = true, eqI ↑i ↑k = false, i < L.length, loadL Try.prog (cR L) (i * 2) 44 = some (AV.agg [AV.v (Value.int IntKind.i64 (intAt (cR L) (i * 2 + 0))), AV.v (Value.int IntKind.i64 (intAt (cR L) (i * 2 + 1)))]), IsU (0 + 1) B.length (cU B), PickP (intAt (cR L) (i * 2 + 0)) (intAt (cR L) (i * 2 + 1)) (numN (cU B) B.length i), ltI o (pickN (intAt (cR L) (i * 2 + 0)) (intAt (cR L) (i * 2 + 1)) (numN (cU B) B.length i)) = false, i < L.length, i * 2 + 0 < (cR L).length, loadL Try.prog (cR L) (i * 2 + 0) 2 = some (AV.v (Value.int IntKind.i64 (intAt (cR L) (i * 2 + 0)))), k < L.length, k * 2 + 1 < (cR L).length, loadL Try.prog (cR L) (k * 2 + 1) 2 = some (AV.v (Value.int IntKind.i64 (intAt (cR L) (k * 2 + 1)))), ltI (intAt (cR L) (k * 2 + 1)) (intAt (cR L) (i * 2 + 0)) = true, inR IntKind.i64 (pcLo (cR L) k i + 1), i < L.length, i * 2 + 1 < (cR L).length, loadL Try.prog (cR L) (i * 2 + 1) 2 = some (AV.v (Value.int IntKind.i64 (intAt (cR L) (i * 2 + 1)))), k < L.length, k * 2 + 0 < (cR L).length, loadL Try.prog (cR L) (k * 2 + 0) 2 = some (AV.v (Value.int IntKind.i64 (intAt (cR L) (k * 2 + 0)))), ltI (intAt (cR L) (k * 2 + 0)) (intAt (cR L) (i * 2 + 1)) = false, inR IntKind.i64 (↑i + 1)]) [.go, .go, .go, .go, .b true, .go, .go, .go, .b false, .go, .go, .sym, .sym, .go, .go, .go, .go, .b false, .go, .go, .sym, .sym, .sym, .go, .go, .sym, .sym, .sym, .go, .b true, .go, .go, .go, .go, .go, .sym, .sym, .sym, .go, .go, .sym, .sym, .sym, .go, .b false, .go, .go, .go] (by kernel_rfl) (by kernel_rfl) ⟨hq1, hq2, (by omega), (cR_load (by omega) 44 (Try.underlying44) rfl (inf := (Try.prog.info? 44).getD default) (by kernel_rfl) (by kernel_rfl)), ⟨rfl, B, rfl, rfl⟩, ⟨(hok i (by omega)).1, (hok i (by omega)).2.1, (by have := (hok i (by omega)).2.2; omega), (numN_bd hB i).1, (numN_bd hB i).2⟩, hq3, (by omega), (by omega), (cR_load1 (by omega) 2 (Try.underlying2) rfl), (by omega), (by omega), (cR_load1 (by omega) 2 (Try.underlying2) rfl), hq7, (by show -9223372036854775808 ≤ _ ∧ _ ≤ 9223372036854775807; constructor <;> omega), (by omega), (by omega), (cR_load1 (by omega) 2 (Try.underlying2) rfl), (by omega), (by omega), (cR_load1 (by omega) 2 (Try.underlying2) rfl), hq8, (by show -9223372036854775808 ≤ _ ∧ _ ≤ 9223372036854775807; constructor <;> omega), trivial⟩ rfl
        | false =>
          cases hq9 : (ltI (intAt (cR L) (k * 2 + 0)) (intAt (cR L) (i * 2 + 1))) with
          | true =>
            have e1 : mnN (cR L) (cU B) B.length o k (i + 1) = mnN (cR L) (cU B) B.length o k i := cnt_f ((upMid_f hq2).trans hq3)
            have e2 : pcLo (cR L) k (i + 1) = pcLo (cR L) k i := cnt_f ((upLo_ne hq2).trans hq7)
            have e3 : pcHi (cR L) k (i + 1) = pcHi (cR L) k i + 1 := cnt_t ((upHi_ne hq2).trans hq9)
            refine .inl ⟨⟨i + 1, by omega⟩, (by show L.length - (i + 1) < L.length - i; omega), ?_⟩
            show Goes _ _ _ _ _ (Land _ isN (bpT2 y z L B k o (mnN (cR L) (cU B) B.length o k (i + 1)) (pcLo (cR L) k (i + 1)) (pcHi (cR L) k (i + 1)) (i + 1)) _)
            rw [e1, e2, e3]
            exact goes_told Try.checked.mixed (known_pp hw) 200 (e := .normal) (ps := [ltI ↑i ↑L.length = true, eqI ↑i ↑k = false, i < L.length, loadL Try.prog (cR L) (i * 2) 44 = some (AV.agg [AV.v (Value.int IntKind.i64 (intAt (cR L) (i * 2 + 0))), AV.v (Value.int IntKind.i64 (intAt (cR L) (i * 2 + 1)))]), IsU (0 + 1) B.length (cU B), PickP (intAt (cR L) (i * 2 + 0)) (intAt (cR L) (i * 2 + 1)) (numN (cU B) B.length i), ltI o (pickN (intAt (cR L) (i * 2 + 0)) (intAt (cR L) (i * 2 + 1)) (numN (cU B) B.length i)) = false, i < L.length, i * 2 + 0 < (cR L).length, loadL Try.prog (cR L) (i * 2 + 0) 2 = some (AV.v (Value.int IntKind.i64 (intAt (cR L) (i * 2 + 0)))), k < L.length, k * 2 + 1 < (cR L).length, loadL Try.prog (cR L) (k * 2 + 1) 2 = some (AV.v (Value.int IntKind.i64 (intAt (cR L) (k * 2 + 1)))), ltI (intAt (cR L) (k * 2 + 1)) (intAt (cR L) (i * 2 + 0)) = false, i < L.length, i * 2 + 1 < (cR L).length, loadL Try.prog (cR L) (i * 2 + 1) 2 = some (AV.v (Value.int IntKind.i64 (intAt (cR L) (i * 2 + 1)))), k < L.length, k * 2 + 0 < (cR L).length, loadL Try.prog (cR L) (k * 2 + 0) 2 = some (AV.v (Value.int IntKind.i64 (intAt (cR L) (k * 2 + 0)))), ltI (intAt (cR L) (k * 2 + 0)) (intAt (cR L) (i * 2 + 1)) = true, inR IntKind.i64 (pcHi (cR L) k i + 1), inR IntKind.i64 (↑i + 1)]) [.go, .go, .go, .go, .b true, .go, .go, .go, .b false, .go, .go, .sym, .sym, .go, .go, .go, .go, .b false, .go, .go, .sym, .sym, .sym, .go, .go, .sym, .sym, .sym, .go, .b false, .go, .go, .sym, .sym, .sym, .go, .go, .sym, .sym, .sym, .go, .b true, .go, .go, .go, .go, .go, .go] (by kernel_rfl) (by kernel_rfl) ⟨hq1, hq2, (by omega), (cR_load (by omega) 44 (Try.underlying44) rfl (inf := (Try.prog.info? 44).getD default) (by kernel_rfl) (by kernel_rfl)), ⟨rfl, B, rfl, rfl⟩, ⟨(hok i (by omega)).1, (hok i (by omega)).2.1, (by have := (hok i (by omega)).2.2; omega), (numN_bd hB i).1, (numN_bd hB i).2⟩, hq3, (by omega), (by omega), (cR_load1 (by omega) 2 (Try.underlying2) rfl), (by omega), (by omega), (cR_load1 (by omega) 2 (Try.underlying2) rfl), hq7, (by omega), (by omega), (cR_load1 (by omega) 2 (Try.underlying2) rfl), (by omega), (by omega), (cR_load1 (by omega) 2 (Try.underlying2) rfl), hq9, (by show -9223372036854775808 ≤ _ ∧ _ ≤ 9223372036854775807; constructor <;> omega), (by show -9223372036854775808 ≤ _ ∧ _ ≤ 9223372036854775807; constructor <;> omega), trivial⟩ rfl
          | false =>
            have e1 : mnN (cR L) (cU B) B.length o k (i + 1) = mnN (cR L) (cU B) B.length o k i := cnt_f ((upMid_f hq2).trans hq3)
            have e2 : pcLo (cR L) k (i + 1) = pcLo (cR L) k i := cnt_f ((upLo_ne hq2).trans hq7)
            have e3 : pcHi (cR L) k (i + 1) = pcHi (cR L) k i := cnt_f ((upHi_ne hq2).trans hq9)
            refine .inl ⟨⟨i + 1, by omega⟩, (by show L.length - (i + 1) < L.length - i; omega), ?_⟩
            show Goes _ _ _ _ _ (Land _ isN (bpT2 y z L B k o (mnN (cR L) (cU B) B.length o k (i + 1)) (pcLo (cR L) k (i + 1)) (pcHi (cR L) k (i + 1)) (i + 1)) _)
            rw [e1, e2, e3]
            exact goes_told Try.checked.mixed (known_pp hw) 200 (e := .normal) (ps := [ltI ↑i ↑L.length = true, eqI ↑i ↑k = false, i < L.length, loadL Try.prog (cR L) (i * 2) 44 = some (AV.agg [AV.v (Value.int IntKind.i64 (intAt (cR L) (i * 2 + 0))), AV.v (Value.int IntKind.i64 (intAt (cR L) (i * 2 + 1)))]), IsU (0 + 1) B.length (cU B), PickP (intAt (cR L) (i * 2 + 0)) (intAt (cR L) (i * 2 + 1)) (numN (cU B) B.length i), ltI o (pickN (intAt (cR L) (i * 2 + 0)) (intAt (cR L) (i * 2 + 1)) (numN (cU B) B.length i)) = false, i < L.length, i * 2 + 0 < (cR L).length, loadL Try.prog (cR L) (i * 2 + 0) 2 = some (AV.v (Value.int IntKind.i64 (intAt (cR L) (i * 2 + 0)))), k < L.length, k * 2 + 1 < (cR L).length, loadL Try.prog (cR L) (k * 2 + 1) 2 = some (AV.v (Value.int IntKind.i64 (intAt (cR L) (k * 2 + 1)))), ltI (intAt (cR L) (k * 2 + 1)) (intAt (cR L) (i * 2 + 0)) = false, i < L.length, i * 2 + 1 < (cR L).length, loadL Try.prog (cR L) (i * 2 + 1) 2 = some (AV.v (Value.int IntKind.i64 (intAt (cR L) (i * 2 + 1)))), k < L.length, k * 2 + 0 < (cR L).length, loadL Try.prog (cR L) (k * 2 + 0) 2 = some (AV.v (Value.int IntKind.i64 (intAt (cR L) (k * 2 + 0)))), ltI (intAt (cR L) (k * 2 + 0)) (intAt (cR L) (i * 2 + 1)) = false, inR IntKind.i64 (↑i + 1)]) [.go, .go, .go, .go, .b true, .go, .go, .go, .b false, .go, .go, .sym, .sym, .go, .go, .go, .go, .b false, .go, .go, .sym, .sym, .sym, .go, .go, .sym, .sym, .sym, .go, .b false, .go, .go, .sym, .sym, .sym, .go, .go, .sym, .sym, .sym, .go, .b false, .go, .go, .go] (by kernel_rfl) (by kernel_rfl) ⟨hq1, hq2, (by omega), (cR_load (by omega) 44 (Try.underlying44) rfl (inf := (Try.prog.info? 44).getD default) (by kernel_rfl) (by kernel_rfl)), ⟨rfl, B, rfl, rfl⟩, ⟨(hok i (by omega)).1, (hok i (by omega)).2.1, (by have := (hok i (by omega)).2.2; omega), (numN_bd hB i).1, (numN_bd hB i).2⟩, hq3, (by omega), (by omega), (cR_load1 (by omega) 2 (Try.underlying2) rfl), (by omega), (by omega), (cR_load1 (by omega) 2 (Try.underlying2) rfl), hq7, (by omega), (by omega), (cR_load1 (by omega) 2 (Try.underlying2) rfl), (by omega), (by omega), (cR_load1 (by omega) 2 (Try.underlying2) rfl), hq9, (by show -9223372036854775808 ≤ _ ∧ _ ≤ 9223372036854775807; constructor <;> omega), trivial⟩ rfl
  | false =>
    have ghq1 := ltI_false hq1
    exact .inr (.inl ⟨(by show L.length ≤ i; omega), goes_told Try.checked.mixed (known_pp hw) 200 (e := .exit 2) (ps := [ltI ↑i ↑L.length = false]) [.go, .go, .go, .go, .b false] (by kernel_rfl) (by kernel_rfl) ⟨hq1, trivial⟩ rfl⟩)

theorem bp_end (hw : Known Try.prog (clsO wkO)) (y z : Value) (L : List (Int × Int)) (B : List Int) (k : Nat) (hk : k < L.length) (o m c d : Int) (i : Nat) (e1 : intAt (plUp (cR L) L.length L.length) (0 + k * 2 + 0) = c) (e2 : intAt (plUp (cR L) L.length L.length) (0 + k * 2 + 1) = d) (h1 : c ≤ m) (h2 : m ≤ d) (w : World) : Goes Try.prog 185 (tlC bpC8) (bpT2 y z L B k o m c d i) w (OutR Try.prog Try.f13 185 (.bool true) w) := by
  cases hq1 : (ltI m (intAt (plUp (cR L) L.length L.length) (0 + k * 2 + 0))) with
  | true =>
    exfalso
    first | (have := ltI_true hq1; omega) | (have := ltI_true hq2; omega) | (rw [e1, e2, eqI_self, eqI_self] at hq3; cases hq3)
  | false =>
    cases hq2 : (ltI (intAt (plUp (cR L) L.length L.length) (0 + k * 2 + 1)) m) with
    | true =>
      exfalso
      first | (have := ltI_true hq1; omega) | (have := ltI_true hq2; omega) | (rw [e1, e2, eqI_self, eqI_self] at hq3; cases hq3)
    | false =>
      cases hq3 : (eqI (intAt (plUp (cR L) L.length L.length) (0 + k * 2 + 0)) c && (eqI (intAt (plUp (cR L) L.length L.length) (0 + k * 2 + 1)) d && true)) with
      | true =>
        exact goes_out Try.checked.mixed (known_pp hw) 200 (v := .v (.bool true)) (ps := [k < L.length, loadL Try.prog (plUp (cR L) L.length L.length) (0 + k * 2 + 0) 2 = some (AV.v (Value.int IntKind.i64 (intAt (plUp (cR L) L.length L.length) (0 + k * 2 + 0)))), (!ltI m (intAt (plUp (cR L) L.length L.length) (0 + k * 2 + 0))) = true, true = true, true = true, true = true, k < L.length, true = true, true = true, loadL Try.prog (plUp (cR L) L.length L.length) (0 + k * 2 + 1) 2 = some (AV.v (Value.int IntKind.i64 (intAt (plUp (cR L) L.length L.length) (0 + k * 2 + 1)))), true = true, (!ltI (intAt (plUp (cR L) L.length L.length) (0 + k * 2 + 1)) m) = true, true = true, true = true, k < L.length, true = true, loadL Try.prog (plUp (cR L) L.length L.length) (0 + k * 2) 44 = some (AV.agg [AV.v (Value.int IntKind.i64 (intAt (plUp (cR L) L.length L.length) (0 + k * 2 + 0))), AV.v (Value.int IntKind.i64 (intAt (plUp (cR L) L.length L.length) (0 + k * 2 + 1)))]), true = true, true = true, true = true, true = true, (eqI (intAt (plUp (cR L) L.length L.length) (0 + k * 2 + 0)) c && (eqI (intAt (plUp (cR L) L.length L.length) (0 + k * 2 + 1)) d && true)) = true]) [.go, .go, .go, .sym, .go, .sym, .go, .go, .b true, .go, .b true, .go, .b true, .go, .b true, .sym, .b true, .go, .b true, .sym, .b true, .go, .go, .go, .b true, .go, .b true, .go, .b true, .sym, .b true, .sym, .b true, .go, .b true, .go, .b true, .go, .b true, .go, .go, .go, .b true, .go, .go] (by kernel_rfl) (by kernel_rfl) ⟨(by omega), (plUp_load1 (by omega) 2 (Try.underlying2) rfl), (by rw [hq1]; rfl), rfl, rfl, rfl, (by omega), rfl, rfl, (plUp_load1 (by omega) 2 (Try.underlying2) rfl), rfl, (by rw [hq2]; rfl), rfl, rfl, (by omega), rfl, (plUp_load (by omega) 44 (Try.underlying44) rfl (inf := (Try.prog.info? 44).getD default) (by kernel_rfl) (by kernel_rfl)), rfl, rfl, rfl, rfl, hq3, trivial⟩ rfl
      | false =>
        exfalso
        first | (have := ltI_true hq1; omega) | (have := ltI_true hq2; omega) | (rw [e1, e2, eqI_self, eqI_self] at hq3; cases hq3)

theorem bp_k {q : Int} {n : Nat} (h1 : 0 ≤ q) (h2 : q ≤ 255) (hn : 1 ≤ n) : (IntKind.i64.wrap q).tmod (n : Int) = ((q.toNat % n : Nat) : Int) := by
  rw [show IntKind.i64.wrap q = q from IntWalk.i64_in q ⟨by omega, by omega⟩, Int.tmod_eq_emod_of_nonneg h1, Int.natCast_emod, Int.toNat_of_nonneg h1]
set_option maxHeartbeats 2000000 in
theorem bp_ok4 (hw : Known Try.prog (clsO wkO)) (y z : Value) (L : List (Int × Int)) (B : List Int) (q : Int) (h1 : 1 ≤ L.length) (hL : L.length ≤ 12) (hB : AllU B) (hq1 : 0 ≤ q) (hq2 : q ≤ 255) (hok : ∀ j, j < L.length → okAt (cR L) j) (i : Nat) (w : World) : Goes Try.prog 185 bpC4 (bpTk y z L B q i) w (OutR Try.prog Try.f13 185 (.bool true) w) := by
  have hcl := cR_len L
  have hk : q.toNat % L.length < L.length := Nat.mod_lt _ (by omega)
  refine goes_spine (T' := bpTk y z L B q i) (by kernel_rfl) (goes_told Try.checked.mixed (known_pp hw) 200 (e := .normal) (ps := [(!eqI 0 0) = false, false = false, false = false, false = false, false = false, (!eqI ↑L.length ↑L.length) = false]) [.go, .go, .go, .b false, .go, .b false, .go, .b false, .go, .b false, .go, .b false, .go, .go, .b false] (by kernel_rfl) (by kernel_rfl) ⟨rfl, rfl, rfl, rfl, rfl, (by rw [eqI_iff]; simp), trivial⟩ rfl) ?_
  refine goes_spine (T' := bpTb y z L B (q.toNat % L.length)) (by kernel_rfl) (goes_told Try.checked.mixed (known_pp hw) 200 (e := .normal) (ps := [(L.length : Int) ≠ 0, (AV.v (Value.int IntKind.i64 ((IntKind.i64.wrap q).tmod (L.length : Int)))) = .v (.int .i64 ((q.toNat % L.length : Nat) : Int))]) [.go, .go, .go, .go, .go, .as (.v (.int .i64 ((q.toNat % L.length : Nat) : Int)))] (by kernel_rfl) (by kernel_rfl) ⟨by omega, by rw [bp_k hq1 hq2 h1], trivial⟩ rfl) ?_
  generalize hkk : q.toNat % L.length = k at hk
  refine goes_spine (T' := ⟨(bpTb y z L B k).tms ++ [(11, .v (.int .i64 0)), (12, .v (.int .i64 0)), (13, .v (.int .i64 0))], [], 1, (bpTb y z L B k).bs⟩) (by kernel_rfl) (goes_told Try.checked.mixed (known_pp hw) 200 (e := .normal) (ps := []) [.go, .go, .go] (by kernel_rfl) (by kernel_rfl) trivial rfl) ?_
  refine goes_spine (T' := ⟨(bpTb y z L B k).tms ++ [(11, .v (.int .i64 0)), (12, .v (.int .i64 0)), (13, .v (.int .i64 0)), (14, .v (.int .i64 (bpO L B k)))], [], 1, (bpTb y z L B k).bs⟩) (by kernel_rfl) (goes_told Try.checked.mixed (known_pp hw) 200 (e := .normal) (ps := [k < L.length, loadL Try.prog (cR L) (k * 2) 44 = some (AV.agg [AV.v (Value.int IntKind.i64 (intAt (cR L) (k * 2 + 0))), AV.v (Value.int IntKind.i64 (intAt (cR L) (k * 2 + 1)))]), IsU (0 + 1) B.length (cU B), PickP (intAt (cR L) (k * 2 + 0)) (intAt (cR L) (k * 2 + 1)) (numN (cU B) B.length k)]) [.go, .go, .sym, .sym, .go, .go, .go] (by kernel_rfl) (by kernel_rfl) ⟨(by omega), (cR_load (by omega) 44 (Try.underlying44) rfl (inf := (Try.prog.info? 44).getD default) (by kernel_rfl) (by kernel_rfl)), ⟨rfl, B, rfl, rfl⟩, ⟨(hok k (by omega)).1, (hok k (by omega)).2.1, (by have := (hok k (by omega)).2.2; omega), (numN_bd hB k).1, (numN_bd hB k).2⟩, trivial⟩ rfl) ?_
  refine goes_spineQ (ι := bpJ L.length) (T := fun i => bpF y z L B k (bpO L B k) i.1) (R := fun i => L.length ≤ i.1) (by kernel_rfl)
    (goes_spine (T' := bpF y z L B k (bpO L B k) 0) (by kernel_rfl) (goes_told Try.checked.mixed (known_pp hw) 200 (e := .normal) (ps := []) [.go] (by kernel_rfl) (by kernel_rfl) trivial rfl) (bp_loop2 hw y z L B hL hB hok k hk (bpO L B k) w _)) (fun j hj => ?_)
  obtain ⟨j, hj1⟩ := j
  have hj2 : L.length ≤ j := hj
  have : j = L.length := by omega
  subst this
  obtain ⟨m1, m2⟩ := mn_bd hB hok hk
  obtain ⟨e1, e2⟩ := plUp_int (c := cR L) hk
  exact bp_end hw y z L B k hk (bpO L B k) _ _ _ L.length e1 e2 m1 m2 w

end
end Go.Proofs.Ytchlehpjpgeejaa
