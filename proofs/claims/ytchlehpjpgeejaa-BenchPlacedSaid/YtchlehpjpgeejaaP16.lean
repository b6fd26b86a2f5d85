/- Two lists of pairs with the same cells: the law's comparison. -/
import Derived.Test.YtchlehpjpgeejaaP15
namespace Go.Proofs.Ytchlehpjpgeejaa
set_option linter.unusedVariables false
set_option linter.unusedSimpArgs false
open Go Ev
noncomputable section

/-- The cells of n pairs of numbers. -/
def IsP (n : Nat) (c : List AV) : Prop := c.length = n * 2 ∧ n ≤ 1000000 ∧ ∀ x ∈ c, ∃ m, x = .v (.int .i64 m)
theorem isP_at {n : Nat} {c : List AV} (h : IsP n c) {k : Nat} (hk : k < n * 2) : c[k]? = some (.v (.int .i64 (intAt c k))) := by
  have hk' : k < c.length := by rw [h.1]; exact hk
  have e := List.getElem?_eq_getElem hk'
  obtain ⟨m, hm⟩ := h.2.2 _ (List.getElem_mem hk')
  rw [hm] at e
  rw [intAt_of e]
  exact e
theorem isP_plain : ∀ {c : List AV}, (∀ x ∈ c, ∃ m, x = .v (.int .i64 m)) → ∃ cs, plainL c = some cs
  | [], _ => ⟨[], rfl⟩
  | x :: l, h => by
    obtain ⟨m, rfl⟩ := h x (List.mem_cons_self ..)
    obtain ⟨cs, hc⟩ := isP_plain (fun y hy => h y (List.mem_cons_of_mem _ hy))
    exact ⟨_, by simp only [plainL, plain, hc]; rfl⟩
theorem isP_load {n : Nat} {c : List AV} (h : IsP n c) {i : Nat} (hi : i < n) (t : TypeId) {d : TypeDesc} (hd : Try.prog.underlying t = some d) (ha : aggD d = true) {inf : TypeInfo} (hf : Try.prog.info? t = some inf) (h2 : inf.size = 2) :
    loadL Try.prog c (i * 2) t = some (.agg [.v (.int .i64 (intAt c (i * 2))), .v (.int .i64 (intAt c (i * 2 + 1)))]) := by
  have h3 := isP_at h (k := i * 2) (by omega)
  have h4 := isP_at h (k := i * 2 + 1) (by omega)
  have hl := h.1
  have hsub : sub c (i * 2) 2 = some [.v (.int .i64 (intAt c (i * 2))), .v (.int .i64 (intAt c (i * 2 + 1)))] := by
    unfold sub
    rw [Nat.ble_eq_true_of_le (by omega)]
    simp only [Option.some.injEq]
    apply List.ext_getElem?
    intro j
    rw [List.getElem?_take]
    match j with
    | 0 => simp only [List.getElem?_drop, Nat.add_zero, h3]; rfl
    | 1 => simp only [List.getElem?_drop, h4]; rfl
    | j + 2 => simp; omega
  simp only [loadL, hd, ha, hf, h2, hsub]
theorem eqI_self (a : Int) : eqI a a = true := by rw [eqI_iff]; exact decide_eq_true rfl
def rgT (y z : Value) (n : Nat) (c : List AV) (i : Nat) : Ev.Lit := ⟨[(0, .xl y n 2 c), (1, .xl z n 2 c), (5, .v (.int .i64 i))], [], 0, []⟩
def RgI (n : Nat) : Type := { i : Nat // i ≤ n }
theorem ranges_g (y z : Value) (n : Nat) (c : List AV) (h : IsP n c) : GivesA Try.prog 42 [.xl y n 2 c, .xl z n 2 c] (.bool true) := by
  obtain ⟨cs, hcs⟩ := isP_plain h.2.2
  have hn := h.2.1
  refine givesA_parts 26 Try.func42 (by kernel_rfl) (by kernel_rfl) (by kernel_rfl) (fun w => ?_)
  refine goes_spine (T' := argLit [.xl y n 2 c, .xl z n 2 c]) (by kernel_rfl) (goes_told Try.checked.mixed known_none 200 (e := .normal) (ps := []) [.go] (by kernel_rfl) (by kernel_rfl) trivial rfl) ?_
  refine goes_spine (T' := argLit [.xl y n 2 c, .xl z n 2 c]) (by kernel_rfl) (goes_told Try.checked.mixed known_none 200 (e := .normal) (ps := [(!eqI (n : Int) (n : Int)) = false]) [.go, .go, .go, .go, .go, .b false] (by kernel_rfl) (by kernel_rfl) ⟨by rw [eqI_self]; rfl, trivial⟩ rfl) ?_
  refine goes_spineQ (ι := RgI n) (T := fun i => rgT y z n c i.1) (R := fun i => n ≤ i.1) (by kernel_rfl)
    (goes_spine (T' := rgT y z n c 0) (by kernel_rfl) (goes_told Try.checked.mixed known_none 200 (e := .normal) (ps := []) [.go] (by kernel_rfl) (by kernel_rfl) trivial rfl)
      (goes_blockloop (by kernel_rfl) (fun i : RgI n => rgT y z n c i.1) (fun i => n - i.1) (fun i => ?_) ⟨0, Nat.zero_le _⟩)) (fun i hi' => ?_)
  · obtain ⟨i, hi1⟩ := i
    by_cases hlt : i < n
    · have hld := isP_load h hlt 44 (Try.underlying44) rfl (inf := (Try.prog.info? 44).getD default) (by kernel_rfl) (by kernel_rfl)
      refine .inl ⟨⟨i + 1, hlt⟩, by show n - (i + 1) < n - i; omega, ?_⟩
      exact goes_told Try.checked.mixed known_none 200 (e := .normal)
        (ps := [ltI (i : Int) (n : Int) = true, i < n, loadL Try.prog c (i * 2) 44 = some (.agg [.v (.int .i64 (intAt c (i * 2))), .v (.int .i64 (intAt c (i * 2 + 1)))]), i < n, loadL Try.prog c (i * 2) 44 = some (.agg [.v (.int .i64 (intAt c (i * 2))), .v (.int .i64 (intAt c (i * 2 + 1)))]), (!(eqI (intAt c (i * 2)) (intAt c (i * 2)) && (eqI (intAt c (i * 2 + 1)) (intAt c (i * 2 + 1)) && true))) = false, inR IntKind.i64 ((i : Int) + 1)])
        [.go, .go, .go, .go, .b true, .go, .go, .sym, .sym, .go, .go, .sym, .sym, .go, .b false, .go, .go, .go] (by kernel_rfl) (by kernel_rfl)
        ⟨ltI_lt (by omega), hlt, hld, hlt, hld, by rw [eqI_self, eqI_self]; rfl, by show -9223372036854775808 ≤ _ ∧ _ ≤ 9223372036854775807; constructor <;> omega, trivial⟩ rfl
    · exact .inr (.inl ⟨by show n ≤ i; omega, goes_told Try.checked.mixed known_none 200 (e := .exit 0) (ps := [ltI (i : Int) (n : Int) = false]) [.go, .go, .go, .go, .b false] (by kernel_rfl) (by kernel_rfl) ⟨ltI_ge (by omega), trivial⟩ (by kernel_rfl)⟩)
  · exact goes_out Try.checked.mixed known_none 200 (ps := []) (v := .v (.bool true)) [.go] (by kernel_rfl) (by kernel_rfl) trivial rfl
theorem plUp_isP (c : List AV) (n : Nat) (hn : n ≤ 1000000) : ∀ i : Nat, (plUp c n i).length = i * 2 ∧ ∀ x ∈ plUp c n i, ∃ m, x = .v (.int .i64 m)
  | 0 => ⟨rfl, fun x hx => by cases hx⟩
  | i + 1 => by
    obtain ⟨h1, h2⟩ := plUp_isP c n hn i
    refine ⟨by simp only [plUp, List.length_append, h1, List.length_cons, List.length_nil]; omega, fun x hx => ?_⟩
    simp only [plUp, List.mem_append, List.mem_cons, List.not_mem_nil, or_false] at hx
    rcases hx with hx | rfl | rfl
    · exact h2 x hx
    · exact ⟨_, rfl⟩
    · exact ⟨_, rfl⟩
/-- The comparison, where both are the same. -/
def SameL (n k : Nat) (c : List AV) (m k' : Nat) (d : List AV) : Prop := k = 2 ∧ k' = 2 ∧ n = m ∧ c = d ∧ IsP n c
def rgS : List Vw → Option (Res1 × List Prop) := fun vs =>
  match vs with
  | [.lst n k c, .lst m k' d] => some (.val (.v (.bool true)), [SameL n k c m k' d])
  | _ => none
def rgO : OrcH := avOrc 42 [2, 2] rgS
theorem known_rg : Known Try.prog (clsO rgO) := known_av (fun vs r ps h hp => by
  unfold rgS at h
  split at h
  · cases h
    obtain ⟨⟨rfl, rfl, rfl, rfl, hP⟩, -⟩ := hp
    have hpl := isP_plain hP.2.2
    refine ⟨⟨hpl, hpl, trivial⟩, fun ys hy => ?_⟩
    obtain ⟨y1, y2, rfl⟩ := len2 hy
    exact ⟨_, rfl, ranges_g y1 y2 _ _ hP⟩
  · cases h)
end
end Go.Proofs.Ytchlehpjpgeejaa
