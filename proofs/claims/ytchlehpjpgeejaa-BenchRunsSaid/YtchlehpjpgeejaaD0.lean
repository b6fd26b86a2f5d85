import Derived.Test.YtchlehpjpgeejaaP24a
import Derived.Test.YtchlehpjpgeejaaGp
/- Rounds of a programme: mathematics, and lists of flags as they lie. -/
namespace Go.Proofs.Ytchlehpjpgeejaa
set_option linter.unusedVariables false
set_option linter.unusedSimpArgs false
open Go Ev
noncomputable section
theorem cI_ld {L : List Int} {j : Nat} (h : j < L.length) (t : TypeId) {d : TypeDesc} (hd : Try.prog.underlying t = some d) (ha : aggD d = false) : loadL Try.prog (cI L) j t = some (.v (.int .i64 (intAt (cI L) j))) := cI_load h t hd ha
theorem cR_ld {L : List (Int × Int)} {j : Nat} (h : j < (cR L).length) (t : TypeId) {d : TypeDesc} (hd : Try.prog.underlying t = some d) (ha : aggD d = false) : loadL Try.prog (cR L) j t = some (.v (.int .i64 (intAt (cR L) j))) := cR_load1 h t hd ha
def cB : List Bool → List AV
  | [] => []
  | b :: l => .v (.bool b) :: cB l
def cBv : List Bool → List Value
  | [] => []
  | b :: l => .bool b :: cBv l
theorem cB_plain : ∀ L : List Bool, plainL (cB L) = some (cBv L)
  | [] => rfl
  | n :: l => by simp only [cB, plainL, plain, cB_plain l, cBv]
theorem cB_len : ∀ L : List Bool, (cB L).length = L.length
  | [] => rfl
  | n :: l => by simp only [cB, List.length_cons, cB_len l]
theorem cB_at : ∀ (L : List Bool) (i : Nat) (h : i < L.length), (cB L)[i]? = some (.v (.bool (L[i])))
  | [], i, h => by simp at h
  | x :: l, 0, h => rfl
  | x :: l, i + 1, h => cB_at l i (by simpa using h)
theorem cB_bool {L : List Bool} {i : Nat} (h : i < L.length) : boolAt (cB L) i = L.getD i false := by
  unfold boolAt
  rw [cB_at L i h, List.getD_eq_getElem?_getD, List.getElem?_eq_getElem h]
  rfl
theorem cB_ld {L : List Bool} {i : Nat} (h : i < L.length) (t : TypeId) {d : TypeDesc} (hd : Try.prog.underlying t = some d) (ha : aggD d = false) : loadL Try.prog (cB L) i t = some (.v (.bool (boolAt (cB L) i))) := by
  have e : boolAt (cB L) i = L[i] := by unfold boolAt; rw [cB_at L i h]
  simp only [loadL, hd, ha, getL_eq, cB_at L i h, e]
theorem cB_map : ∀ L : List Bool, cB L = L.map (fun n => .v (.bool n))
  | [] => rfl
  | n :: l => by simp only [cB, List.map_cons, cB_map l]
theorem splice_one {α : Type} {l : List α} {i : Nat} (x : α) (h : i < l.length) : splice l i [x] = l.set i x := by
  unfold splice
  apply List.ext_getElem?
  intro j
  simp only [List.length_singleton]
  by_cases h1 : j < i
  · rw [List.getElem?_append_left (by rw [List.length_take]; omega), List.getElem?_take, if_pos h1, List.getElem?_set_ne (by omega)]
  · rw [List.getElem?_append_right (by rw [List.length_take]; omega), List.length_take, Nat.min_eq_left (by omega)]
    by_cases h2 : j = i
    · subst h2
      simp [h]
    · rw [List.getElem?_append_right (by simp; omega), List.getElem?_drop, List.getElem?_set_ne (by omega)]
      congr 1
      simp only [List.length_singleton]
      omega
theorem cB_set {L : List Bool} {i : Nat} (h : i < L.length) (x : Bool) : splice (cB L) i [.v (.bool x)] = cB (L.set i x) := by
  rw [splice_one _ (by rw [cB_len]; exact h), cB_map, cB_map, List.map_set]
theorem cB_rep : ∀ n : Nat, repL n [AV.v (.bool false)] = cB (List.replicate n false)
  | 0 => rfl
  | n + 1 => by
    show _ ++ repL n _ = _
    rw [cB_rep n]
    rfl
theorem cB_one : ∀ L : List Bool, allOne (cB L) = true
  | [] => rfl
  | n :: l => by simp only [cB, allOne]; exact cB_one l
theorem cR_one : ∀ L : List (Int × Int), allOne (cR L) = true
  | [] => rfl
  | n :: l => by simp only [cR, allOne]; exact cR_one l
theorem cR_cons (q : Int × Int) (l : List (Int × Int)) : cR (q :: l) = .v (.int .i64 q.1) :: .v (.int .i64 q.2) :: cR l := rfl
theorem cR_set : ∀ {L : List (Int × Int)} {i : Nat} (h : i < L.length) (a b : Int), splice (cR L) (i * 2) [.v (.int .i64 a), .v (.int .i64 b)] = cR (L.set i (a, b))
  | q :: l, 0, h, a, b => rfl
  | q :: l, i + 1, h, a, b => by
    have ih := cR_set (L := l) (i := i) (by simpa using h) a b
    rw [List.set_cons_succ, cR_cons, cR_cons, ← ih, show (i + 1) * 2 = i * 2 + 2 by omega]
    simp only [splice, List.take_succ_cons, List.cons_append, show i * 2 + 2 + [AV.v (.int .i64 a), .v (.int .i64 b)].length = (i * 2 + [AV.v (.int .i64 a), .v (.int .i64 b)].length) + 1 + 1 by omega, List.drop_succ_cons]
theorem cR_intD {L : List (Int × Int)} {i : Nat} (h : i < L.length) : intAt (cR L) (i * 2 + 0) = (L.getD i (0, 0)).1 ∧ intAt (cR L) (i * 2 + 1) = (L.getD i (0, 0)).2 := by
  obtain ⟨e1, e2⟩ := cR_int (List.getElem?_eq_getElem h)
  rw [show i * 2 + 0 = i * 2 from rfl, e1, e2, List.getD_eq_getElem?_getD, List.getElem?_eq_getElem h]
  exact ⟨rfl, rfl⟩
def unR : List AV → List (Int × Int)
  | .v (.int _ a) :: .v (.int _ b) :: l => (a, b) :: unR l
  | _ => []
theorem unR_cR : ∀ L : List (Int × Int), unR (cR L) = L
  | [] => rfl
  | q :: l => by simp only [cR, unR, unR_cR l]
def unB : List AV → List Bool
  | .v (.bool b) :: l => b :: unB l
  | _ => []
theorem unB_cB : ∀ L : List Bool, unB (cB L) = L
  | [] => rfl
  | q :: l => by simp only [cB, unB, unB_cB l]
/-! ### A round -/
def hitB (T : List Bool) (q : Int × Int) : Bool := T.getD q.1.toNat false || T.getD q.2.toNat false
def mrk (T : List Bool) (q : Int × Int) : List Bool := (T.set q.1.toNat true).set q.2.toNat true
def rrN (s : List (Int × Int) × Nat × List Bool) (i : Nat) : List (Int × Int) × Nat × List Bool :=
  (if hitB s.2.2 (s.1.getD i (0, 0)) then s.1.set s.2.1 (s.1.getD i (0, 0)) else s.1, if hitB s.2.2 (s.1.getD i (0, 0)) then s.2.1 + 1 else s.2.1, mrk s.2.2 (s.1.getD i (0, 0)))
def rrS (X : List (Int × Int)) (T : List Bool) : Nat → List (Int × Int) × Nat × List Bool
  | 0 => (X, 0, T)
  | i + 1 => rrN (rrS X T i) i
theorem mrk_len (T : List Bool) (q : Int × Int) : (mrk T q).length = T.length := by unfold mrk; rw [List.length_set, List.length_set]
theorem rr_len (X : List (Int × Int)) (T : List Bool) : ∀ i, (rrS X T i).1.length = X.length ∧ (rrS X T i).2.1 ≤ i ∧ (rrS X T i).2.2.length = T.length
  | 0 => ⟨rfl, Nat.le_refl _, rfl⟩
  | i + 1 => by
    obtain ⟨h1, h2, h3⟩ := rr_len X T i
    simp only [rrS, rrN]
    refine ⟨?_, ?_, ?_⟩
    · split
      · rw [List.length_set, h1]
      · exact h1
    · split <;> omega
    · rw [mrk_len, h3]
theorem rr_same (X : List (Int × Int)) (T : List Bool) : ∀ i k, i ≤ k → (rrS X T i).1[k]? = X[k]?
  | 0, k, h => rfl
  | i + 1, k, h => by
    have h2 := (rr_len X T i).2.1
    simp only [rrS, rrN]
    split
    · rw [List.getElem?_set_ne (by omega), rr_same X T i k (by omega)]
    · exact rr_same X T i k (by omega)
def waitL (T : List Bool) : List (Int × Int) → List (Int × Int)
  | [] => []
  | q :: Q => if hitB T q then q :: waitL (mrk T q) Q else waitL (mrk T q) Q
theorem rr_wait {X : List (Int × Int)} {T : List Bool} {m : Nat} (hm : m ≤ X.length) : ∀ i, i ≤ m → (rrS X T i).1.take (rrS X T i).2.1 ++ waitL (rrS X T i).2.2 ((X.take m).drop i) = waitL T (X.take m)
  | 0, h => by simp [rrS]
  | i + 1, h => by
    have ih := rr_wait (T := T) hm i (by omega)
    obtain ⟨h1, h2, h3⟩ := rr_len X T i
    have hs := rr_same X T i i (Nat.le_refl _)
    have hi : i < X.length := by omega
    have eq : (rrS X T i).1.getD i (0, 0) = X[i] := by rw [List.getD_eq_getElem?_getD, hs, List.getElem?_eq_getElem hi]; rfl
    have ed : (X.take m).drop i = X[i] :: (X.take m).drop (i + 1) := by
      rw [List.drop_eq_getElem_cons (by rw [List.length_take]; omega), List.getElem_take]
    rw [← ih, ed]
    simp only [rrS, rrN, eq, waitL]
    cases hh : hitB (rrS X T i).2.2 X[i] with
    | true =>
      simp only [if_true]
      rw [List.take_add_one, List.getElem?_set_self (by omega), List.take_set_of_le (Nat.le_refl _)]
      simp
    | false => simp
/-! ### Rounds -/
def tch (p q : Int × Int) : Bool := decide (p.1 = q.1) || decide (p.1 = q.2) || decide (p.2 = q.1) || decide (p.2 = q.2)
def inn (P : List (Int × Int)) (R : List Int) (i : Nat) : Nat → Int
  | 0 => 1
  | k + 1 => if tch (P.getD k (0, 0)) (P.getD i (0, 0)) then max (inn P R i k) (R.getD k 0 + 1) else inn P R i k
def rds (P : List (Int × Int)) : Nat → List Int
  | 0 => []
  | i + 1 => rds P i ++ [inn P (rds P i) i i]
def rdv (P : List (Int × Int)) (i : Nat) : Int := inn P (rds P i) i i
def dee (P : List (Int × Int)) : Nat → Int
  | 0 => 0
  | i + 1 => max (dee P i) (rdv P i)
theorem rds_len (P : List (Int × Int)) : ∀ i, (rds P i).length = i
  | 0 => rfl
  | i + 1 => by simp [rds, rds_len P i]
theorem rds_at (P : List (Int × Int)) : ∀ i k, k < i → (rds P i).getD k 0 = rdv P k
  | 0, k, h => by omega
  | i + 1, k, h => by
    simp only [rds]
    rw [List.getD_eq_getElem?_getD]
    by_cases e : k < i
    · rw [List.getElem?_append_left (by rw [rds_len]; exact e), ← List.getD_eq_getElem?_getD]
      exact rds_at P i k e
    · have : k = i := by omega
      subst this
      rw [List.getElem?_append_right (by rw [rds_len]; omega), rds_len, Nat.sub_self]
      rfl
theorem inn_gt {P : List (Int × Int)} {R : List Int} {i : Nat} (t : Int) : ∀ k, t < inn P R i k ↔ t < 1 ∨ ∃ j, j < k ∧ tch (P.getD j (0, 0)) (P.getD i (0, 0)) = true ∧ t < R.getD j 0 + 1
  | 0 => by simp [inn]
  | k + 1 => by
    have ih := inn_gt (P := P) (R := R) (i := i) t k
    simp only [inn]
    split
    · rename_i hc
      constructor
      · intro h
        by_cases h1 : t < inn P R i k
        · rcases ih.1 h1 with h2 | ⟨j, j1, j2, j3⟩
          · exact .inl h2
          · exact .inr ⟨j, by omega, j2, j3⟩
        · exact .inr ⟨k, Nat.lt_succ_self k, hc, by omega⟩
      · rintro (h | ⟨j, j1, j2, j3⟩)
        · have := ih.2 (.inl h); omega
        · by_cases e : j = k
          · subst e; omega
          · have := ih.2 (.inr ⟨j, by omega, j2, j3⟩); omega
    · rename_i hc
      rw [ih]
      constructor
      · rintro (h | ⟨j, j1, j2, j3⟩)
        · exact .inl h
        · exact .inr ⟨j, by omega, j2, j3⟩
      · rintro (h | ⟨j, j1, j2, j3⟩)
        · exact .inl h
        · by_cases e : j = k
          · subst e; exact absurd j2 hc
          · exact .inr ⟨j, by omega, j2, j3⟩
theorem rdv_gt {P : List (Int × Int)} {i : Nat} (t : Int) : t < rdv P i ↔ t < 1 ∨ ∃ j, j < i ∧ tch (P.getD j (0, 0)) (P.getD i (0, 0)) = true ∧ t < rdv P j + 1 := by
  unfold rdv
  rw [inn_gt]
  constructor
  · rintro (h | ⟨j, j1, j2, j3⟩)
    · exact .inl h
    · rw [rds_at P i j j1] at j3
      exact .inr ⟨j, j1, j2, j3⟩
  · rintro (h | ⟨j, j1, j2, j3⟩)
    · exact .inl h
    · exact .inr ⟨j, j1, j2, by rw [rds_at P i j j1]; exact j3⟩
theorem rdv_le (P : List (Int × Int)) (i : Nat) : rdv P i ≤ i + 1 := by
  induction i using Nat.strongRecOn with
  | _ i ih =>
    rcases Int.lt_or_le ((i : Int) + 1) (rdv P i) with h | h
    · rcases (rdv_gt _).1 h with h1 | ⟨j, j1, j2, j3⟩
      · omega
      · have := ih j j1
        omega
    · exact h
theorem rdv_pos (P : List (Int × Int)) (i : Nat) : 1 ≤ rdv P i := by
  have := (rdv_gt (P := P) (i := i) 0).2 (.inl (by omega))
  omega
theorem dee_ge (P : List (Int × Int)) : ∀ n i, i < n → rdv P i ≤ dee P n
  | 0, i, h => by omega
  | n + 1, i, h => by
    simp only [dee]
    by_cases e : i = n
    · subst e; omega
    · have := dee_ge P n i (by omega); omega
theorem dee_le {P : List (Int × Int)} {t : Int} (ht : 0 ≤ t) : ∀ n, (∀ i, i < n → rdv P i ≤ t) → dee P n ≤ t
  | 0, h => ht
  | n + 1, h => by
    simp only [dee]
    have h1 := dee_le ht n (fun i hi => h i (by omega))
    have h2 := h n (by omega)
    omega
theorem dee_bd (P : List (Int × Int)) : ∀ n, 0 ≤ dee P n ∧ dee P n ≤ n
  | 0 => ⟨Int.le_refl _, Int.le_refl _⟩
  | n + 1 => by
    have h1 := dee_bd P n
    have h2 := rdv_le P n
    simp only [dee]
    omega
def remI (P : List (Int × Int)) (r : Nat) (l : List Nat) : List Nat := l.filter (fun i => decide ((r : Int) < rdv P i))
def remL (P : List (Int × Int)) (r : Nat) : List (Int × Int) := (remI P r (List.range P.length)).map (fun i => P.getD i (0, 0))
def valid (L : Nat) (q : Int × Int) : Prop := 0 ≤ q.1 ∧ q.1 < L ∧ 0 ≤ q.2 ∧ q.2 < L
def waitA (seen : List (Int × Int)) : List (Int × Int) → List (Int × Int)
  | [] => []
  | q :: Q => if seen.any (fun p => tch p q) then q :: waitA (seen ++ [q]) Q else waitA (seen ++ [q]) Q
theorem set_getD {T : List Bool} {x : Nat} (y : Nat) (h : x < T.length) : (T.set y true).getD x false = (T.getD x false || decide (y = x)) := by
  rw [List.getD_eq_getElem?_getD, List.getD_eq_getElem?_getD, List.getElem?_set]
  by_cases e : y = x
  · subst e; simp [h]
  · simp [e]
theorem mrk_getD {T : List Bool} {x : Nat} (q : Int × Int) (h : x < T.length) : (mrk T q).getD x false = (T.getD x false || (decide (q.1.toNat = x) || decide (q.2.toNat = x))) := by
  unfold mrk
  rw [set_getD _ (by rw [List.length_set]; exact h), set_getD _ h, Bool.or_assoc]
theorem fold_getD : ∀ (S : List (Int × Int)) {T : List Bool} {x : Nat}, x < T.length → (S.foldl mrk T).getD x false = (T.getD x false || S.any (fun p => decide (p.1.toNat = x) || decide (p.2.toNat = x)))
  | [], T, x, h => by simp
  | q :: S, T, x, h => by
    rw [List.foldl_cons, fold_getD S (by rw [mrk_len]; exact h), mrk_getD q h, List.any_cons, Bool.or_assoc]
theorem hit_any {S : List (Int × Int)} {L : Nat} {q : Int × Int} (hS : ∀ p ∈ S, valid L p) (hq : valid L q) : hitB (S.foldl mrk (List.replicate L false)) q = S.any (fun p => tch p q) := by
  obtain ⟨q1, q2, q3, q4⟩ := hq
  have rep : ∀ x, (List.replicate L false).getD x false = false := fun x => by
    rw [List.getD_eq_getElem?_getD, List.getElem?_replicate]
    split <;> rfl
  unfold hitB
  rw [fold_getD S (by rw [List.length_replicate]; omega), fold_getD S (by rw [List.length_replicate]; omega), rep, rep, Bool.false_or, Bool.false_or]
  have e : ∀ p ∈ S, tch p q = ((decide (p.1.toNat = q.1.toNat) || decide (p.2.toNat = q.1.toNat)) || (decide (p.1.toNat = q.2.toNat) || decide (p.2.toNat = q.2.toNat))) := fun p hp => by
    obtain ⟨p1, p2, p3, p4⟩ := hS p hp
    unfold tch
    have a1 : decide (p.1.toNat = q.1.toNat) = decide (p.1 = q.1) := decide_eq_decide.2 ⟨fun h => by omega, fun h => by omega⟩
    have a2 : decide (p.2.toNat = q.1.toNat) = decide (p.2 = q.1) := decide_eq_decide.2 ⟨fun h => by omega, fun h => by omega⟩
    have a3 : decide (p.1.toNat = q.2.toNat) = decide (p.1 = q.2) := decide_eq_decide.2 ⟨fun h => by omega, fun h => by omega⟩
    have a4 : decide (p.2.toNat = q.2.toNat) = decide (p.2 = q.2) := decide_eq_decide.2 ⟨fun h => by omega, fun h => by omega⟩
    rw [a1, a2, a3, a4]
    cases decide (p.1 = q.1) <;> cases decide (p.1 = q.2) <;> cases decide (p.2 = q.1) <;> rfl
  clear q1 q2 q3 q4 rep
  induction S with
  | nil => rfl
  | cons p S ih =>
    rw [List.any_cons, List.any_cons, List.any_cons, e p List.mem_cons_self, ← ih (fun p hp => hS p (List.mem_cons_of_mem _ hp)) (fun p hp => e p (List.mem_cons_of_mem _ hp))]
    generalize (decide (p.1.toNat = q.1.toNat) || decide (p.2.toNat = q.1.toNat)) = a
    generalize (decide (p.1.toNat = q.2.toNat) || decide (p.2.toNat = q.2.toNat)) = b
    cases a <;> cases b <;> simp
theorem wait_A {L : Nat} : ∀ (Q S : List (Int × Int)), (∀ p ∈ S, valid L p) → (∀ p ∈ Q, valid L p) → waitL (S.foldl mrk (List.replicate L false)) Q = waitA S Q
  | [], S, hS, hQ => rfl
  | q :: Q, S, hS, hQ => by
    have hq := hQ q List.mem_cons_self
    have e : mrk (S.foldl mrk (List.replicate L false)) q = (S ++ [q]).foldl mrk (List.replicate L false) := by rw [List.foldl_append]; rfl
    have ih := wait_A Q (S ++ [q]) (fun p hp => by
      rcases List.mem_append.1 hp with h | h
      · exact hS p h
      · rw [List.mem_singleton.1 h]; exact hq) (fun p hp => hQ p (List.mem_cons_of_mem _ hp))
    simp only [waitL, waitA, hit_any hS hq, e, ih]
theorem wait_rem (P : List (Int × Int)) (r : Nat) : ∀ k a, waitA ((remI P r (List.range a)).map (fun i => P.getD i (0, 0))) ((remI P r (List.range' a k)).map (fun i => P.getD i (0, 0))) = (remI P (r + 1) (List.range' a k)).map (fun i => P.getD i (0, 0))
  | 0, a => rfl
  | k + 1, a => by
    have ih := wait_rem P r k (a + 1)
    rw [List.range'_succ]
    by_cases h : (r : Int) < rdv P a
    · have e1 : remI P r (a :: List.range' (a + 1) k) = a :: remI P r (List.range' (a + 1) k) := by unfold remI; rw [List.filter_cons_of_pos (by simpa using h)]
      have e2 : (remI P r (List.range a)).map (fun i => P.getD i (0, 0)) ++ [P.getD a (0, 0)] = (remI P r (List.range (a + 1))).map (fun i => P.getD i (0, 0)) := by
        unfold remI
        rw [List.range_succ, List.filter_append, List.map_append, List.filter_cons_of_pos (by simpa using h)]
        rfl
      rw [e1, List.map_cons]
      simp only [waitA]
      rw [e2, ih]
      have hc : ((remI P r (List.range a)).map (fun i => P.getD i (0, 0))).any (fun p => tch p (P.getD a (0, 0))) = decide (((r + 1 : Nat) : Int) < rdv P a) := by
        rw [Bool.eq_iff_iff, List.any_eq_true, decide_eq_true_iff, rdv_gt]
        constructor
        · rintro ⟨p, hp, ht⟩
          obtain ⟨j, hj, rfl⟩ := List.mem_map.1 hp
          unfold remI at hj
          obtain ⟨j1, j2⟩ := List.mem_filter.1 hj
          have j3 := List.mem_range.1 j1
          have j4 : (r : Int) < rdv P j := by simpa using j2
          exact .inr ⟨j, j3, ht, by omega⟩
        · rintro (h1 | ⟨j, j1, j2, j3⟩)
          · omega
          · exact ⟨_, List.mem_map.2 ⟨j, List.mem_filter.2 ⟨List.mem_range.2 j1, by simp; omega⟩, rfl⟩, j2⟩
      rw [hc]
      by_cases h2 : ((r + 1 : Nat) : Int) < rdv P a
      · rw [if_pos (by simpa using h2)]
        unfold remI
        rw [List.filter_cons_of_pos (by simpa using h2)]
        rfl
      · rw [if_neg (by simpa using h2)]
        unfold remI
        rw [List.filter_cons_of_neg (by simpa using h2)]
    · have e1 : remI P r (a :: List.range' (a + 1) k) = remI P r (List.range' (a + 1) k) := by unfold remI; rw [List.filter_cons_of_neg (by simpa using h)]
      have e2 : (remI P r (List.range a)).map (fun i => P.getD i (0, 0)) = (remI P r (List.range (a + 1))).map (fun i => P.getD i (0, 0)) := by
        unfold remI
        rw [List.range_succ, List.filter_append, List.filter_cons_of_neg (by simpa using h)]
        simp
      rw [e1, e2, ih]
      unfold remI
      rw [List.filter_cons_of_neg (by simp; omega)]
theorem rem_next {P : List (Int × Int)} {L : Nat} (hP : ∀ p ∈ P, valid L p) (r : Nat) : waitL (List.replicate L false) (remL P r) = remL P (r + 1) := by
  have hv : ∀ p ∈ remL P r, valid L p := fun p hp => by
    obtain ⟨j, hj, rfl⟩ := List.mem_map.1 hp
    have j1 := List.mem_range.1 (List.mem_filter.1 hj).1
    rw [List.getD_eq_getElem?_getD, List.getElem?_eq_getElem j1]
    exact hP _ (List.getElem_mem j1)
  have h1 := wait_A (L := L) (remL P r) [] (fun p hp => absurd hp List.not_mem_nil) hv
  have h2 := wait_rem P r P.length 0
  rw [← List.range_eq_range'] at h2
  exact h1.trans h2
theorem rem_zero (P : List (Int × Int)) : remL P 0 = P := by
  unfold remL remI
  rw [List.filter_eq_self.2 (fun i hi => by have := rdv_pos P i; simp; omega)]
  apply List.ext_getElem?
  intro i
  rw [List.getElem?_map]
  by_cases h : i < P.length
  · rw [List.getElem?_range h, List.getElem?_eq_getElem h]
    simp [List.getD_eq_getElem?_getD, h]
  · rw [List.getElem?_eq_none (by simp; omega), List.getElem?_eq_none (by omega)]
    rfl
theorem rem_valid {P : List (Int × Int)} {L : Nat} (hP : ∀ p ∈ P, valid L p) (r : Nat) : ∀ p ∈ remL P r, valid L p := fun p hp => by
  obtain ⟨j, hj, rfl⟩ := List.mem_map.1 hp
  have j1 := List.mem_range.1 (List.mem_filter.1 hj).1
  rw [List.getD_eq_getElem?_getD, List.getElem?_eq_getElem j1]
  exact hP _ (List.getElem_mem j1)
/-! ### The run of all rounds: what lies where the list lay, how many of it are left, the room, the places taken -/
def dSt (P : List (Int × Int)) (L : Nat) : Nat → List (Int × Int) × Nat × Nat × List Bool
  | 0 => (P, P.length, P.length, List.replicate L false)
  | r + 1 => ((rrS (dSt P L r).1 (List.replicate L false) (dSt P L r).2.1).1, (rrS (dSt P L r).1 (List.replicate L false) (dSt P L r).2.1).2.1, (dSt P L r).2.1, (rrS (dSt P L r).1 (List.replicate L false) (dSt P L r).2.1).2.2)
theorem dSt_ok {P : List (Int × Int)} {L : Nat} (hP : ∀ p ∈ P, valid L p) : ∀ r, (dSt P L r).1.length = P.length ∧ (dSt P L r).2.1 ≤ (dSt P L r).2.2.1 ∧ (dSt P L r).2.2.1 ≤ P.length ∧ (dSt P L r).2.2.2.length = L ∧ (dSt P L r).1.take (dSt P L r).2.1 = remL P r
  | 0 => ⟨rfl, Nat.le_refl _, Nat.le_refl _, List.length_replicate, by rw [rem_zero]; exact List.take_of_length_le (Nat.le_refl _)⟩
  | r + 1 => by
    obtain ⟨h1, h2, h3, h4, h5⟩ := dSt_ok hP r
    obtain ⟨k1, k2, k3⟩ := rr_len (dSt P L r).1 (List.replicate L false) (dSt P L r).2.1
    have hw := rr_wait (X := (dSt P L r).1) (T := List.replicate L false) (m := (dSt P L r).2.1) (by omega) _ (Nat.le_refl _)
    rw [List.drop_eq_nil_of_le (by rw [List.length_take]; omega), h5, rem_next hP] at hw
    simp only [waitL, List.append_nil] at hw
    simp only [dSt]
    exact ⟨k1.trans h1, k2, by omega, k3.trans List.length_replicate, hw⟩
theorem dSt_n {P : List (Int × Int)} {L : Nat} (hP : ∀ p ∈ P, valid L p) (r : Nat) : (dSt P L r).2.1 = (remI P r (List.range P.length)).length := by
  obtain ⟨h1, h2, h3, h4, h5⟩ := dSt_ok hP r
  have := congrArg List.length h5
  rw [List.length_take, Nat.min_eq_left (by omega)] at this
  rw [this]
  unfold remL
  rw [List.length_map]
theorem dSt_lt {P : List (Int × Int)} {L : Nat} (hP : ∀ p ∈ P, valid L p) {r : Nat} (h : 0 < (dSt P L r).2.1) : ∃ i, i < P.length ∧ (r : Int) < rdv P i := by
  rw [dSt_n hP] at h
  obtain ⟨i, hi⟩ := List.exists_mem_of_length_pos h
  obtain ⟨h1, h2⟩ := List.mem_filter.1 hi
  exact ⟨i, List.mem_range.1 h1, by simpa using h2⟩
theorem dSt_bd {P : List (Int × Int)} {L : Nat} (hP : ∀ p ∈ P, valid L p) {r : Nat} (h : 0 < (dSt P L r).2.1) : r < P.length := by
  obtain ⟨i, h1, h2⟩ := dSt_lt hP h
  have := rdv_le P i
  omega
theorem dSt_end {P : List (Int × Int)} {L : Nat} (hP : ∀ p ∈ P, valid L p) {r : Nat} (h : ∀ j, j < r → 0 < (dSt P L j).2.1) (h0 : (dSt P L r).2.1 = 0) : dee P P.length = r := by
  apply Int.le_antisymm
  · refine dee_le (Int.natCast_nonneg r) _ (fun i hi => ?_)
    rcases Int.lt_or_le (r : Int) (rdv P i) with hlt | hle
    · exfalso
      rw [dSt_n hP] at h0
      have : i ∈ remI P r (List.range P.length) := List.mem_filter.2 ⟨List.mem_range.2 hi, by simpa using hlt⟩
      rw [List.eq_nil_of_length_eq_zero h0] at this
      exact absurd this List.not_mem_nil
    · exact hle
  · cases r with
    | zero => exact (dee_bd P _).1
    | succ r =>
      obtain ⟨i, h1, h2⟩ := dSt_lt hP (h r (by omega))
      have := dee_ge P P.length i h1
      omega
theorem dSt_pair {P : List (Int × Int)} {L : Nat} (hP : ∀ p ∈ P, valid L p) (r : Nat) : ∀ i, i < (dSt P L r).2.1 → valid L ((dSt P L r).1.getD i (0, 0)) := fun i hi => by
  obtain ⟨h1, h2, h3, h4, h5⟩ := dSt_ok hP r
  have hm : (dSt P L r).1.getD i (0, 0) ∈ remL P r := by
    rw [← h5, List.getD_eq_getElem?_getD, List.getElem?_eq_getElem (by omega)]
    exact List.mem_take_iff_getElem.2 ⟨i, by omega, rfl⟩
  exact rem_valid hP r _ hm
end
end Go.Proofs.Ytchlehpjpgeejaa
