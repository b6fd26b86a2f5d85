import Derived.Test.YtchlehpjpgeejaaQ0
/- Lists of numbers, programmes and what they make of rows. -/
namespace Go.Proofs.Ytchlehpjpgeejaa
set_option linter.unusedVariables false
set_option linter.unusedSimpArgs false
open Go Ev
noncomputable section
def cI : List Int → List AV
  | [] => []
  | n :: l => .v (.int .i64 n) :: cI l
def cIv : List Int → List Value
  | [] => []
  | n :: l => .int .i64 n :: cIv l
theorem cI_plain : ∀ L : List Int, plainL (cI L) = some (cIv L)
  | [] => rfl
  | n :: l => by simp only [cI, plainL, plain, cI_plain l, cIv]
theorem cI_len : ∀ L : List Int, (cI L).length = L.length
  | [] => rfl
  | n :: l => by simp only [cI, List.length_cons, cI_len l]
theorem cI_at : ∀ (L : List Int) (i : Nat) (h : i < L.length), (cI L)[i]? = some (.v (.int .i64 (L[i])))
  | [], i, h => by simp at h
  | x :: l, 0, h => rfl
  | x :: l, i + 1, h => cI_at l i (by simpa using h)
theorem cI_int {L : List Int} {i : Nat} (h : i < L.length) : intAt (cI L) i = L[i] := intAt_of (cI_at L i h)
theorem cI_intD {L : List Int} {i : Nat} (h : i < L.length) : intAt (cI L) i = L.getD i 0 := by rw [cI_int h, List.getD_eq_getElem?_getD, List.getElem?_eq_getElem h]; rfl
theorem cI_load {L : List Int} {i : Nat} (h : i < L.length) (t : TypeId) {d : TypeDesc} (hd : Try.prog.underlying t = some d) (ha : aggD d = false) : loadL Try.prog (cI L) i t = some (.v (.int .i64 (intAt (cI L) i))) := by
  simp only [loadL, hd, ha, getL_eq, cI_at L i h, cI_int h]
theorem cI_one : ∀ L : List Int, allOne (cI L) = true
  | [] => rfl
  | n :: l => by simp only [cI, allOne]; exact cI_one l
theorem cI_map : ∀ L : List Int, cI L = L.map (fun n => .v (.int .i64 n))
  | [] => rfl
  | n :: l => by simp only [cI, List.map_cons, cI_map l]
theorem cI_set {L : List Int} {i : Nat} (h : i < L.length) (x : Int) : splice (cI L) i [.v (.int .i64 x)] = cI (L.set i x) := by
  rw [cI_map, cI_map]
  unfold splice
  apply List.ext_getElem?
  intro j
  simp only [List.length_singleton]
  by_cases h1 : j < i
  · rw [List.getElem?_append_left (by rw [List.length_take, List.length_map]; omega), List.getElem?_take, if_pos h1, List.getElem?_map, List.getElem?_map, List.getElem?_set_ne (by omega)]
  · rw [List.getElem?_append_right (by rw [List.length_take, List.length_map]; omega), List.length_take, List.length_map, Nat.min_eq_left (by omega)]
    by_cases h2 : j = i
    · subst h2
      simp [h]
    · rw [List.getElem?_append_right (by simp; omega), List.getElem?_drop, List.getElem?_map, List.getElem?_map, List.getElem?_set_ne (by omega)]
      congr 2
      simp only [List.length_singleton]
      omega
theorem cI_app (L M : List Int) : cI L ++ cI M = cI (L ++ M) := by rw [cI_map, cI_map, cI_map, List.map_append]
theorem cI_rep : ∀ n : Nat, repL n [AV.v (.int .i64 0)] = cI (List.replicate n 0)
  | 0 => rfl
  | n + 1 => by
    show _ ++ repL n _ = _
    rw [cI_rep n]
    rfl
/-! ### Programmes -/
def pairAt (n : Int) (c : List AV) (i : Nat) : Prop := 0 ≤ intAt c (i * 2 + 0) ∧ intAt c (i * 2 + 0) < intAt c (i * 2 + 1) ∧ intAt c (i * 2 + 1) < n
def okP (n : Int) (c : List AV) (m : Nat) : Bool := decide (∀ i, i < m → 0 ≤ intAt c (i * 2 + 0) ∧ intAt c (i * 2 + 0) < intAt c (i * 2 + 1) ∧ intAt c (i * 2 + 1) < n)
theorem okP_all {n : Int} {c : List AV} {m : Nat} : okP n c m = true ↔ ∀ i, i < m → pairAt n c i := by
  unfold okP pairAt
  rw [decide_eq_true_eq]
def prE (n : Int) (c : List AV) (m : Nat) : Int := if 2 ≤ n ∧ n ≤ 12 then (if m ≤ 80 then (match okP n c m with | true => 0 | false => 3) else 6) else 2
def cmpx (l : List Int) (q : Int × Int) : List Int := if l.getD q.1.toNat 0 < l.getD q.2.toNat 0 then (l.set q.1.toNat (l.getD q.2.toNat 0)).set q.2.toNat (l.getD q.1.toNat 0) else l
def madeK (P : List (Int × Int)) (l : List Int) (i : Nat) : List Int := (P.take i).foldl cmpx l
theorem cmpx_len (l : List Int) (q : Int × Int) : (cmpx l q).length = l.length := by
  unfold cmpx
  split <;> simp
theorem madeK_len (P : List (Int × Int)) (l : List Int) (i : Nat) : (madeK P l i).length = l.length := by
  unfold madeK
  generalize P.take i = Q
  induction Q generalizing l with
  | nil => rfl
  | cons q Q ih => simp only [List.foldl_cons, ih, cmpx_len]
theorem madeK_next {P : List (Int × Int)} {l : List Int} {i : Nat} (h : i < P.length) : madeK P l (i + 1) = cmpx (madeK P l i) P[i] := by
  unfold madeK
  rw [List.take_add_one, List.getElem?_eq_getElem h, Option.toList_some, List.foldl_append]
  rfl
end
end Go.Proofs.Ytchlehpjpgeejaa
