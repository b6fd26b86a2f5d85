import Derived.Test.YtbdjllgngblfoaaR3
import Derived.Test.YtbdjllgngblfoaaUz2
import Derived.Test.YtbdjllgngblfoaaVe
import Derived.Test.YtbdjllgngblfoaaVf
namespace Go.Proofs.Ytbdjllgngblfoaa
set_option linter.unusedVariables false
set_option linter.unusedSimpArgs false
open Go.RowKit

/-- What Path is to return. -/
def pathR (a b : Int) : List Int × Int := if Fr a b then (pathL 64 a b, 0) else ([], 2)
theorem pathR_len (a b : Int) : (pathR a b).1.length ≤ 60 := by
  unfold pathR
  split
  · rename_i h; exact (path_fr h).2.1
  · simp

theorem Path_all (a b : Int) (M : List Int) (k : Int) (h : pathR a b = (M, k)) (w : World) :
    Calls Try.prog 23 #[.agg #[.int .i64 a, .int .i64 b]] w fun e w' => (∃ v, e = .returned (.tuple #[v, .int .i64 k]) ∧ Sl w' v M) ∧ Below w.heap.size w w' := by
  unfold pathR at h
  by_cases hF : Fr a b
  · rw [if_pos hF] at h
    obtain ⟨rfl, rfl⟩ := (Prod.mk.injEq ..).mp h
    exact Path_ok a b hF w
  · rw [if_neg hF] at h
    obtain ⟨rfl, rfl⟩ := (Prod.mk.injEq ..).mp h
    exact (Path_bad a b hF w).mono fun e w' hh => ⟨⟨_, hh.1, .inl ⟨rfl, rfl⟩⟩, hh.2⟩
theorem PathR_all (a b : Int) (M : List Int) (k : Int) (h : pathR a b = (M, k)) (w : World) :
    Calls Try.prog 24 #[.agg #[.int .i64 a, .int .i64 b]] w fun e w' => (∃ v, e = .returned (.tuple #[v, .int .i64 k]) ∧ Sl w' v M) ∧ Below w.heap.size w w' := by
  unfold pathR at h
  by_cases hF : Fr a b
  · rw [if_pos hF] at h
    obtain ⟨rfl, rfl⟩ := (Prod.mk.injEq ..).mp h
    exact PathR_ok a b hF w
  · rw [if_neg hF] at h
    obtain ⟨rfl, rfl⟩ := (Prod.mk.injEq ..).mp h
    exact (PathR_bad a b hF w).mono fun e w' hh => ⟨⟨_, hh.1, .inl ⟨rfl, rfl⟩⟩, hh.2⟩

theorem Follow_all (v : Value) (L : List Int) (x y k : Int) (h : folR L = ((x, y), k)) (hmax : L.length ≤ 4000000000000000000) (w : World) (hs : Sl w v L) :
    Calls Try.prog 25 #[v] w fun e w' => e = .returned (.tuple #[.agg #[.int .i64 x, .int .i64 y], .int .i64 k]) ∧ Below w.heap.size w w' := by
  rw [← fol_eq] at h
  by_cases hm : L.length = 0 ∨ 64 < L.length
  · have := h
    unfold resF at this
    rw [if_pos hm] at this
    obtain ⟨⟨rfl, rfl⟩, rfl⟩ : (x = 0 ∧ y = 0) ∧ k = 6 := by simpa [eq_comm] using this
    exact Follow_many v L hm hmax w hs
  · have h1 : 1 ≤ L.length := by omega
    have h2 : L.length ≤ 64 := by omega
    unfold resF at h
    rw [if_neg hm] at h
    by_cases hP : PthOK L
    · have hQ := hP
      unfold PthOK at hQ
      rw [if_pos hQ] at h
      refine Follow_ok v L h1 h2 hP x y k ?_ w hs
      exact h
    · have hQ := hP
      unfold PthOK at hQ
      rw [if_neg hQ] at h
      obtain ⟨⟨rfl, rfl⟩, rfl⟩ : (x = 0 ∧ y = 0) ∧ k = 2 := by simpa [eq_comm] using h
      exact Follow_bad v L h1 h2 hP w hs

theorem FollowR_all (v : Value) (L : List Int) (x y k : Int) (h : folR L = ((x, y), k)) (hmax : L.length ≤ 4000000000000000000) (w : World) (hs : Sl w v L) :
    Calls Try.prog 26 #[v] w fun e w' => e = .returned (.tuple #[.agg #[.int .i64 x, .int .i64 y], .int .i64 k]) ∧ Below w.heap.size w w' := by
  by_cases hm : L.length = 0 ∨ 64 < L.length
  · have := h
    unfold folR at this
    rw [if_pos hm] at this
    obtain ⟨⟨rfl, rfl⟩, rfl⟩ : (x = 0 ∧ y = 0) ∧ k = 6 := by simpa [eq_comm] using this
    exact FollowR_many v L hm hmax w hs
  · exact FollowR_ok v L (by omega) (by omega) x y k h w hs

theorem Follow_empty (o : Option Addr) (cap : Nat) (w : World) :
    Calls Try.prog 25 #[.slice o 0 cap] w fun e w' => e = .returned (.tuple #[.agg #[.int .i64 0, .int .i64 0], .int .i64 6]) ∧ Below w.heap.size w w' := by
  go_enter Try.func25, Try.ntmps25
  go_wp2
  exact bodyPost_ret (v := .tuple #[.agg #[.int .i64 0, .int .i64 0], .int .i64 6]) (by simp [results, Try.results25, go_sem]) rfl ⟨rfl, (by repeat (first | exact Below.refl _ _ | (refine Below.alloc ?_ (by first | omega | (simp; done) | (simp; omega)) _) | (refine Below.setCell ?_ (by first | omega | (simp; done) | (simp; omega)) _) | refine Below.drew ?_))⟩
theorem FollowR_empty (o : Option Addr) (cap : Nat) (w : World) :
    Calls Try.prog 26 #[.slice o 0 cap] w fun e w' => e = .returned (.tuple #[.agg #[.int .i64 0, .int .i64 0], .int .i64 6]) ∧ Below w.heap.size w w' := by
  go_enter Try.func26, Try.ntmps26
  go_wp2
  exact bodyPost_ret (v := .tuple #[.agg #[.int .i64 0, .int .i64 0], .int .i64 6]) (by simp [results, Try.results26, go_sem]) rfl ⟨rfl, (by repeat (first | exact Below.refl _ _ | (refine Below.alloc ?_ (by first | omega | (simp; done) | (simp; omega)) _) | (refine Below.setCell ?_ (by first | omega | (simp; done) | (simp; omega)) _) | refine Below.drew ?_))⟩

/-- A list of numbers, an empty one wherever it lies. -/
def SlE (w : World) (v : Value) (L : List Int) : Prop := Sl w v L ∨ (L = [] ∧ ∃ o cap, v = .slice o 0 cap)
theorem SlE.next {w w' : World} {v : Value} {L : List Int} (h : SlE w v L) (hb : Below w.heap.size w w') : SlE w' v L := by
  rcases h with h | h
  · exact .inl (h.next hb)
  · exact .inr h
theorem SlE.form {w : World} {v : Value} {L : List Int} (h : SlE w v L) : ∃ o cap, v = .slice o L.length cap := by
  rcases h with h | ⟨rfl, o, cap, rfl⟩
  · obtain ⟨o, cap, rfl, _⟩ := h.form
    exact ⟨o, cap, rfl⟩
  · exact ⟨o, cap, rfl⟩
theorem slE_of_K {w : World} {v : Value} {L : List Int} (h : SlK .i64 w v L) : SlE w v L := by
  rcases h with h | h
  · exact .inr h
  · exact .inl (.inr h)
theorem Follow_allE (v : Value) (L : List Int) (x y k : Int) (h : folR L = ((x, y), k)) (hmax : L.length ≤ 4000000000000000000) (w : World) (hs : SlE w v L) :
    Calls Try.prog 25 #[v] w fun e w' => e = .returned (.tuple #[.agg #[.int .i64 x, .int .i64 y], .int .i64 k]) ∧ Below w.heap.size w w' := by
  rcases hs with hs | ⟨rfl, o, cap, rfl⟩
  · exact Follow_all v L x y k h hmax w hs
  · obtain ⟨⟨rfl, rfl⟩, rfl⟩ : (x = 0 ∧ y = 0) ∧ k = 6 := by simpa [folR, eq_comm] using h
    exact Follow_empty o cap w
theorem FollowR_allE (v : Value) (L : List Int) (x y k : Int) (h : folR L = ((x, y), k)) (hmax : L.length ≤ 4000000000000000000) (w : World) (hs : SlE w v L) :
    Calls Try.prog 26 #[v] w fun e w' => e = .returned (.tuple #[.agg #[.int .i64 x, .int .i64 y], .int .i64 k]) ∧ Below w.heap.size w w' := by
  rcases hs with hs | ⟨rfl, o, cap, rfl⟩
  · exact FollowR_all v L x y k h hmax w hs
  · obtain ⟨⟨rfl, rfl⟩, rfl⟩ : (x = 0 ∧ y = 0) ∧ k = 6 := by simpa [folR, eq_comm] using h
    exact FollowR_empty o cap w

set_option maxRecDepth 100000 in
set_option maxHeartbeats 8000000 in
theorem Paths_any (a b : Int) (v : Value) (L : List Int) (hmax : L.length ≤ 9223372036854775807) (w : World) (hs : SlE w v L) : Calls Try.prog 5 #[.agg #[.int .i64 a, .int .i64 b], v] w fun e w' => e = .returned (.bool true) ∧ Below w.heap.size w w' := by
  obtain ⟨o, cap, rfl⟩ := hs.form
  by_cases hl : L.length ≤ 70
  · have hl' : decide ((70 : Int) < L.length) = false := by simp; omega
    obtain ⟨⟨M, k0⟩, hp⟩ : ∃ q, pathR a b = q := ⟨_, rfl⟩
    have hM : M.length ≤ 60 := by have := pathR_len a b; rw [hp] at this; exact this
    obtain ⟨⟨⟨x, y⟩, k1⟩, hf⟩ : ∃ q, folR L = q := ⟨_, rfl⟩
    have HP := Lib.hid hp
    have HF := Lib.hid hf
    clear hp hf
    go_enter Try.func5, Try.ntmps5
    go_wp2_with fail
    replace hs := hs.next (below_alloc w (.cells #[.int .i64 a, .int .i64 b] 23))
    refine (Path_all a b M k0 HP.out _).mono ?_
    rintro e w1 ⟨⟨v1, rfl, hp1⟩, hb1⟩
    have hx : Below w.heap.size w w1 := (((Below.refl _ _).alloc (Nat.le_refl _) _) : Below w.heap.size w (w.alloc (.cells #[.int .i64 a, .int .i64 b] 23))).trans (hb1.mono (by simp))
    have f1_0 : w1.cell? ⟨w.heap.size, 0, none⟩ = some (.int .i64 a) := (hb1.cell (p := ⟨w.heap.size, 0, none⟩) (by simp)).trans (by simp [go_sem])
    have f1_1 : w1.cell? ⟨w.heap.size, 1, none⟩ = some (.int .i64 b) := (hb1.cell (p := ⟨w.heap.size, 1, none⟩) (by simp)).trans (by simp [go_sem])
    have l1 : w.heap.size < w1.heap.size := by have := hb1.size; simp at this; omega
    replace hs := hs.next hb1
    have hbel : Below w.heap.size w w1 := hx
    clear hx
    clear hb1
    go_wp2_with fail
    refine (PathR_all a b M k0 HP.out _).mono ?_
    rintro e w2 ⟨⟨v2, rfl, hp2⟩, hb2⟩
    replace f1_0 : w2.cell? ⟨w.heap.size, 0, none⟩ = some (.int .i64 a) := (hb2.cell (p := ⟨w.heap.size, 0, none⟩) l1).trans f1_0
    replace f1_1 : w2.cell? ⟨w.heap.size, 1, none⟩ = some (.int .i64 b) := (hb2.cell (p := ⟨w.heap.size, 1, none⟩) l1).trans f1_1
    replace l1 : w.heap.size < w2.heap.size := Nat.lt_of_lt_of_le l1 hb2.size
    replace hs := hs.next hb2
    replace hp1 := hp1.next hb2
    replace hbel : Below w.heap.size w w2 := hbel.trans (hb2.mono hbel.size)
    clear hb2
    go_wp2_with fail
    refine (Follow_allE _ L x y k1 HF.out (by omega) _ hs).mono ?_
    rintro e w3 ⟨rfl, hb3⟩
    replace f1_0 : w3.cell? ⟨w.heap.size, 0, none⟩ = some (.int .i64 a) := (hb3.cell (p := ⟨w.heap.size, 0, none⟩) l1).trans f1_0
    replace f1_1 : w3.cell? ⟨w.heap.size, 1, none⟩ = some (.int .i64 b) := (hb3.cell (p := ⟨w.heap.size, 1, none⟩) l1).trans f1_1
    replace l1 : w.heap.size < w3.heap.size := Nat.lt_of_lt_of_le l1 hb3.size
    replace hs := hs.next hb3
    replace hp1 := hp1.next hb3
    replace hp2 := hp2.next hb3
    replace hbel : Below w.heap.size w w3 := hbel.trans (hb3.mono hbel.size)
    clear hb3
    go_wp2_with fail
    refine (FollowR_allE _ L x y k1 HF.out (by omega) _ (hs.next (below_alloc _ _))).mono ?_
    rintro e w4 ⟨rfl, hb4⟩
    have hx : Below w3.heap.size w3 w4 := (((Below.refl _ _).alloc (Nat.le_refl _) _) : Below w3.heap.size w3 (w3.alloc (.cells #[.int .i64 x, .int .i64 y] 23))).trans (hb4.mono (by simp))
    have f2_0 : w4.cell? ⟨w3.heap.size, 0, none⟩ = some (.int .i64 x) := (hb4.cell (p := ⟨w3.heap.size, 0, none⟩) (by simp)).trans (by simp [go_sem])
    have f2_1 : w4.cell? ⟨w3.heap.size, 1, none⟩ = some (.int .i64 y) := (hb4.cell (p := ⟨w3.heap.size, 1, none⟩) (by simp)).trans (by simp [go_sem])
    have l2 : w3.heap.size < w4.heap.size := by have := hb4.size; simp at this; omega
    replace f1_0 : w4.cell? ⟨w.heap.size, 0, none⟩ = some (.int .i64 a) := (hx.cell (p := ⟨w.heap.size, 0, none⟩) l1).trans f1_0
    replace f1_1 : w4.cell? ⟨w.heap.size, 1, none⟩ = some (.int .i64 b) := (hx.cell (p := ⟨w.heap.size, 1, none⟩) l1).trans f1_1
    replace l1 : w.heap.size < w4.heap.size := Nat.lt_of_lt_of_le l1 hx.size
    replace hs := hs.next hx
    replace hp1 := hp1.next hx
    replace hp2 := hp2.next hx
    replace hbel : Below w.heap.size w w4 := hbel.trans (hx.mono hbel.size)
    clear hx
    clear hb4
    go_wp2_with fail
    refine (longs_any _ _ M M true (by simp) (by omega) (by omega) _ (hp1.next (below_alloc _ _)) (hp2.next (below_alloc _ _))).mono ?_
    rintro e w5 ⟨rfl, hb5⟩
    have hx : Below w4.heap.size w4 w5 := (((Below.refl _ _).alloc (Nat.le_refl _) _) : Below w4.heap.size w4 (w4.alloc (.cells #[.int .i64 x, .int .i64 y] 23))).trans (hb5.mono (by simp))
    have f3_0 : w5.cell? ⟨w4.heap.size, 0, none⟩ = some (.int .i64 x) := (hb5.cell (p := ⟨w4.heap.size, 0, none⟩) (by simp)).trans (by simp [go_sem])
    have f3_1 : w5.cell? ⟨w4.heap.size, 1, none⟩ = some (.int .i64 y) := (hb5.cell (p := ⟨w4.heap.size, 1, none⟩) (by simp)).trans (by simp [go_sem])
    have l3 : w4.heap.size < w5.heap.size := by have := hb5.size; simp at this; omega
    replace f1_0 : w5.cell? ⟨w.heap.size, 0, none⟩ = some (.int .i64 a) := (hx.cell (p := ⟨w.heap.size, 0, none⟩) l1).trans f1_0
    replace f1_1 : w5.cell? ⟨w.heap.size, 1, none⟩ = some (.int .i64 b) := (hx.cell (p := ⟨w.heap.size, 1, none⟩) l1).trans f1_1
    replace f2_0 : w5.cell? ⟨w3.heap.size, 0, none⟩ = some (.int .i64 x) := (hx.cell (p := ⟨w3.heap.size, 0, none⟩) l2).trans f2_0
    replace f2_1 : w5.cell? ⟨w3.heap.size, 1, none⟩ = some (.int .i64 y) := (hx.cell (p := ⟨w3.heap.size, 1, none⟩) l2).trans f2_1
    replace l1 : w.heap.size < w5.heap.size := Nat.lt_of_lt_of_le l1 hx.size
    replace l2 : w3.heap.size < w5.heap.size := Nat.lt_of_lt_of_le l2 hx.size
    replace hs := hs.next hx
    replace hp1 := hp1.next hx
    replace hp2 := hp2.next hx
    replace hbel : Below w.heap.size w w5 := hbel.trans (hx.mono hbel.size)
    clear hx
    clear hb5
    go_wp2_with fail
    refine (Works_any _).mono ?_
    rintro e w6 ⟨rfl, hb6⟩
    replace f1_0 : w6.cell? ⟨w.heap.size, 0, none⟩ = some (.int .i64 a) := (hb6.cell (p := ⟨w.heap.size, 0, none⟩) l1).trans f1_0
    replace f1_1 : w6.cell? ⟨w.heap.size, 1, none⟩ = some (.int .i64 b) := (hb6.cell (p := ⟨w.heap.size, 1, none⟩) l1).trans f1_1
    replace f2_0 : w6.cell? ⟨w3.heap.size, 0, none⟩ = some (.int .i64 x) := (hb6.cell (p := ⟨w3.heap.size, 0, none⟩) l2).trans f2_0
    replace f2_1 : w6.cell? ⟨w3.heap.size, 1, none⟩ = some (.int .i64 y) := (hb6.cell (p := ⟨w3.heap.size, 1, none⟩) l2).trans f2_1
    replace f3_0 : w6.cell? ⟨w4.heap.size, 0, none⟩ = some (.int .i64 x) := (hb6.cell (p := ⟨w4.heap.size, 0, none⟩) l3).trans f3_0
    replace f3_1 : w6.cell? ⟨w4.heap.size, 1, none⟩ = some (.int .i64 y) := (hb6.cell (p := ⟨w4.heap.size, 1, none⟩) l3).trans f3_1
    replace l1 : w.heap.size < w6.heap.size := Nat.lt_of_lt_of_le l1 hb6.size
    replace l2 : w3.heap.size < w6.heap.size := Nat.lt_of_lt_of_le l2 hb6.size
    replace l3 : w4.heap.size < w6.heap.size := Nat.lt_of_lt_of_le l3 hb6.size
    replace hs := hs.next hb6
    replace hp1 := hp1.next hb6
    replace hp2 := hp2.next hb6
    replace hbel : Below w.heap.size w w6 := hbel.trans (hb6.mono hbel.size)
    clear hb6
    go_wp2_with fail
    go_ret
    exact ⟨rfl, hbel⟩
  · have hl' : decide ((70 : Int) < L.length) = true := by simp; omega
    go_enter Try.func5, Try.ntmps5
    go_wp2_with fail
    refine (Works_any _).mono ?_
    rintro e w1 ⟨rfl, hb1⟩
    go_wp2_with fail
    go_ret
    exact ⟨rfl, ((Below.refl _ _).alloc (Nat.le_refl _) _).trans (hb1.mono (by simp))⟩
end Go.Proofs.Ytbdjllgngblfoaa
