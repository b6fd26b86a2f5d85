/- Oracles of areSeen, isBalanced; the error of a plan. -/
import Derived.Test.YtmankoikpadkpaaL1
import Derived.Test.YtmankoikpadkpaaFt
namespace Go.Proofs.Ytmankoikpadkpaa
set_option linter.unusedVariables false
set_option linter.unusedSimpArgs false
open Go Ev
noncomputable section

def asS : List Vw → Option (Res1 × List Prop) := fun vs =>
  match vs with
  | [.lst n k c] => some (.val (.v (.bool (okS c n))), [IsI k n c, n ≤ 1000])
  | _ => none
def asO : OrcH := avOrc 44 [1] asS
theorem known_as : Known Try.prog (clsO asO) := known_av (fun vs r ps h hp => by
  unfold asS at h
  split at h
  · cases h
    obtain ⟨⟨rfl, L, rfl, rfl⟩, hn, -⟩ := hp
    refine ⟨⟨⟨_, cI_plain L⟩, trivial⟩, fun ys hy => ?_⟩
    obtain ⟨y1, rfl⟩ := len1 hy
    exact ⟨_, rfl, as_g y1 L hn⟩
  · cases h)
def ibS : List Vw → Option (Res1 × List Prop) := fun vs =>
  match vs with
  | [.lst n k c] => some (.val (.v (.bool (eqI (sumI c n) 0))), [IsI k n c, n ≤ 1000, okS c n = true])
  | _ => none
def ibO : OrcH := avOrc 45 [1] ibS
theorem known_ib : Known Try.prog (clsO ibO) := known_av (fun vs r ps h hp => by
  unfold ibS at h
  split at h
  · cases h
    obtain ⟨⟨rfl, L, rfl, rfl⟩, hn, hS, -⟩ := hp
    refine ⟨⟨⟨_, cI_plain L⟩, trivial⟩, fun ys hy => ?_⟩
    obtain ⟨y1, rfl⟩ := len1 hy
    exact ⟨_, rfl, ib_g y1 L hn (okS_all.1 hS)⟩
  · cases h)
def pcO : OrcH := orO asO ibO
theorem known_pc : Known Try.prog (clsO pcO) := known_or known_as known_ib
/-- The rows are as long as they ought to be; of what can be seen; in balance. -/
def lenAt (n : Int) (c : List AV) (i : Nat) : Prop := ((xlN c (i * 1) : Nat) : Int) = n
def seeAt (c : List AV) (i : Nat) : Prop := okS (xlC c (i * 1)) (xlN c (i * 1)) = true
def balAt (c : List AV) (i : Nat) : Prop := sumI (xlC c (i * 1)) (xlN c (i * 1)) = 0
open Classical in
/-- The error of a plan. -/
def plE (n : Int) (c : List AV) (m : Nat) : Int :=
  if m ≤ 4 then (if 1 ≤ n ∧ n ≤ 39 then (if ∀ i, i < m → lenAt n c i then (if ∀ i, i < m → seeAt c i then (if ∀ i, i < m → balAt c i then 0 else 16) else 3) else 15) else 2) else 6
section
variable {n : Int} {c : List AV} {m i : Nat}
theorem plE_many (h : ¬ m ≤ 4) : plE n c m = 6 := if_neg h
theorem plE_arg (h : m ≤ 4) (h2 : ¬ (1 ≤ n ∧ n ≤ 39)) : plE n c m = 2 := by unfold plE; rw [if_pos h, if_neg h2]
theorem plE_len (h : m ≤ 4) (h2 : 1 ≤ n ∧ n ≤ 39) (hi : i < m) (h3 : ¬ lenAt n c i) : plE n c m = 15 := by unfold plE; rw [if_pos h, if_pos h2, if_neg (fun k => h3 (k i hi))]
theorem plE_see (h : m ≤ 4) (h2 : 1 ≤ n ∧ n ≤ 39) (h3 : ∀ i, i < m → lenAt n c i) (hi : i < m) (h4 : ¬ seeAt c i) : plE n c m = 3 := by unfold plE; rw [if_pos h, if_pos h2, if_pos h3, if_neg (fun k => h4 (k i hi))]
theorem plE_bal (h : m ≤ 4) (h2 : 1 ≤ n ∧ n ≤ 39) (h3 : ∀ i, i < m → lenAt n c i) (h4 : ∀ i, i < m → seeAt c i) (hi : i < m) (h5 : ¬ balAt c i) : plE n c m = 16 := by unfold plE; rw [if_pos h, if_pos h2, if_pos h3, if_pos h4, if_neg (fun k => h5 (k i hi))]
theorem plE_ok (h : m ≤ 4) (h2 : 1 ≤ n ∧ n ≤ 39) (h3 : ∀ i, i < m → lenAt n c i) (h4 : ∀ i, i < m → seeAt c i) (h5 : ∀ i, i < m → balAt c i) : plE n c m = 0 := by unfold plE; rw [if_pos h, if_pos h2, if_pos h3, if_pos h4, if_pos h5]
theorem plE_zero (h : plE n c m = 0) : m ≤ 4 ∧ (1 ≤ n ∧ n ≤ 39) ∧ (∀ i, i < m → lenAt n c i) ∧ (∀ i, i < m → seeAt c i) ∧ (∀ i, i < m → balAt c i) := by
  unfold plE at h
  split at h
  · split at h
    · split at h
      · split at h
        · split at h
          · exact ⟨‹_›, ‹_›, ‹_›, ‹_›, ‹_›⟩
          · omega
        · omega
      · omega
    · omega
  · omega
end
theorem cRw_isI {R : List (Value × List Int)} {i : Nat} (h : i < R.length) : IsI 1 (xlN (cRw R) (i * 1)) (xlC (cRw R) (i * 1)) := by
  rw [Nat.mul_one]
  exact ⟨rfl, rwL R i, cRw_c h, cRw_n h⟩

end
end Go.Proofs.Ytmankoikpadkpaa
