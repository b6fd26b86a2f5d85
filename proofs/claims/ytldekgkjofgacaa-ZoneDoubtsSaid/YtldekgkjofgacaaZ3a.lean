import Derived.Test.YtldekgkjofgacaaZ1
import Derived.Test.YtldekgkjofgacaaZ2
import Derived.Test.YtldekgkjofgacaaFt
/- Oracles of areAngles, areWeights, areRanges; the error of a lamp. -/
namespace Go.Proofs.Ytldekgkjofgacaa
set_option linter.unusedVariables false
set_option linter.unusedSimpArgs false
open Go Ev
noncomputable section
def IsP (k n : Nat) (c : List AV) : Prop := k = 2 ∧ ∃ L, c = cR L ∧ n = L.length
def aaS : List Vw → Option (Res1 × List Prop) := fun vs =>
  match vs with
  | [.lst n k c] => some (.val (.v (.bool (allB (angAt c) n))), [IsI k n c, n ≤ 1000])
  | _ => none
def aaO : OrcH := avOrc 49 [1] aaS
theorem known_aa : Known Try.prog (clsO aaO) := known_av (fun vs r ps h hp => by
  unfold aaS at h
  split at h
  · cases h
    obtain ⟨⟨rfl, L, rfl, rfl⟩, hn, -⟩ := hp
    refine ⟨⟨⟨_, cI_plain L⟩, trivial⟩, fun ys hy => ?_⟩
    obtain ⟨y1, rfl⟩ := len1 hy
    exact ⟨_, rfl, aa_g y1 L hn⟩
  · cases h)
def awS : List Vw → Option (Res1 × List Prop) := fun vs =>
  match vs with
  | [.lst n k c] => some (.val (.v (.bool (allB (wgtAt c) n))), [IsI k n c, n ≤ 1000])
  | _ => none
def awO : OrcH := avOrc 52 [1] awS
theorem known_aw : Known Try.prog (clsO awO) := known_av (fun vs r ps h hp => by
  unfold awS at h
  split at h
  · cases h
    obtain ⟨⟨rfl, L, rfl, rfl⟩, hn, -⟩ := hp
    refine ⟨⟨⟨_, cI_plain L⟩, trivial⟩, fun ys hy => ?_⟩
    obtain ⟨y1, rfl⟩ := len1 hy
    exact ⟨_, rfl, awt_g y1 L hn⟩
  · cases h)
def arS : List Vw → Option (Res1 × List Prop) := fun vs =>
  match vs with
  | [.val v, .lst n k c] => match numV v with
    | some m => some (.val (.v (.bool (allB (rngAt m c) n))), [IsP k n c, n ≤ 1000])
    | none => none
  | _ => none
def arO : OrcH := avOrc 51 [0, 2] arS
theorem known_ar : Known Try.prog (clsO arO) := known_av (fun vs r ps h hp => by
  unfold arS at h
  split at h
  · split at h
    · rename_i m e
      cases h
      obtain ⟨⟨rfl, L, rfl, rfl⟩, hn, -⟩ := hp
      refine ⟨⟨⟨_, cR_plain L⟩, trivial⟩, fun ys hy => ?_⟩
      obtain ⟨y1, y2, rfl⟩ := len2 hy
      rw [numV_eq e]
      exact ⟨_, rfl, ar_g m y2 L hn⟩
    · cases h
  · cases h)
def ckO : OrcH := orO aaO (orO awO arO)
theorem known_ck : Known Try.prog (clsO ckO) := known_or known_aa (known_or known_aw known_ar)
def degI (A : List AV) (n : Nat) : Int := intAt A ((n - 1) * 1) - intAt A (0 * 1) + 1
def eqP (A : List AV) (n nl nf nw : Nat) : Prop := nl = n ∧ nf + 1 = n ∧ (nw : Int) = degI A n
open Classical in
def clE (A : List AV) (n : Nat) (L : List AV) (nl nf : Nat) (W : List AV) (nw : Nat) : Int :=
  if 2 ≤ n ∧ n ≤ 10 then (if ∀ i, i < n → angAt A i then (if eqP A n nl nf nw then (if (∀ i, i < nl → rngAt 200 L i) ∧ (∀ i, i < nw → wgtAt W i) then 0 else 2) else 15) else 2) else 6
section
variable {A L W : List AV} {n nl nf nw i : Nat}
theorem clE_many (h : ¬ (2 ≤ n ∧ n ≤ 10)) : clE A n L nl nf W nw = 6 := if_neg h
theorem clE_ang (h : 2 ≤ n ∧ n ≤ 10) (h2 : ¬ ∀ i, i < n → angAt A i) : clE A n L nl nf W nw = 2 := by unfold clE; rw [if_pos h, if_neg h2]
theorem clE_eq (h : 2 ≤ n ∧ n ≤ 10) (h2 : ∀ i, i < n → angAt A i) (h3 : ¬ eqP A n nl nf nw) : clE A n L nl nf W nw = 15 := by unfold clE; rw [if_pos h, if_pos h2, if_neg h3]
theorem clE_arg (h : 2 ≤ n ∧ n ≤ 10) (h2 : ∀ i, i < n → angAt A i) (h3 : eqP A n nl nf nw) (h4 : ¬ ((∀ i, i < nl → rngAt 200 L i) ∧ (∀ i, i < nw → wgtAt W i))) : clE A n L nl nf W nw = 2 := by unfold clE; rw [if_pos h, if_pos h2, if_pos h3, if_neg h4]
theorem clE_ok (h : 2 ≤ n ∧ n ≤ 10) (h2 : ∀ i, i < n → angAt A i) (h3 : eqP A n nl nf nw) (h4 : ∀ i, i < nl → rngAt 200 L i) (h5 : ∀ i, i < nw → wgtAt W i) : clE A n L nl nf W nw = 0 := by unfold clE; rw [if_pos h, if_pos h2, if_pos h3, if_pos ⟨h4, h5⟩]
theorem clE_zero (h : clE A n L nl nf W nw = 0) : (2 ≤ n ∧ n ≤ 10) ∧ (∀ i, i < n → angAt A i) ∧ eqP A n nl nf nw ∧ (∀ i, i < nl → rngAt 200 L i) ∧ (∀ i, i < nw → wgtAt W i) := by
  unfold clE at h
  split at h
  · split at h
    · split at h
      · split at h
        · rename_i h4
          exact ⟨‹_›, ‹_›, ‹_›, h4.1, h4.2⟩
        · omega
      · omega
    · omega
  · omega
end
theorem ang_bd {A : List AV} {n : Nat} (h : ∀ i, i < n → angAt A i) : ∀ i, i < n → 0 ≤ intAt A (i * 1) ∧ intAt A (i * 1) ≤ 90
  | 0, hi => by have := h 0 hi; simp only [angAt, bfI] at this; omega
  | i + 1, hi => by
    have h1 := ang_bd h i (by omega)
    have := h (i + 1) hi
    simp only [angAt, bfI] at this
    omega
theorem nbb_lamp {K : Nat} {ya yl yf yw : Value} {A : List Int} {L : List (Int × Int)} {B : List Bool} {W : List Int} {a l f w : Nat} {t : TypeId} : NBB K (.cells [.xl ya a 1 (cI A), .xl yl l 2 (cR L), .xl yf f 1 (cB B), .xl yw w 1 (cI W)] t) := nbb_cells (fun v hv => by
  simp only [List.mem_cons, List.not_mem_nil, or_false] at hv
  rcases hv with rfl | rfl | rfl | rfl
  · exact nb_xl (cI_plain A)
  · exact nb_xl (cR_plain L)
  · exact nb_xl (cB_plain B)
  · exact nb_xl (cI_plain W))
theorem goes_drop {sz : Nat} {c : Code} {T T' : Ev.Lit} {w0 : BaseW} {Q : Exit → Act → World → Prop} (h1 : T.fs.s.n = T'.n) (h2 : T.fs.df = T'.df) (h3 : (T'.tms.map (·.1)).map T.fs.tm.get = T'.tms.map (fun q => some q.2)) (h4 : (T'.bs.map (·.1)).map T.fs.s.H.get = T'.bs.map (fun q => some q.2)) (h : Goes Try.prog sz c T' w0 Q) : Goes Try.prog sz c T w0 Q :=
  fun F n σ a w hW hro hN => h F n σ a w hW hro (hN.litP (holds_view h1 h2 h3 h4))
end
end Go.Proofs.Ytldekgkjofgacaa
