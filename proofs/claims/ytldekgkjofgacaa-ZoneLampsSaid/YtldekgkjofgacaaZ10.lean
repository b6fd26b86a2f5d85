/- Oracles of CheckTrue on both sides; lights of true lanterns. -/
import Derived.Test.YtldekgkjofgacaaZ8
import Derived.Test.YtldekgkjofgacaaZ9
namespace Go.Proofs.Ytldekgkjofgacaa
set_option linter.unusedVariables false
set_option linter.unusedSimpArgs false
open Go Ev
noncomputable section
def IsLamX (k1 k2 k3 k4 k5 : Nat) (ca : List AV) (na : Nat) (cl : List AV) (nl : Nat) (cf : List AV) (nf : Nat) (cw : List AV) (nw : Nat) (cx : List AV) (nx : Nat) : Prop := IsLampK k1 k2 k3 k4 ca na cl nl cf nf cw nw ∧ IsI k5 nx cx
def ctS : List AV → Option (Res1 × List Prop) := fun vs =>
  match vs with
  | [.agg [.xl ya na k1 ca, .xl yl nl k2 cl, .xl yf nf k3 cf, .xl yw nw k4 cw], .xl yx nx k5 cx] => some (.val (.v (.int .i64 (tE ca na cl nl cf nf cw nw cx nx))), [IsLamX k1 k2 k3 k4 k5 ca na cl nl cf nf cw nw cx nx])
  | _ => none
def otcO : OrcH := extOrc 21 ctS
theorem known_otc : Known Try.prog (clsO otcO) := known_ext (fun vs r ps h hp => by
  unfold ctS at h
  split at h
  · cases h
    obtain ⟨⟨⟨rfl, rfl, rfl, rfl, A, L, B, W, rfl, rfl, rfl, rfl, rfl, rfl, rfl, rfl⟩, rfl, X, rfl, rfl⟩, -⟩ := hp
    exact ⟨extL_cons ext_lamp (extL_cons (ext_xl (extL_plain (cI_plain X))) extL_nil), _, rfl, ot_g _ _ _ _ A L B W _ X⟩
  · cases h)
def rtcO : OrcH := extOrc 22 ctS
theorem known_rtc : Known Try.prog (clsO rtcO) := known_ext (fun vs r ps h hp => by
  unfold ctS at h
  split at h
  · cases h
    obtain ⟨⟨⟨rfl, rfl, rfl, rfl, A, L, B, W, rfl, rfl, rfl, rfl, rfl, rfl, rfl, rfl⟩, rfl, X, rfl, rfl⟩, -⟩ := hp
    exact ⟨extL_cons ext_lamp (extL_cons (ext_xl (extL_plain (cI_plain X))) extL_nil), _, rfl, rt_g _ _ _ _ A L B W _ X⟩
  · cases h)
def rfO : OrcH := orO rtcO smO
theorem known_rf : Known Try.prog (clsO rfO) := known_or known_rtc known_sm
/-- Along a gap all lights lie between those at its ends. -/
theorem fall_mono {c : List AV} {b e : Int} (h : fallP c b e) : ∀ (d k : Nat), b ≤ k → ((k + d : Nat) : Int) ≤ e → intAt c ((k + d) * 1) ≤ intAt c (k * 1)
  | 0, k, _, _ => Int.le_refl _
  | d + 1, k, h1, h2 => by
    have q1 := fall_mono h d k h1 (by omega)
    have q2 := h (k + d) (by omega) (by omega)
    rw [show k + (d + 1) = k + d + 1 by omega]
    omega
theorem rise_mono {c : List AV} {b e : Int} (h : riseP c b e) : ∀ (d k : Nat), b ≤ k → ((k + d : Nat) : Int) ≤ e → intAt c (k * 1) ≤ intAt c ((k + d) * 1)
  | 0, k, _, _ => Int.le_refl _
  | d + 1, k, h1, h2 => by
    have q1 := rise_mono h d k h1 (by omega)
    have q2 := h (k + d) (by omega) (by omega)
    rw [show k + (d + 1) = k + d + 1 by omega]
    omega
/-- The lights of a true lantern are those of a lamp. -/
theorem true_bd {A L B W X : List AV} {n nl nf nw nx : Nat} (h : tE A n L nl B nf W nw X nx = 0) : (∀ j, j < nw → 0 ≤ intAt X (j * 1) ∧ intAt X (j * 1) ≤ 200) ∧ (∀ j, j < nw → 0 ≤ intAt W (j * 1) ∧ intAt W (j * 1) ≤ 1000) ∧ nw ≤ 91 ∧ nx = nw := by
  obtain ⟨hz, hx, h1, h2⟩ := tE_zero h
  obtain ⟨hn, ha, he, hl, hw⟩ := clE_zero hz
  have hd0 := deg_bd hn ha he 0 (by omega)
  have at0 : ∀ i, i < n → 0 ≤ intAt X ((degA A i).toNat * 1) ∧ intAt X ((degA A i).toNat * 1) ≤ 200 := fun i hi => by
    have q := h1 i hi
    have q2 := hl i (by have := he.1; omega)
    unfold inP at q
    unfold rngAt at q2
    unfold degA
    omega
  refine ⟨fun j hj => ?_, hw, hd0.2.2.1, hx⟩
  cases j with
  | zero =>
    have q := at0 0 (by omega)
    rw [show (degA A 0).toNat = 0 by unfold degA; omega] at q
    exact q
  | succ j =>
    obtain ⟨g1, g2, g3⟩ := gap_of (j := j) hn ha he hj
    generalize gapF A (intAt A (0 * 1) + ((j + 1 : Nat) : Int)) n 0 = g at g1 g2 g3
    have q := h2 g g1
    have e0 := at0 g (by omega)
    have e1 := at0 (g + 1) g1
    have p0 := deg_bd hn ha he g (by omega)
    have p1 := deg_bd hn ha he (g + 1) g1
    have d0 : ((degA A g).toNat : Int) = degA A g := by unfold degA; omega
    have d1 : ((degA A (g + 1)).toNat : Int) = degA A (g + 1) := by unfold degA; omega
    unfold gapP at q
    split at q
    · have r1 := fall_mono q (j + 1 - (degA A g).toNat) (degA A g).toNat (by omega) (by omega)
      have r2 := fall_mono q ((degA A (g + 1)).toNat - (j + 1)) (j + 1) (by omega) (by omega)
      rw [show (degA A g).toNat + (j + 1 - (degA A g).toNat) = j + 1 by omega] at r1
      rw [show j + 1 + ((degA A (g + 1)).toNat - (j + 1)) = (degA A (g + 1)).toNat by omega] at r2
      omega
    · have r1 := rise_mono q (j + 1 - (degA A g).toNat) (degA A g).toNat (by omega) (by omega)
      have r2 := rise_mono q ((degA A (g + 1)).toNat - (j + 1)) (j + 1) (by omega) (by omega)
      rw [show (degA A g).toNat + (j + 1 - (degA A g).toNat) = j + 1 by omega] at r1
      rw [show j + 1 + ((degA A (g + 1)).toNat - (j + 1)) = (degA A (g + 1)).toNat by omega] at r2
      omega
/-- The flux, if the lantern is true. -/
def fxE (A : List AV) (n : Nat) (L : List AV) (nl : Nat) (B : List AV) (nf : Nat) (W : List AV) (nw : Nat) (X : List AV) (nx : Nat) : Int := if tE A n L nl B nf W nw X nx = 0 then sumP W X nw else 0
end
end Go.Proofs.Ytldekgkjofgacaa
