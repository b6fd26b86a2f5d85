/- What carrying over keeps: plain arithmetic. -/
import Derived.Test.YtbdjllgngblfoaaUm3
import Derived.Test.YtbdjllgngblfoaaUn
namespace Go.Proofs.Ytbdjllgngblfoaa
set_option linter.unusedVariables false
set_option linter.unusedSimpArgs false

/-- x / y is the product of a / b and c / d. -/
def PQ (a b c d x y : Int) : Prop := x * (b * d) = (a * c) * y
theorem pq_R {a b c d : Int} (ha : 1 ≤ a) (hb : 1 ≤ b) (hc : 1 ≤ c) (hd : 1 ≤ d) : PQ a b c d (numR a b c d) (denR a b c d) := by
  have h1 : 1 ≤ a * c := by have := Int.mul_le_mul ha hc (by omega) (by omega); omega
  have h2 : 1 ≤ b * d := by have := Int.mul_le_mul hb hd (by omega) (by omega); omega
  obtain ⟨e1, e2⟩ := (red_R a b c d).mul h1 h2
  unfold PQ
  generalize ((Int.gcd (a * c) (b * d) : Nat) : Int) = g at e1 e2
  generalize numR a b c d = x at *
  generalize denR a b c d = y at *
  grind

theorem pos2 {a b : Int} (ha : 1 ≤ a) (hb : 1 ≤ b) : 1 ≤ a * b := by have := Int.mul_le_mul ha hb (by omega) (by omega); omega

theorem pq_mono {a b c d x y a' b' c' d' x' y' : Int} (h : PQ a b c d x y) (h' : PQ a' b' c' d' x' y') (hb : 1 ≤ b) (hd : 1 ≤ d) (hb' : 1 ≤ b') (hd' : 1 ≤ d') (hy : 1 ≤ y) (hy' : 1 ≤ y') (hc : 1 ≤ c) (ha' : 1 ≤ a') (h1 : a * b' ≤ a' * b) (h2 : c * d' ≤ c' * d) : x * y' ≤ x' * y := by
  unfold PQ at h h'
  have t1 : (a * b') * (c * d') ≤ (a' * b) * (c' * d) := Int.mul_le_mul h1 h2 (Int.mul_nonneg (by omega) (by omega)) (Int.mul_nonneg (by omega) (by omega))
  have t2 : ((a * b') * (c * d')) * (y * y') ≤ ((a' * b) * (c' * d)) * (y * y') := Int.mul_le_mul_of_nonneg_right t1 (Int.mul_nonneg (by omega) (by omega))
  have e1 : ((a * b') * (c * d')) * (y * y') = (x * y') * ((b * d) * (b' * d')) := by
    have : ((a * b') * (c * d')) * (y * y') = ((a * c) * y) * (b' * d') * y' := by grind
    rw [this, ← h]; grind
  have e2 : ((a' * b) * (c' * d)) * (y * y') = (x' * y) * ((b * d) * (b' * d')) := by
    have : ((a' * b) * (c' * d)) * (y * y') = ((a' * c') * y') * (b * d) * y := by grind
    rw [this, ← h']; grind
  rw [e1, e2] at t2
  exact Int.le_of_mul_le_mul_right t2 (by have := pos2 (pos2 hb hd) (pos2 hb' hd'); omega)

/-- What is carried over and back is not above what it was. -/
theorem pq_back {un ud vn vd pn pd qn qd rn rd sn sd : Int} (h1 : PQ vn vd qd qn un ud) (h2 : PQ sn sd pn pd rn rd) (hv : vn * rd ≤ rn * vd) (hp : pn * qd ≤ qn * pd)
    (k1 : 1 ≤ ud) (k2 : 1 ≤ vd) (k3 : 1 ≤ qn) (k4 : 1 ≤ qd) (k5 : 1 ≤ pd) (k6 : 1 ≤ rd) (k7 : 1 ≤ sn) (k8 : 1 ≤ sd) : un * sd ≤ sn * ud := by
  unfold PQ at h1 h2
  have p : 0 < ((vd * qn) * pd) * rd := by have := pos2 (pos2 (pos2 k2 k3) k5) k6; omega
  refine Int.le_of_mul_le_mul_right ?_ p
  have e1 : un * sd * (((vd * qn) * pd) * rd) = (vn * rd) * (qd * ud * sd * pd) := by
    have : un * sd * (((vd * qn) * pd) * rd) = (un * (vd * qn)) * sd * pd * rd := by grind
    rw [this, h1]; grind
  have t1 : (vn * rd) * (qd * ud * sd * pd) ≤ (rn * vd) * (qd * ud * sd * pd) := Int.mul_le_mul_of_nonneg_right hv (by have := pos2 (pos2 (pos2 k4 k1) k8) k5; omega)
  have e2 : (rn * vd) * (qd * ud * sd * pd) = (pn * qd) * (sn * rd * vd * ud) := by
    have : (rn * vd) * (qd * ud * sd * pd) = (rn * (sd * pd)) * vd * qd * ud := by grind
    rw [this, h2]; grind
  have t2 : (pn * qd) * (sn * rd * vd * ud) ≤ (qn * pd) * (sn * rd * vd * ud) := Int.mul_le_mul_of_nonneg_right hp (by have := pos2 (pos2 (pos2 k7 k6) k2) k1; omega)
  have e3 : (qn * pd) * (sn * rd * vd * ud) = sn * ud * (((vd * qn) * pd) * rd) := by grind
  omega

theorem le_comm {a b c d : Int} (h : a * b ≤ c * d) : b * a ≤ d * c := by rw [Int.mul_comm b a, Int.mul_comm d c]; exact h
theorem pq_same {un ud qn qd rn rd sn sd : Int} (h1 : PQ rn rd qd qn un ud) (h2 : PQ sn sd qn qd rn rd) (k3 : 1 ≤ qn) (k4 : 1 ≤ qd) (k6 : 1 ≤ rd) : un * sd = sn * ud := by
  unfold PQ at h1 h2
  have p : 0 < (rd * qn) * qd := by have := pos2 (pos2 k6 k3) k4; omega
  refine Int.eq_of_mul_eq_mul_right (by omega) (a := (rd * qn) * qd) ?_
  have e1 : un * sd * ((rd * qn) * qd) = (rn * (sd * qd)) * qd * ud := by
    have : un * sd * ((rd * qn) * qd) = (un * (rd * qn)) * sd * qd := by grind
    rw [this, h1]; grind
  rw [e1, h2]
  grind

theorem pq_turn {a b c d x y : Int} (h : PQ a b c d x y) : PQ b a d c y x := by
  unfold PQ at *
  grind

/-- Fractions that are equal are the same. -/
theorem fr_eq {a b c d : Int} (h : Fr a b) (k : Fr c d) (e : a * d = c * b) : a = c ∧ b = d := by
  have d1 : b ∣ d := by
    have : b ∣ a * d := ⟨c, by rw [e, Int.mul_comm]⟩
    exact dvd_cop (by rw [Int.gcd_comm]; exact h.2.2.2.2) this
  have d2 : d ∣ b := by
    have : d ∣ c * b := ⟨a, by rw [← e, Int.mul_comm]⟩
    exact dvd_cop (by rw [Int.gcd_comm]; exact k.2.2.2.2) this
  have hb := h.2.2.1
  have hd := k.2.2.1
  have e1 : b = d := by
    have := Int.le_of_dvd (by omega) d1
    have := Int.le_of_dvd (by omega) d2
    omega
  subst e1
  exact ⟨Int.eq_of_mul_eq_mul_right (by omega) e, rfl⟩

theorem mulS_def {s t r : S4} (h : mulS s t = some r) : r = (numR s.1 s.2.1 t.1 t.2.1, denR s.1 s.2.1 t.1 t.2.1, numR s.2.2.1 s.2.2.2 t.2.2.1 t.2.2.2, denR s.2.2.1 s.2.2.2 t.2.2.1 t.2.2.2) := by
  unfold mulS at h
  split at h
  · cases h; rfl
  · cases h
theorem mulS_pq {s t r : S4} (hs : FrS s) (ht : FrS t) (h : mulS s t = some r) : PQ s.1 s.2.1 t.1 t.2.1 r.1 r.2.1 ∧ PQ s.2.2.1 s.2.2.2 t.2.2.1 t.2.2.2 r.2.2.1 r.2.2.2 := by
  have e := mulS_def h
  subst e
  exact ⟨pq_R hs.1.1 hs.1.2.2.1 ht.1.1 ht.1.2.2.1, pq_R hs.2.1 hs.2.2.2.1 ht.2.1 ht.2.2.2.1⟩

theorem mulS_sp {s t r : S4} (hs : SpS s) (ht : SpS t) (h : mulS s t = some r) : SpS r := by
  have hr := mulS_fr (frS_of hs) (frS_of ht) h
  obtain ⟨p1, p2⟩ := mulS_pq (frS_of hs) (frS_of ht) h
  refine ⟨hr.1, hr.2, ?_⟩
  exact pq_mono p1 p2 hs.1.2.2.1 ht.1.2.2.1 hs.2.1.2.2.1 ht.2.1.2.2.1 hr.1.2.2.1 hr.2.2.2.1 ht.1.1 hs.2.1.1 hs.2.2 ht.2.2

theorem carryL_sp : ∀ (L : List S4) (s t : S4), SpS s → (∀ d ∈ L, SpS d) → carryL s L = some t → SpS t
  | [], s, t, hs, _, h => by cases h; exact hs
  | d :: L, s, t, hs, hL, h => by
    simp only [carryL] at h
    cases hm : mulS s d with
    | none => rw [hm] at h; cases h
    | some x =>
      rw [hm] at h
      exact carryL_sp L x t (mulS_sp hs (hL d (List.mem_cons_self ..)) hm) (fun e he => hL e (List.mem_cons_of_mem _ he)) h

/-- A value, as a span. -/
def ptS (p : Int × Int) : S4 := (p.1, p.2, p.1, p.2)
/-- A fraction is in a span. -/
def InS (p : Int × Int) (s : S4) : Prop := Fr p.1 p.2 ∧ s.1 * p.2 ≤ p.1 * s.2.1 ∧ p.1 * s.2.2.2 ≤ s.2.2.1 * p.2

theorem carryL_in : ∀ (L : List S4) (T : List (Int × Int)) (s t : S4) (v : Int × Int) (u : S4), SpS s → (∀ d ∈ L, SpS d) → InS v s → T.length = L.length → (∀ (i : Nat) (p : Int × Int) (d : S4), T[i]? = some p → L[i]? = some d → InS p d) →
    carryL s L = some t → carryL (ptS v) (T.map ptS) = some u → ∃ x, u = ptS x ∧ InS x t
  | [], [], s, t, v, u, hs, _, hv, _, _, h, k => by cases h; cases k; exact ⟨v, rfl, hv⟩
  | d :: L, [], s, t, v, u, hs, _, hv, hl, _, h, k => by simp at hl
  | [], p :: T, s, t, v, u, hs, _, hv, hl, _, h, k => by simp at hl
  | d :: L, p :: T, s, t, v, u, hs, hL, hv, hl, hT, h, k => by
    simp only [carryL, List.map_cons] at h k
    have hd := hL d (List.mem_cons_self ..)
    have hp := hT 0 p d rfl rfl
    cases hm : mulS s d with
    | none => rw [hm] at h; cases h
    | some x =>
      rw [hm] at h
      cases hn : mulS (ptS v) (ptS p) with
      | none => rw [hn] at k; cases k
      | some y =>
        rw [hn] at k
        have fv : FrS (ptS v) := ⟨hv.1, hv.1⟩
        have fp : FrS (ptS p) := ⟨hp.1, hp.1⟩
        have fy := mulS_fr fv fp hn
        have e := mulS_def hn
        obtain ⟨q1, q2⟩ := mulS_pq (frS_of hs) (frS_of hd) hm
        have fx := mulS_fr (frS_of hs) (frS_of hd) hm
        obtain ⟨r1, r2⟩ := mulS_pq fv fp hn
        have e2 : y = ptS (numR v.1 v.2 p.1 p.2, denR v.1 v.2 p.1 p.2) := e
        obtain ⟨z, hz⟩ : ∃ z, (numR v.1 v.2 p.1 p.2, denR v.1 v.2 p.1 p.2) = z := ⟨_, rfl⟩
        rw [hz] at e2
        subst e2
        refine carryL_in L T x t z u (mulS_sp hs hd hm) (fun e he => hL e (List.mem_cons_of_mem _ he)) ⟨fy.1, ?_, ?_⟩ (by simpa using hl) (fun i p' d' h1 h2 => hT (i + 1) p' d' (by simpa using h1) (by simpa using h2)) h k
        · exact pq_mono q1 r1 hs.1.2.2.1 hd.1.2.2.1 hv.1.2.2.1 hp.1.2.2.1 fx.1.2.2.1 fy.1.2.2.1 hd.1.1 hv.1.1 hv.2.1 hp.2.1
        · exact pq_mono r2 q2 hv.1.2.2.1 hp.1.2.2.1 hs.2.1.2.2.1 hd.2.1.2.2.1 fy.1.2.2.1 fx.2.2.2.1 hp.1.1 hs.2.1.1 hv.2.2 hp.2.2

theorem carryL_append : ∀ (A B : List S4) (s : S4), carryL s (A ++ B) = (carryL s A).bind (fun x => carryL x B)
  | [], B, s => rfl
  | d :: A, B, s => by
    simp only [carryL, List.cons_append]
    cases mulS s d with
    | none => rfl
    | some x => exact carryL_append A B x

theorem carryL_fr : ∀ (L : List S4) (s t : S4), FrS s → (∀ d ∈ L, FrS d) → carryL s L = some t → FrS t
  | [], s, t, hs, _, h => by cases h; exact hs
  | d :: L, s, t, hs, hL, h => by
    simp only [carryL] at h
    cases hm : mulS s d with
    | none => rw [hm] at h; cases h
    | some x =>
      rw [hm] at h
      exact carryL_fr L x t (mulS_fr hs (hL d (List.mem_cons_self ..)) hm) (fun e he => hL e (List.mem_cons_of_mem _ he)) h

/-- Carried over and back: a span that contains what it was, and is the same if all decrees are known exactly. -/
theorem carry_back : ∀ (L : List S4) (s t u : S4), SpS s → (∀ d ∈ L, SpS d) → carryL s L = some t → backL t L = some u →
    FrS u ∧ u.1 * s.2.1 ≤ s.1 * u.2.1 ∧ s.2.2.1 * u.2.2.2 ≤ u.2.2.1 * s.2.2.2 ∧ ((∀ d ∈ L, d.1 = d.2.2.1 ∧ d.2.1 = d.2.2.2) → u = s)
  | [], s, t, u, hs, _, h, k => by
    cases h
    have : u = s := by simpa [backL, carryL, eq_comm] using k
    subst this
    exact ⟨frS_of hs, Int.le_refl _, Int.le_refl _, fun _ => rfl⟩
  | d :: L, s, t, u, hs, hL, h, k => by
    have hd := hL d (List.mem_cons_self ..)
    simp only [carryL] at h
    cases hm : mulS s d with
    | none => rw [hm] at h; cases h
    | some r =>
      rw [hm] at h
      unfold backL at k
      rw [List.reverse_cons, List.map_append, carryL_append] at k
      cases hv : carryL t (L.reverse.map turnS) with
      | none => rw [hv] at k; cases k
      | some v =>
        rw [hv] at k
        have hr := mulS_sp hs hd hm
        obtain ⟨fv, i1, i2, i3⟩ := carry_back L r t v hr (fun e he => hL e (List.mem_cons_of_mem _ he)) h hv
        have k' : mulS v (turnS d) = some u := by
          simp only [Option.bind_some, List.map_cons, List.map_nil, carryL] at k
          cases hq : mulS v (turnS d) with
          | none => rw [hq] at k; cases k
          | some w => rw [hq] at k; exact k
        have fd := frS_turn (frS_of hd)
        have fu := mulS_fr fv fd k'
        obtain ⟨p1, p2⟩ := mulS_pq fv fd k'
        obtain ⟨q1, q2⟩ := mulS_pq (frS_of hs) (frS_of hd) hm
        have l1 := pq_back p1 q1 i1 hd.2.2 fu.1.2.2.1 fv.1.2.2.1 hd.2.1.1 hd.2.1.2.2.1 hd.1.2.2.1 hr.1.2.2.1 hs.1.1 hs.1.2.2.1
        have l2 := pq_back (pq_turn p2) (pq_turn q2) (le_comm i2) (le_comm hd.2.2) fu.2.1 fv.2.1 hd.1.2.2.1 hd.1.1 hd.2.1.1 hr.2.1.1 hs.2.1.2.2.1 hs.2.1.1
        refine ⟨fu, l1, le_comm l2, fun hex => ?_⟩
        have hvr := i3 (fun e he => hex e (List.mem_cons_of_mem _ he))
        subst hvr
        obtain ⟨e1, e2⟩ := hex d (List.mem_cons_self ..)
        obtain ⟨s1, s2, s3, s4⟩ := s
        obtain ⟨d1, d2, d3, d4⟩ := d
        obtain ⟨u1, u2, u3, u4⟩ := u
        simp only at e1 e2
        subst e1 e2
        have m1 := pq_same p1 q1 hd.1.1 hd.1.2.2.1 hr.1.2.2.1
        have m2 := pq_same p2 q2 hd.1.1 hd.1.2.2.1 hr.2.1.2.2.1
        obtain ⟨g1, g2⟩ := fr_eq fu.1 hs.1 m1
        obtain ⟨g3, g4⟩ := fr_eq fu.2 hs.2.1 m2
        simp only at g1 g2 g3 g4
        rw [g1, g2, g3, g4]

end Go.Proofs.Ytbdjllgngblfoaa
