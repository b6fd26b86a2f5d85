import Derived.Test.YtldekgkjofgacaaZ20
import Derived.Test.YtldekgkjofgacaaZ17
import Derived.Test.YtldekgkjofgacaaZ15
/- Oracles of the law ZoneDoubts; what it asks. -/
namespace Go.Proofs.Ytldekgkjofgacaa
set_option linter.unusedVariables false
set_option linter.unusedSimpArgs false
open Go Ev
noncomputable section
def cdS : List AV → Option (Res1 × List Prop) := fun vs =>
  match vs with
  | [.agg [.xl ya na k1 ca, .xl yl nl k2 cl, .xl yf nf k3 cf, .xl yw nw k4 cw], .v u, .v v] => match numV u, numV v with
    | some a, some b => some (.val (.v (.int .i64 (cdE ca na cl nl cf nf cw nw a b))), [IsLampK k1 k2 k3 k4 ca na cl nl cf nf cw nw])
    | _, _ => none
  | _ => none
def ocdO : OrcH := extOrc 23 cdS
theorem known_ocd : Known Try.prog (clsO ocdO) := known_ext (fun vs r ps h hp => by
  unfold cdS at h
  split at h
  · split at h
    · rename_i e1 e2
      cases h
      obtain ⟨⟨rfl, rfl, rfl, rfl, A, L, B, W, rfl, rfl, rfl, rfl, rfl, rfl, rfl, rfl⟩, -⟩ := hp
      rw [numV_eq e1, numV_eq e2]
      exact ⟨extL_cons ext_lamp (extL_cons (ext_v _) (extL_cons (ext_v _) extL_nil)), _, rfl, ocd_g _ _ _ _ A L B W _ _⟩
    · cases h
  · cases h)
def rcdO : OrcH := extOrc 24 cdS
theorem known_rcd : Known Try.prog (clsO rcdO) := known_ext (fun vs r ps h hp => by
  unfold cdS at h
  split at h
  · split at h
    · rename_i e1 e2
      cases h
      obtain ⟨⟨rfl, rfl, rfl, rfl, A, L, B, W, rfl, rfl, rfl, rfl, rfl, rfl, rfl, rfl⟩, -⟩ := hp
      rw [numV_eq e1, numV_eq e2]
      exact ⟨extL_cons ext_lamp (extL_cons (ext_v _) (extL_cons (ext_v _) extL_nil)), _, rfl, rcd_g _ _ _ _ A L B W _ _⟩
    · cases h
  · cases h)
def dbS : List AV → Option (Res1 × List Prop) := fun vs =>
  match vs with
  | [.agg [.xl ya na k1 ca, .xl yl nl k2 cl, .xl yf nf k3 cf, .xl yw nw k4 cw]] => some (.val (.tup [.v (.int .i64 (doI ca na cl nl cf nf cw nw)), .v (.int .i64 (doK ca na cl nl cf nf cw nw)), .v (.int .i64 (doE ca na cl nl cf nf cw nw))]), [IsLampK k1 k2 k3 k4 ca na cl nl cf nf cw nw])
  | _ => none
def dbO : OrcH := extOrc 25 dbS
theorem known_db : Known Try.prog (clsO dbO) := known_ext (fun vs r ps h hp => by
  unfold dbS at h
  split at h
  · cases h
    obtain ⟨⟨rfl, rfl, rfl, rfl, A, L, B, W, rfl, rfl, rfl, rfl, rfl, rfl, rfl, rfl⟩, -⟩ := hp
    exact ⟨extL_cons ext_lamp extL_nil, _, rfl, db_g _ _ _ _ A L B W⟩
  · cases h)
def dtS : List AV → Option (Res1 × List Prop) := fun vs =>
  match vs with
  | [.agg [.xl ya na k1 ca, .xl yl nl k2 cl, .xl yf nf k3 cf, .xl yw nw k4 cw]] => some (.val (.v (.bool (clB (dtd ca na cl cf nw)))), [IsLampK k1 k2 k3 k4 ca na cl nl cf nf cw nw, clE ca na cl nl nf cw nw = 0])
  | _ => none
def dtO : OrcH := extOrc 26 dtS
theorem known_dt : Known Try.prog (clsO dtO) := known_ext (fun vs r ps h hp => by
  unfold dtS at h
  split at h
  · cases h
    obtain ⟨⟨rfl, rfl, rfl, rfl, A, L, B, W, rfl, rfl, rfl, rfl, rfl, rfl, rfl, rfl⟩, hz, -⟩ := hp
    refine ⟨extL_cons ext_lamp extL_nil, _, rfl, ?_⟩
    obtain ⟨m, hm⟩ : ∃ m, W.length = m + 1 := ⟨W.length - 1, by
      obtain ⟨hn, ha, he, hl, hw⟩ := clE_zero hz
      have := deg_bd hn ha he 0 (by omega)
      omega⟩
    have q := fun ya yl yf yw => dt_g ya yl yf yw A L B W m hz hm
    simp only [← hm] at q
    exact q _ _ _ _
  · cases h)
def zwO : OrcH := plainOrc 16 (fun xs => match xs with | [] => some (.v (.bool .true)) | _ => none)
def zdO : OrcH := orO zwO (orO ocdO (orO rcdO (orO dbO (orO rclO dtO))))
theorem known_zd (hw : Known Try.prog (clsO zwO)) : Known Try.prog (clsO zdO) := known_or hw (known_or known_ocd (known_or known_rcd (known_or known_db (known_or known_rcl known_dt))))
section
variable {A L B W : List AV} {n nl nf nw : Nat}
theorem do_none (hz : clE A n L nl nf W nw = 0) (h : ¬ dtd A n L B nw) : doI A n L nl B nf W nw = 0 ∧ doK A n L nl B nf W nw = 0 ∧ doE A n L nl B nf W nw = 5 := by
  have q := clE_zero hz
  have h2 : fdAll B L n = none := by
    cases e : fdAll B L n with
    | none => rfl
    | some p =>
      have d := fdAll_of e
      exact absurd ((dtd_iff (B := B) ⟨q.1, q.2.1, q.2.2.1, q.2.2.2.1⟩).2 ⟨p.2, d.2.1, p.1, d.1, d.2.2⟩) h
  unfold doI doK doE
  rw [if_pos hz, if_pos hz, if_pos hz]
  have z := dK_zero.2 h2
  exact ⟨z.1, z.2, dE_none h2⟩
theorem do_some (hz : clE A n L nl nf W nw = 0) (h : dtd A n L B nw) : doE A n L nl B nf W nw = 0 ∧ cdE A n L nl B nf W nw (doI A n L nl B nf W nw) (doK A n L nl B nf W nw) = 0 := by
  have q := clE_zero hz
  obtain ⟨k, hk, j, hj, hd⟩ := (dtd_iff (B := B) ⟨q.1, q.2.1, q.2.2.1, q.2.2.2.1⟩).1 h
  have h2 : ¬ fdAll B L n = none := fun e => fdAll_not e k hk j hj hd
  unfold doI doK doE
  rw [if_pos hz, if_pos hz, if_pos hz]
  refine ⟨dE_some h2, ?_⟩
  cases e : fdAll B L n with
  | none => exact absurd e h2
  | some p =>
    have d := fdAll_of e
    have e1 : dI B L n = p.1 := by unfold dI; rw [e]
    have e2 : dK B L n = p.2 := by unfold dK; rw [e]
    rw [e1, e2]
    exact cdE_ok hz (by omega) d.2.2
theorem do_lamp (hz : ¬ clE A n L nl nf W nw = 0) : doI A n L nl B nf W nw = 0 ∧ doK A n L nl B nf W nw = 0 ∧ doE A n L nl B nf W nw = clE A n L nl nf W nw := by
  unfold doI doK doE
  rw [if_neg hz, if_neg hz, if_neg hz]
  exact ⟨rfl, rfl, rfl⟩
end
end
end Go.Proofs.Ytldekgkjofgacaa
/- The law ZoneDoubts. -/
namespace Go.Proofs.Ytldekgkjofgacaa
set_option linter.unusedVariables false
set_option linter.unusedSimpArgs false
open Go Ev
noncomputable section
noncomputable def zdK1 : Code := bodyC Try.f4
set_option maxHeartbeats 2000000 in
theorem zd_2 (ya : Value) (yl : Value) (yf : Value) (yw : Value) (A : List Int) (L : List (Int × Int)) (B : List Bool) (W : List Int) (a : Int) (b : Int) (hw : Known Try.prog (clsO zwO)) (w : World) : Goes Try.prog 73 zdK1 (⟨[(0, .agg [.xl ya A.length 1 (cI A), .xl yl L.length 2 (cR L), .xl yf B.length 1 (cB B), .xl yw W.length 1 (cI W)]), (1, .v (.int .i64 a)), (2, .v (.int .i64 b))], [], 0, []⟩) w (OutR Try.prog Try.f4 73 (.bool true) w) := by
  have hcl_A := cI_len A
  have hcl_L := cR_len L
  have hcl_B := cB_len B
  have hcl_W := cI_len W
  rcases Bool.eq_false_or_eq_true (ltI 14 ((A.length : Nat) : Int)) with hq21 | hq21
  · skip
    have ghq21 := ltI_true hq21
    exact goes_eqR (r := (.bool .true)) (by rfl) (goes_out Try.checked.mixed (known_zd hw) 200 (v := (.v (.bool .true))) (ps := [ltI 14 ((A.length : Nat) : Int) = true, true = true, true = true, true = true, true = true, true = true, true = true, true = true, true = true, true = true, true = true, true = true, true = true]) [.go, .go, .go, .go, .go, .go, .go, .go, .go, .go, .b true, .b true, .b true, .b true, .go, .go, .b true, .b true, .b true, .b true, .go, .go, .b true, .b true, .b true, .b true, .go, .go, .b true, .go] (by kernel_rfl) (by kernel_rfl) ⟨hq21, rfl, rfl, rfl, rfl, rfl, rfl, rfl, rfl, rfl, rfl, rfl, rfl, trivial⟩ rfl)
  · skip
    have ghq21 := ltI_false hq21
    rcases Bool.eq_false_or_eq_true (ltI 14 ((L.length : Nat) : Int)) with hq22 | hq22
    · skip
      have ghq22 := ltI_true hq22
      exact goes_eqR (r := (.bool .true)) (by rfl) (goes_out Try.checked.mixed (known_zd hw) 200 (v := (.v (.bool .true))) (ps := [ltI 14 ((A.length : Nat) : Int) = false, false = false, false = false, false = false, ltI 14 ((L.length : Nat) : Int) = true, true = true, true = true, true = true, true = true, true = true, true = true, true = true, true = true]) [.go, .go, .go, .go, .go, .go, .go, .go, .go, .go, .b false, .go, .b false, .go, .b false, .go, .b false, .go, .go, .go, .b true, .b true, .b true, .b true, .go, .go, .b true, .b true, .b true, .b true, .go, .go, .b true, .go] (by kernel_rfl) (by kernel_rfl) ⟨hq21, rfl, rfl, rfl, hq22, rfl, rfl, rfl, rfl, rfl, rfl, rfl, rfl, trivial⟩ rfl)
    · skip
      have ghq22 := ltI_false hq22
      rcases Bool.eq_false_or_eq_true (ltI 14 ((B.length : Nat) : Int)) with hq23 | hq23
      · skip
        have ghq23 := ltI_true hq23
        exact goes_eqR (r := (.bool .true)) (by rfl) (goes_out Try.checked.mixed (known_zd hw) 200 (v := (.v (.bool .true))) (ps := [ltI 14 ((A.length : Nat) : Int) = false, false = false, false = false, false = false, ltI 14 ((L.length : Nat) : Int) = false, false = false, false = false, false = false, ltI 14 ((B.length : Nat) : Int) = true, true = true, true = true, true = true, true = true]) [.go, .go, .go, .go, .go, .go, .go, .go, .go, .go, .b false, .go, .b false, .go, .b false, .go, .b false, .go, .go, .go, .b false, .go, .b false, .go, .b false, .go, .b false, .go, .go, .go, .b true, .b true, .b true, .b true, .go, .go, .b true, .go] (by kernel_rfl) (by kernel_rfl) ⟨hq21, rfl, rfl, rfl, hq22, rfl, rfl, rfl, hq23, rfl, rfl, rfl, rfl, trivial⟩ rfl)
      · skip
        have ghq23 := ltI_false hq23
        rcases Bool.eq_false_or_eq_true (ltI 100 ((W.length : Nat) : Int)) with hq24 | hq24
        · skip
          have ghq24 := ltI_true hq24
          exact goes_eqR (r := (.bool .true)) (by rfl) (goes_out Try.checked.mixed (known_zd hw) 200 (v := (.v (.bool .true))) (ps := [ltI 14 ((A.length : Nat) : Int) = false, false = false, false = false, false = false, ltI 14 ((L.length : Nat) : Int) = false, false = false, false = false, false = false, ltI 14 ((B.length : Nat) : Int) = false, false = false, false = false, false = false, ltI 100 ((W.length : Nat) : Int) = true]) [.go, .go, .go, .go, .go, .go, .go, .go, .go, .go, .b false, .go, .b false, .go, .b false, .go, .b false, .go, .go, .go, .b false, .go, .b false, .go, .b false, .go, .b false, .go, .go, .go, .b false, .go, .b false, .go, .b false, .go, .b false, .go, .go, .go, .b true, .go] (by kernel_rfl) (by kernel_rfl) ⟨hq21, rfl, rfl, rfl, hq22, rfl, rfl, rfl, hq23, rfl, rfl, rfl, hq24, trivial⟩ rfl)
        · skip
          have ghq24 := ltI_false hq24
          rcases Bool.eq_false_or_eq_true (eqI (cdE (cI A) A.length (cR L) L.length (cB B) B.length (cI W) W.length a b) (cdE (cI A) A.length (cR L) L.length (cB B) B.length (cI W) W.length a b)) with hq25 | hq25
          · skip
            have ghq25 := eqI_true hq25
            rcases Bool.eq_false_or_eq_true (eqI (clE (cI A) A.length (cR L) L.length B.length (cI W) W.length) 0) with hq26 | hq26
            · skip
              have ghq26 := eqI_true hq26
              have hz := eqI_true hq26
              rcases Bool.eq_false_or_eq_true (clB (dtd (cI A) A.length (cR L) (cB B) W.length)) with hq27 | hq27
              · skip
                have hd := clB_true.1 hq27
                rcases Bool.eq_false_or_eq_true (eqI (doE (cI A) A.length (cR L) L.length (cB B) B.length (cI W) W.length) 0) with hq28 | hq28
                · skip
                  have ghq28 := eqI_true hq28
                  rcases Bool.eq_false_or_eq_true (eqI (cdE (cI A) A.length (cR L) L.length (cB B) B.length (cI W) W.length (doI (cI A) A.length (cR L) L.length (cB B) B.length (cI W) W.length) (doK (cI A) A.length (cR L) L.length (cB B) B.length (cI W) W.length)) 0) with hq29 | hq29
                  · skip
                    have ghq29 := eqI_true hq29
                    exact goes_eqR (r := (.bool .true)) (by obtain ⟨e1, e2⟩ := do_some hz hd; first | rfl | (simp only [e1, e2, eqI_self]; rfl) | (simp [e1, e2, eqI_self]; done)) (goes_out Try.checked.mixed (known_zd hw) 200 (v := (.v (.bool .true))) (ps := [ltI 14 ((A.length : Nat) : Int) = false, false = false, false = false, false = false, ltI 14 ((L.length : Nat) : Int) = false, false = false, false = false, false = false, ltI 14 ((B.length : Nat) : Int) = false, false = false, false = false, false = false, ltI 100 ((W.length : Nat) : Int) = false, IsLampK 1 2 1 1 (cI A) A.length (cR L) L.length (cB B) B.length (cI W) W.length, IsLampK 1 2 1 1 (cI A) A.length (cR L) L.length (cB B) B.length (cI W) W.length, (!eqI (cdE (cI A) A.length (cR L) L.length (cB B) B.length (cI W) W.length a b) (cdE (cI A) A.length (cR L) L.length (cB B) B.length (cI W) W.length a b)) = false, IsLampK 1 2 1 1 (cI A) A.length (cR L) L.length (cB B) B.length (cI W) W.length, IsLampK 1 2 1 1 (cI A) A.length (cR L) L.length (cB B) B.length (cI W) W.length, (!eqI (clE (cI A) A.length (cR L) L.length B.length (cI W) W.length) 0) = false, IsLampK 1 2 1 1 (cI A) A.length (cR L) L.length (cB B) B.length (cI W) W.length, clE (cI A) A.length (cR L) L.length B.length (cI W) W.length = 0, clB (dtd (cI A) A.length (cR L) (cB B) W.length) = true, eqI (doE (cI A) A.length (cR L) L.length (cB B) B.length (cI W) W.length) 0 = true, true = true, true = true, true = true, IsLampK 1 2 1 1 (cI A) A.length (cR L) L.length (cB B) B.length (cI W) W.length, true = true, eqI (cdE (cI A) A.length (cR L) L.length (cB B) B.length (cI W) W.length (doI (cI A) A.length (cR L) L.length (cB B) B.length (cI W) W.length) (doK (cI A) A.length (cR L) L.length (cB B) B.length (cI W) W.length)) 0 = true]) [.go, .go, .go, .go, .go, .go, .go, .go, .go, .go, .b false, .go, .b false, .go, .b false, .go, .b false, .go, .go, .go, .b false, .go, .b false, .go, .b false, .go, .b false, .go, .go, .go, .b false, .go, .b false, .go, .b false, .go, .b false, .go, .go, .go, .b false, .go, .go, .go, .go, .go, .go, .go, .b false, .go, .go, .go, .go, .go, .go, .go, .go, .go, .go, .b false, .go, .b true, .go, .go, .go, .b true, .go, .b true, .go, .b true, .go, .b true, .b true, .go, .go, .go, .b true, .go, .go] (by kernel_rfl) (by kernel_rfl) ⟨hq21, rfl, rfl, rfl, hq22, rfl, rfl, rfl, hq23, rfl, rfl, rfl, hq24, ⟨rfl, rfl, rfl, rfl, A, L, B, W, rfl, rfl, rfl, rfl, rfl, rfl, rfl, rfl⟩, ⟨rfl, rfl, rfl, rfl, A, L, B, W, rfl, rfl, rfl, rfl, rfl, rfl, rfl, rfl⟩, (by rw [hq25]; rfl), ⟨rfl, rfl, rfl, rfl, A, L, B, W, rfl, rfl, rfl, rfl, rfl, rfl, rfl, rfl⟩, ⟨rfl, rfl, rfl, rfl, A, L, B, W, rfl, rfl, rfl, rfl, rfl, rfl, rfl, rfl⟩, (by rw [hq26]; rfl), ⟨rfl, rfl, rfl, rfl, A, L, B, W, rfl, rfl, rfl, rfl, rfl, rfl, rfl, rfl⟩, hz, hq27, hq28, rfl, rfl, rfl, ⟨rfl, rfl, rfl, rfl, A, L, B, W, rfl, rfl, rfl, rfl, rfl, rfl, rfl, rfl⟩, rfl, hq29, trivial⟩ rfl)
                  · skip
                    have ghq29 := eqI_false hq29
                    obtain ⟨e1, e2⟩ := do_some hz hd
                    simp only [e1, e2] at hq29
                    exact absurd (eqI_self _) (by rw [hq29]; decide)
                · skip
                  have ghq28 := eqI_false hq28
                  obtain ⟨e1, e2⟩ := do_some hz hd
                  simp only [e1, e2] at hq28
                  exact absurd (eqI_self _) (by rw [hq28]; decide)
              · skip
                have hd := clB_false hq27
                rcases Bool.eq_false_or_eq_true (eqI (doE (cI A) A.length (cR L) L.length (cB B) B.length (cI W) W.length) 5) with hq210 | hq210
                · skip
                  have ghq210 := eqI_true hq210
                  rcases Bool.eq_false_or_eq_true (eqI (doI (cI A) A.length (cR L) L.length (cB B) B.length (cI W) W.length) 0) with hq211 | hq211
                  · skip
                    have ghq211 := eqI_true hq211
                    rcases Bool.eq_false_or_eq_true (eqI (doK (cI A) A.length (cR L) L.length (cB B) B.length (cI W) W.length) 0) with hq212 | hq212
                    · skip
                      have ghq212 := eqI_true hq212
                      exact goes_eqR (r := (.bool .true)) (by obtain ⟨e1, e2, e3⟩ := do_none hz hd; first | rfl | (simp only [e1, e2, e3, eqI_self]; rfl) | (simp [e1, e2, e3, eqI_self]; done)) (goes_out Try.checked.mixed (known_zd hw) 200 (v := (.v (.bool .true))) (ps := [ltI 14 ((A.length : Nat) : Int) = false, false = false, false = false, false = false, ltI 14 ((L.length : Nat) : Int) = false, false = false, false = false, false = false, ltI 14 ((B.length : Nat) : Int) = false, false = false, false = false, false = false, ltI 100 ((W.length : Nat) : Int) = false, IsLampK 1 2 1 1 (cI A) A.length (cR L) L.length (cB B) B.length (cI W) W.length, IsLampK 1 2 1 1 (cI A) A.length (cR L) L.length (cB B) B.length (cI W) W.length, (!eqI (cdE (cI A) A.length (cR L) L.length (cB B) B.length (cI W) W.length a b) (cdE (cI A) A.length (cR L) L.length (cB B) B.length (cI W) W.length a b)) = false, IsLampK 1 2 1 1 (cI A) A.length (cR L) L.length (cB B) B.length (cI W) W.length, IsLampK 1 2 1 1 (cI A) A.length (cR L) L.length (cB B) B.length (cI W) W.length, (!eqI (clE (cI A) A.length (cR L) L.length B.length (cI W) W.length) 0) = false, IsLampK 1 2 1 1 (cI A) A.length (cR L) L.length (cB B) B.length (cI W) W.length, clE (cI A) A.length (cR L) L.length B.length (cI W) W.length = 0, clB (dtd (cI A) A.length (cR L) (cB B) W.length) = false, eqI (doE (cI A) A.length (cR L) L.length (cB B) B.length (cI W) W.length) 5 = true, true = true, eqI (doI (cI A) A.length (cR L) L.length (cB B) B.length (cI W) W.length) 0 = true, true = true, eqI (doK (cI A) A.length (cR L) L.length (cB B) B.length (cI W) W.length) 0 = true]) [.go, .go, .go, .go, .go, .go, .go, .go, .go, .go, .b false, .go, .b false, .go, .b false, .go, .b false, .go, .go, .go, .b false, .go, .b false, .go, .b false, .go, .b false, .go, .go, .go, .b false, .go, .b false, .go, .b false, .go, .b false, .go, .go, .go, .b false, .go, .go, .go, .go, .go, .go, .go, .b false, .go, .go, .go, .go, .go, .go, .go, .go, .go, .go, .b false, .go, .b false, .go, .go, .go, .b true, .go, .b true, .go, .go, .go, .b true, .go, .b true, .go, .go, .go, .b true, .go, .go] (by kernel_rfl) (by kernel_rfl) ⟨hq21, rfl, rfl, rfl, hq22, rfl, rfl, rfl, hq23, rfl, rfl, rfl, hq24, ⟨rfl, rfl, rfl, rfl, A, L, B, W, rfl, rfl, rfl, rfl, rfl, rfl, rfl, rfl⟩, ⟨rfl, rfl, rfl, rfl, A, L, B, W, rfl, rfl, rfl, rfl, rfl, rfl, rfl, rfl⟩, (by rw [hq25]; rfl), ⟨rfl, rfl, rfl, rfl, A, L, B, W, rfl, rfl, rfl, rfl, rfl, rfl, rfl, rfl⟩, ⟨rfl, rfl, rfl, rfl, A, L, B, W, rfl, rfl, rfl, rfl, rfl, rfl, rfl, rfl⟩, (by rw [hq26]; rfl), ⟨rfl, rfl, rfl, rfl, A, L, B, W, rfl, rfl, rfl, rfl, rfl, rfl, rfl, rfl⟩, hz, hq27, hq210, rfl, hq211, rfl, hq212, trivial⟩ rfl)
                    · skip
                      have ghq212 := eqI_false hq212
                      obtain ⟨e1, e2, e3⟩ := do_none hz hd
                      simp only [e1, e2, e3] at hq212
                      exact absurd (eqI_self _) (by rw [hq212]; decide)
                  · skip
                    have ghq211 := eqI_false hq211
                    obtain ⟨e1, e2, e3⟩ := do_none hz hd
                    simp only [e1, e2, e3] at hq211
                    exact absurd (eqI_self _) (by rw [hq211]; decide)
                · skip
                  have ghq210 := eqI_false hq210
                  obtain ⟨e1, e2, e3⟩ := do_none hz hd
                  simp only [e1, e2, e3] at hq210
                  exact absurd (eqI_self _) (by rw [hq210]; decide)
            · skip
              have ghq26 := eqI_false hq26
              have hnz := eqI_false hq26
              rcases Bool.eq_false_or_eq_true (eqI (doE (cI A) A.length (cR L) L.length (cB B) B.length (cI W) W.length) (clE (cI A) A.length (cR L) L.length B.length (cI W) W.length)) with hq213 | hq213
              · skip
                have ghq213 := eqI_true hq213
                rcases Bool.eq_false_or_eq_true (eqI (doI (cI A) A.length (cR L) L.length (cB B) B.length (cI W) W.length) 0) with hq214 | hq214
                · skip
                  have ghq214 := eqI_true hq214
                  rcases Bool.eq_false_or_eq_true (eqI (doK (cI A) A.length (cR L) L.length (cB B) B.length (cI W) W.length) 0) with hq215 | hq215
                  · skip
                    have ghq215 := eqI_true hq215
                    exact goes_eqR (r := (.bool .true)) (by obtain ⟨e1, e2, e3⟩ := do_lamp (B := cB B) (L := cR L) hnz; first | rfl | (simp only [e1, e2, e3, eqI_self]; rfl) | (simp [e1, e2, e3, eqI_self]; done)) (goes_out Try.checked.mixed (known_zd hw) 200 (v := (.v (.bool .true))) (ps := [ltI 14 ((A.length : Nat) : Int) = false, false = false, false = false, false = false, ltI 14 ((L.length : Nat) : Int) = false, false = false, false = false, false = false, ltI 14 ((B.length : Nat) : Int) = false, false = false, false = false, false = false, ltI 100 ((W.length : Nat) : Int) = false, IsLampK 1 2 1 1 (cI A) A.length (cR L) L.length (cB B) B.length (cI W) W.length, IsLampK 1 2 1 1 (cI A) A.length (cR L) L.length (cB B) B.length (cI W) W.length, (!eqI (cdE (cI A) A.length (cR L) L.length (cB B) B.length (cI W) W.length a b) (cdE (cI A) A.length (cR L) L.length (cB B) B.length (cI W) W.length a b)) = false, IsLampK 1 2 1 1 (cI A) A.length (cR L) L.length (cB B) B.length (cI W) W.length, IsLampK 1 2 1 1 (cI A) A.length (cR L) L.length (cB B) B.length (cI W) W.length, (!eqI (clE (cI A) A.length (cR L) L.length B.length (cI W) W.length) 0) = true, IsLampK 1 2 1 1 (cI A) A.length (cR L) L.length (cB B) B.length (cI W) W.length, eqI (doE (cI A) A.length (cR L) L.length (cB B) B.length (cI W) W.length) (clE (cI A) A.length (cR L) L.length B.length (cI W) W.length) = true, true = true, eqI (doI (cI A) A.length (cR L) L.length (cB B) B.length (cI W) W.length) 0 = true, true = true, eqI (doK (cI A) A.length (cR L) L.length (cB B) B.length (cI W) W.length) 0 = true]) [.go, .go, .go, .go, .go, .go, .go, .go, .go, .go, .b false, .go, .b false, .go, .b false, .go, .b false, .go, .go, .go, .b false, .go, .b false, .go, .b false, .go, .b false, .go, .go, .go, .b false, .go, .b false, .go, .b false, .go, .b false, .go, .go, .go, .b false, .go, .go, .go, .go, .go, .go, .go, .b false, .go, .go, .go, .go, .go, .go, .go, .go, .go, .go, .b true, .go, .go, .go, .go, .b true, .go, .b true, .go, .go, .go, .b true, .go, .b true, .go, .go, .go, .b true, .go, .go] (by kernel_rfl) (by kernel_rfl) ⟨hq21, rfl, rfl, rfl, hq22, rfl, rfl, rfl, hq23, rfl, rfl, rfl, hq24, ⟨rfl, rfl, rfl, rfl, A, L, B, W, rfl, rfl, rfl, rfl, rfl, rfl, rfl, rfl⟩, ⟨rfl, rfl, rfl, rfl, A, L, B, W, rfl, rfl, rfl, rfl, rfl, rfl, rfl, rfl⟩, (by rw [hq25]; rfl), ⟨rfl, rfl, rfl, rfl, A, L, B, W, rfl, rfl, rfl, rfl, rfl, rfl, rfl, rfl⟩, ⟨rfl, rfl, rfl, rfl, A, L, B, W, rfl, rfl, rfl, rfl, rfl, rfl, rfl, rfl⟩, (by rw [hq26]; rfl), ⟨rfl, rfl, rfl, rfl, A, L, B, W, rfl, rfl, rfl, rfl, rfl, rfl, rfl, rfl⟩, hq213, rfl, hq214, rfl, hq215, trivial⟩ rfl)
                  · skip
                    have ghq215 := eqI_false hq215
                    obtain ⟨e1, e2, e3⟩ := do_lamp (B := cB B) (L := cR L) hnz
                    simp only [e1, e2, e3] at hq215
                    exact absurd (eqI_self _) (by rw [hq215]; decide)
                · skip
                  have ghq214 := eqI_false hq214
                  obtain ⟨e1, e2, e3⟩ := do_lamp (B := cB B) (L := cR L) hnz
                  simp only [e1, e2, e3] at hq214
                  exact absurd (eqI_self _) (by rw [hq214]; decide)
              · skip
                have ghq213 := eqI_false hq213
                obtain ⟨e1, e2, e3⟩ := do_lamp (B := cB B) (L := cR L) hnz
                simp only [e1, e2, e3] at hq213
                exact absurd (eqI_self _) (by rw [hq213]; decide)
          · skip
            have ghq25 := eqI_false hq25
            exact absurd (eqI_self _) (by rw [hq25]; decide)
theorem zd_g (ya : Value) (yl : Value) (yf : Value) (yw : Value) (A : List Int) (L : List (Int × Int)) (B : List Bool) (W : List Int) (a : Int) (b : Int) (hw : Known Try.prog (clsO zwO)) : GivesA Try.prog 4 [.agg [.xl ya A.length 1 (cI A), .xl yl L.length 2 (cR L), .xl yf B.length 1 (cB B), .xl yw W.length 1 (cI W)], .v (.int .i64 a), .v (.int .i64 b)] (.bool true) :=
  givesA_parts 73 Try.func4 (by kernel_rfl) (by kernel_rfl) (by kernel_rfl) (fun w => goes_less (by kernel_rfl) (by kernel_rfl) (by kernel_rfl) (by kernel_rfl) (zd_2 ya yl yf yw A L B W a b hw w))
end
end Go.Proofs.Ytldekgkjofgacaa
