/- What is known of Value, Span and Places, for the law of bars. -/
import Derived.Test.YtchlehpjpgeejaaP16
namespace Go.Proofs.Ytchlehpjpgeejaa
set_option linter.unusedVariables false
set_option linter.unusedSimpArgs false
open Go Ev
noncomputable section

def vlS : List (Bool × List Int) → Option (AV × List Prop) := fun ys =>
  match ys with
  | [(true, [L, N, p, q, s, t, u, v]), (true, [a, b, c])] => some (.tup [.agg [.v (.int .i64 (vlN L N p q s t u v a b c)), .v (.int .i64 (vlD L N p q s t u v a b c))], .v (.int .i64 (vlE L N p q s t u v a b c))], [])
  | _ => none
def spS : List (Bool × List Int) → Option (AV × List Prop) := fun ys =>
  match ys with
  | [(true, [L, N, p, q, s, t, u, v])] => some (.tup [.agg [.v (.int .i64 (spN L N p q s t u v p t v)), .v (.int .i64 (spD L N p q s t u v p t v)), .v (.int .i64 (spN L N p q s t u v q s u)), .v (.int .i64 (spD L N p q s t u v q s u))], .v (.int .i64 (errB L N p q s t u v))], [])
  | _ => none
def vlO : OrcH := iOrc 34 vlS
def rvlO : OrcH := iOrc 35 vlS
def spO : OrcH := iOrc 36 spS
def rspO : OrcH := iOrc 37 spS
theorem known_vl : Known Try.prog (clsO vlO) := known_i (fun ys v ps h hp => by
  unfold vlS at h
  split at h
  · cases h
    exact ⟨_, rfl, Value_g _ _ _ _ _ _ _ _ _ _ _⟩
  · cases h)
theorem known_rvl : Known Try.prog (clsO rvlO) := known_i (fun ys v ps h hp => by
  unfold vlS at h
  split at h
  · cases h
    exact ⟨_, rfl, rValue_g _ _ _ _ _ _ _ _ _ _ _⟩
  · cases h)
theorem known_sp : Known Try.prog (clsO spO) := known_i (fun ys v ps h hp => by
  unfold spS at h
  split at h
  · cases h
    exact ⟨_, rfl, Span_g _ _ _ _ _ _ _ _⟩
  · cases h)
theorem known_rsp : Known Try.prog (clsO rspO) := known_i (fun ys v ps h hp => by
  unfold spS at h
  split at h
  · cases h
    exact ⟨_, rfl, rSpan_g _ _ _ _ _ _ _ _⟩
  · cases h)
/-- Places: too few or too many lamps; a wrong one; all right. -/
def manyS : List Vw → Option (Res1 × List Prop) := fun vs =>
  match vs with
  | [.lst n k c] => some (.val (.tup [.v (.slice none 0 0), .v (.int .i64 6)]), [IsL k n c, ¬ (1 ≤ n ∧ n ≤ 12)])
  | _ => none
def argS : List Vw → Option (Res1 × List Prop) := fun vs =>
  match vs with
  | [.lst n k c] => some (.val (.tup [.v (.slice none 0 0), .v (.int .i64 2)]), [IsL k n c, 1 ≤ n ∧ n ≤ 12, okC 0 100000 c n = false])
  | _ => none
def okS : List Vw → Option (Res1 × List Prop) := fun vs =>
  match vs with
  | [.lst n k c] => some (.blk (fun b => .tup [.sl b 0 n n, .v (.int .i64 0)]) (.cells (plUp c n n) 44), [IsL k n c, 1 ≤ n ∧ n ≤ 12, okC 0 100000 c n = true])
  | _ => none
def rokS : List Vw → Option (Res1 × List Prop) := fun vs =>
  match vs with
  | [.lst n k c] => some (.blk (fun b => .tup [.slu b 0 n 0, .v (.int .i64 0)]) (.row (plUp c n n) 44 2), [IsL k n c, 1 ≤ n ∧ n ≤ 12, okC 0 100000 c n = true])
  | _ => none
theorem len1 {ys : List Value} (h : ys.length = 1) : ∃ a, ys = [a] := by
  match ys, h with
  | [a], _ => exact ⟨a, rfl⟩
theorem known_many : Known Try.prog (clsO (avOrc 38 [2] manyS)) := known_av (fun vs r ps h hp => by
  unfold manyS at h
  split at h
  · cases h
    obtain ⟨⟨rfl, L, rfl, rfl, hL⟩, h2, -⟩ := hp
    refine ⟨⟨⟨_, cR_plain L⟩, trivial⟩, fun ys hy => ?_⟩
    obtain ⟨y1, rfl⟩ := len1 hy
    exact ⟨_, rfl, Places_many y1 L h2⟩
  · cases h)
theorem known_rmany : Known Try.prog (clsO (avOrc 39 [2] manyS)) := known_av (fun vs r ps h hp => by
  unfold manyS at h
  split at h
  · cases h
    obtain ⟨⟨rfl, L, rfl, rfl, hL⟩, h2, -⟩ := hp
    refine ⟨⟨⟨_, cR_plain L⟩, trivial⟩, fun ys hy => ?_⟩
    obtain ⟨y1, rfl⟩ := len1 hy
    exact ⟨_, rfl, rPlaces_many y1 L h2⟩
  · cases h)
theorem known_arg : Known Try.prog (clsO (avOrc 38 [2] argS)) := known_av (fun vs r ps h hp => by
  unfold argS at h
  split at h
  · cases h
    obtain ⟨⟨rfl, L, rfl, rfl, hL⟩, h2, h3, -⟩ := hp
    refine ⟨⟨⟨_, cR_plain L⟩, trivial⟩, fun ys hy => ?_⟩
    obtain ⟨y1, rfl⟩ := len1 hy
    exact ⟨_, rfl, Places_arg y1 L h2 h3⟩
  · cases h)
theorem known_rarg : Known Try.prog (clsO (avOrc 39 [2] argS)) := known_av (fun vs r ps h hp => by
  unfold argS at h
  split at h
  · cases h
    obtain ⟨⟨rfl, L, rfl, rfl, hL⟩, h2, h3, -⟩ := hp
    refine ⟨⟨⟨_, cR_plain L⟩, trivial⟩, fun ys hy => ?_⟩
    obtain ⟨y1, rfl⟩ := len1 hy
    exact ⟨_, rfl, rPlaces_arg y1 L h2 h3⟩
  · cases h)
theorem known_ok : Known Try.prog (clsO (avOrc 38 [2] okS)) := known_av (fun vs r ps h hp => by
  unfold okS at h
  split at h
  · cases h
    obtain ⟨⟨rfl, L, rfl, rfl, hL⟩, h2, h3, -⟩ := hp
    refine ⟨⟨⟨_, cR_plain L⟩, trivial⟩, fun ys hy => ?_⟩
    obtain ⟨y1, rfl⟩ := len1 hy
    exact Places_ok y1 L h2 h3
  · cases h)
theorem known_rok : Known Try.prog (clsO (avOrc 39 [2] rokS)) := known_av (fun vs r ps h hp => by
  unfold rokS at h
  split at h
  · cases h
    obtain ⟨⟨rfl, L, rfl, rfl, hL⟩, h2, h3, -⟩ := hp
    refine ⟨⟨⟨_, cR_plain L⟩, trivial⟩, fun ys hy => ?_⟩
    obtain ⟨y1, rfl⟩ := len1 hy
    exact rPlaces_ok y1 L h2 h3
  · cases h)
def wkO : OrcH := plainOrc 15 (fun xs => match xs with | [] => some (.v (.bool true)) | _ => none)
def barO : OrcH := orO (orO (orO vlO rvlO) (orO spO rspO)) (orO (orO ckO rckO) (orO rgO wkO))
theorem known_barO (hw : Known Try.prog (clsO wkO)) : Known Try.prog (clsO barO) := known_or (known_or (known_or known_vl known_rvl) (known_or known_sp known_rsp)) (known_or (known_or known_ck known_rck) (known_or known_rg hw))
def manyO : OrcH := orO barO (orO (avOrc 38 [2] manyS) (avOrc 39 [2] manyS))
def argO : OrcH := orO barO (orO (avOrc 38 [2] argS) (avOrc 39 [2] argS))
def okO : OrcH := orO barO (orO (avOrc 38 [2] okS) (avOrc 39 [2] rokS))
theorem known_manyO (hw : Known Try.prog (clsO wkO)) : Known Try.prog (clsO manyO) := known_or (known_barO hw) (known_or known_many known_rmany)
theorem known_argO (hw : Known Try.prog (clsO wkO)) : Known Try.prog (clsO argO) := known_or (known_barO hw) (known_or known_arg known_rarg)
theorem known_okO (hw : Known Try.prog (clsO wkO)) : Known Try.prog (clsO okO) := known_or (known_barO hw) (known_or known_ok known_rok)
end
end Go.Proofs.Ytchlehpjpgeejaa
