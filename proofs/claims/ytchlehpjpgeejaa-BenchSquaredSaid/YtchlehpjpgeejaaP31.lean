/- Less, proper, True of the laws. -/
import Derived.Test.YtchlehpjpgeejaaP30
namespace Go.Proofs.Ytchlehpjpgeejaa
set_option linter.unusedVariables false
set_option linter.unusedSimpArgs false
open Go Ev
noncomputable section

theorem Less_g (a b c d : Int) (h : LsOK a b c d) : GivesA Try.prog 55 [.agg [.v (.int .i64 a), .v (.int .i64 b)], .agg [.v (.int .i64 c), .v (.int .i64 d)]] (.bool (lessR a b c d false)) := by
  obtain ⟨k1, k2, k3, k4, k5, k6, k7, k8⟩ := id h
  refine givesA_parts 85 Try.func55 (by kernel_rfl) (by kernel_rfl) (by kernel_rfl) (fun w => ?_)
  refine goes_spine (T' := ⟨[(2, .ptr 0 0), (3, .ptr 1 0)], [], 2, [(0, .cells [.v (.int .i64 a), .v (.int .i64 b)] 51), (1, .cells [.v (.int .i64 c), .v (.int .i64 d)] 51)]⟩) (by kernel_rfl) (goes_told Try.checked.mixed known_none 200 (e := .normal) (ps := []) [.go, .go, .go] (by kernel_rfl) (by kernel_rfl) trivial rfl) ?_
  refine goes_spine (T' := ⟨[(2, .ptr 0 0), (3, .ptr 1 0)], [], 2, [(0, .cells [.v (.int .i64 a), .v (.int .i64 b)] 51), (1, .cells [.v (.int .i64 c), .v (.int .i64 d)] 51)]⟩) (by kernel_rfl) (goes_told Try.checked.mixed known_none 200 (e := .normal) (ps := [ltI a 0 = false, false = false, false = false, ltI c 0 = false, false = false, false = false, ltI b 1 = false, false = false, false = false, ltI d 1 = false]) [.go, .go, .go, .go, .b false, .go, .b false, .go, .b false, .go, .go, .go, .b false, .go, .b false, .go, .b false, .go, .go, .go, .b false, .go, .b false, .go, .b false, .go, .go, .b false] (by kernel_rfl) (by kernel_rfl) ⟨ltI_ge (by omega), rfl, rfl, ltI_ge (by omega), rfl, rfl, ltI_ge (by omega), rfl, rfl, ltI_ge (by omega), trivial⟩ rfl) ?_
  refine goes_spine (T' := ⟨[(2, .ptr 0 0), (3, .ptr 1 0), (5, .v (.bool false))], [], 2, [(0, .cells [.v (.int .i64 a), .v (.int .i64 b)] 51), (1, .cells [.v (.int .i64 c), .v (.int .i64 d)] 51)]⟩) (by kernel_rfl) (goes_told Try.checked.mixed known_none 200 (e := .normal) (ps := []) [.go] (by kernel_rfl) (by kernel_rfl) trivial rfl) ?_
  refine goes_mono (ls_loop (lessR a b c d false) ⟨((a, b), (c, d), false), h, rfl⟩ w) (fun e a w' hp => ?_)
  rcases hp with ⟨-, i, hi, -⟩ | ⟨rfl, hq⟩
  · exact hi.elim
  · exact hq

def prB (n d : Int) : Bool := eqI (rn n d) n && (eqI (rd n d) d && true)
theorem proper_g (n d : Int) (h1 : 0 ≤ n ∧ n ≤ 9223372036854775807) (h2 : 1 ≤ d ∧ d ≤ 9223372036854775807) : GivesA Try.prog 54 [.agg [.v (.int .i64 n), .v (.int .i64 d)]] (.bool (prB n d)) :=
  givesA_told (v := .v (.bool (prB n d))) (ps := [(!ltI n 0) = true, true = true, true = true, (!ltI d 1) = true, true = true, true = true, true = true, true = true, 0 ≤ n ∧ n ≤ 9223372036854775807, 1 ≤ d ∧ d ≤ 9223372036854775807, true = true, true = true]) Try.checked.mixed known_fr 200 [.go, .go, .go, .go, .go, .go, .b true, .go, .b true, .go, .b true, .go, .go, .go, .b true, .go, .b true, .go, .b true, .go, .b true, .go, .b true, .b true, .go, .b true, .go, .go, .go] (by kernel_rfl) ⟨(by rw [ltI_ge (by omega)]; rfl), rfl, rfl, (by rw [ltI_ge (by omega)]; rfl), rfl, rfl, rfl, rfl, h1, h2, rfl, rfl, trivial⟩ rfl

theorem True_g (L N p q s t u v a b c : Int) (h1 : PickP p q a) (h2 : PickP s t b) (h3 : PickP u v c) : GivesA Try.prog 53 [.agg [.v (.int .i64 L), .v (.int .i64 N), .v (.int .i64 p), .v (.int .i64 q), .v (.int .i64 s), .v (.int .i64 t), .v (.int .i64 u), .v (.int .i64 v)], .agg [.v (.int .u32 a), .v (.int .u32 b), .v (.int .u32 c)]] (.agg #[.int .i64 (pickN p q a), .int .i64 (pickN s t b), .int .i64 (pickN u v c)]) :=
  givesA_told (v := .agg [.v (.int .i64 (pickN p q a)), .v (.int .i64 (pickN s t b)), .v (.int .i64 (pickN u v c))]) (ps := [PickP p q a, PickP s t b, PickP u v c]) Try.checked.mixed known_pick 200 [.go, .go, .go, .go, .go, .go, .go, .go, .go, .go, .go, .go, .go, .go, .go, .go, .go] (by kernel_rfl) ⟨h1, h2, h3, trivial⟩ rfl

def lsS : List (Bool × List Int) → Option (AV × List Prop) := fun ys =>
  match ys with
  | [(true, [a, b]), (true, [c, d])] => some (.v (.bool (lessR a b c d false)), [LsOK a b c d])
  | _ => none
def lsO : OrcH := iOrc 55 lsS
theorem known_ls : Known Try.prog (clsO lsO) := known_i (fun ys v ps h hp => by
  unfold lsS at h
  split at h
  · cases h
    exact ⟨_, rfl, (Less_g _ _ _ _ hp.1).plain rfl⟩
  · cases h)
def prpS : List (Bool × List Int) → Option (AV × List Prop) := fun ys =>
  match ys with
  | [(true, [n, d])] => some (.v (.bool (prB n d)), [0 ≤ n ∧ n ≤ 9223372036854775807, 1 ≤ d ∧ d ≤ 9223372036854775807])
  | _ => none
def prpO : OrcH := iOrc 54 prpS
theorem known_prp : Known Try.prog (clsO prpO) := known_i (fun ys v ps h hp => by
  unfold prpS at h
  split at h
  · cases h
    exact ⟨_, rfl, (proper_g _ _ hp.1 hp.2.1).plain rfl⟩
  · cases h)
def u32sL : List Value → Option (List Int)
  | [] => some []
  | v :: l => match v with
    | .int k n => match k with
      | .u32 => match u32sL l with
        | some ns => some (n :: ns)
        | none => none
      | _ => none
    | _ => none
theorem u32sL_eq : ∀ {vs : List Value} {ns : List Int}, u32sL vs = some ns → vs = ns.map (Value.int .u32)
  | [], ns, h => by cases h; rfl
  | v :: l, ns, h => by
    unfold u32sL at h
    split at h
    · split at h
      · split at h
        · rename_i q
          cases h
          rw [u32sL_eq q]
          rfl
        · cases h
      · cases h
    · cases h
def trS : List Value → Option (AV × List Prop) := fun xs =>
  match xs with
  | [.agg x, .agg y] => match intsL x.toList, u32sL y.toList with
    | some [L, N, p, q, s, t, u, v], some [a, b, c] => some (.agg [.v (.int .i64 (pickN p q a)), .v (.int .i64 (pickN s t b)), .v (.int .i64 (pickN u v c))], [PickP p q a, PickP s t b, PickP u v c])
    | _, _ => none
  | _ => none
def trO : OrcH := condOrc 53 trS
theorem known_tr : Known Try.prog (clsO trO) := known_cond (fun xs v ps h hp => by
  unfold trS at h
  split at h
  · rename_i x y
    split at h
    · rename_i L N p q s t u v a b c e1 e2
      cases h
      have h1 := intsL_eq e1
      have h2 := u32sL_eq e2
      have ex : x = #[.int .i64 L, .int .i64 N, .int .i64 p, .int .i64 q, .int .i64 s, .int .i64 t, .int .i64 u, .int .i64 v] := by apply Array.ext'; simpa using h1
      have ey : y = #[.int .u32 a, .int .u32 b, .int .u32 c] := by apply Array.ext'; simpa using h2
      rw [ex, ey]
      exact ⟨_, rfl, (True_g L N p q s t u v a b c hp.1 hp.2.1 hp.2.2.1).plain rfl⟩
    · cases h
  · cases h)
def sqO : OrcH := orO (orO (orO vlO spO) (orO rckO trO)) (orO (orO lsO prpO) wkO)
theorem known_sq (hw : Known Try.prog (clsO wkO)) : Known Try.prog (clsO sqO) := known_or (known_or (known_or known_vl known_sp) (known_or known_rck known_tr)) (known_or (known_or known_ls known_prp) hw)

end
end Go.Proofs.Ytchlehpjpgeejaa
