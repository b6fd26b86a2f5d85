import Derived.Test.YtmankoikpadkpaaL2
import Derived.Test.YtmankoikpadkpaaFu
set_option linter.all false
/- For the tool. -/
namespace Go.Proofs.Ytmankoikpadkpaa
open Go Ev
noncomputable section
theorem rw_load {R:List (Value×List Int)} {i k:Nat} (hi:i < R.length) (hk:k < xlN (cRw R) (i * 1)) (t:TypeId) {d:TypeDesc} (hd:Try.prog.underlying t=some d) (ha:aggD d=false):loadL Try.prog (xlC (cRw R) (i * 1)) (k * 1) t=some (.v (.int .i64 (intAt (xlC (cRw R) (i * 1)) (k * 1)))):=by
 rw [Nat.mul_one i] at hk ⊢
 rw [cRw_n hi] at hk
 rw [cRw_c hi,Nat.mul_one]
 exact cI_load hk t hd ha
theorem see_not {R:List (Value×List Int)} {i k:Nat} (hk:k < xlN (cRw R) (i * 1)) (h:¬ seenAt (xlC (cRw R) (i * 1)) k):¬ seeAt (cRw R) i:=fun hs=>h (okS_all.1 hs k hk)
end
end Go.Proofs.Ytmankoikpadkpaa
