import Derived.Test.YtldekgkjofgacaaZ27
/- Lights behind a coating. -/
namespace Go.Proofs.Ytldekgkjofgacaa
open Go Ev
theorem coat_bd {a b:Int} (h:0≤a∧a≤200) (k:0≤b∧b≤1000):0≤(a * b).tdiv 1000∧(a * b).tdiv 1000≤200:=by
 have h1:=Int.mul_nonneg h.1 k.1
 have h2:a * b≤200 * 1000:=Int.mul_le_mul h.2 k.2 k.1 (by omega)
 rw [Int.tdiv_eq_ediv_of_nonneg h1]
 omega
end Go.Proofs.Ytldekgkjofgacaa
