import Derived.Test.YtldekgkjofgacaaFt
/- Results with one new block which name what lies in the world too. -/
namespace Go.Proofs.Ytldekgkjofgacaa.Ev
set_option linter.unusedVariables false
set_option linter.unusedSimpArgs false
open Go
noncomputable section
variable {P : Program} {O : OrcH} {w0 : BaseW} {sz : Nat}
structure OneX (args : List AV) (V : Nat → AV) (x : AB) : Prop where
  val : ∀ (σ τ : Env) (b N B : Nat) (xs : List Value), σ.blk b = some B → τ.blk N = none → denL τ args = some xs → ∀ r, den σ (V b) = some r → den (τ.put N B (σ.cap b)) (V N) = some r
  blk : ∀ (σ τ : Env) (b N B : Nat), σ.blk b = some B → ∀ o, Blk σ b x o → Blk (τ.put N B (σ.cap b)) N x o
end
end Go.Proofs.Ytldekgkjofgacaa.Ev
