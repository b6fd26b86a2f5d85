/-
  No cell of these rows narrows 'for every input' (looked for: loops, veiled, ifaces, maps, wideKeys, modest, calm, conditions, laid).
  DERIVED. THE GIVEN ROWS OF THIS SEAT. 11 by the template 'for every input the law returns true; each argument reads behind the call as it read before'; 0 by the template 'total and deterministic' (their statements: YtbdjllgngblfoaaTotals.lean).
  GIVEN WITH THE SEED: the statements are not yours to turn. If you find one false, say at which input.
  Laid BY PROGRAM, IN A SANDBOX (cutbox-rows.mjs): the forced cells as the released guide's own fill.sh prints them over the translation 7022b7ac704751e6… (all of the seat's roots in one cut). By AI agents, Wed Nov 11 2026. No macro, syntax, notation, axiom, sorry.
-/
import Derived.Test.YtbdjllgngblfoaaChecked
import GoSem.Claim
import GoSem.ClaimJoined
import GoSem.ClaimMapViews
import Derived.JoinedTies
import Derived.KernelRfl
namespace Go.Proofs.Ytbdjllgngblfoaa
/- THE CELL 'sum', in the pinned program and in every row, IS THE sha256 OF THE DUMP (.gsa) THAT YtbdjllgngblfoaaProg.lean LOADS. Nothing in Lean hashes anything: it is a label: what it is worth is what the hold of that sum in a sandbox is worth. -/
noncomputable def Try.pinned : Pinned := { name := "ytbdjllgngblfoaa", sum := "7022b7ac704751e61fdaf0ac96440f04632670b58d399a6cafaf77f01630cb0a", checked := Try.checked }
namespace Rows
def none {H : Type} : Left H := { results := [], args := [] }

/-- 'lampblacklaw01.UnitSimple': WHATEVER THE INPUT: true; the input reads as it did. -/
def unitSimpleSpec : ChangeSpec := { name := "unitSimple", fn := fun _ => fun
  | [d] => { results := [.lit (.bool true)], args := [d] }
  | _ => none }
def unitSimpleRow : OpenClaim := { program := "ytbdjllgngblfoaa", sum := "7022b7ac704751e61fdaf0ac96440f04632670b58d399a6cafaf77f01630cb0a", func := "lampblack/lampblacklaw01.UnitSimple", spec := "unitSimple", unfollowed := true, recurses := true, apart := false }
def UnitSimpleSaid : Prop := unitSimpleRow.holds Try.pinned (OpenSpec.ofChange unitSimpleSpec)

/-- ITS FALSE NEIGHBOUR: 'it returns false'. Refute it at one input. -/
def unitSimpleWrong : ChangeSpec := { name := "unitSimple", fn := fun _ => fun
  | [d] => { results := [.lit (.bool false)], args := [d] }
  | _ => none }
def UnitSimpleWrongFalsely : Prop := unitSimpleRow.holds Try.pinned (OpenSpec.ofChange unitSimpleWrong)

/-- 'lampblacklaw01.UnitProofs': WHATEVER THE INPUT: true; the input reads as it did. -/
def unitProofsSpec : ChangeSpec := { name := "unitProofs", fn := fun _ => fun
  | [d1, d2] => { results := [.lit (.bool true)], args := [d1, d2] }
  | _ => none }
def unitProofsRow : OpenClaim := { program := "ytbdjllgngblfoaa", sum := "7022b7ac704751e61fdaf0ac96440f04632670b58d399a6cafaf77f01630cb0a", func := "lampblack/lampblacklaw01.UnitProofs", spec := "unitProofs", unfollowed := true, recurses := true, apart := false }
def UnitProofsSaid : Prop := unitProofsRow.holds Try.pinned (OpenSpec.ofChange unitProofsSpec)

/-- ITS FALSE NEIGHBOUR: 'it returns false'. Refute it at one input. -/
def unitProofsWrong : ChangeSpec := { name := "unitProofs", fn := fun _ => fun
  | [d1, d2] => { results := [.lit (.bool false)], args := [d1, d2] }
  | _ => none }
def UnitProofsWrongFalsely : Prop := unitProofsRow.holds Try.pinned (OpenSpec.ofChange unitProofsWrong)

/-- 'lampblacklaw01.UnitPaths': WHATEVER THE INPUT: true; the input reads as it did. -/
def unitPathsSpec : ChangeSpec := { name := "unitPaths", fn := fun _ => fun
  | [d1, d2] => { results := [.lit (.bool true)], args := [d1, d2] }
  | _ => none }
def unitPathsRow : OpenClaim := { program := "ytbdjllgngblfoaa", sum := "7022b7ac704751e61fdaf0ac96440f04632670b58d399a6cafaf77f01630cb0a", func := "lampblack/lampblacklaw01.UnitPaths", spec := "unitPaths", unfollowed := true, recurses := true, apart := false }
def UnitPathsSaid : Prop := unitPathsRow.holds Try.pinned (OpenSpec.ofChange unitPathsSpec)

/-- ITS FALSE NEIGHBOUR: 'it returns false'. Refute it at one input. -/
def unitPathsWrong : ChangeSpec := { name := "unitPaths", fn := fun _ => fun
  | [d1, d2] => { results := [.lit (.bool false)], args := [d1, d2] }
  | _ => none }
def UnitPathsWrongFalsely : Prop := unitPathsRow.holds Try.pinned (OpenSpec.ofChange unitPathsWrong)

/-- 'lampblacklaw01.UnitNexts': WHATEVER THE INPUT: true; the input reads as it did. -/
def unitNextsSpec : ChangeSpec := { name := "unitNexts", fn := fun _ => fun
  | [d1, d2] => { results := [.lit (.bool true)], args := [d1, d2] }
  | _ => none }
def unitNextsRow : OpenClaim := { program := "ytbdjllgngblfoaa", sum := "7022b7ac704751e61fdaf0ac96440f04632670b58d399a6cafaf77f01630cb0a", func := "lampblack/lampblacklaw01.UnitNexts", spec := "unitNexts", unfollowed := true, recurses := true, apart := false }
def UnitNextsSaid : Prop := unitNextsRow.holds Try.pinned (OpenSpec.ofChange unitNextsSpec)

/-- ITS FALSE NEIGHBOUR: 'it returns false'. Refute it at one input. -/
def unitNextsWrong : ChangeSpec := { name := "unitNexts", fn := fun _ => fun
  | [d1, d2] => { results := [.lit (.bool false)], args := [d1, d2] }
  | _ => none }
def UnitNextsWrongFalsely : Prop := unitNextsRow.holds Try.pinned (OpenSpec.ofChange unitNextsWrong)

/-- 'lampblacklaw01.UnitProved': WHATEVER THE INPUT: true; the input reads as it did. -/
def unitProvedSpec : ChangeSpec := { name := "unitProved", fn := fun _ => fun
  | [d1, d2, d3] => { results := [.lit (.bool true)], args := [d1, d2, d3] }
  | _ => none }
def unitProvedRow : OpenClaim := { program := "ytbdjllgngblfoaa", sum := "7022b7ac704751e61fdaf0ac96440f04632670b58d399a6cafaf77f01630cb0a", func := "lampblack/lampblacklaw01.UnitProved", spec := "unitProved", unfollowed := true, recurses := true, apart := false }
def UnitProvedSaid : Prop := unitProvedRow.holds Try.pinned (OpenSpec.ofChange unitProvedSpec)

/-- ITS FALSE NEIGHBOUR: 'it returns false'. Refute it at one input. -/
def unitProvedWrong : ChangeSpec := { name := "unitProved", fn := fun _ => fun
  | [d1, d2, d3] => { results := [.lit (.bool false)], args := [d1, d2, d3] }
  | _ => none }
def UnitProvedWrongFalsely : Prop := unitProvedRow.holds Try.pinned (OpenSpec.ofChange unitProvedWrong)

/-- 'lampblacklaw01.UnitCarried': WHATEVER THE INPUT: true; the input reads as it did. -/
def unitCarriedSpec : ChangeSpec := { name := "unitCarried", fn := fun _ => fun
  | [d1, d2, d3] => { results := [.lit (.bool true)], args := [d1, d2, d3] }
  | _ => none }
def unitCarriedRow : OpenClaim := { program := "ytbdjllgngblfoaa", sum := "7022b7ac704751e61fdaf0ac96440f04632670b58d399a6cafaf77f01630cb0a", func := "lampblack/lampblacklaw01.UnitCarried", spec := "unitCarried", unfollowed := true, recurses := true, apart := false }
def UnitCarriedSaid : Prop := unitCarriedRow.holds Try.pinned (OpenSpec.ofChange unitCarriedSpec)

/-- ITS FALSE NEIGHBOUR: 'it returns false'. Refute it at one input. -/
def unitCarriedWrong : ChangeSpec := { name := "unitCarried", fn := fun _ => fun
  | [d1, d2, d3] => { results := [.lit (.bool false)], args := [d1, d2, d3] }
  | _ => none }
def UnitCarriedWrongFalsely : Prop := unitCarriedRow.holds Try.pinned (OpenSpec.ofChange unitCarriedWrong)

/-- 'lampblacklaw01.UnitTurned': WHATEVER THE INPUT: true; the input reads as it did. -/
def unitTurnedSpec : ChangeSpec := { name := "unitTurned", fn := fun _ => fun
  | [d1, d2] => { results := [.lit (.bool true)], args := [d1, d2] }
  | _ => none }
def unitTurnedRow : OpenClaim := { program := "ytbdjllgngblfoaa", sum := "7022b7ac704751e61fdaf0ac96440f04632670b58d399a6cafaf77f01630cb0a", func := "lampblack/lampblacklaw01.UnitTurned", spec := "unitTurned", unfollowed := true, recurses := true, apart := false }
def UnitTurnedSaid : Prop := unitTurnedRow.holds Try.pinned (OpenSpec.ofChange unitTurnedSpec)

/-- ITS FALSE NEIGHBOUR: 'it returns false'. Refute it at one input. -/
def unitTurnedWrong : ChangeSpec := { name := "unitTurned", fn := fun _ => fun
  | [d1, d2] => { results := [.lit (.bool false)], args := [d1, d2] }
  | _ => none }
def UnitTurnedWrongFalsely : Prop := unitTurnedRow.holds Try.pinned (OpenSpec.ofChange unitTurnedWrong)

/-- 'lampblacklaw01.UnitNarrower': WHATEVER THE INPUT: true; the input reads as it did. -/
def unitNarrowerSpec : ChangeSpec := { name := "unitNarrower", fn := fun _ => fun
  | [d1, d2] => { results := [.lit (.bool true)], args := [d1, d2] }
  | _ => none }
def unitNarrowerRow : OpenClaim := { program := "ytbdjllgngblfoaa", sum := "7022b7ac704751e61fdaf0ac96440f04632670b58d399a6cafaf77f01630cb0a", func := "lampblack/lampblacklaw01.UnitNarrower", spec := "unitNarrower", unfollowed := true, recurses := true, apart := false }
def UnitNarrowerSaid : Prop := unitNarrowerRow.holds Try.pinned (OpenSpec.ofChange unitNarrowerSpec)

/-- ITS FALSE NEIGHBOUR: 'it returns false'. Refute it at one input. -/
def unitNarrowerWrong : ChangeSpec := { name := "unitNarrower", fn := fun _ => fun
  | [d1, d2] => { results := [.lit (.bool false)], args := [d1, d2] }
  | _ => none }
def UnitNarrowerWrongFalsely : Prop := unitNarrowerRow.holds Try.pinned (OpenSpec.ofChange unitNarrowerWrong)

/-- 'lampblacklaw01.UnitPath': WHATEVER THE INPUT: true; the input reads as it did. -/
def unitPathSpec : ChangeSpec := { name := "unitPath", fn := fun _ => fun
  | [d1, d2] => { results := [.lit (.bool true)], args := [d1, d2] }
  | _ => none }
def unitPathRow : OpenClaim := { program := "ytbdjllgngblfoaa", sum := "7022b7ac704751e61fdaf0ac96440f04632670b58d399a6cafaf77f01630cb0a", func := "lampblack/lampblacklaw01.UnitPath", spec := "unitPath", unfollowed := true, recurses := true, apart := false }
def UnitPathSaid : Prop := unitPathRow.holds Try.pinned (OpenSpec.ofChange unitPathSpec)

/-- ITS FALSE NEIGHBOUR: 'it returns false'. Refute it at one input. -/
def unitPathWrong : ChangeSpec := { name := "unitPath", fn := fun _ => fun
  | [d1, d2] => { results := [.lit (.bool false)], args := [d1, d2] }
  | _ => none }
def UnitPathWrongFalsely : Prop := unitPathRow.holds Try.pinned (OpenSpec.ofChange unitPathWrong)

/-- 'lampblacklaw01.UnitNeighbours': WHATEVER THE INPUT: true; the input reads as it did. -/
def unitNeighboursSpec : ChangeSpec := { name := "unitNeighbours", fn := fun _ => fun
  | [d1, d2, d3, d4] => { results := [.lit (.bool true)], args := [d1, d2, d3, d4] }
  | _ => none }
def unitNeighboursRow : OpenClaim := { program := "ytbdjllgngblfoaa", sum := "7022b7ac704751e61fdaf0ac96440f04632670b58d399a6cafaf77f01630cb0a", func := "lampblack/lampblacklaw01.UnitNeighbours", spec := "unitNeighbours", unfollowed := true, recurses := true, apart := false }
def UnitNeighboursSaid : Prop := unitNeighboursRow.holds Try.pinned (OpenSpec.ofChange unitNeighboursSpec)

/-- ITS FALSE NEIGHBOUR: 'it returns false'. Refute it at one input. -/
def unitNeighboursWrong : ChangeSpec := { name := "unitNeighbours", fn := fun _ => fun
  | [d1, d2, d3, d4] => { results := [.lit (.bool false)], args := [d1, d2, d3, d4] }
  | _ => none }
def UnitNeighboursWrongFalsely : Prop := unitNeighboursRow.holds Try.pinned (OpenSpec.ofChange unitNeighboursWrong)

/-- 'lampblacklaw01.UnitKnown': WHATEVER THE INPUT: true; the input reads as it did. -/
def unitKnownSpec : ChangeSpec := { name := "unitKnown", fn := fun _ => fun
  | [] => { results := [.lit (.bool true)], args := [] }
  | _ => none }
def unitKnownRow : OpenClaim := { program := "ytbdjllgngblfoaa", sum := "7022b7ac704751e61fdaf0ac96440f04632670b58d399a6cafaf77f01630cb0a", func := "lampblack/lampblacklaw01.UnitKnown", spec := "unitKnown", unfollowed := true, recurses := true, apart := false }
def UnitKnownSaid : Prop := unitKnownRow.holds Try.pinned (OpenSpec.ofChange unitKnownSpec)

/-- ITS FALSE NEIGHBOUR: 'it returns false'. Refute it at one input. -/
def unitKnownWrong : ChangeSpec := { name := "unitKnown", fn := fun _ => fun
  | [] => { results := [.lit (.bool false)], args := [] }
  | _ => none }
def UnitKnownWrongFalsely : Prop := unitKnownRow.holds Try.pinned (OpenSpec.ofChange unitKnownWrong)

/- THE SECOND FORM. 'bulk': how many values and letters a reading holds, each counted each time it is reached (what is shared counts as often as it is met; a slice's spare places count too). A statement '..UptoSaid' is the law's where the arguments, and the package variables that the reading takes, are together of bulk at most 1048576: NARROWER than '..Said'. Prove '..Said' where nothing that the law and all that it calls make is longer than what came in: it says more and counts as full. Else prove '..UptoSaid'. A law counts once. -/
mutual
def uptoBulk {H : Type} : DataW H → Nat
  | .lit (.string bytes) => bytes.length + 1
  | .lit _ => 1
  | .nil => 1
  | .ptr d => uptoBulk d + 1
  | .slice elems spare => uptoBulkAll elems + uptoBulkAll spare + 1
  | .agg parts => uptoBulkAll parts + 1
  | .iface _ d => uptoBulk d + 1
  | .map entries => uptoBulkEntries entries + 1
  | .held _ => 1
def uptoBulkAll {H : Type} : List (DataW H) → Nat
  | [] => 0
  | d :: r => uptoBulk d + uptoBulkAll r
def uptoBulkEntries {H : Type} : List (Lit × DataW H) → Nat
  | [] => 0
  | x :: r => uptoBulkEntry x + uptoBulkEntries r
def uptoBulkEntry {H : Type} : Lit × DataW H → Nat
  | (.string bytes, d) => bytes.length + uptoBulk d + 1
  | (_, d) => uptoBulk d + 1
 end
def uptoSmall : (H : Type) → List (DataW H) → Bool := fun _ ds => decide (uptoBulkAll ds ≤ 1048576)
def OpenSpec.upto (s : _root_.Go.ChangeSpec) : _root_.Go.OpenSpec := { _root_.Go.OpenSpec.ofChange s with cond := some uptoSmall }

/-- 'lampblacklaw01.UnitSimple', WHERE WHAT IT READS IS OF BULK AT MOST 1048576: true; the input reads as it did. -/
def unitSimpleUptoRow : OpenClaim := { program := "ytbdjllgngblfoaa", sum := "7022b7ac704751e61fdaf0ac96440f04632670b58d399a6cafaf77f01630cb0a", func := "lampblack/lampblacklaw01.UnitSimple", spec := "unitSimple", unfollowed := true, recurses := true, apart := false, narrowed := true }
def UnitSimpleUptoSaid : Prop := unitSimpleUptoRow.holds Try.pinned (OpenSpec.upto unitSimpleSpec)

/-- 'lampblacklaw01.UnitProofs', WHERE WHAT IT READS IS OF BULK AT MOST 1048576: true; the input reads as it did. -/
def unitProofsUptoRow : OpenClaim := { program := "ytbdjllgngblfoaa", sum := "7022b7ac704751e61fdaf0ac96440f04632670b58d399a6cafaf77f01630cb0a", func := "lampblack/lampblacklaw01.UnitProofs", spec := "unitProofs", unfollowed := true, recurses := true, apart := false, narrowed := true }
def UnitProofsUptoSaid : Prop := unitProofsUptoRow.holds Try.pinned (OpenSpec.upto unitProofsSpec)

/-- 'lampblacklaw01.UnitPaths', WHERE WHAT IT READS IS OF BULK AT MOST 1048576: true; the input reads as it did. -/
def unitPathsUptoRow : OpenClaim := { program := "ytbdjllgngblfoaa", sum := "7022b7ac704751e61fdaf0ac96440f04632670b58d399a6cafaf77f01630cb0a", func := "lampblack/lampblacklaw01.UnitPaths", spec := "unitPaths", unfollowed := true, recurses := true, apart := false, narrowed := true }
def UnitPathsUptoSaid : Prop := unitPathsUptoRow.holds Try.pinned (OpenSpec.upto unitPathsSpec)

/-- 'lampblacklaw01.UnitNexts', WHERE WHAT IT READS IS OF BULK AT MOST 1048576: true; the input reads as it did. -/
def unitNextsUptoRow : OpenClaim := { program := "ytbdjllgngblfoaa", sum := "7022b7ac704751e61fdaf0ac96440f04632670b58d399a6cafaf77f01630cb0a", func := "lampblack/lampblacklaw01.UnitNexts", spec := "unitNexts", unfollowed := true, recurses := true, apart := false, narrowed := true }
def UnitNextsUptoSaid : Prop := unitNextsUptoRow.holds Try.pinned (OpenSpec.upto unitNextsSpec)

/-- 'lampblacklaw01.UnitProved', WHERE WHAT IT READS IS OF BULK AT MOST 1048576: true; the input reads as it did. -/
def unitProvedUptoRow : OpenClaim := { program := "ytbdjllgngblfoaa", sum := "7022b7ac704751e61fdaf0ac96440f04632670b58d399a6cafaf77f01630cb0a", func := "lampblack/lampblacklaw01.UnitProved", spec := "unitProved", unfollowed := true, recurses := true, apart := false, narrowed := true }
def UnitProvedUptoSaid : Prop := unitProvedUptoRow.holds Try.pinned (OpenSpec.upto unitProvedSpec)

/-- 'lampblacklaw01.UnitCarried', WHERE WHAT IT READS IS OF BULK AT MOST 1048576: true; the input reads as it did. -/
def unitCarriedUptoRow : OpenClaim := { program := "ytbdjllgngblfoaa", sum := "7022b7ac704751e61fdaf0ac96440f04632670b58d399a6cafaf77f01630cb0a", func := "lampblack/lampblacklaw01.UnitCarried", spec := "unitCarried", unfollowed := true, recurses := true, apart := false, narrowed := true }
def UnitCarriedUptoSaid : Prop := unitCarriedUptoRow.holds Try.pinned (OpenSpec.upto unitCarriedSpec)

/-- 'lampblacklaw01.UnitTurned', WHERE WHAT IT READS IS OF BULK AT MOST 1048576: true; the input reads as it did. -/
def unitTurnedUptoRow : OpenClaim := { program := "ytbdjllgngblfoaa", sum := "7022b7ac704751e61fdaf0ac96440f04632670b58d399a6cafaf77f01630cb0a", func := "lampblack/lampblacklaw01.UnitTurned", spec := "unitTurned", unfollowed := true, recurses := true, apart := false, narrowed := true }
def UnitTurnedUptoSaid : Prop := unitTurnedUptoRow.holds Try.pinned (OpenSpec.upto unitTurnedSpec)

/-- 'lampblacklaw01.UnitNarrower', WHERE WHAT IT READS IS OF BULK AT MOST 1048576: true; the input reads as it did. -/
def unitNarrowerUptoRow : OpenClaim := { program := "ytbdjllgngblfoaa", sum := "7022b7ac704751e61fdaf0ac96440f04632670b58d399a6cafaf77f01630cb0a", func := "lampblack/lampblacklaw01.UnitNarrower", spec := "unitNarrower", unfollowed := true, recurses := true, apart := false, narrowed := true }
def UnitNarrowerUptoSaid : Prop := unitNarrowerUptoRow.holds Try.pinned (OpenSpec.upto unitNarrowerSpec)

/-- 'lampblacklaw01.UnitPath', WHERE WHAT IT READS IS OF BULK AT MOST 1048576: true; the input reads as it did. -/
def unitPathUptoRow : OpenClaim := { program := "ytbdjllgngblfoaa", sum := "7022b7ac704751e61fdaf0ac96440f04632670b58d399a6cafaf77f01630cb0a", func := "lampblack/lampblacklaw01.UnitPath", spec := "unitPath", unfollowed := true, recurses := true, apart := false, narrowed := true }
def UnitPathUptoSaid : Prop := unitPathUptoRow.holds Try.pinned (OpenSpec.upto unitPathSpec)

/-- 'lampblacklaw01.UnitNeighbours', WHERE WHAT IT READS IS OF BULK AT MOST 1048576: true; the input reads as it did. -/
def unitNeighboursUptoRow : OpenClaim := { program := "ytbdjllgngblfoaa", sum := "7022b7ac704751e61fdaf0ac96440f04632670b58d399a6cafaf77f01630cb0a", func := "lampblack/lampblacklaw01.UnitNeighbours", spec := "unitNeighbours", unfollowed := true, recurses := true, apart := false, narrowed := true }
def UnitNeighboursUptoSaid : Prop := unitNeighboursUptoRow.holds Try.pinned (OpenSpec.upto unitNeighboursSpec)

/-- 'lampblacklaw01.UnitKnown', WHERE WHAT IT READS IS OF BULK AT MOST 1048576: true; the input reads as it did. -/
def unitKnownUptoRow : OpenClaim := { program := "ytbdjllgngblfoaa", sum := "7022b7ac704751e61fdaf0ac96440f04632670b58d399a6cafaf77f01630cb0a", func := "lampblack/lampblacklaw01.UnitKnown", spec := "unitKnown", unfollowed := true, recurses := true, apart := false, narrowed := true }
def UnitKnownUptoSaid : Prop := unitKnownUptoRow.holds Try.pinned (OpenSpec.upto unitKnownSpec)

end Rows
end Go.Proofs.Ytbdjllgngblfoaa
