/-
  No cell of these rows narrows 'for every input' (looked for: loops, veiled, ifaces, maps, wideKeys, modest, calm, conditions, laid).
  DERIVED. THE GIVEN ROWS OF THIS SEAT. 12 by the template 'for every input the law returns true; each argument reads behind the call as it read before'; 0 by the template 'total and deterministic' (their statements: YtchlehpjpgeejaaTotals.lean).
  GIVEN WITH THE SEED: the statements are not yours to turn. If you find one false, say at which input.
  Laid BY PROGRAM, IN A SANDBOX (cutbox-rows.mjs): the forced cells as the released guide's own fill.sh prints them over the translation 205551c205b9e1af… (all of the seat's roots in one cut). By AI agents, Wed Nov 11 2026. No macro, syntax, notation, axiom, sorry.
-/
import Derived.Test.YtchlehpjpgeejaaChecked
import GoSem.Claim
import GoSem.ClaimJoined
import GoSem.ClaimMapViews
import Derived.JoinedTies
import Derived.KernelRfl
namespace Go.Proofs.Ytchlehpjpgeejaa
/- THE CELL 'sum', in the pinned program and in every row, IS THE sha256 OF THE DUMP (.gsa) THAT YtchlehpjpgeejaaProg.lean LOADS. Nothing in Lean hashes anything: it is a label: what it is worth is what the hold of that sum in a sandbox is worth. -/
noncomputable def Try.pinned : Pinned := { name := "ytchlehpjpgeejaa", sum := "205551c205b9e1af1975223e0b45c1167095c5346636e2391db61e5a455cea86", checked := Try.checked }
namespace Rows
def none {H : Type} : Left H := { results := [], args := [] }

/-- 'lampblacklaw02.BenchRuns': WHATEVER THE INPUT: true; the input reads as it did. -/
def benchRunsSpec : ChangeSpec := { name := "benchRuns", fn := fun _ => fun
  | [d1, d2, d3] => { results := [.lit (.bool true)], args := [d1, d2, d3] }
  | _ => none }
def benchRunsRow : OpenClaim := { program := "ytchlehpjpgeejaa", sum := "205551c205b9e1af1975223e0b45c1167095c5346636e2391db61e5a455cea86", func := "lampblack/lampblacklaw02.BenchRuns", spec := "benchRuns", unfollowed := true, recurses := true, apart := false }
def BenchRunsSaid : Prop := benchRunsRow.holds Try.pinned (OpenSpec.ofChange benchRunsSpec)

/-- ITS FALSE NEIGHBOUR: 'it returns false'. Refute it at one input. -/
def benchRunsWrong : ChangeSpec := { name := "benchRuns", fn := fun _ => fun
  | [d1, d2, d3] => { results := [.lit (.bool false)], args := [d1, d2, d3] }
  | _ => none }
def BenchRunsWrongFalsely : Prop := benchRunsRow.holds Try.pinned (OpenSpec.ofChange benchRunsWrong)

/-- 'lampblacklaw02.BenchTests': WHATEVER THE INPUT: true; the input reads as it did. -/
def benchTestsSpec : ChangeSpec := { name := "benchTests", fn := fun _ => fun
  | [d1, d2, d3, d4] => { results := [.lit (.bool true)], args := [d1, d2, d3, d4] }
  | _ => none }
def benchTestsRow : OpenClaim := { program := "ytchlehpjpgeejaa", sum := "205551c205b9e1af1975223e0b45c1167095c5346636e2391db61e5a455cea86", func := "lampblack/lampblacklaw02.BenchTests", spec := "benchTests", unfollowed := true, recurses := true, apart := false }
def BenchTestsSaid : Prop := benchTestsRow.holds Try.pinned (OpenSpec.ofChange benchTestsSpec)

/-- ITS FALSE NEIGHBOUR: 'it returns false'. Refute it at one input. -/
def benchTestsWrong : ChangeSpec := { name := "benchTests", fn := fun _ => fun
  | [d1, d2, d3, d4] => { results := [.lit (.bool false)], args := [d1, d2, d3, d4] }
  | _ => none }
def BenchTestsWrongFalsely : Prop := benchTestsRow.holds Try.pinned (OpenSpec.ofChange benchTestsWrong)

/-- 'lampblacklaw02.BenchTrims': WHATEVER THE INPUT: true; the input reads as it did. -/
def benchTrimsSpec : ChangeSpec := { name := "benchTrims", fn := fun _ => fun
  | [d1, d2] => { results := [.lit (.bool true)], args := [d1, d2] }
  | _ => none }
def benchTrimsRow : OpenClaim := { program := "ytchlehpjpgeejaa", sum := "205551c205b9e1af1975223e0b45c1167095c5346636e2391db61e5a455cea86", func := "lampblack/lampblacklaw02.BenchTrims", spec := "benchTrims", unfollowed := true, recurses := true, apart := false }
def BenchTrimsSaid : Prop := benchTrimsRow.holds Try.pinned (OpenSpec.ofChange benchTrimsSpec)

/-- ITS FALSE NEIGHBOUR: 'it returns false'. Refute it at one input. -/
def benchTrimsWrong : ChangeSpec := { name := "benchTrims", fn := fun _ => fun
  | [d1, d2] => { results := [.lit (.bool false)], args := [d1, d2] }
  | _ => none }
def BenchTrimsWrongFalsely : Prop := benchTrimsRow.holds Try.pinned (OpenSpec.ofChange benchTrimsWrong)

/-- 'lampblacklaw02.BenchBars': WHATEVER THE INPUT: true; the input reads as it did. -/
def benchBarsSpec : ChangeSpec := { name := "benchBars", fn := fun _ => fun
  | [d1, d2, d3] => { results := [.lit (.bool true)], args := [d1, d2, d3] }
  | _ => none }
def benchBarsRow : OpenClaim := { program := "ytchlehpjpgeejaa", sum := "205551c205b9e1af1975223e0b45c1167095c5346636e2391db61e5a455cea86", func := "lampblack/lampblacklaw02.BenchBars", spec := "benchBars", unfollowed := true, recurses := true, apart := false }
def BenchBarsSaid : Prop := benchBarsRow.holds Try.pinned (OpenSpec.ofChange benchBarsSpec)

/-- ITS FALSE NEIGHBOUR: 'it returns false'. Refute it at one input. -/
def benchBarsWrong : ChangeSpec := { name := "benchBars", fn := fun _ => fun
  | [d1, d2, d3] => { results := [.lit (.bool false)], args := [d1, d2, d3] }
  | _ => none }
def BenchBarsWrongFalsely : Prop := benchBarsRow.holds Try.pinned (OpenSpec.ofChange benchBarsWrong)

/-- 'lampblacklaw02.BenchZeroOne': WHATEVER THE INPUT: true; the input reads as it did. -/
def benchZeroOneSpec : ChangeSpec := { name := "benchZeroOne", fn := fun _ => fun
  | [d1, d2, d3, d4, d5] => { results := [.lit (.bool true)], args := [d1, d2, d3, d4, d5] }
  | _ => none }
def benchZeroOneRow : OpenClaim := { program := "ytchlehpjpgeejaa", sum := "205551c205b9e1af1975223e0b45c1167095c5346636e2391db61e5a455cea86", func := "lampblack/lampblacklaw02.BenchZeroOne", spec := "benchZeroOne", unfollowed := true, recurses := true, apart := false }
def BenchZeroOneSaid : Prop := benchZeroOneRow.holds Try.pinned (OpenSpec.ofChange benchZeroOneSpec)

/-- ITS FALSE NEIGHBOUR: 'it returns false'. Refute it at one input. -/
def benchZeroOneWrong : ChangeSpec := { name := "benchZeroOne", fn := fun _ => fun
  | [d1, d2, d3, d4, d5] => { results := [.lit (.bool false)], args := [d1, d2, d3, d4, d5] }
  | _ => none }
def BenchZeroOneWrongFalsely : Prop := benchZeroOneRow.holds Try.pinned (OpenSpec.ofChange benchZeroOneWrong)

/-- 'lampblacklaw02.BenchMerged': WHATEVER THE INPUT: true; the input reads as it did. -/
def benchMergedSpec : ChangeSpec := { name := "benchMerged", fn := fun _ => fun
  | [d1, d2, d3, d4] => { results := [.lit (.bool true)], args := [d1, d2, d3, d4] }
  | _ => none }
def benchMergedRow : OpenClaim := { program := "ytchlehpjpgeejaa", sum := "205551c205b9e1af1975223e0b45c1167095c5346636e2391db61e5a455cea86", func := "lampblack/lampblacklaw02.BenchMerged", spec := "benchMerged", unfollowed := true, recurses := true, apart := false }
def BenchMergedSaid : Prop := benchMergedRow.holds Try.pinned (OpenSpec.ofChange benchMergedSpec)

/-- ITS FALSE NEIGHBOUR: 'it returns false'. Refute it at one input. -/
def benchMergedWrong : ChangeSpec := { name := "benchMerged", fn := fun _ => fun
  | [d1, d2, d3, d4] => { results := [.lit (.bool false)], args := [d1, d2, d3, d4] }
  | _ => none }
def BenchMergedWrongFalsely : Prop := benchMergedRow.holds Try.pinned (OpenSpec.ofChange benchMergedWrong)

/-- 'lampblacklaw02.BenchRelabelled': WHATEVER THE INPUT: true; the input reads as it did. -/
def benchRelabelledSpec : ChangeSpec := { name := "benchRelabelled", fn := fun _ => fun
  | [d1, d2, d3, d4] => { results := [.lit (.bool true)], args := [d1, d2, d3, d4] }
  | _ => none }
def benchRelabelledRow : OpenClaim := { program := "ytchlehpjpgeejaa", sum := "205551c205b9e1af1975223e0b45c1167095c5346636e2391db61e5a455cea86", func := "lampblack/lampblacklaw02.BenchRelabelled", spec := "benchRelabelled", unfollowed := true, recurses := true, apart := false }
def BenchRelabelledSaid : Prop := benchRelabelledRow.holds Try.pinned (OpenSpec.ofChange benchRelabelledSpec)

/-- ITS FALSE NEIGHBOUR: 'it returns false'. Refute it at one input. -/
def benchRelabelledWrong : ChangeSpec := { name := "benchRelabelled", fn := fun _ => fun
  | [d1, d2, d3, d4] => { results := [.lit (.bool false)], args := [d1, d2, d3, d4] }
  | _ => none }
def BenchRelabelledWrongFalsely : Prop := benchRelabelledRow.holds Try.pinned (OpenSpec.ofChange benchRelabelledWrong)

/-- 'lampblacklaw02.BenchTrimmed': WHATEVER THE INPUT: true; the input reads as it did. -/
def benchTrimmedSpec : ChangeSpec := { name := "benchTrimmed", fn := fun _ => fun
  | [d1, d2, d3, d4] => { results := [.lit (.bool true)], args := [d1, d2, d3, d4] }
  | _ => none }
def benchTrimmedRow : OpenClaim := { program := "ytchlehpjpgeejaa", sum := "205551c205b9e1af1975223e0b45c1167095c5346636e2391db61e5a455cea86", func := "lampblack/lampblacklaw02.BenchTrimmed", spec := "benchTrimmed", unfollowed := true, recurses := true, apart := false }
def BenchTrimmedSaid : Prop := benchTrimmedRow.holds Try.pinned (OpenSpec.ofChange benchTrimmedSpec)

/-- ITS FALSE NEIGHBOUR: 'it returns false'. Refute it at one input. -/
def benchTrimmedWrong : ChangeSpec := { name := "benchTrimmed", fn := fun _ => fun
  | [d1, d2, d3, d4] => { results := [.lit (.bool false)], args := [d1, d2, d3, d4] }
  | _ => none }
def BenchTrimmedWrongFalsely : Prop := benchTrimmedRow.holds Try.pinned (OpenSpec.ofChange benchTrimmedWrong)

/-- 'lampblacklaw02.BenchBuilt': WHATEVER THE INPUT: true; the input reads as it did. -/
def benchBuiltSpec : ChangeSpec := { name := "benchBuilt", fn := fun _ => fun
  | [d1, d2, d3] => { results := [.lit (.bool true)], args := [d1, d2, d3] }
  | _ => none }
def benchBuiltRow : OpenClaim := { program := "ytchlehpjpgeejaa", sum := "205551c205b9e1af1975223e0b45c1167095c5346636e2391db61e5a455cea86", func := "lampblack/lampblacklaw02.BenchBuilt", spec := "benchBuilt", unfollowed := true, recurses := true, apart := false }
def BenchBuiltSaid : Prop := benchBuiltRow.holds Try.pinned (OpenSpec.ofChange benchBuiltSpec)

/-- ITS FALSE NEIGHBOUR: 'it returns false'. Refute it at one input. -/
def benchBuiltWrong : ChangeSpec := { name := "benchBuilt", fn := fun _ => fun
  | [d1, d2, d3] => { results := [.lit (.bool false)], args := [d1, d2, d3] }
  | _ => none }
def BenchBuiltWrongFalsely : Prop := benchBuiltRow.holds Try.pinned (OpenSpec.ofChange benchBuiltWrong)

/-- 'lampblacklaw02.BenchSquared': WHATEVER THE INPUT: true; the input reads as it did. -/
def benchSquaredSpec : ChangeSpec := { name := "benchSquared", fn := fun _ => fun
  | [d1, d2, d3] => { results := [.lit (.bool true)], args := [d1, d2, d3] }
  | _ => none }
def benchSquaredRow : OpenClaim := { program := "ytchlehpjpgeejaa", sum := "205551c205b9e1af1975223e0b45c1167095c5346636e2391db61e5a455cea86", func := "lampblack/lampblacklaw02.BenchSquared", spec := "benchSquared", unfollowed := true, recurses := true, apart := false }
def BenchSquaredSaid : Prop := benchSquaredRow.holds Try.pinned (OpenSpec.ofChange benchSquaredSpec)

/-- ITS FALSE NEIGHBOUR: 'it returns false'. Refute it at one input. -/
def benchSquaredWrong : ChangeSpec := { name := "benchSquared", fn := fun _ => fun
  | [d1, d2, d3] => { results := [.lit (.bool false)], args := [d1, d2, d3] }
  | _ => none }
def BenchSquaredWrongFalsely : Prop := benchSquaredRow.holds Try.pinned (OpenSpec.ofChange benchSquaredWrong)

/-- 'lampblacklaw02.BenchPlaced': WHATEVER THE INPUT: true; the input reads as it did. -/
def benchPlacedSpec : ChangeSpec := { name := "benchPlaced", fn := fun _ => fun
  | [d1, d2, d3] => { results := [.lit (.bool true)], args := [d1, d2, d3] }
  | _ => none }
def benchPlacedRow : OpenClaim := { program := "ytchlehpjpgeejaa", sum := "205551c205b9e1af1975223e0b45c1167095c5346636e2391db61e5a455cea86", func := "lampblack/lampblacklaw02.BenchPlaced", spec := "benchPlaced", unfollowed := true, recurses := true, apart := false }
def BenchPlacedSaid : Prop := benchPlacedRow.holds Try.pinned (OpenSpec.ofChange benchPlacedSpec)

/-- ITS FALSE NEIGHBOUR: 'it returns false'. Refute it at one input. -/
def benchPlacedWrong : ChangeSpec := { name := "benchPlaced", fn := fun _ => fun
  | [d1, d2, d3] => { results := [.lit (.bool false)], args := [d1, d2, d3] }
  | _ => none }
def BenchPlacedWrongFalsely : Prop := benchPlacedRow.holds Try.pinned (OpenSpec.ofChange benchPlacedWrong)

/-- 'lampblacklaw02.BenchKnown': WHATEVER THE INPUT: true; the input reads as it did. -/
def benchKnownSpec : ChangeSpec := { name := "benchKnown", fn := fun _ => fun
  | [] => { results := [.lit (.bool true)], args := [] }
  | _ => none }
def benchKnownRow : OpenClaim := { program := "ytchlehpjpgeejaa", sum := "205551c205b9e1af1975223e0b45c1167095c5346636e2391db61e5a455cea86", func := "lampblack/lampblacklaw02.BenchKnown", spec := "benchKnown", unfollowed := true, recurses := true, apart := false }
def BenchKnownSaid : Prop := benchKnownRow.holds Try.pinned (OpenSpec.ofChange benchKnownSpec)

/-- ITS FALSE NEIGHBOUR: 'it returns false'. Refute it at one input. -/
def benchKnownWrong : ChangeSpec := { name := "benchKnown", fn := fun _ => fun
  | [] => { results := [.lit (.bool false)], args := [] }
  | _ => none }
def BenchKnownWrongFalsely : Prop := benchKnownRow.holds Try.pinned (OpenSpec.ofChange benchKnownWrong)

/- THE SECOND FORM. 'bulk': how many values and letters a reading holds, each counted each time it is reached (what is shared counts as often as it is met; a slice's spare places count too). A statement '..UptoSaid' is the law's where the arguments, and the package variables that the reading takes, are together of bulk at most 1048576: NARROWER than '..Said'. Prove '..Said' where nothing that the law and all that it calls make is longer than what came in: it says more and counts as full. Else prove '..UptoSaid'. A law counts once. -/
mutual
def uptoBulk {H : Type} : DataW H → Nat
  | .lit (.string bytes) => bytes.length + 1
  | .lit _ => 1
  | .nil => 1
  | .ptr d => uptoBulk d + 1
  | .slice elems spare => uptoBulkAll elems + uptoBulkAll spare + 1
  | .agg parts => uptoBulkAll parts + 1
  | .iface _ d => uptoBulk d + 1
  | .map entries => uptoBulkEntries entries + 1
  | .held _ => 1
def uptoBulkAll {H : Type} : List (DataW H) → Nat
  | [] => 0
  | d :: r => uptoBulk d + uptoBulkAll r
def uptoBulkEntries {H : Type} : List (Lit × DataW H) → Nat
  | [] => 0
  | x :: r => uptoBulkEntry x + uptoBulkEntries r
def uptoBulkEntry {H : Type} : Lit × DataW H → Nat
  | (.string bytes, d) => bytes.length + uptoBulk d + 1
  | (_, d) => uptoBulk d + 1
 end
def uptoSmall : (H : Type) → List (DataW H) → Bool := fun _ ds => decide (uptoBulkAll ds ≤ 1048576)
def OpenSpec.upto (s : _root_.Go.ChangeSpec) : _root_.Go.OpenSpec := { _root_.Go.OpenSpec.ofChange s with cond := some uptoSmall }

/-- 'lampblacklaw02.BenchRuns', WHERE WHAT IT READS IS OF BULK AT MOST 1048576: true; the input reads as it did. -/
def benchRunsUptoRow : OpenClaim := { program := "ytchlehpjpgeejaa", sum := "205551c205b9e1af1975223e0b45c1167095c5346636e2391db61e5a455cea86", func := "lampblack/lampblacklaw02.BenchRuns", spec := "benchRuns", unfollowed := true, recurses := true, apart := false, narrowed := true }
def BenchRunsUptoSaid : Prop := benchRunsUptoRow.holds Try.pinned (OpenSpec.upto benchRunsSpec)

/-- 'lampblacklaw02.BenchTests', WHERE WHAT IT READS IS OF BULK AT MOST 1048576: true; the input reads as it did. -/
def benchTestsUptoRow : OpenClaim := { program := "ytchlehpjpgeejaa", sum := "205551c205b9e1af1975223e0b45c1167095c5346636e2391db61e5a455cea86", func := "lampblack/lampblacklaw02.BenchTests", spec := "benchTests", unfollowed := true, recurses := true, apart := false, narrowed := true }
def BenchTestsUptoSaid : Prop := benchTestsUptoRow.holds Try.pinned (OpenSpec.upto benchTestsSpec)

/-- 'lampblacklaw02.BenchTrims', WHERE WHAT IT READS IS OF BULK AT MOST 1048576: true; the input reads as it did. -/
def benchTrimsUptoRow : OpenClaim := { program := "ytchlehpjpgeejaa", sum := "205551c205b9e1af1975223e0b45c1167095c5346636e2391db61e5a455cea86", func := "lampblack/lampblacklaw02.BenchTrims", spec := "benchTrims", unfollowed := true, recurses := true, apart := false, narrowed := true }
def BenchTrimsUptoSaid : Prop := benchTrimsUptoRow.holds Try.pinned (OpenSpec.upto benchTrimsSpec)

/-- 'lampblacklaw02.BenchBars', WHERE WHAT IT READS IS OF BULK AT MOST 1048576: true; the input reads as it did. -/
def benchBarsUptoRow : OpenClaim := { program := "ytchlehpjpgeejaa", sum := "205551c205b9e1af1975223e0b45c1167095c5346636e2391db61e5a455cea86", func := "lampblack/lampblacklaw02.BenchBars", spec := "benchBars", unfollowed := true, recurses := true, apart := false, narrowed := true }
def BenchBarsUptoSaid : Prop := benchBarsUptoRow.holds Try.pinned (OpenSpec.upto benchBarsSpec)

/-- 'lampblacklaw02.BenchZeroOne', WHERE WHAT IT READS IS OF BULK AT MOST 1048576: true; the input reads as it did. -/
def benchZeroOneUptoRow : OpenClaim := { program := "ytchlehpjpgeejaa", sum := "205551c205b9e1af1975223e0b45c1167095c5346636e2391db61e5a455cea86", func := "lampblack/lampblacklaw02.BenchZeroOne", spec := "benchZeroOne", unfollowed := true, recurses := true, apart := false, narrowed := true }
def BenchZeroOneUptoSaid : Prop := benchZeroOneUptoRow.holds Try.pinned (OpenSpec.upto benchZeroOneSpec)

/-- 'lampblacklaw02.BenchMerged', WHERE WHAT IT READS IS OF BULK AT MOST 1048576: true; the input reads as it did. -/
def benchMergedUptoRow : OpenClaim := { program := "ytchlehpjpgeejaa", sum := "205551c205b9e1af1975223e0b45c1167095c5346636e2391db61e5a455cea86", func := "lampblack/lampblacklaw02.BenchMerged", spec := "benchMerged", unfollowed := true, recurses := true, apart := false, narrowed := true }
def BenchMergedUptoSaid : Prop := benchMergedUptoRow.holds Try.pinned (OpenSpec.upto benchMergedSpec)

/-- 'lampblacklaw02.BenchRelabelled', WHERE WHAT IT READS IS OF BULK AT MOST 1048576: true; the input reads as it did. -/
def benchRelabelledUptoRow : OpenClaim := { program := "ytchlehpjpgeejaa", sum := "205551c205b9e1af1975223e0b45c1167095c5346636e2391db61e5a455cea86", func := "lampblack/lampblacklaw02.BenchRelabelled", spec := "benchRelabelled", unfollowed := true, recurses := true, apart := false, narrowed := true }
def BenchRelabelledUptoSaid : Prop := benchRelabelledUptoRow.holds Try.pinned (OpenSpec.upto benchRelabelledSpec)

/-- 'lampblacklaw02.BenchTrimmed', WHERE WHAT IT READS IS OF BULK AT MOST 1048576: true; the input reads as it did. -/
def benchTrimmedUptoRow : OpenClaim := { program := "ytchlehpjpgeejaa", sum := "205551c205b9e1af1975223e0b45c1167095c5346636e2391db61e5a455cea86", func := "lampblack/lampblacklaw02.BenchTrimmed", spec := "benchTrimmed", unfollowed := true, recurses := true, apart := false, narrowed := true }
def BenchTrimmedUptoSaid : Prop := benchTrimmedUptoRow.holds Try.pinned (OpenSpec.upto benchTrimmedSpec)

/-- 'lampblacklaw02.BenchBuilt', WHERE WHAT IT READS IS OF BULK AT MOST 1048576: true; the input reads as it did. -/
def benchBuiltUptoRow : OpenClaim := { program := "ytchlehpjpgeejaa", sum := "205551c205b9e1af1975223e0b45c1167095c5346636e2391db61e5a455cea86", func := "lampblack/lampblacklaw02.BenchBuilt", spec := "benchBuilt", unfollowed := true, recurses := true, apart := false, narrowed := true }
def BenchBuiltUptoSaid : Prop := benchBuiltUptoRow.holds Try.pinned (OpenSpec.upto benchBuiltSpec)

/-- 'lampblacklaw02.BenchSquared', WHERE WHAT IT READS IS OF BULK AT MOST 1048576: true; the input reads as it did. -/
def benchSquaredUptoRow : OpenClaim := { program := "ytchlehpjpgeejaa", sum := "205551c205b9e1af1975223e0b45c1167095c5346636e2391db61e5a455cea86", func := "lampblack/lampblacklaw02.BenchSquared", spec := "benchSquared", unfollowed := true, recurses := true, apart := false, narrowed := true }
def BenchSquaredUptoSaid : Prop := benchSquaredUptoRow.holds Try.pinned (OpenSpec.upto benchSquaredSpec)

/-- 'lampblacklaw02.BenchPlaced', WHERE WHAT IT READS IS OF BULK AT MOST 1048576: true; the input reads as it did. -/
def benchPlacedUptoRow : OpenClaim := { program := "ytchlehpjpgeejaa", sum := "205551c205b9e1af1975223e0b45c1167095c5346636e2391db61e5a455cea86", func := "lampblack/lampblacklaw02.BenchPlaced", spec := "benchPlaced", unfollowed := true, recurses := true, apart := false, narrowed := true }
def BenchPlacedUptoSaid : Prop := benchPlacedUptoRow.holds Try.pinned (OpenSpec.upto benchPlacedSpec)

/-- 'lampblacklaw02.BenchKnown', WHERE WHAT IT READS IS OF BULK AT MOST 1048576: true; the input reads as it did. -/
def benchKnownUptoRow : OpenClaim := { program := "ytchlehpjpgeejaa", sum := "205551c205b9e1af1975223e0b45c1167095c5346636e2391db61e5a455cea86", func := "lampblack/lampblacklaw02.BenchKnown", spec := "benchKnown", unfollowed := true, recurses := true, apart := false, narrowed := true }
def BenchKnownUptoSaid : Prop := benchKnownUptoRow.holds Try.pinned (OpenSpec.upto benchKnownSpec)

end Rows
end Go.Proofs.Ytchlehpjpgeejaa
