/-
  No cell of these rows narrows 'for every input' (looked for: loops, veiled, ifaces, maps, wideKeys, modest, calm, conditions, laid).
  DERIVED. THE GIVEN ROWS OF THIS SEAT. 8 by the template 'for every input the law returns true; each argument reads behind the call as it read before'; 0 by the template 'total and deterministic' (their statements: YtblnglkjpnpmbaaTotals.lean).
  GIVEN WITH THE SEED: the statements are not yours to turn. If you find one false, say at which input.
  Laid BY PROGRAM, IN A SANDBOX (cutbox-rows.mjs): the forced cells as the released guide's own fill.sh prints them over the translation 59c2c2c2686110f5… (all of the seat's roots in one cut). By AI agents, Wed Nov 11 2026. No macro, syntax, notation, axiom, sorry.
-/
import Derived.Test.YtblnglkjpnpmbaaChecked
import GoSem.Claim
import GoSem.ClaimJoined
import GoSem.ClaimMapViews
import Derived.JoinedTies
import Derived.KernelRfl
namespace Go.Proofs.Ytblnglkjpnpmbaa
/- THE CELL 'sum', in the pinned program and in every row, IS THE sha256 OF THE DUMP (.gsa) THAT YtblnglkjpnpmbaaProg.lean LOADS. Nothing in Lean hashes anything: it is a label: what it is worth is what the hold of that sum in a sandbox is worth. -/
noncomputable def Try.pinned : Pinned := { name := "ytblnglkjpnpmbaa", sum := "59c2c2c2686110f56b99ac15760cabff12c822d791ba0383015359bbda6e53b6", checked := Try.checked }
namespace Rows
def none {H : Type} : Left H := { results := [], args := [] }

/-- 'conciergelaw10.BucketRates': WHATEVER THE INPUT: true; the input reads as it did. -/
def bucketRatesSpec : ChangeSpec := { name := "bucketRates", fn := fun _ => fun
  | [d1, d2, d3] => { results := [.lit (.bool true)], args := [d1, d2, d3] }
  | _ => none }
def bucketRatesRow : OpenClaim := { program := "ytblnglkjpnpmbaa", sum := "59c2c2c2686110f56b99ac15760cabff12c822d791ba0383015359bbda6e53b6", func := "concierge/conciergelaw10.BucketRates", spec := "bucketRates", plainKeys := false, apart := false }
def BucketRatesSaid : Prop := bucketRatesRow.holds Try.pinned (OpenSpec.ofChange bucketRatesSpec)

/-- ITS FALSE NEIGHBOUR: 'it returns false'. Refute it at one input. -/
def bucketRatesWrong : ChangeSpec := { name := "bucketRates", fn := fun _ => fun
  | [d1, d2, d3] => { results := [.lit (.bool false)], args := [d1, d2, d3] }
  | _ => none }
def BucketRatesWrongFalsely : Prop := bucketRatesRow.holds Try.pinned (OpenSpec.ofChange bucketRatesWrong)

/-- 'conciergelaw10.BucketTakes': WHATEVER THE INPUT: true; the input reads as it did. -/
def bucketTakesSpec : ChangeSpec := { name := "bucketTakes", fn := fun _ => fun
  | [d1, d2, d3] => { results := [.lit (.bool true)], args := [d1, d2, d3] }
  | _ => none }
def bucketTakesRow : OpenClaim := { program := "ytblnglkjpnpmbaa", sum := "59c2c2c2686110f56b99ac15760cabff12c822d791ba0383015359bbda6e53b6", func := "concierge/conciergelaw10.BucketTakes", spec := "bucketTakes", plainKeys := false, apart := false }
def BucketTakesSaid : Prop := bucketTakesRow.holds Try.pinned (OpenSpec.ofChange bucketTakesSpec)

/-- ITS FALSE NEIGHBOUR: 'it returns false'. Refute it at one input. -/
def bucketTakesWrong : ChangeSpec := { name := "bucketTakes", fn := fun _ => fun
  | [d1, d2, d3] => { results := [.lit (.bool false)], args := [d1, d2, d3] }
  | _ => none }
def BucketTakesWrongFalsely : Prop := bucketTakesRow.holds Try.pinned (OpenSpec.ofChange bucketTakesWrong)

/-- 'conciergelaw10.BucketCuts': WHATEVER THE INPUT: true; the input reads as it did. -/
def bucketCutsSpec : ChangeSpec := { name := "bucketCuts", fn := fun _ => fun
  | [d1, d2, d3, d4] => { results := [.lit (.bool true)], args := [d1, d2, d3, d4] }
  | _ => none }
def bucketCutsRow : OpenClaim := { program := "ytblnglkjpnpmbaa", sum := "59c2c2c2686110f56b99ac15760cabff12c822d791ba0383015359bbda6e53b6", func := "concierge/conciergelaw10.BucketCuts", spec := "bucketCuts", plainKeys := false, apart := false }
def BucketCutsSaid : Prop := bucketCutsRow.holds Try.pinned (OpenSpec.ofChange bucketCutsSpec)

/-- ITS FALSE NEIGHBOUR: 'it returns false'. Refute it at one input. -/
def bucketCutsWrong : ChangeSpec := { name := "bucketCuts", fn := fun _ => fun
  | [d1, d2, d3, d4] => { results := [.lit (.bool false)], args := [d1, d2, d3, d4] }
  | _ => none }
def BucketCutsWrongFalsely : Prop := bucketCutsRow.holds Try.pinned (OpenSpec.ofChange bucketCutsWrong)

/-- 'conciergelaw10.BucketLimiterRuns': WHATEVER THE INPUT: true; the input reads as it did. -/
def bucketLimiterRunsSpec : ChangeSpec := { name := "bucketLimiterRuns", fn := fun _ => fun
  | [d1, d2, d3] => { results := [.lit (.bool true)], args := [d1, d2, d3] }
  | _ => none }
def bucketLimiterRunsRow : OpenClaim := { program := "ytblnglkjpnpmbaa", sum := "59c2c2c2686110f56b99ac15760cabff12c822d791ba0383015359bbda6e53b6", func := "concierge/conciergelaw10.BucketLimiterRuns", spec := "bucketLimiterRuns", plainKeys := false, apart := false }
def BucketLimiterRunsSaid : Prop := bucketLimiterRunsRow.holds Try.pinned (OpenSpec.ofChange bucketLimiterRunsSpec)

/-- ITS FALSE NEIGHBOUR: 'it returns false'. Refute it at one input. -/
def bucketLimiterRunsWrong : ChangeSpec := { name := "bucketLimiterRuns", fn := fun _ => fun
  | [d1, d2, d3] => { results := [.lit (.bool false)], args := [d1, d2, d3] }
  | _ => none }
def BucketLimiterRunsWrongFalsely : Prop := bucketLimiterRunsRow.holds Try.pinned (OpenSpec.ofChange bucketLimiterRunsWrong)

/-- 'conciergelaw10.BucketLimiterMany': WHATEVER THE INPUT: true; the input reads as it did. -/
def bucketLimiterManySpec : ChangeSpec := { name := "bucketLimiterMany", fn := fun _ => fun
  | [d1, d2] => { results := [.lit (.bool true)], args := [d1, d2] }
  | _ => none }
def bucketLimiterManyRow : OpenClaim := { program := "ytblnglkjpnpmbaa", sum := "59c2c2c2686110f56b99ac15760cabff12c822d791ba0383015359bbda6e53b6", func := "concierge/conciergelaw10.BucketLimiterMany", spec := "bucketLimiterMany", plainKeys := false, apart := false }
def BucketLimiterManySaid : Prop := bucketLimiterManyRow.holds Try.pinned (OpenSpec.ofChange bucketLimiterManySpec)

/-- ITS FALSE NEIGHBOUR: 'it returns false'. Refute it at one input. -/
def bucketLimiterManyWrong : ChangeSpec := { name := "bucketLimiterMany", fn := fun _ => fun
  | [d1, d2] => { results := [.lit (.bool false)], args := [d1, d2] }
  | _ => none }
def BucketLimiterManyWrongFalsely : Prop := bucketLimiterManyRow.holds Try.pinned (OpenSpec.ofChange bucketLimiterManyWrong)

/-- 'conciergelaw10.BucketLimiterWindows': WHATEVER THE INPUT: true; the input reads as it did. -/
def bucketLimiterWindowsSpec : ChangeSpec := { name := "bucketLimiterWindows", fn := fun _ => fun
  | [d1, d2, d3, d4, d5] => { results := [.lit (.bool true)], args := [d1, d2, d3, d4, d5] }
  | _ => none }
def bucketLimiterWindowsRow : OpenClaim := { program := "ytblnglkjpnpmbaa", sum := "59c2c2c2686110f56b99ac15760cabff12c822d791ba0383015359bbda6e53b6", func := "concierge/conciergelaw10.BucketLimiterWindows", spec := "bucketLimiterWindows", plainKeys := false, apart := false }
def BucketLimiterWindowsSaid : Prop := bucketLimiterWindowsRow.holds Try.pinned (OpenSpec.ofChange bucketLimiterWindowsSpec)

/-- ITS FALSE NEIGHBOUR: 'it returns false'. Refute it at one input. -/
def bucketLimiterWindowsWrong : ChangeSpec := { name := "bucketLimiterWindows", fn := fun _ => fun
  | [d1, d2, d3, d4, d5] => { results := [.lit (.bool false)], args := [d1, d2, d3, d4, d5] }
  | _ => none }
def BucketLimiterWindowsWrongFalsely : Prop := bucketLimiterWindowsRow.holds Try.pinned (OpenSpec.ofChange bucketLimiterWindowsWrong)

/-- 'conciergelaw10.BucketLimiterFair': WHATEVER THE INPUT: true; the input reads as it did. -/
def bucketLimiterFairSpec : ChangeSpec := { name := "bucketLimiterFair", fn := fun _ => fun
  | [d1, d2] => { results := [.lit (.bool true)], args := [d1, d2] }
  | _ => none }
def bucketLimiterFairRow : OpenClaim := { program := "ytblnglkjpnpmbaa", sum := "59c2c2c2686110f56b99ac15760cabff12c822d791ba0383015359bbda6e53b6", func := "concierge/conciergelaw10.BucketLimiterFair", spec := "bucketLimiterFair", plainKeys := false, apart := false }
def BucketLimiterFairSaid : Prop := bucketLimiterFairRow.holds Try.pinned (OpenSpec.ofChange bucketLimiterFairSpec)

/-- ITS FALSE NEIGHBOUR: 'it returns false'. Refute it at one input. -/
def bucketLimiterFairWrong : ChangeSpec := { name := "bucketLimiterFair", fn := fun _ => fun
  | [d1, d2] => { results := [.lit (.bool false)], args := [d1, d2] }
  | _ => none }
def BucketLimiterFairWrongFalsely : Prop := bucketLimiterFairRow.holds Try.pinned (OpenSpec.ofChange bucketLimiterFairWrong)

/-- 'conciergelaw10.BucketLimiterForks': WHATEVER THE INPUT: true; the input reads as it did. -/
def bucketLimiterForksSpec : ChangeSpec := { name := "bucketLimiterForks", fn := fun _ => fun
  | [d1, d2, d3] => { results := [.lit (.bool true)], args := [d1, d2, d3] }
  | _ => none }
def bucketLimiterForksRow : OpenClaim := { program := "ytblnglkjpnpmbaa", sum := "59c2c2c2686110f56b99ac15760cabff12c822d791ba0383015359bbda6e53b6", func := "concierge/conciergelaw10.BucketLimiterForks", spec := "bucketLimiterForks", inPlace := ["maps.clone"], plainKeys := false, apart := false }
def BucketLimiterForksSaid : Prop := bucketLimiterForksRow.holds Try.pinned (OpenSpec.ofChange bucketLimiterForksSpec)

/-- ITS FALSE NEIGHBOUR: 'it returns false'. Refute it at one input. -/
def bucketLimiterForksWrong : ChangeSpec := { name := "bucketLimiterForks", fn := fun _ => fun
  | [d1, d2, d3] => { results := [.lit (.bool false)], args := [d1, d2, d3] }
  | _ => none }
def BucketLimiterForksWrongFalsely : Prop := bucketLimiterForksRow.holds Try.pinned (OpenSpec.ofChange bucketLimiterForksWrong)

/- THE SECOND FORM. 'bulk': how many values and letters a reading holds, each counted each time it is reached (what is shared counts as often as it is met; a slice's spare places count too). A statement '..UptoSaid' is the law's where the arguments, and the package variables that the reading takes, are together of bulk at most 1048576: NARROWER than '..Said'. Prove '..Said' where nothing that the law and all that it calls make is longer than what came in: it says more and counts as full. Else prove '..UptoSaid'. A law counts once. -/
mutual
def uptoBulk {H : Type} : DataW H → Nat
  | .lit (.string bytes) => bytes.length + 1
  | .lit _ => 1
  | .nil => 1
  | .ptr d => uptoBulk d + 1
  | .slice elems spare => uptoBulkAll elems + uptoBulkAll spare + 1
  | .agg parts => uptoBulkAll parts + 1
  | .iface _ d => uptoBulk d + 1
  | .map entries => uptoBulkEntries entries + 1
  | .held _ => 1
def uptoBulkAll {H : Type} : List (DataW H) → Nat
  | [] => 0
  | d :: r => uptoBulk d + uptoBulkAll r
def uptoBulkEntries {H : Type} : List (Lit × DataW H) → Nat
  | [] => 0
  | x :: r => uptoBulkEntry x + uptoBulkEntries r
def uptoBulkEntry {H : Type} : Lit × DataW H → Nat
  | (.string bytes, d) => bytes.length + uptoBulk d + 1
  | (_, d) => uptoBulk d + 1
 end
def uptoSmall : (H : Type) → List (DataW H) → Bool := fun _ ds => decide (uptoBulkAll ds ≤ 1048576)
def OpenSpec.upto (s : _root_.Go.ChangeSpec) : _root_.Go.OpenSpec := { _root_.Go.OpenSpec.ofChange s with cond := some uptoSmall }

/-- 'conciergelaw10.BucketRates', WHERE WHAT IT READS IS OF BULK AT MOST 1048576: true; the input reads as it did. -/
def bucketRatesUptoRow : OpenClaim := { program := "ytblnglkjpnpmbaa", sum := "59c2c2c2686110f56b99ac15760cabff12c822d791ba0383015359bbda6e53b6", func := "concierge/conciergelaw10.BucketRates", spec := "bucketRates", plainKeys := false, apart := false, narrowed := true }
def BucketRatesUptoSaid : Prop := bucketRatesUptoRow.holds Try.pinned (OpenSpec.upto bucketRatesSpec)

/-- 'conciergelaw10.BucketTakes', WHERE WHAT IT READS IS OF BULK AT MOST 1048576: true; the input reads as it did. -/
def bucketTakesUptoRow : OpenClaim := { program := "ytblnglkjpnpmbaa", sum := "59c2c2c2686110f56b99ac15760cabff12c822d791ba0383015359bbda6e53b6", func := "concierge/conciergelaw10.BucketTakes", spec := "bucketTakes", plainKeys := false, apart := false, narrowed := true }
def BucketTakesUptoSaid : Prop := bucketTakesUptoRow.holds Try.pinned (OpenSpec.upto bucketTakesSpec)

/-- 'conciergelaw10.BucketCuts', WHERE WHAT IT READS IS OF BULK AT MOST 1048576: true; the input reads as it did. -/
def bucketCutsUptoRow : OpenClaim := { program := "ytblnglkjpnpmbaa", sum := "59c2c2c2686110f56b99ac15760cabff12c822d791ba0383015359bbda6e53b6", func := "concierge/conciergelaw10.BucketCuts", spec := "bucketCuts", plainKeys := false, apart := false, narrowed := true }
def BucketCutsUptoSaid : Prop := bucketCutsUptoRow.holds Try.pinned (OpenSpec.upto bucketCutsSpec)

/-- 'conciergelaw10.BucketLimiterRuns', WHERE WHAT IT READS IS OF BULK AT MOST 1048576: true; the input reads as it did. -/
def bucketLimiterRunsUptoRow : OpenClaim := { program := "ytblnglkjpnpmbaa", sum := "59c2c2c2686110f56b99ac15760cabff12c822d791ba0383015359bbda6e53b6", func := "concierge/conciergelaw10.BucketLimiterRuns", spec := "bucketLimiterRuns", plainKeys := false, apart := false, narrowed := true }
def BucketLimiterRunsUptoSaid : Prop := bucketLimiterRunsUptoRow.holds Try.pinned (OpenSpec.upto bucketLimiterRunsSpec)

/-- 'conciergelaw10.BucketLimiterMany', WHERE WHAT IT READS IS OF BULK AT MOST 1048576: true; the input reads as it did. -/
def bucketLimiterManyUptoRow : OpenClaim := { program := "ytblnglkjpnpmbaa", sum := "59c2c2c2686110f56b99ac15760cabff12c822d791ba0383015359bbda6e53b6", func := "concierge/conciergelaw10.BucketLimiterMany", spec := "bucketLimiterMany", plainKeys := false, apart := false, narrowed := true }
def BucketLimiterManyUptoSaid : Prop := bucketLimiterManyUptoRow.holds Try.pinned (OpenSpec.upto bucketLimiterManySpec)

/-- 'conciergelaw10.BucketLimiterWindows', WHERE WHAT IT READS IS OF BULK AT MOST 1048576: true; the input reads as it did. -/
def bucketLimiterWindowsUptoRow : OpenClaim := { program := "ytblnglkjpnpmbaa", sum := "59c2c2c2686110f56b99ac15760cabff12c822d791ba0383015359bbda6e53b6", func := "concierge/conciergelaw10.BucketLimiterWindows", spec := "bucketLimiterWindows", plainKeys := false, apart := false, narrowed := true }
def BucketLimiterWindowsUptoSaid : Prop := bucketLimiterWindowsUptoRow.holds Try.pinned (OpenSpec.upto bucketLimiterWindowsSpec)

/-- 'conciergelaw10.BucketLimiterFair', WHERE WHAT IT READS IS OF BULK AT MOST 1048576: true; the input reads as it did. -/
def bucketLimiterFairUptoRow : OpenClaim := { program := "ytblnglkjpnpmbaa", sum := "59c2c2c2686110f56b99ac15760cabff12c822d791ba0383015359bbda6e53b6", func := "concierge/conciergelaw10.BucketLimiterFair", spec := "bucketLimiterFair", plainKeys := false, apart := false, narrowed := true }
def BucketLimiterFairUptoSaid : Prop := bucketLimiterFairUptoRow.holds Try.pinned (OpenSpec.upto bucketLimiterFairSpec)

/-- 'conciergelaw10.BucketLimiterForks', WHERE WHAT IT READS IS OF BULK AT MOST 1048576: true; the input reads as it did. -/
def bucketLimiterForksUptoRow : OpenClaim := { program := "ytblnglkjpnpmbaa", sum := "59c2c2c2686110f56b99ac15760cabff12c822d791ba0383015359bbda6e53b6", func := "concierge/conciergelaw10.BucketLimiterForks", spec := "bucketLimiterForks", inPlace := ["maps.clone"], plainKeys := false, apart := false, narrowed := true }
def BucketLimiterForksUptoSaid : Prop := bucketLimiterForksUptoRow.holds Try.pinned (OpenSpec.upto bucketLimiterForksSpec)

end Rows
end Go.Proofs.Ytblnglkjpnpmbaa
