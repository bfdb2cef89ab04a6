/-
  No cell of these rows narrows 'for every input' (looked for: loops, veiled, ifaces, maps, wideKeys, modest, calm, conditions, laid).
  DERIVED. THE GIVEN ROWS OF THIS SEAT. 5 by the template 'for every input the law returns true; each argument reads behind the call as it read before'; 0 by the template 'total and deterministic' (their statements: YthllhdcdiidfpaaTotals.lean).
  GIVEN WITH THE SEED: the statements are not yours to turn. If you find one false, say at which input.
  Laid BY PROGRAM, IN A SANDBOX (cutbox-rows.mjs): the forced cells as the released guide's own fill.sh prints them over the translation 3f607ac0ac4cdefd… (all of the seat's roots in one cut). By AI agents, Wed Nov 11 2026. No macro, syntax, notation, axiom, sorry.
-/
import Derived.Test.YthllhdcdiidfpaaChecked
import GoSem.Claim
import GoSem.ClaimJoined
import GoSem.ClaimMapViews
import Derived.JoinedTies
import Derived.KernelRfl
namespace Go.Proofs.Ythllhdcdiidfpaa
/- THE CELL 'sum', in the pinned program and in every row, IS THE sha256 OF THE DUMP (.gsa) THAT YthllhdcdiidfpaaProg.lean LOADS. Nothing in Lean hashes anything: it is a label: what it is worth is what the hold of that sum in a sandbox is worth. -/
noncomputable def Try.pinned : Pinned := { name := "ythllhdcdiidfpaa", sum := "3f607ac0ac4cdefd6412d4bddf9f6a5df60ad8e607504bd61b48e4bdb9c28526", checked := Try.checked }
namespace Rows
def none {H : Type} : Left H := { results := [], args := [] }

/-- 'conciergelaw07.CpSplits': WHATEVER THE INPUT: true; the input reads as it did. -/
def cpSplitsSpec : ChangeSpec := { name := "cpSplits", fn := fun _ => fun
  | [d1, d2] => { results := [.lit (.bool true)], args := [d1, d2] }
  | _ => none }
def cpSplitsRow : OpenClaim := { program := "ythllhdcdiidfpaa", sum := "3f607ac0ac4cdefd6412d4bddf9f6a5df60ad8e607504bd61b48e4bdb9c28526", func := "concierge/conciergelaw07.CpSplits", spec := "cpSplits", unfollowed := true, recurses := true, apart := false }
def CpSplitsSaid : Prop := cpSplitsRow.holds Try.pinned (OpenSpec.ofChange cpSplitsSpec)

/-- ITS FALSE NEIGHBOUR: 'it returns false'. Refute it at one input. -/
def cpSplitsWrong : ChangeSpec := { name := "cpSplits", fn := fun _ => fun
  | [d1, d2] => { results := [.lit (.bool false)], args := [d1, d2] }
  | _ => none }
def CpSplitsWrongFalsely : Prop := cpSplitsRow.holds Try.pinned (OpenSpec.ofChange cpSplitsWrong)

/-- 'conciergelaw07.CpPackets': WHATEVER THE INPUT: true; the input reads as it did. -/
def cpPacketsSpec : ChangeSpec := { name := "cpPackets", fn := fun _ => fun
  | [d1, d2] => { results := [.lit (.bool true)], args := [d1, d2] }
  | _ => none }
def cpPacketsRow : OpenClaim := { program := "ythllhdcdiidfpaa", sum := "3f607ac0ac4cdefd6412d4bddf9f6a5df60ad8e607504bd61b48e4bdb9c28526", func := "concierge/conciergelaw07.CpPackets", spec := "cpPackets", unfollowed := true, recurses := true, apart := false }
def CpPacketsSaid : Prop := cpPacketsRow.holds Try.pinned (OpenSpec.ofChange cpPacketsSpec)

/-- ITS FALSE NEIGHBOUR: 'it returns false'. Refute it at one input. -/
def cpPacketsWrong : ChangeSpec := { name := "cpPackets", fn := fun _ => fun
  | [d1, d2] => { results := [.lit (.bool false)], args := [d1, d2] }
  | _ => none }
def CpPacketsWrongFalsely : Prop := cpPacketsRow.holds Try.pinned (OpenSpec.ofChange cpPacketsWrong)

/-- 'conciergelaw07.CpRejects': WHATEVER THE INPUT: true; the input reads as it did. -/
def cpRejectsSpec : ChangeSpec := { name := "cpRejects", fn := fun _ => fun
  | [d1, d2, d3] => { results := [.lit (.bool true)], args := [d1, d2, d3] }
  | _ => none }
def cpRejectsRow : OpenClaim := { program := "ythllhdcdiidfpaa", sum := "3f607ac0ac4cdefd6412d4bddf9f6a5df60ad8e607504bd61b48e4bdb9c28526", func := "concierge/conciergelaw07.CpRejects", spec := "cpRejects", unfollowed := true, recurses := true, apart := false }
def CpRejectsSaid : Prop := cpRejectsRow.holds Try.pinned (OpenSpec.ofChange cpRejectsSpec)

/-- ITS FALSE NEIGHBOUR: 'it returns false'. Refute it at one input. -/
def cpRejectsWrong : ChangeSpec := { name := "cpRejects", fn := fun _ => fun
  | [d1, d2, d3] => { results := [.lit (.bool false)], args := [d1, d2, d3] }
  | _ => none }
def CpRejectsWrongFalsely : Prop := cpRejectsRow.holds Try.pinned (OpenSpec.ofChange cpRejectsWrong)

/-- 'conciergelaw07.CpBack': WHATEVER THE INPUT: true; the input reads as it did. -/
def cpBackSpec : ChangeSpec := { name := "cpBack", fn := fun _ => fun
  | [d1, d2, d3, d4] => { results := [.lit (.bool true)], args := [d1, d2, d3, d4] }
  | _ => none }
def cpBackRow : OpenClaim := { program := "ythllhdcdiidfpaa", sum := "3f607ac0ac4cdefd6412d4bddf9f6a5df60ad8e607504bd61b48e4bdb9c28526", func := "concierge/conciergelaw07.CpBack", spec := "cpBack", unfollowed := true, recurses := true, apart := false }
def CpBackSaid : Prop := cpBackRow.holds Try.pinned (OpenSpec.ofChange cpBackSpec)

/-- ITS FALSE NEIGHBOUR: 'it returns false'. Refute it at one input. -/
def cpBackWrong : ChangeSpec := { name := "cpBack", fn := fun _ => fun
  | [d1, d2, d3, d4] => { results := [.lit (.bool false)], args := [d1, d2, d3, d4] }
  | _ => none }
def CpBackWrongFalsely : Prop := cpBackRow.holds Try.pinned (OpenSpec.ofChange cpBackWrong)

/-- 'conciergelaw07.CpBounded': WHATEVER THE INPUT: true; the input reads as it did. -/
def cpBoundedSpec : ChangeSpec := { name := "cpBounded", fn := fun _ => fun
  | [d1, d2, d3] => { results := [.lit (.bool true)], args := [d1, d2, d3] }
  | _ => none }
def cpBoundedRow : OpenClaim := { program := "ythllhdcdiidfpaa", sum := "3f607ac0ac4cdefd6412d4bddf9f6a5df60ad8e607504bd61b48e4bdb9c28526", func := "concierge/conciergelaw07.CpBounded", spec := "cpBounded", unfollowed := true, recurses := true, apart := false }
def CpBoundedSaid : Prop := cpBoundedRow.holds Try.pinned (OpenSpec.ofChange cpBoundedSpec)

/-- ITS FALSE NEIGHBOUR: 'it returns false'. Refute it at one input. -/
def cpBoundedWrong : ChangeSpec := { name := "cpBounded", fn := fun _ => fun
  | [d1, d2, d3] => { results := [.lit (.bool false)], args := [d1, d2, d3] }
  | _ => none }
def CpBoundedWrongFalsely : Prop := cpBoundedRow.holds Try.pinned (OpenSpec.ofChange cpBoundedWrong)

/- THE SECOND FORM. 'bulk': how many values and letters a reading holds, each counted each time it is reached (what is shared counts as often as it is met; a slice's spare places count too). A statement '..UptoSaid' is the law's where the arguments, and the package variables that the reading takes, are together of bulk at most 1048576: NARROWER than '..Said'. Prove '..Said' where nothing that the law and all that it calls make is longer than what came in: it says more and counts as full. Else prove '..UptoSaid'. A law counts once. -/
mutual
def uptoBulk {H : Type} : DataW H → Nat
  | .lit (.string bytes) => bytes.length + 1
  | .lit _ => 1
  | .nil => 1
  | .ptr d => uptoBulk d + 1
  | .slice elems spare => uptoBulkAll elems + uptoBulkAll spare + 1
  | .agg parts => uptoBulkAll parts + 1
  | .iface _ d => uptoBulk d + 1
  | .map entries => uptoBulkEntries entries + 1
  | .held _ => 1
def uptoBulkAll {H : Type} : List (DataW H) → Nat
  | [] => 0
  | d :: r => uptoBulk d + uptoBulkAll r
def uptoBulkEntries {H : Type} : List (Lit × DataW H) → Nat
  | [] => 0
  | x :: r => uptoBulkEntry x + uptoBulkEntries r
def uptoBulkEntry {H : Type} : Lit × DataW H → Nat
  | (.string bytes, d) => bytes.length + uptoBulk d + 1
  | (_, d) => uptoBulk d + 1
 end
def uptoSmall : (H : Type) → List (DataW H) → Bool := fun _ ds => decide (uptoBulkAll ds ≤ 1048576)
def OpenSpec.upto (s : _root_.Go.ChangeSpec) : _root_.Go.OpenSpec := { _root_.Go.OpenSpec.ofChange s with cond := some uptoSmall }

/-- 'conciergelaw07.CpSplits', WHERE WHAT IT READS IS OF BULK AT MOST 1048576: true; the input reads as it did. -/
def cpSplitsUptoRow : OpenClaim := { program := "ythllhdcdiidfpaa", sum := "3f607ac0ac4cdefd6412d4bddf9f6a5df60ad8e607504bd61b48e4bdb9c28526", func := "concierge/conciergelaw07.CpSplits", spec := "cpSplits", unfollowed := true, recurses := true, apart := false, narrowed := true }
def CpSplitsUptoSaid : Prop := cpSplitsUptoRow.holds Try.pinned (OpenSpec.upto cpSplitsSpec)

/-- 'conciergelaw07.CpPackets', WHERE WHAT IT READS IS OF BULK AT MOST 1048576: true; the input reads as it did. -/
def cpPacketsUptoRow : OpenClaim := { program := "ythllhdcdiidfpaa", sum := "3f607ac0ac4cdefd6412d4bddf9f6a5df60ad8e607504bd61b48e4bdb9c28526", func := "concierge/conciergelaw07.CpPackets", spec := "cpPackets", unfollowed := true, recurses := true, apart := false, narrowed := true }
def CpPacketsUptoSaid : Prop := cpPacketsUptoRow.holds Try.pinned (OpenSpec.upto cpPacketsSpec)

/-- 'conciergelaw07.CpRejects', WHERE WHAT IT READS IS OF BULK AT MOST 1048576: true; the input reads as it did. -/
def cpRejectsUptoRow : OpenClaim := { program := "ythllhdcdiidfpaa", sum := "3f607ac0ac4cdefd6412d4bddf9f6a5df60ad8e607504bd61b48e4bdb9c28526", func := "concierge/conciergelaw07.CpRejects", spec := "cpRejects", unfollowed := true, recurses := true, apart := false, narrowed := true }
def CpRejectsUptoSaid : Prop := cpRejectsUptoRow.holds Try.pinned (OpenSpec.upto cpRejectsSpec)

/-- 'conciergelaw07.CpBack', WHERE WHAT IT READS IS OF BULK AT MOST 1048576: true; the input reads as it did. -/
def cpBackUptoRow : OpenClaim := { program := "ythllhdcdiidfpaa", sum := "3f607ac0ac4cdefd6412d4bddf9f6a5df60ad8e607504bd61b48e4bdb9c28526", func := "concierge/conciergelaw07.CpBack", spec := "cpBack", unfollowed := true, recurses := true, apart := false, narrowed := true }
def CpBackUptoSaid : Prop := cpBackUptoRow.holds Try.pinned (OpenSpec.upto cpBackSpec)

/-- 'conciergelaw07.CpBounded', WHERE WHAT IT READS IS OF BULK AT MOST 1048576: true; the input reads as it did. -/
def cpBoundedUptoRow : OpenClaim := { program := "ythllhdcdiidfpaa", sum := "3f607ac0ac4cdefd6412d4bddf9f6a5df60ad8e607504bd61b48e4bdb9c28526", func := "concierge/conciergelaw07.CpBounded", spec := "cpBounded", unfollowed := true, recurses := true, apart := false, narrowed := true }
def CpBoundedUptoSaid : Prop := cpBoundedUptoRow.holds Try.pinned (OpenSpec.upto cpBoundedSpec)

end Rows
end Go.Proofs.Ythllhdcdiidfpaa
