/-
  No cell of these rows narrows 'for every input' (looked for: loops, veiled, ifaces, maps, wideKeys, modest, calm, conditions, laid).
  DERIVED. THE GIVEN ROWS OF THIS SEAT. 7 by the template 'for every input the law returns true; each argument reads behind the call as it read before'; 0 by the template 'total and deterministic' (their statements: YtclplbapedmihaaGreatTotals.lean).
  GIVEN WITH THE SEED: the statements are not yours to turn. If you find one false, say at which input.
  Laid BY PROGRAM, IN A SANDBOX (cutbox-rows.mjs): the forced cells as the released guide's own fill.sh prints them over the translation aac533d10d7eca0f… (all of the seat's roots in one cut). By AI agents, Wed Nov 11 2026. No macro, syntax, notation, axiom, sorry.
-/
import Derived.Test.YtclplbapedmihaaGreatChecked
import GoSem.Claim
import GoSem.ClaimJoined
import GoSem.ClaimMapViews
import Derived.JoinedTies
import Derived.KernelRfl
namespace Go.Proofs.YtclplbapedmihaaGreat
/- THE CELL 'sum', in the pinned program and in every row, IS THE sha256 OF THE DUMP (.gsa) THAT YtclplbapedmihaaGreatProg.lean LOADS. Nothing in Lean hashes anything: it is a label: what it is worth is what the hold of that sum in a sandbox is worth. -/
noncomputable def Tryz.pinned : Pinned := { name := "ytclplbapedmihaagreat", sum := "aac533d10d7eca0f91298d4d297971cb27bcab088ff2f511833f7a577dc56665", checked := Tryz.checked }
namespace Rows
def none {H : Type} : Left H := { results := [], args := [] }

/-- 'conciergelaw16.AutoDoes': WHATEVER THE INPUT: true; the input reads as it did. -/
def autoDoesSpec : ChangeSpec := { name := "autoDoes", fn := fun _ => fun
  | [d1, d2, d3, d4, d5, d6] => { results := [.lit (.bool true)], args := [d1, d2, d3, d4, d5, d6] }
  | _ => none }
def autoDoesRow : OpenClaim := { program := "ytclplbapedmihaagreat", sum := "aac533d10d7eca0f91298d4d297971cb27bcab088ff2f511833f7a577dc56665", func := "concierge/conciergelaw16.AutoDoes", spec := "autoDoes", unfollowed := true, recurses := true, apart := false }
def AutoDoesSaid : Prop := autoDoesRow.holds Tryz.pinned (OpenSpec.ofChange autoDoesSpec)

/-- ITS FALSE NEIGHBOUR: 'it returns false'. Refute it at one input. -/
def autoDoesWrong : ChangeSpec := { name := "autoDoes", fn := fun _ => fun
  | [d1, d2, d3, d4, d5, d6] => { results := [.lit (.bool false)], args := [d1, d2, d3, d4, d5, d6] }
  | _ => none }
def AutoDoesWrongFalsely : Prop := autoDoesRow.holds Tryz.pinned (OpenSpec.ofChange autoDoesWrong)

/-- 'conciergelaw16.AutoPackets': WHATEVER THE INPUT: true; the input reads as it did. -/
def autoPacketsSpec : ChangeSpec := { name := "autoPackets", fn := fun _ => fun
  | [d1, d2, d3, d4] => { results := [.lit (.bool true)], args := [d1, d2, d3, d4] }
  | _ => none }
def autoPacketsRow : OpenClaim := { program := "ytclplbapedmihaagreat", sum := "aac533d10d7eca0f91298d4d297971cb27bcab088ff2f511833f7a577dc56665", func := "concierge/conciergelaw16.AutoPackets", spec := "autoPackets", unfollowed := true, recurses := true, apart := false }
def AutoPacketsSaid : Prop := autoPacketsRow.holds Tryz.pinned (OpenSpec.ofChange autoPacketsSpec)

/-- ITS FALSE NEIGHBOUR: 'it returns false'. Refute it at one input. -/
def autoPacketsWrong : ChangeSpec := { name := "autoPackets", fn := fun _ => fun
  | [d1, d2, d3, d4] => { results := [.lit (.bool false)], args := [d1, d2, d3, d4] }
  | _ => none }
def AutoPacketsWrongFalsely : Prop := autoPacketsRow.holds Tryz.pinned (OpenSpec.ofChange autoPacketsWrong)

/-- 'conciergelaw16.AutoTimeouts': WHATEVER THE INPUT: true; the input reads as it did. -/
def autoTimeoutsSpec : ChangeSpec := { name := "autoTimeouts", fn := fun _ => fun
  | [d1, d2, d3] => { results := [.lit (.bool true)], args := [d1, d2, d3] }
  | _ => none }
def autoTimeoutsRow : OpenClaim := { program := "ytclplbapedmihaagreat", sum := "aac533d10d7eca0f91298d4d297971cb27bcab088ff2f511833f7a577dc56665", func := "concierge/conciergelaw16.AutoTimeouts", spec := "autoTimeouts", unfollowed := true, recurses := true, apart := false }
def AutoTimeoutsSaid : Prop := autoTimeoutsRow.holds Tryz.pinned (OpenSpec.ofChange autoTimeoutsSpec)

/-- ITS FALSE NEIGHBOUR: 'it returns false'. Refute it at one input. -/
def autoTimeoutsWrong : ChangeSpec := { name := "autoTimeouts", fn := fun _ => fun
  | [d1, d2, d3] => { results := [.lit (.bool false)], args := [d1, d2, d3] }
  | _ => none }
def AutoTimeoutsWrongFalsely : Prop := autoTimeoutsRow.holds Tryz.pinned (OpenSpec.ofChange autoTimeoutsWrong)

/-- 'conciergelaw16.AutoRuns': WHATEVER THE INPUT: true; the input reads as it did. -/
def autoRunsSpec : ChangeSpec := { name := "autoRuns", fn := fun _ => fun
  | [d1, d2, d3] => { results := [.lit (.bool true)], args := [d1, d2, d3] }
  | _ => none }
def autoRunsRow : OpenClaim := { program := "ytclplbapedmihaagreat", sum := "aac533d10d7eca0f91298d4d297971cb27bcab088ff2f511833f7a577dc56665", func := "concierge/conciergelaw16.AutoRuns", spec := "autoRuns", unfollowed := true, recurses := true, apart := false }
def AutoRunsSaid : Prop := autoRunsRow.holds Tryz.pinned (OpenSpec.ofChange autoRunsSpec)

/-- ITS FALSE NEIGHBOUR: 'it returns false'. Refute it at one input. -/
def autoRunsWrong : ChangeSpec := { name := "autoRuns", fn := fun _ => fun
  | [d1, d2, d3] => { results := [.lit (.bool false)], args := [d1, d2, d3] }
  | _ => none }
def AutoRunsWrongFalsely : Prop := autoRunsRow.holds Tryz.pinned (OpenSpec.ofChange autoRunsWrong)

/-- 'conciergelaw16.AutoStale': WHATEVER THE INPUT: true; the input reads as it did. -/
def autoStaleSpec : ChangeSpec := { name := "autoStale", fn := fun _ => fun
  | [d1, d2, d3, d4] => { results := [.lit (.bool true)], args := [d1, d2, d3, d4] }
  | _ => none }
def autoStaleRow : OpenClaim := { program := "ytclplbapedmihaagreat", sum := "aac533d10d7eca0f91298d4d297971cb27bcab088ff2f511833f7a577dc56665", func := "concierge/conciergelaw16.AutoStale", spec := "autoStale", unfollowed := true, recurses := true, apart := false }
def AutoStaleSaid : Prop := autoStaleRow.holds Tryz.pinned (OpenSpec.ofChange autoStaleSpec)

/-- ITS FALSE NEIGHBOUR: 'it returns false'. Refute it at one input. -/
def autoStaleWrong : ChangeSpec := { name := "autoStale", fn := fun _ => fun
  | [d1, d2, d3, d4] => { results := [.lit (.bool false)], args := [d1, d2, d3, d4] }
  | _ => none }
def AutoStaleWrongFalsely : Prop := autoStaleRow.holds Tryz.pinned (OpenSpec.ofChange autoStaleWrong)

/-- 'conciergelaw16.AutoMeets': WHATEVER THE INPUT: true; the input reads as it did. -/
def autoMeetsSpec : ChangeSpec := { name := "autoMeets", fn := fun _ => fun
  | [d1, d2, d3, d4, d5] => { results := [.lit (.bool true)], args := [d1, d2, d3, d4, d5] }
  | _ => none }
def autoMeetsRow : OpenClaim := { program := "ytclplbapedmihaagreat", sum := "aac533d10d7eca0f91298d4d297971cb27bcab088ff2f511833f7a577dc56665", func := "concierge/conciergelaw16.AutoMeets", spec := "autoMeets", unfollowed := true, recurses := true, apart := false }
def AutoMeetsSaid : Prop := autoMeetsRow.holds Tryz.pinned (OpenSpec.ofChange autoMeetsSpec)

/-- ITS FALSE NEIGHBOUR: 'it returns false'. Refute it at one input. -/
def autoMeetsWrong : ChangeSpec := { name := "autoMeets", fn := fun _ => fun
  | [d1, d2, d3, d4, d5] => { results := [.lit (.bool false)], args := [d1, d2, d3, d4, d5] }
  | _ => none }
def AutoMeetsWrongFalsely : Prop := autoMeetsRow.holds Tryz.pinned (OpenSpec.ofChange autoMeetsWrong)

/-- 'conciergelaw16.AutoOwn': WHATEVER THE INPUT: true; the input reads as it did. -/
def autoOwnSpec : ChangeSpec := { name := "autoOwn", fn := fun _ => fun
  | [d1, d2, d3, d4, d5] => { results := [.lit (.bool true)], args := [d1, d2, d3, d4, d5] }
  | _ => none }
def autoOwnRow : OpenClaim := { program := "ytclplbapedmihaagreat", sum := "aac533d10d7eca0f91298d4d297971cb27bcab088ff2f511833f7a577dc56665", func := "concierge/conciergelaw16.AutoOwn", spec := "autoOwn", unfollowed := true, recurses := true, apart := false }
def AutoOwnSaid : Prop := autoOwnRow.holds Tryz.pinned (OpenSpec.ofChange autoOwnSpec)

/-- ITS FALSE NEIGHBOUR: 'it returns false'. Refute it at one input. -/
def autoOwnWrong : ChangeSpec := { name := "autoOwn", fn := fun _ => fun
  | [d1, d2, d3, d4, d5] => { results := [.lit (.bool false)], args := [d1, d2, d3, d4, d5] }
  | _ => none }
def AutoOwnWrongFalsely : Prop := autoOwnRow.holds Tryz.pinned (OpenSpec.ofChange autoOwnWrong)

/- THE SECOND FORM. 'bulk': how many values and letters a reading holds, each counted each time it is reached (what is shared counts as often as it is met; a slice's spare places count too). A statement '..UptoSaid' is the law's where the arguments, and the package variables that the reading takes, are together of bulk at most 1048576: NARROWER than '..Said'. Prove '..Said' where nothing that the law and all that it calls make is longer than what came in: it says more and counts as full. Else prove '..UptoSaid'. A law counts once. -/
mutual
def uptoBulk {H : Type} : DataW H → Nat
  | .lit (.string bytes) => bytes.length + 1
  | .lit _ => 1
  | .nil => 1
  | .ptr d => uptoBulk d + 1
  | .slice elems spare => uptoBulkAll elems + uptoBulkAll spare + 1
  | .agg parts => uptoBulkAll parts + 1
  | .iface _ d => uptoBulk d + 1
  | .map entries => uptoBulkEntries entries + 1
  | .held _ => 1
def uptoBulkAll {H : Type} : List (DataW H) → Nat
  | [] => 0
  | d :: r => uptoBulk d + uptoBulkAll r
def uptoBulkEntries {H : Type} : List (Lit × DataW H) → Nat
  | [] => 0
  | x :: r => uptoBulkEntry x + uptoBulkEntries r
def uptoBulkEntry {H : Type} : Lit × DataW H → Nat
  | (.string bytes, d) => bytes.length + uptoBulk d + 1
  | (_, d) => uptoBulk d + 1
 end
def uptoSmall : (H : Type) → List (DataW H) → Bool := fun _ ds => decide (uptoBulkAll ds ≤ 1048576)
def OpenSpec.upto (s : _root_.Go.ChangeSpec) : _root_.Go.OpenSpec := { _root_.Go.OpenSpec.ofChange s with cond := some uptoSmall }

/-- 'conciergelaw16.AutoDoes', WHERE WHAT IT READS IS OF BULK AT MOST 1048576: true; the input reads as it did. -/
def autoDoesUptoRow : OpenClaim := { program := "ytclplbapedmihaagreat", sum := "aac533d10d7eca0f91298d4d297971cb27bcab088ff2f511833f7a577dc56665", func := "concierge/conciergelaw16.AutoDoes", spec := "autoDoes", unfollowed := true, recurses := true, apart := false, narrowed := true }
def AutoDoesUptoSaid : Prop := autoDoesUptoRow.holds Tryz.pinned (OpenSpec.upto autoDoesSpec)

/-- 'conciergelaw16.AutoPackets', WHERE WHAT IT READS IS OF BULK AT MOST 1048576: true; the input reads as it did. -/
def autoPacketsUptoRow : OpenClaim := { program := "ytclplbapedmihaagreat", sum := "aac533d10d7eca0f91298d4d297971cb27bcab088ff2f511833f7a577dc56665", func := "concierge/conciergelaw16.AutoPackets", spec := "autoPackets", unfollowed := true, recurses := true, apart := false, narrowed := true }
def AutoPacketsUptoSaid : Prop := autoPacketsUptoRow.holds Tryz.pinned (OpenSpec.upto autoPacketsSpec)

/-- 'conciergelaw16.AutoTimeouts', WHERE WHAT IT READS IS OF BULK AT MOST 1048576: true; the input reads as it did. -/
def autoTimeoutsUptoRow : OpenClaim := { program := "ytclplbapedmihaagreat", sum := "aac533d10d7eca0f91298d4d297971cb27bcab088ff2f511833f7a577dc56665", func := "concierge/conciergelaw16.AutoTimeouts", spec := "autoTimeouts", unfollowed := true, recurses := true, apart := false, narrowed := true }
def AutoTimeoutsUptoSaid : Prop := autoTimeoutsUptoRow.holds Tryz.pinned (OpenSpec.upto autoTimeoutsSpec)

/-- 'conciergelaw16.AutoRuns', WHERE WHAT IT READS IS OF BULK AT MOST 1048576: true; the input reads as it did. -/
def autoRunsUptoRow : OpenClaim := { program := "ytclplbapedmihaagreat", sum := "aac533d10d7eca0f91298d4d297971cb27bcab088ff2f511833f7a577dc56665", func := "concierge/conciergelaw16.AutoRuns", spec := "autoRuns", unfollowed := true, recurses := true, apart := false, narrowed := true }
def AutoRunsUptoSaid : Prop := autoRunsUptoRow.holds Tryz.pinned (OpenSpec.upto autoRunsSpec)

/-- 'conciergelaw16.AutoStale', WHERE WHAT IT READS IS OF BULK AT MOST 1048576: true; the input reads as it did. -/
def autoStaleUptoRow : OpenClaim := { program := "ytclplbapedmihaagreat", sum := "aac533d10d7eca0f91298d4d297971cb27bcab088ff2f511833f7a577dc56665", func := "concierge/conciergelaw16.AutoStale", spec := "autoStale", unfollowed := true, recurses := true, apart := false, narrowed := true }
def AutoStaleUptoSaid : Prop := autoStaleUptoRow.holds Tryz.pinned (OpenSpec.upto autoStaleSpec)

/-- 'conciergelaw16.AutoMeets', WHERE WHAT IT READS IS OF BULK AT MOST 1048576: true; the input reads as it did. -/
def autoMeetsUptoRow : OpenClaim := { program := "ytclplbapedmihaagreat", sum := "aac533d10d7eca0f91298d4d297971cb27bcab088ff2f511833f7a577dc56665", func := "concierge/conciergelaw16.AutoMeets", spec := "autoMeets", unfollowed := true, recurses := true, apart := false, narrowed := true }
def AutoMeetsUptoSaid : Prop := autoMeetsUptoRow.holds Tryz.pinned (OpenSpec.upto autoMeetsSpec)

/-- 'conciergelaw16.AutoOwn', WHERE WHAT IT READS IS OF BULK AT MOST 1048576: true; the input reads as it did. -/
def autoOwnUptoRow : OpenClaim := { program := "ytclplbapedmihaagreat", sum := "aac533d10d7eca0f91298d4d297971cb27bcab088ff2f511833f7a577dc56665", func := "concierge/conciergelaw16.AutoOwn", spec := "autoOwn", unfollowed := true, recurses := true, apart := false, narrowed := true }
def AutoOwnUptoSaid : Prop := autoOwnUptoRow.holds Tryz.pinned (OpenSpec.upto autoOwnSpec)

end Rows
end Go.Proofs.YtclplbapedmihaaGreat
