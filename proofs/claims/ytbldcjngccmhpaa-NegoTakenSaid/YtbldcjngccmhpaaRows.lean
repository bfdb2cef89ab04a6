/-
  No cell of these rows narrows 'for every input' (looked for: loops, veiled, ifaces, maps, wideKeys, modest, calm, conditions, laid).
  DERIVED. THE GIVEN ROWS OF THIS SEAT. 6 by the template 'for every input the law returns true; each argument reads behind the call as it read before'; 0 by the template 'total and deterministic' (their statements: YtbldcjngccmhpaaTotals.lean).
  GIVEN WITH THE SEED: the statements are not yours to turn. If you find one false, say at which input.
  Laid BY PROGRAM, IN A SANDBOX (cutbox-rows.mjs): the forced cells as the released guide's own fill.sh prints them over the translation 0197c2f37a0b635f… (all of the seat's roots in one cut). By AI agents, Wed Nov 11 2026. No macro, syntax, notation, axiom, sorry.
-/
import Derived.Test.YtbldcjngccmhpaaChecked
import GoSem.Claim
import GoSem.ClaimJoined
import GoSem.ClaimMapViews
import Derived.JoinedTies
import Derived.KernelRfl
namespace Go.Proofs.Ytbldcjngccmhpaa
/- THE CELL 'sum', in the pinned program and in every row, IS THE sha256 OF THE DUMP (.gsa) THAT YtbldcjngccmhpaaProg.lean LOADS. Nothing in Lean hashes anything: it is a label: what it is worth is what the hold of that sum in a sandbox is worth. -/
noncomputable def Try.pinned : Pinned := { name := "ytbldcjngccmhpaa", sum := "0197c2f37a0b635f7b1726ba7b548a4b412205b128ec42a95d4831c1e1c959c4", checked := Try.checked }
namespace Rows
def none {H : Type} : Left H := { results := [], args := [] }

/-- 'conciergelaw15.NegoAnswers': WHATEVER THE INPUT: true; the input reads as it did. -/
def negoAnswersSpec : ChangeSpec := { name := "negoAnswers", fn := fun _ => fun
  | [d1, d2, d3, d4] => { results := [.lit (.bool true)], args := [d1, d2, d3, d4] }
  | _ => none }
def negoAnswersRow : OpenClaim := { program := "ytbldcjngccmhpaa", sum := "0197c2f37a0b635f7b1726ba7b548a4b412205b128ec42a95d4831c1e1c959c4", func := "concierge/conciergelaw15.NegoAnswers", spec := "negoAnswers", unfollowed := true, recurses := true, apart := false }
def NegoAnswersSaid : Prop := negoAnswersRow.holds Try.pinned (OpenSpec.ofChange negoAnswersSpec)

/-- ITS FALSE NEIGHBOUR: 'it returns false'. Refute it at one input. -/
def negoAnswersWrong : ChangeSpec := { name := "negoAnswers", fn := fun _ => fun
  | [d1, d2, d3, d4] => { results := [.lit (.bool false)], args := [d1, d2, d3, d4] }
  | _ => none }
def NegoAnswersWrongFalsely : Prop := negoAnswersRow.holds Try.pinned (OpenSpec.ofChange negoAnswersWrong)

/-- 'conciergelaw15.NegoLearns': WHATEVER THE INPUT: true; the input reads as it did. -/
def negoLearnsSpec : ChangeSpec := { name := "negoLearns", fn := fun _ => fun
  | [d1, d2, d3] => { results := [.lit (.bool true)], args := [d1, d2, d3] }
  | _ => none }
def negoLearnsRow : OpenClaim := { program := "ytbldcjngccmhpaa", sum := "0197c2f37a0b635f7b1726ba7b548a4b412205b128ec42a95d4831c1e1c959c4", func := "concierge/conciergelaw15.NegoLearns", spec := "negoLearns", unfollowed := true, recurses := true, apart := false }
def NegoLearnsSaid : Prop := negoLearnsRow.holds Try.pinned (OpenSpec.ofChange negoLearnsSpec)

/-- ITS FALSE NEIGHBOUR: 'it returns false'. Refute it at one input. -/
def negoLearnsWrong : ChangeSpec := { name := "negoLearns", fn := fun _ => fun
  | [d1, d2, d3] => { results := [.lit (.bool false)], args := [d1, d2, d3] }
  | _ => none }
def NegoLearnsWrongFalsely : Prop := negoLearnsRow.holds Try.pinned (OpenSpec.ofChange negoLearnsWrong)

/-- 'conciergelaw15.NegoTaken': WHATEVER THE INPUT: true; the input reads as it did. -/
def negoTakenSpec : ChangeSpec := { name := "negoTaken", fn := fun _ => fun
  | [d1, d2, d3, d4] => { results := [.lit (.bool true)], args := [d1, d2, d3, d4] }
  | _ => none }
def negoTakenRow : OpenClaim := { program := "ytbldcjngccmhpaa", sum := "0197c2f37a0b635f7b1726ba7b548a4b412205b128ec42a95d4831c1e1c959c4", func := "concierge/conciergelaw15.NegoTaken", spec := "negoTaken", unfollowed := true, recurses := true, apart := false }
def NegoTakenSaid : Prop := negoTakenRow.holds Try.pinned (OpenSpec.ofChange negoTakenSpec)

/-- ITS FALSE NEIGHBOUR: 'it returns false'. Refute it at one input. -/
def negoTakenWrong : ChangeSpec := { name := "negoTaken", fn := fun _ => fun
  | [d1, d2, d3, d4] => { results := [.lit (.bool false)], args := [d1, d2, d3, d4] }
  | _ => none }
def NegoTakenWrongFalsely : Prop := negoTakenRow.holds Try.pinned (OpenSpec.ofChange negoTakenWrong)

/-- 'conciergelaw15.NegoHelped': WHATEVER THE INPUT: true; the input reads as it did. -/
def negoHelpedSpec : ChangeSpec := { name := "negoHelped", fn := fun _ => fun
  | [d1, d2, d3] => { results := [.lit (.bool true)], args := [d1, d2, d3] }
  | _ => none }
def negoHelpedRow : OpenClaim := { program := "ytbldcjngccmhpaa", sum := "0197c2f37a0b635f7b1726ba7b548a4b412205b128ec42a95d4831c1e1c959c4", func := "concierge/conciergelaw15.NegoHelped", spec := "negoHelped", unfollowed := true, recurses := true, apart := false }
def NegoHelpedSaid : Prop := negoHelpedRow.holds Try.pinned (OpenSpec.ofChange negoHelpedSpec)

/-- ITS FALSE NEIGHBOUR: 'it returns false'. Refute it at one input. -/
def negoHelpedWrong : ChangeSpec := { name := "negoHelped", fn := fun _ => fun
  | [d1, d2, d3] => { results := [.lit (.bool false)], args := [d1, d2, d3] }
  | _ => none }
def NegoHelpedWrongFalsely : Prop := negoHelpedRow.holds Try.pinned (OpenSpec.ofChange negoHelpedWrong)

/-- 'conciergelaw15.NegoLess': WHATEVER THE INPUT: true; the input reads as it did. -/
def negoLessSpec : ChangeSpec := { name := "negoLess", fn := fun _ => fun
  | [d1, d2] => { results := [.lit (.bool true)], args := [d1, d2] }
  | _ => none }
def negoLessRow : OpenClaim := { program := "ytbldcjngccmhpaa", sum := "0197c2f37a0b635f7b1726ba7b548a4b412205b128ec42a95d4831c1e1c959c4", func := "concierge/conciergelaw15.NegoLess", spec := "negoLess", unfollowed := true, recurses := true, apart := false }
def NegoLessSaid : Prop := negoLessRow.holds Try.pinned (OpenSpec.ofChange negoLessSpec)

/-- ITS FALSE NEIGHBOUR: 'it returns false'. Refute it at one input. -/
def negoLessWrong : ChangeSpec := { name := "negoLess", fn := fun _ => fun
  | [d1, d2] => { results := [.lit (.bool false)], args := [d1, d2] }
  | _ => none }
def NegoLessWrongFalsely : Prop := negoLessRow.holds Try.pinned (OpenSpec.ofChange negoLessWrong)

/-- 'conciergelaw15.NegoOwn': WHATEVER THE INPUT: true; the input reads as it did. -/
def negoOwnSpec : ChangeSpec := { name := "negoOwn", fn := fun _ => fun
  | [d1, d2, d3, d4] => { results := [.lit (.bool true)], args := [d1, d2, d3, d4] }
  | _ => none }
def negoOwnRow : OpenClaim := { program := "ytbldcjngccmhpaa", sum := "0197c2f37a0b635f7b1726ba7b548a4b412205b128ec42a95d4831c1e1c959c4", func := "concierge/conciergelaw15.NegoOwn", spec := "negoOwn", unfollowed := true, recurses := true, apart := false }
def NegoOwnSaid : Prop := negoOwnRow.holds Try.pinned (OpenSpec.ofChange negoOwnSpec)

/-- ITS FALSE NEIGHBOUR: 'it returns false'. Refute it at one input. -/
def negoOwnWrong : ChangeSpec := { name := "negoOwn", fn := fun _ => fun
  | [d1, d2, d3, d4] => { results := [.lit (.bool false)], args := [d1, d2, d3, d4] }
  | _ => none }
def NegoOwnWrongFalsely : Prop := negoOwnRow.holds Try.pinned (OpenSpec.ofChange negoOwnWrong)

/- THE SECOND FORM. 'bulk': how many values and letters a reading holds, each counted each time it is reached (what is shared counts as often as it is met; a slice's spare places count too). A statement '..UptoSaid' is the law's where the arguments, and the package variables that the reading takes, are together of bulk at most 1048576: NARROWER than '..Said'. Prove '..Said' where nothing that the law and all that it calls make is longer than what came in: it says more and counts as full. Else prove '..UptoSaid'. A law counts once. -/
mutual
def uptoBulk {H : Type} : DataW H → Nat
  | .lit (.string bytes) => bytes.length + 1
  | .lit _ => 1
  | .nil => 1
  | .ptr d => uptoBulk d + 1
  | .slice elems spare => uptoBulkAll elems + uptoBulkAll spare + 1
  | .agg parts => uptoBulkAll parts + 1
  | .iface _ d => uptoBulk d + 1
  | .map entries => uptoBulkEntries entries + 1
  | .held _ => 1
def uptoBulkAll {H : Type} : List (DataW H) → Nat
  | [] => 0
  | d :: r => uptoBulk d + uptoBulkAll r
def uptoBulkEntries {H : Type} : List (Lit × DataW H) → Nat
  | [] => 0
  | x :: r => uptoBulkEntry x + uptoBulkEntries r
def uptoBulkEntry {H : Type} : Lit × DataW H → Nat
  | (.string bytes, d) => bytes.length + uptoBulk d + 1
  | (_, d) => uptoBulk d + 1
 end
def uptoSmall : (H : Type) → List (DataW H) → Bool := fun _ ds => decide (uptoBulkAll ds ≤ 1048576)
def OpenSpec.upto (s : _root_.Go.ChangeSpec) : _root_.Go.OpenSpec := { _root_.Go.OpenSpec.ofChange s with cond := some uptoSmall }

/-- 'conciergelaw15.NegoAnswers', WHERE WHAT IT READS IS OF BULK AT MOST 1048576: true; the input reads as it did. -/
def negoAnswersUptoRow : OpenClaim := { program := "ytbldcjngccmhpaa", sum := "0197c2f37a0b635f7b1726ba7b548a4b412205b128ec42a95d4831c1e1c959c4", func := "concierge/conciergelaw15.NegoAnswers", spec := "negoAnswers", unfollowed := true, recurses := true, apart := false, narrowed := true }
def NegoAnswersUptoSaid : Prop := negoAnswersUptoRow.holds Try.pinned (OpenSpec.upto negoAnswersSpec)

/-- 'conciergelaw15.NegoLearns', WHERE WHAT IT READS IS OF BULK AT MOST 1048576: true; the input reads as it did. -/
def negoLearnsUptoRow : OpenClaim := { program := "ytbldcjngccmhpaa", sum := "0197c2f37a0b635f7b1726ba7b548a4b412205b128ec42a95d4831c1e1c959c4", func := "concierge/conciergelaw15.NegoLearns", spec := "negoLearns", unfollowed := true, recurses := true, apart := false, narrowed := true }
def NegoLearnsUptoSaid : Prop := negoLearnsUptoRow.holds Try.pinned (OpenSpec.upto negoLearnsSpec)

/-- 'conciergelaw15.NegoTaken', WHERE WHAT IT READS IS OF BULK AT MOST 1048576: true; the input reads as it did. -/
def negoTakenUptoRow : OpenClaim := { program := "ytbldcjngccmhpaa", sum := "0197c2f37a0b635f7b1726ba7b548a4b412205b128ec42a95d4831c1e1c959c4", func := "concierge/conciergelaw15.NegoTaken", spec := "negoTaken", unfollowed := true, recurses := true, apart := false, narrowed := true }
def NegoTakenUptoSaid : Prop := negoTakenUptoRow.holds Try.pinned (OpenSpec.upto negoTakenSpec)

/-- 'conciergelaw15.NegoHelped', WHERE WHAT IT READS IS OF BULK AT MOST 1048576: true; the input reads as it did. -/
def negoHelpedUptoRow : OpenClaim := { program := "ytbldcjngccmhpaa", sum := "0197c2f37a0b635f7b1726ba7b548a4b412205b128ec42a95d4831c1e1c959c4", func := "concierge/conciergelaw15.NegoHelped", spec := "negoHelped", unfollowed := true, recurses := true, apart := false, narrowed := true }
def NegoHelpedUptoSaid : Prop := negoHelpedUptoRow.holds Try.pinned (OpenSpec.upto negoHelpedSpec)

/-- 'conciergelaw15.NegoLess', WHERE WHAT IT READS IS OF BULK AT MOST 1048576: true; the input reads as it did. -/
def negoLessUptoRow : OpenClaim := { program := "ytbldcjngccmhpaa", sum := "0197c2f37a0b635f7b1726ba7b548a4b412205b128ec42a95d4831c1e1c959c4", func := "concierge/conciergelaw15.NegoLess", spec := "negoLess", unfollowed := true, recurses := true, apart := false, narrowed := true }
def NegoLessUptoSaid : Prop := negoLessUptoRow.holds Try.pinned (OpenSpec.upto negoLessSpec)

/-- 'conciergelaw15.NegoOwn', WHERE WHAT IT READS IS OF BULK AT MOST 1048576: true; the input reads as it did. -/
def negoOwnUptoRow : OpenClaim := { program := "ytbldcjngccmhpaa", sum := "0197c2f37a0b635f7b1726ba7b548a4b412205b128ec42a95d4831c1e1c959c4", func := "concierge/conciergelaw15.NegoOwn", spec := "negoOwn", unfollowed := true, recurses := true, apart := false, narrowed := true }
def NegoOwnUptoSaid : Prop := negoOwnUptoRow.holds Try.pinned (OpenSpec.upto negoOwnSpec)

end Rows
end Go.Proofs.Ytbldcjngccmhpaa
