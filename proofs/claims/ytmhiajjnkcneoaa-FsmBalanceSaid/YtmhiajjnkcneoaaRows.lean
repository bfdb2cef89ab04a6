/-
  No cell of these rows narrows 'for every input' (looked for: loops, veiled, ifaces, maps, wideKeys, modest, calm, conditions, laid).
  DERIVED. THE GIVEN ROWS OF THIS SEAT. 8 by the template 'for every input the law returns true; each argument reads behind the call as it read before'; 0 by the template 'total and deterministic' (their statements: YtmhiajjnkcneoaaTotals.lean).
  GIVEN WITH THE SEED: the statements are not yours to turn. If you find one false, say at which input.
  Laid BY PROGRAM, IN A SANDBOX (cutbox-rows.mjs): the forced cells as the released guide's own fill.sh prints them over the translation ca1b5e207f4a0dd5… (all of the seat's roots in one cut). By AI agents, Wed Nov 11 2026. No macro, syntax, notation, axiom, sorry.
-/
import Derived.Test.YtmhiajjnkcneoaaChecked
import GoSem.Claim
import GoSem.ClaimJoined
import GoSem.ClaimMapViews
import Derived.JoinedTies
import Derived.KernelRfl
namespace Go.Proofs.Ytmhiajjnkcneoaa
/- THE CELL 'sum', in the pinned program and in every row, IS THE sha256 OF THE DUMP (.gsa) THAT YtmhiajjnkcneoaaProg.lean LOADS. Nothing in Lean hashes anything: it is a label: what it is worth is what the hold of that sum in a sandbox is worth. -/
noncomputable def Try.pinned : Pinned := { name := "ytmhiajjnkcneoaa", sum := "ca1b5e207f4a0dd5c1b75c16a0ebfe9e4434968578c826d2db8d3717500d2cf3", checked := Try.checked }
namespace Rows
def none {H : Type} : Left H := { results := [], args := [] }

/-- 'conciergelaw14.FsmSteps': WHATEVER THE INPUT: true; the input reads as it did. -/
def fsmStepsSpec : ChangeSpec := { name := "fsmSteps", fn := fun _ => fun
  | [d1, d2] => { results := [.lit (.bool true)], args := [d1, d2] }
  | _ => none }
def fsmStepsRow : OpenClaim := { program := "ytmhiajjnkcneoaa", sum := "ca1b5e207f4a0dd5c1b75c16a0ebfe9e4434968578c826d2db8d3717500d2cf3", func := "concierge/conciergelaw14.FsmSteps", spec := "fsmSteps", unfollowed := true, recurses := true, apart := false }
def FsmStepsSaid : Prop := fsmStepsRow.holds Try.pinned (OpenSpec.ofChange fsmStepsSpec)

/-- ITS FALSE NEIGHBOUR: 'it returns false'. Refute it at one input. -/
def fsmStepsWrong : ChangeSpec := { name := "fsmSteps", fn := fun _ => fun
  | [d1, d2] => { results := [.lit (.bool false)], args := [d1, d2] }
  | _ => none }
def FsmStepsWrongFalsely : Prop := fsmStepsRow.holds Try.pinned (OpenSpec.ofChange fsmStepsWrong)

/-- 'conciergelaw14.FsmWalks': WHATEVER THE INPUT: true; the input reads as it did. -/
def fsmWalksSpec : ChangeSpec := { name := "fsmWalks", fn := fun _ => fun
  | [d1, d2] => { results := [.lit (.bool true)], args := [d1, d2] }
  | _ => none }
def fsmWalksRow : OpenClaim := { program := "ytmhiajjnkcneoaa", sum := "ca1b5e207f4a0dd5c1b75c16a0ebfe9e4434968578c826d2db8d3717500d2cf3", func := "concierge/conciergelaw14.FsmWalks", spec := "fsmWalks", unfollowed := true, recurses := true, apart := false }
def FsmWalksSaid : Prop := fsmWalksRow.holds Try.pinned (OpenSpec.ofChange fsmWalksSpec)

/-- ITS FALSE NEIGHBOUR: 'it returns false'. Refute it at one input. -/
def fsmWalksWrong : ChangeSpec := { name := "fsmWalks", fn := fun _ => fun
  | [d1, d2] => { results := [.lit (.bool false)], args := [d1, d2] }
  | _ => none }
def FsmWalksWrongFalsely : Prop := fsmWalksRow.holds Try.pinned (OpenSpec.ofChange fsmWalksWrong)

/-- 'conciergelaw14.FsmNames': WHATEVER THE INPUT: true; the input reads as it did. -/
def fsmNamesSpec : ChangeSpec := { name := "fsmNames", fn := fun _ => fun
  | [d1, d2, d3, d4] => { results := [.lit (.bool true)], args := [d1, d2, d3, d4] }
  | _ => none }
def fsmNamesRow : OpenClaim := { program := "ytmhiajjnkcneoaa", sum := "ca1b5e207f4a0dd5c1b75c16a0ebfe9e4434968578c826d2db8d3717500d2cf3", func := "concierge/conciergelaw14.FsmNames", spec := "fsmNames", unfollowed := true, recurses := true, apart := false }
def FsmNamesSaid : Prop := fsmNamesRow.holds Try.pinned (OpenSpec.ofChange fsmNamesSpec)

/-- ITS FALSE NEIGHBOUR: 'it returns false'. Refute it at one input. -/
def fsmNamesWrong : ChangeSpec := { name := "fsmNames", fn := fun _ => fun
  | [d1, d2, d3, d4] => { results := [.lit (.bool false)], args := [d1, d2, d3, d4] }
  | _ => none }
def FsmNamesWrongFalsely : Prop := fsmNamesRow.holds Try.pinned (OpenSpec.ofChange fsmNamesWrong)

/-- 'conciergelaw14.FsmParses': WHATEVER THE INPUT: true; the input reads as it did. -/
def fsmParsesSpec : ChangeSpec := { name := "fsmParses", fn := fun _ => fun
  | [d] => { results := [.lit (.bool true)], args := [d] }
  | _ => none }
def fsmParsesRow : OpenClaim := { program := "ytmhiajjnkcneoaa", sum := "ca1b5e207f4a0dd5c1b75c16a0ebfe9e4434968578c826d2db8d3717500d2cf3", func := "concierge/conciergelaw14.FsmParses", spec := "fsmParses", unfollowed := true, recurses := true, apart := false }
def FsmParsesSaid : Prop := fsmParsesRow.holds Try.pinned (OpenSpec.ofChange fsmParsesSpec)

/-- ITS FALSE NEIGHBOUR: 'it returns false'. Refute it at one input. -/
def fsmParsesWrong : ChangeSpec := { name := "fsmParses", fn := fun _ => fun
  | [d] => { results := [.lit (.bool false)], args := [d] }
  | _ => none }
def FsmParsesWrongFalsely : Prop := fsmParsesRow.holds Try.pinned (OpenSpec.ofChange fsmParsesWrong)

/-- 'conciergelaw14.FsmUps': WHATEVER THE INPUT: true; the input reads as it did. -/
def fsmUpsSpec : ChangeSpec := { name := "fsmUps", fn := fun _ => fun
  | [d1, d2] => { results := [.lit (.bool true)], args := [d1, d2] }
  | _ => none }
def fsmUpsRow : OpenClaim := { program := "ytmhiajjnkcneoaa", sum := "ca1b5e207f4a0dd5c1b75c16a0ebfe9e4434968578c826d2db8d3717500d2cf3", func := "concierge/conciergelaw14.FsmUps", spec := "fsmUps", unfollowed := true, recurses := true, apart := false }
def FsmUpsSaid : Prop := fsmUpsRow.holds Try.pinned (OpenSpec.ofChange fsmUpsSpec)

/-- ITS FALSE NEIGHBOUR: 'it returns false'. Refute it at one input. -/
def fsmUpsWrong : ChangeSpec := { name := "fsmUps", fn := fun _ => fun
  | [d1, d2] => { results := [.lit (.bool false)], args := [d1, d2] }
  | _ => none }
def FsmUpsWrongFalsely : Prop := fsmUpsRow.holds Try.pinned (OpenSpec.ofChange fsmUpsWrong)

/-- 'conciergelaw14.FsmFinishes': WHATEVER THE INPUT: true; the input reads as it did. -/
def fsmFinishesSpec : ChangeSpec := { name := "fsmFinishes", fn := fun _ => fun
  | [d1, d2] => { results := [.lit (.bool true)], args := [d1, d2] }
  | _ => none }
def fsmFinishesRow : OpenClaim := { program := "ytmhiajjnkcneoaa", sum := "ca1b5e207f4a0dd5c1b75c16a0ebfe9e4434968578c826d2db8d3717500d2cf3", func := "concierge/conciergelaw14.FsmFinishes", spec := "fsmFinishes", unfollowed := true, recurses := true, apart := false }
def FsmFinishesSaid : Prop := fsmFinishesRow.holds Try.pinned (OpenSpec.ofChange fsmFinishesSpec)

/-- ITS FALSE NEIGHBOUR: 'it returns false'. Refute it at one input. -/
def fsmFinishesWrong : ChangeSpec := { name := "fsmFinishes", fn := fun _ => fun
  | [d1, d2] => { results := [.lit (.bool false)], args := [d1, d2] }
  | _ => none }
def FsmFinishesWrongFalsely : Prop := fsmFinishesRow.holds Try.pinned (OpenSpec.ofChange fsmFinishesWrong)

/-- 'conciergelaw14.FsmEnds': WHATEVER THE INPUT: true; the input reads as it did. -/
def fsmEndsSpec : ChangeSpec := { name := "fsmEnds", fn := fun _ => fun
  | [d] => { results := [.lit (.bool true)], args := [d] }
  | _ => none }
def fsmEndsRow : OpenClaim := { program := "ytmhiajjnkcneoaa", sum := "ca1b5e207f4a0dd5c1b75c16a0ebfe9e4434968578c826d2db8d3717500d2cf3", func := "concierge/conciergelaw14.FsmEnds", spec := "fsmEnds", unfollowed := true, recurses := true, apart := false }
def FsmEndsSaid : Prop := fsmEndsRow.holds Try.pinned (OpenSpec.ofChange fsmEndsSpec)

/-- ITS FALSE NEIGHBOUR: 'it returns false'. Refute it at one input. -/
def fsmEndsWrong : ChangeSpec := { name := "fsmEnds", fn := fun _ => fun
  | [d] => { results := [.lit (.bool false)], args := [d] }
  | _ => none }
def FsmEndsWrongFalsely : Prop := fsmEndsRow.holds Try.pinned (OpenSpec.ofChange fsmEndsWrong)

/-- 'conciergelaw14.FsmBalance': WHATEVER THE INPUT: true; the input reads as it did. -/
def fsmBalanceSpec : ChangeSpec := { name := "fsmBalance", fn := fun _ => fun
  | [d1, d2] => { results := [.lit (.bool true)], args := [d1, d2] }
  | _ => none }
def fsmBalanceRow : OpenClaim := { program := "ytmhiajjnkcneoaa", sum := "ca1b5e207f4a0dd5c1b75c16a0ebfe9e4434968578c826d2db8d3717500d2cf3", func := "concierge/conciergelaw14.FsmBalance", spec := "fsmBalance", unfollowed := true, recurses := true, apart := false }
def FsmBalanceSaid : Prop := fsmBalanceRow.holds Try.pinned (OpenSpec.ofChange fsmBalanceSpec)

/-- ITS FALSE NEIGHBOUR: 'it returns false'. Refute it at one input. -/
def fsmBalanceWrong : ChangeSpec := { name := "fsmBalance", fn := fun _ => fun
  | [d1, d2] => { results := [.lit (.bool false)], args := [d1, d2] }
  | _ => none }
def FsmBalanceWrongFalsely : Prop := fsmBalanceRow.holds Try.pinned (OpenSpec.ofChange fsmBalanceWrong)

/- THE SECOND FORM. 'bulk': how many values and letters a reading holds, each counted each time it is reached (what is shared counts as often as it is met; a slice's spare places count too). A statement '..UptoSaid' is the law's where the arguments, and the package variables that the reading takes, are together of bulk at most 1048576: NARROWER than '..Said'. Prove '..Said' where nothing that the law and all that it calls make is longer than what came in: it says more and counts as full. Else prove '..UptoSaid'. A law counts once. -/
mutual
def uptoBulk {H : Type} : DataW H → Nat
  | .lit (.string bytes) => bytes.length + 1
  | .lit _ => 1
  | .nil => 1
  | .ptr d => uptoBulk d + 1
  | .slice elems spare => uptoBulkAll elems + uptoBulkAll spare + 1
  | .agg parts => uptoBulkAll parts + 1
  | .iface _ d => uptoBulk d + 1
  | .map entries => uptoBulkEntries entries + 1
  | .held _ => 1
def uptoBulkAll {H : Type} : List (DataW H) → Nat
  | [] => 0
  | d :: r => uptoBulk d + uptoBulkAll r
def uptoBulkEntries {H : Type} : List (Lit × DataW H) → Nat
  | [] => 0
  | x :: r => uptoBulkEntry x + uptoBulkEntries r
def uptoBulkEntry {H : Type} : Lit × DataW H → Nat
  | (.string bytes, d) => bytes.length + uptoBulk d + 1
  | (_, d) => uptoBulk d + 1
 end
def uptoSmall : (H : Type) → List (DataW H) → Bool := fun _ ds => decide (uptoBulkAll ds ≤ 1048576)
def OpenSpec.upto (s : _root_.Go.ChangeSpec) : _root_.Go.OpenSpec := { _root_.Go.OpenSpec.ofChange s with cond := some uptoSmall }

/-- 'conciergelaw14.FsmSteps', WHERE WHAT IT READS IS OF BULK AT MOST 1048576: true; the input reads as it did. -/
def fsmStepsUptoRow : OpenClaim := { program := "ytmhiajjnkcneoaa", sum := "ca1b5e207f4a0dd5c1b75c16a0ebfe9e4434968578c826d2db8d3717500d2cf3", func := "concierge/conciergelaw14.FsmSteps", spec := "fsmSteps", unfollowed := true, recurses := true, apart := false, narrowed := true }
def FsmStepsUptoSaid : Prop := fsmStepsUptoRow.holds Try.pinned (OpenSpec.upto fsmStepsSpec)

/-- 'conciergelaw14.FsmWalks', WHERE WHAT IT READS IS OF BULK AT MOST 1048576: true; the input reads as it did. -/
def fsmWalksUptoRow : OpenClaim := { program := "ytmhiajjnkcneoaa", sum := "ca1b5e207f4a0dd5c1b75c16a0ebfe9e4434968578c826d2db8d3717500d2cf3", func := "concierge/conciergelaw14.FsmWalks", spec := "fsmWalks", unfollowed := true, recurses := true, apart := false, narrowed := true }
def FsmWalksUptoSaid : Prop := fsmWalksUptoRow.holds Try.pinned (OpenSpec.upto fsmWalksSpec)

/-- 'conciergelaw14.FsmNames', WHERE WHAT IT READS IS OF BULK AT MOST 1048576: true; the input reads as it did. -/
def fsmNamesUptoRow : OpenClaim := { program := "ytmhiajjnkcneoaa", sum := "ca1b5e207f4a0dd5c1b75c16a0ebfe9e4434968578c826d2db8d3717500d2cf3", func := "concierge/conciergelaw14.FsmNames", spec := "fsmNames", unfollowed := true, recurses := true, apart := false, narrowed := true }
def FsmNamesUptoSaid : Prop := fsmNamesUptoRow.holds Try.pinned (OpenSpec.upto fsmNamesSpec)

/-- 'conciergelaw14.FsmParses', WHERE WHAT IT READS IS OF BULK AT MOST 1048576: true; the input reads as it did. -/
def fsmParsesUptoRow : OpenClaim := { program := "ytmhiajjnkcneoaa", sum := "ca1b5e207f4a0dd5c1b75c16a0ebfe9e4434968578c826d2db8d3717500d2cf3", func := "concierge/conciergelaw14.FsmParses", spec := "fsmParses", unfollowed := true, recurses := true, apart := false, narrowed := true }
def FsmParsesUptoSaid : Prop := fsmParsesUptoRow.holds Try.pinned (OpenSpec.upto fsmParsesSpec)

/-- 'conciergelaw14.FsmUps', WHERE WHAT IT READS IS OF BULK AT MOST 1048576: true; the input reads as it did. -/
def fsmUpsUptoRow : OpenClaim := { program := "ytmhiajjnkcneoaa", sum := "ca1b5e207f4a0dd5c1b75c16a0ebfe9e4434968578c826d2db8d3717500d2cf3", func := "concierge/conciergelaw14.FsmUps", spec := "fsmUps", unfollowed := true, recurses := true, apart := false, narrowed := true }
def FsmUpsUptoSaid : Prop := fsmUpsUptoRow.holds Try.pinned (OpenSpec.upto fsmUpsSpec)

/-- 'conciergelaw14.FsmFinishes', WHERE WHAT IT READS IS OF BULK AT MOST 1048576: true; the input reads as it did. -/
def fsmFinishesUptoRow : OpenClaim := { program := "ytmhiajjnkcneoaa", sum := "ca1b5e207f4a0dd5c1b75c16a0ebfe9e4434968578c826d2db8d3717500d2cf3", func := "concierge/conciergelaw14.FsmFinishes", spec := "fsmFinishes", unfollowed := true, recurses := true, apart := false, narrowed := true }
def FsmFinishesUptoSaid : Prop := fsmFinishesUptoRow.holds Try.pinned (OpenSpec.upto fsmFinishesSpec)

/-- 'conciergelaw14.FsmEnds', WHERE WHAT IT READS IS OF BULK AT MOST 1048576: true; the input reads as it did. -/
def fsmEndsUptoRow : OpenClaim := { program := "ytmhiajjnkcneoaa", sum := "ca1b5e207f4a0dd5c1b75c16a0ebfe9e4434968578c826d2db8d3717500d2cf3", func := "concierge/conciergelaw14.FsmEnds", spec := "fsmEnds", unfollowed := true, recurses := true, apart := false, narrowed := true }
def FsmEndsUptoSaid : Prop := fsmEndsUptoRow.holds Try.pinned (OpenSpec.upto fsmEndsSpec)

/-- 'conciergelaw14.FsmBalance', WHERE WHAT IT READS IS OF BULK AT MOST 1048576: true; the input reads as it did. -/
def fsmBalanceUptoRow : OpenClaim := { program := "ytmhiajjnkcneoaa", sum := "ca1b5e207f4a0dd5c1b75c16a0ebfe9e4434968578c826d2db8d3717500d2cf3", func := "concierge/conciergelaw14.FsmBalance", spec := "fsmBalance", unfollowed := true, recurses := true, apart := false, narrowed := true }
def FsmBalanceUptoSaid : Prop := fsmBalanceUptoRow.holds Try.pinned (OpenSpec.upto fsmBalanceSpec)

end Rows
end Go.Proofs.Ytmhiajjnkcneoaa
