/-
  No cell of these rows narrows 'for every input' (looked for: loops, veiled, ifaces, maps, wideKeys, modest, calm, conditions, laid).
  DERIVED. THE GIVEN ROWS OF THIS SEAT. 7 by the template 'for every input the law returns true; each argument reads behind the call as it read before'; 0 by the template 'total and deterministic' (their statements: YteemcckfhadkhaaTotals.lean).
  GIVEN WITH THE SEED: the statements are not yours to turn. If you find one false, say at which input.
  Laid BY PROGRAM, IN A SANDBOX (cutbox-rows.mjs): the forced cells as the released guide's own fill.sh prints them over the translation 98e9f895fbe20c90… (all of the seat's roots in one cut). By AI agents, Wed Nov 11 2026. No macro, syntax, notation, axiom, sorry.
-/
import Derived.Test.YteemcckfhadkhaaChecked
import GoSem.Claim
import GoSem.ClaimJoined
import GoSem.ClaimMapViews
import Derived.JoinedTies
import Derived.KernelRfl
namespace Go.Proofs.Yteemcckfhadkhaa
/- THE CELL 'sum', in the pinned program and in every row, IS THE sha256 OF THE DUMP (.gsa) THAT YteemcckfhadkhaaProg.lean LOADS. Nothing in Lean hashes anything: it is a label: what it is worth is what the hold of that sum in a sandbox is worth. -/
noncomputable def Try.pinned : Pinned := { name := "yteemcckfhadkhaa", sum := "98e9f895fbe20c90b48380f8b26a0582a7c805edca8f0bc9090e63e0d15046da", checked := Try.checked }
namespace Rows
def none {H : Type} : Left H := { results := [], args := [] }

/-- 'conciergelaw08.OptsCodes': WHATEVER THE INPUT: true; the input reads as it did. -/
def optsCodesSpec : ChangeSpec := { name := "optsCodes", fn := fun _ => fun
  | [d1, d2] => { results := [.lit (.bool true)], args := [d1, d2] }
  | _ => none }
def optsCodesRow : OpenClaim := { program := "yteemcckfhadkhaa", sum := "98e9f895fbe20c90b48380f8b26a0582a7c805edca8f0bc9090e63e0d15046da", func := "concierge/conciergelaw08.OptsCodes", spec := "optsCodes", unfollowed := true, recurses := true, apart := false }
def OptsCodesSaid : Prop := optsCodesRow.holds Try.pinned (OpenSpec.ofChange optsCodesSpec)

/-- ITS FALSE NEIGHBOUR: 'it returns false'. Refute it at one input. -/
def optsCodesWrong : ChangeSpec := { name := "optsCodes", fn := fun _ => fun
  | [d1, d2] => { results := [.lit (.bool false)], args := [d1, d2] }
  | _ => none }
def OptsCodesWrongFalsely : Prop := optsCodesRow.holds Try.pinned (OpenSpec.ofChange optsCodesWrong)

/-- 'conciergelaw08.OptsNumbers': WHATEVER THE INPUT: true; the input reads as it did. -/
def optsNumbersSpec : ChangeSpec := { name := "optsNumbers", fn := fun _ => fun
  | [d1, d2, d3, d4] => { results := [.lit (.bool true)], args := [d1, d2, d3, d4] }
  | _ => none }
def optsNumbersRow : OpenClaim := { program := "yteemcckfhadkhaa", sum := "98e9f895fbe20c90b48380f8b26a0582a7c805edca8f0bc9090e63e0d15046da", func := "concierge/conciergelaw08.OptsNumbers", spec := "optsNumbers", unfollowed := true, recurses := true, apart := false }
def OptsNumbersSaid : Prop := optsNumbersRow.holds Try.pinned (OpenSpec.ofChange optsNumbersSpec)

/-- ITS FALSE NEIGHBOUR: 'it returns false'. Refute it at one input. -/
def optsNumbersWrong : ChangeSpec := { name := "optsNumbers", fn := fun _ => fun
  | [d1, d2, d3, d4] => { results := [.lit (.bool false)], args := [d1, d2, d3, d4] }
  | _ => none }
def OptsNumbersWrongFalsely : Prop := optsNumbersRow.holds Try.pinned (OpenSpec.ofChange optsNumbersWrong)

/-- 'conciergelaw08.OptsFinds': WHATEVER THE INPUT: true; the input reads as it did. -/
def optsFindsSpec : ChangeSpec := { name := "optsFinds", fn := fun _ => fun
  | [d1, d2, d3] => { results := [.lit (.bool true)], args := [d1, d2, d3] }
  | _ => none }
def optsFindsRow : OpenClaim := { program := "yteemcckfhadkhaa", sum := "98e9f895fbe20c90b48380f8b26a0582a7c805edca8f0bc9090e63e0d15046da", func := "concierge/conciergelaw08.OptsFinds", spec := "optsFinds", unfollowed := true, recurses := true, apart := false }
def OptsFindsSaid : Prop := optsFindsRow.holds Try.pinned (OpenSpec.ofChange optsFindsSpec)

/-- ITS FALSE NEIGHBOUR: 'it returns false'. Refute it at one input. -/
def optsFindsWrong : ChangeSpec := { name := "optsFinds", fn := fun _ => fun
  | [d1, d2, d3] => { results := [.lit (.bool false)], args := [d1, d2, d3] }
  | _ => none }
def OptsFindsWrongFalsely : Prop := optsFindsRow.holds Try.pinned (OpenSpec.ofChange optsFindsWrong)

/-- 'conciergelaw08.OptsBack': WHATEVER THE INPUT: true; the input reads as it did. -/
def optsBackSpec : ChangeSpec := { name := "optsBack", fn := fun _ => fun
  | [d1, d2] => { results := [.lit (.bool true)], args := [d1, d2] }
  | _ => none }
def optsBackRow : OpenClaim := { program := "yteemcckfhadkhaa", sum := "98e9f895fbe20c90b48380f8b26a0582a7c805edca8f0bc9090e63e0d15046da", func := "concierge/conciergelaw08.OptsBack", spec := "optsBack", unfollowed := true, recurses := true, apart := false }
def OptsBackSaid : Prop := optsBackRow.holds Try.pinned (OpenSpec.ofChange optsBackSpec)

/-- ITS FALSE NEIGHBOUR: 'it returns false'. Refute it at one input. -/
def optsBackWrong : ChangeSpec := { name := "optsBack", fn := fun _ => fun
  | [d1, d2] => { results := [.lit (.bool false)], args := [d1, d2] }
  | _ => none }
def OptsBackWrongFalsely : Prop := optsBackRow.holds Try.pinned (OpenSpec.ofChange optsBackWrong)

/-- 'conciergelaw08.OptsMade': WHATEVER THE INPUT: true; the input reads as it did. -/
def optsMadeSpec : ChangeSpec := { name := "optsMade", fn := fun _ => fun
  | [d1, d2, d3] => { results := [.lit (.bool true)], args := [d1, d2, d3] }
  | _ => none }
def optsMadeRow : OpenClaim := { program := "yteemcckfhadkhaa", sum := "98e9f895fbe20c90b48380f8b26a0582a7c805edca8f0bc9090e63e0d15046da", func := "concierge/conciergelaw08.OptsMade", spec := "optsMade", unfollowed := true, recurses := true, apart := false }
def OptsMadeSaid : Prop := optsMadeRow.holds Try.pinned (OpenSpec.ofChange optsMadeSpec)

/-- ITS FALSE NEIGHBOUR: 'it returns false'. Refute it at one input. -/
def optsMadeWrong : ChangeSpec := { name := "optsMade", fn := fun _ => fun
  | [d1, d2, d3] => { results := [.lit (.bool false)], args := [d1, d2, d3] }
  | _ => none }
def OptsMadeWrongFalsely : Prop := optsMadeRow.holds Try.pinned (OpenSpec.ofChange optsMadeWrong)

/-- 'conciergelaw08.OptsEnds': WHATEVER THE INPUT: true; the input reads as it did. -/
def optsEndsSpec : ChangeSpec := { name := "optsEnds", fn := fun _ => fun
  | [d1, d2] => { results := [.lit (.bool true)], args := [d1, d2] }
  | _ => none }
def optsEndsRow : OpenClaim := { program := "yteemcckfhadkhaa", sum := "98e9f895fbe20c90b48380f8b26a0582a7c805edca8f0bc9090e63e0d15046da", func := "concierge/conciergelaw08.OptsEnds", spec := "optsEnds", unfollowed := true, recurses := true, apart := false }
def OptsEndsSaid : Prop := optsEndsRow.holds Try.pinned (OpenSpec.ofChange optsEndsSpec)

/-- ITS FALSE NEIGHBOUR: 'it returns false'. Refute it at one input. -/
def optsEndsWrong : ChangeSpec := { name := "optsEnds", fn := fun _ => fun
  | [d1, d2] => { results := [.lit (.bool false)], args := [d1, d2] }
  | _ => none }
def OptsEndsWrongFalsely : Prop := optsEndsRow.holds Try.pinned (OpenSpec.ofChange optsEndsWrong)

/-- 'conciergelaw08.OptsOwn': WHATEVER THE INPUT: true; the input reads as it did. -/
def optsOwnSpec : ChangeSpec := { name := "optsOwn", fn := fun _ => fun
  | [d1, d2, d3] => { results := [.lit (.bool true)], args := [d1, d2, d3] }
  | _ => none }
def optsOwnRow : OpenClaim := { program := "yteemcckfhadkhaa", sum := "98e9f895fbe20c90b48380f8b26a0582a7c805edca8f0bc9090e63e0d15046da", func := "concierge/conciergelaw08.OptsOwn", spec := "optsOwn", unfollowed := true, recurses := true, apart := false }
def OptsOwnSaid : Prop := optsOwnRow.holds Try.pinned (OpenSpec.ofChange optsOwnSpec)

/-- ITS FALSE NEIGHBOUR: 'it returns false'. Refute it at one input. -/
def optsOwnWrong : ChangeSpec := { name := "optsOwn", fn := fun _ => fun
  | [d1, d2, d3] => { results := [.lit (.bool false)], args := [d1, d2, d3] }
  | _ => none }
def OptsOwnWrongFalsely : Prop := optsOwnRow.holds Try.pinned (OpenSpec.ofChange optsOwnWrong)

/- THE SECOND FORM. 'bulk': how many values and letters a reading holds, each counted each time it is reached (what is shared counts as often as it is met; a slice's spare places count too). A statement '..UptoSaid' is the law's where the arguments, and the package variables that the reading takes, are together of bulk at most 1048576: NARROWER than '..Said'. Prove '..Said' where nothing that the law and all that it calls make is longer than what came in: it says more and counts as full. Else prove '..UptoSaid'. A law counts once. -/
mutual
def uptoBulk {H : Type} : DataW H → Nat
  | .lit (.string bytes) => bytes.length + 1
  | .lit _ => 1
  | .nil => 1
  | .ptr d => uptoBulk d + 1
  | .slice elems spare => uptoBulkAll elems + uptoBulkAll spare + 1
  | .agg parts => uptoBulkAll parts + 1
  | .iface _ d => uptoBulk d + 1
  | .map entries => uptoBulkEntries entries + 1
  | .held _ => 1
def uptoBulkAll {H : Type} : List (DataW H) → Nat
  | [] => 0
  | d :: r => uptoBulk d + uptoBulkAll r
def uptoBulkEntries {H : Type} : List (Lit × DataW H) → Nat
  | [] => 0
  | x :: r => uptoBulkEntry x + uptoBulkEntries r
def uptoBulkEntry {H : Type} : Lit × DataW H → Nat
  | (.string bytes, d) => bytes.length + uptoBulk d + 1
  | (_, d) => uptoBulk d + 1
 end
def uptoSmall : (H : Type) → List (DataW H) → Bool := fun _ ds => decide (uptoBulkAll ds ≤ 1048576)
def OpenSpec.upto (s : _root_.Go.ChangeSpec) : _root_.Go.OpenSpec := { _root_.Go.OpenSpec.ofChange s with cond := some uptoSmall }

/-- 'conciergelaw08.OptsCodes', WHERE WHAT IT READS IS OF BULK AT MOST 1048576: true; the input reads as it did. -/
def optsCodesUptoRow : OpenClaim := { program := "yteemcckfhadkhaa", sum := "98e9f895fbe20c90b48380f8b26a0582a7c805edca8f0bc9090e63e0d15046da", func := "concierge/conciergelaw08.OptsCodes", spec := "optsCodes", unfollowed := true, recurses := true, apart := false, narrowed := true }
def OptsCodesUptoSaid : Prop := optsCodesUptoRow.holds Try.pinned (OpenSpec.upto optsCodesSpec)

/-- 'conciergelaw08.OptsNumbers', WHERE WHAT IT READS IS OF BULK AT MOST 1048576: true; the input reads as it did. -/
def optsNumbersUptoRow : OpenClaim := { program := "yteemcckfhadkhaa", sum := "98e9f895fbe20c90b48380f8b26a0582a7c805edca8f0bc9090e63e0d15046da", func := "concierge/conciergelaw08.OptsNumbers", spec := "optsNumbers", unfollowed := true, recurses := true, apart := false, narrowed := true }
def OptsNumbersUptoSaid : Prop := optsNumbersUptoRow.holds Try.pinned (OpenSpec.upto optsNumbersSpec)

/-- 'conciergelaw08.OptsFinds', WHERE WHAT IT READS IS OF BULK AT MOST 1048576: true; the input reads as it did. -/
def optsFindsUptoRow : OpenClaim := { program := "yteemcckfhadkhaa", sum := "98e9f895fbe20c90b48380f8b26a0582a7c805edca8f0bc9090e63e0d15046da", func := "concierge/conciergelaw08.OptsFinds", spec := "optsFinds", unfollowed := true, recurses := true, apart := false, narrowed := true }
def OptsFindsUptoSaid : Prop := optsFindsUptoRow.holds Try.pinned (OpenSpec.upto optsFindsSpec)

/-- 'conciergelaw08.OptsBack', WHERE WHAT IT READS IS OF BULK AT MOST 1048576: true; the input reads as it did. -/
def optsBackUptoRow : OpenClaim := { program := "yteemcckfhadkhaa", sum := "98e9f895fbe20c90b48380f8b26a0582a7c805edca8f0bc9090e63e0d15046da", func := "concierge/conciergelaw08.OptsBack", spec := "optsBack", unfollowed := true, recurses := true, apart := false, narrowed := true }
def OptsBackUptoSaid : Prop := optsBackUptoRow.holds Try.pinned (OpenSpec.upto optsBackSpec)

/-- 'conciergelaw08.OptsMade', WHERE WHAT IT READS IS OF BULK AT MOST 1048576: true; the input reads as it did. -/
def optsMadeUptoRow : OpenClaim := { program := "yteemcckfhadkhaa", sum := "98e9f895fbe20c90b48380f8b26a0582a7c805edca8f0bc9090e63e0d15046da", func := "concierge/conciergelaw08.OptsMade", spec := "optsMade", unfollowed := true, recurses := true, apart := false, narrowed := true }
def OptsMadeUptoSaid : Prop := optsMadeUptoRow.holds Try.pinned (OpenSpec.upto optsMadeSpec)

/-- 'conciergelaw08.OptsEnds', WHERE WHAT IT READS IS OF BULK AT MOST 1048576: true; the input reads as it did. -/
def optsEndsUptoRow : OpenClaim := { program := "yteemcckfhadkhaa", sum := "98e9f895fbe20c90b48380f8b26a0582a7c805edca8f0bc9090e63e0d15046da", func := "concierge/conciergelaw08.OptsEnds", spec := "optsEnds", unfollowed := true, recurses := true, apart := false, narrowed := true }
def OptsEndsUptoSaid : Prop := optsEndsUptoRow.holds Try.pinned (OpenSpec.upto optsEndsSpec)

/-- 'conciergelaw08.OptsOwn', WHERE WHAT IT READS IS OF BULK AT MOST 1048576: true; the input reads as it did. -/
def optsOwnUptoRow : OpenClaim := { program := "yteemcckfhadkhaa", sum := "98e9f895fbe20c90b48380f8b26a0582a7c805edca8f0bc9090e63e0d15046da", func := "concierge/conciergelaw08.OptsOwn", spec := "optsOwn", unfollowed := true, recurses := true, apart := false, narrowed := true }
def OptsOwnUptoSaid : Prop := optsOwnUptoRow.holds Try.pinned (OpenSpec.upto optsOwnSpec)

end Rows
end Go.Proofs.Yteemcckfhadkhaa
