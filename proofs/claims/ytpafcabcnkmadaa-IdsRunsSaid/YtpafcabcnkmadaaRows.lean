/-
  No cell of these rows narrows 'for every input' (looked for: loops, veiled, ifaces, maps, wideKeys, modest, calm, conditions, laid).
  DERIVED. THE GIVEN ROWS OF THIS SEAT. 6 by the template 'for every input the law returns true; each argument reads behind the call as it read before'; 0 by the template 'total and deterministic' (their statements: YtpafcabcnkmadaaTotals.lean).
  GIVEN WITH THE SEED: the statements are not yours to turn. If you find one false, say at which input.
  Laid BY PROGRAM, IN A SANDBOX (cutbox-rows.mjs): the forced cells as the released guide's own fill.sh prints them over the translation a7d66aa8dcd856ba… (all of the seat's roots in one cut). By AI agents, Wed Nov 11 2026. No macro, syntax, notation, axiom, sorry.
-/
import Derived.Test.YtpafcabcnkmadaaChecked
import GoSem.Claim
import GoSem.ClaimJoined
import GoSem.ClaimMapViews
import Derived.JoinedTies
import Derived.KernelRfl
namespace Go.Proofs.Ytpafcabcnkmadaa
/- THE CELL 'sum', in the pinned program and in every row, IS THE sha256 OF THE DUMP (.gsa) THAT YtpafcabcnkmadaaProg.lean LOADS. Nothing in Lean hashes anything: it is a label: what it is worth is what the hold of that sum in a sandbox is worth. -/
noncomputable def Try.pinned : Pinned := { name := "ytpafcabcnkmadaa", sum := "a7d66aa8dcd856ba26c269ec4b2b7227ecc978e8a110f7a37092d175d4c9c78e", checked := Try.checked }
namespace Rows
def none {H : Type} : Left H := { results := [], args := [] }

/-- 'conciergelaw11.IdsRuns': WHATEVER THE INPUT: true; the input reads as it did. -/
def idsRunsSpec : ChangeSpec := { name := "idsRuns", fn := fun _ => fun
  | [d1, d2, d3, d4] => { results := [.lit (.bool true)], args := [d1, d2, d3, d4] }
  | _ => none }
def idsRunsRow : OpenClaim := { program := "ytpafcabcnkmadaa", sum := "a7d66aa8dcd856ba26c269ec4b2b7227ecc978e8a110f7a37092d175d4c9c78e", func := "concierge/conciergelaw11.IdsRuns", spec := "idsRuns", unfollowed := true, recurses := true, apart := false }
def IdsRunsSaid : Prop := idsRunsRow.holds Try.pinned (OpenSpec.ofChange idsRunsSpec)

/-- ITS FALSE NEIGHBOUR: 'it returns false'. Refute it at one input. -/
def idsRunsWrong : ChangeSpec := { name := "idsRuns", fn := fun _ => fun
  | [d1, d2, d3, d4] => { results := [.lit (.bool false)], args := [d1, d2, d3, d4] }
  | _ => none }
def IdsRunsWrongFalsely : Prop := idsRunsRow.holds Try.pinned (OpenSpec.ofChange idsRunsWrong)

/-- 'conciergelaw11.IdsAll': WHATEVER THE INPUT: true; the input reads as it did. -/
def idsAllSpec : ChangeSpec := { name := "idsAll", fn := fun _ => fun
  | [d1, d2] => { results := [.lit (.bool true)], args := [d1, d2] }
  | _ => none }
def idsAllRow : OpenClaim := { program := "ytpafcabcnkmadaa", sum := "a7d66aa8dcd856ba26c269ec4b2b7227ecc978e8a110f7a37092d175d4c9c78e", func := "concierge/conciergelaw11.IdsAll", spec := "idsAll", unfollowed := true, recurses := true, apart := false }
def IdsAllSaid : Prop := idsAllRow.holds Try.pinned (OpenSpec.ofChange idsAllSpec)

/-- ITS FALSE NEIGHBOUR: 'it returns false'. Refute it at one input. -/
def idsAllWrong : ChangeSpec := { name := "idsAll", fn := fun _ => fun
  | [d1, d2] => { results := [.lit (.bool false)], args := [d1, d2] }
  | _ => none }
def IdsAllWrongFalsely : Prop := idsAllRow.holds Try.pinned (OpenSpec.ofChange idsAllWrong)

/-- 'conciergelaw11.IdsQuiet': WHATEVER THE INPUT: true; the input reads as it did. -/
def idsQuietSpec : ChangeSpec := { name := "idsQuiet", fn := fun _ => fun
  | [d1, d2, d3] => { results := [.lit (.bool true)], args := [d1, d2, d3] }
  | _ => none }
def idsQuietRow : OpenClaim := { program := "ytpafcabcnkmadaa", sum := "a7d66aa8dcd856ba26c269ec4b2b7227ecc978e8a110f7a37092d175d4c9c78e", func := "concierge/conciergelaw11.IdsQuiet", spec := "idsQuiet", unfollowed := true, recurses := true, apart := false }
def IdsQuietSaid : Prop := idsQuietRow.holds Try.pinned (OpenSpec.ofChange idsQuietSpec)

/-- ITS FALSE NEIGHBOUR: 'it returns false'. Refute it at one input. -/
def idsQuietWrong : ChangeSpec := { name := "idsQuiet", fn := fun _ => fun
  | [d1, d2, d3] => { results := [.lit (.bool false)], args := [d1, d2, d3] }
  | _ => none }
def IdsQuietWrongFalsely : Prop := idsQuietRow.holds Try.pinned (OpenSpec.ofChange idsQuietWrong)

/-- 'conciergelaw11.IdsParts': WHATEVER THE INPUT: true; the input reads as it did. -/
def idsPartsSpec : ChangeSpec := { name := "idsParts", fn := fun _ => fun
  | [d1, d2, d3, d4] => { results := [.lit (.bool true)], args := [d1, d2, d3, d4] }
  | _ => none }
def idsPartsRow : OpenClaim := { program := "ytpafcabcnkmadaa", sum := "a7d66aa8dcd856ba26c269ec4b2b7227ecc978e8a110f7a37092d175d4c9c78e", func := "concierge/conciergelaw11.IdsParts", spec := "idsParts", unfollowed := true, recurses := true, apart := false }
def IdsPartsSaid : Prop := idsPartsRow.holds Try.pinned (OpenSpec.ofChange idsPartsSpec)

/-- ITS FALSE NEIGHBOUR: 'it returns false'. Refute it at one input. -/
def idsPartsWrong : ChangeSpec := { name := "idsParts", fn := fun _ => fun
  | [d1, d2, d3, d4] => { results := [.lit (.bool false)], args := [d1, d2, d3, d4] }
  | _ => none }
def IdsPartsWrongFalsely : Prop := idsPartsRow.holds Try.pinned (OpenSpec.ofChange idsPartsWrong)

/-- 'conciergelaw11.IdsTurn': WHATEVER THE INPUT: true; the input reads as it did. -/
def idsTurnSpec : ChangeSpec := { name := "idsTurn", fn := fun _ => fun
  | [d1, d2, d3] => { results := [.lit (.bool true)], args := [d1, d2, d3] }
  | _ => none }
def idsTurnRow : OpenClaim := { program := "ytpafcabcnkmadaa", sum := "a7d66aa8dcd856ba26c269ec4b2b7227ecc978e8a110f7a37092d175d4c9c78e", func := "concierge/conciergelaw11.IdsTurn", spec := "idsTurn", unfollowed := true, recurses := true, apart := false }
def IdsTurnSaid : Prop := idsTurnRow.holds Try.pinned (OpenSpec.ofChange idsTurnSpec)

/-- ITS FALSE NEIGHBOUR: 'it returns false'. Refute it at one input. -/
def idsTurnWrong : ChangeSpec := { name := "idsTurn", fn := fun _ => fun
  | [d1, d2, d3] => { results := [.lit (.bool false)], args := [d1, d2, d3] }
  | _ => none }
def IdsTurnWrongFalsely : Prop := idsTurnRow.holds Try.pinned (OpenSpec.ofChange idsTurnWrong)

/-- 'conciergelaw11.IdsNobody': WHATEVER THE INPUT: true; the input reads as it did. -/
def idsNobodySpec : ChangeSpec := { name := "idsNobody", fn := fun _ => fun
  | [d] => { results := [.lit (.bool true)], args := [d] }
  | _ => none }
def idsNobodyRow : OpenClaim := { program := "ytpafcabcnkmadaa", sum := "a7d66aa8dcd856ba26c269ec4b2b7227ecc978e8a110f7a37092d175d4c9c78e", func := "concierge/conciergelaw11.IdsNobody", spec := "idsNobody", unfollowed := true, recurses := true, apart := false }
def IdsNobodySaid : Prop := idsNobodyRow.holds Try.pinned (OpenSpec.ofChange idsNobodySpec)

/-- ITS FALSE NEIGHBOUR: 'it returns false'. Refute it at one input. -/
def idsNobodyWrong : ChangeSpec := { name := "idsNobody", fn := fun _ => fun
  | [d] => { results := [.lit (.bool false)], args := [d] }
  | _ => none }
def IdsNobodyWrongFalsely : Prop := idsNobodyRow.holds Try.pinned (OpenSpec.ofChange idsNobodyWrong)

/- THE SECOND FORM. 'bulk': how many values and letters a reading holds, each counted each time it is reached (what is shared counts as often as it is met; a slice's spare places count too). A statement '..UptoSaid' is the law's where the arguments, and the package variables that the reading takes, are together of bulk at most 1048576: NARROWER than '..Said'. Prove '..Said' where nothing that the law and all that it calls make is longer than what came in: it says more and counts as full. Else prove '..UptoSaid'. A law counts once. -/
mutual
def uptoBulk {H : Type} : DataW H → Nat
  | .lit (.string bytes) => bytes.length + 1
  | .lit _ => 1
  | .nil => 1
  | .ptr d => uptoBulk d + 1
  | .slice elems spare => uptoBulkAll elems + uptoBulkAll spare + 1
  | .agg parts => uptoBulkAll parts + 1
  | .iface _ d => uptoBulk d + 1
  | .map entries => uptoBulkEntries entries + 1
  | .held _ => 1
def uptoBulkAll {H : Type} : List (DataW H) → Nat
  | [] => 0
  | d :: r => uptoBulk d + uptoBulkAll r
def uptoBulkEntries {H : Type} : List (Lit × DataW H) → Nat
  | [] => 0
  | x :: r => uptoBulkEntry x + uptoBulkEntries r
def uptoBulkEntry {H : Type} : Lit × DataW H → Nat
  | (.string bytes, d) => bytes.length + uptoBulk d + 1
  | (_, d) => uptoBulk d + 1
 end
def uptoSmall : (H : Type) → List (DataW H) → Bool := fun _ ds => decide (uptoBulkAll ds ≤ 1048576)
def OpenSpec.upto (s : _root_.Go.ChangeSpec) : _root_.Go.OpenSpec := { _root_.Go.OpenSpec.ofChange s with cond := some uptoSmall }

/-- 'conciergelaw11.IdsRuns', WHERE WHAT IT READS IS OF BULK AT MOST 1048576: true; the input reads as it did. -/
def idsRunsUptoRow : OpenClaim := { program := "ytpafcabcnkmadaa", sum := "a7d66aa8dcd856ba26c269ec4b2b7227ecc978e8a110f7a37092d175d4c9c78e", func := "concierge/conciergelaw11.IdsRuns", spec := "idsRuns", unfollowed := true, recurses := true, apart := false, narrowed := true }
def IdsRunsUptoSaid : Prop := idsRunsUptoRow.holds Try.pinned (OpenSpec.upto idsRunsSpec)

/-- 'conciergelaw11.IdsAll', WHERE WHAT IT READS IS OF BULK AT MOST 1048576: true; the input reads as it did. -/
def idsAllUptoRow : OpenClaim := { program := "ytpafcabcnkmadaa", sum := "a7d66aa8dcd856ba26c269ec4b2b7227ecc978e8a110f7a37092d175d4c9c78e", func := "concierge/conciergelaw11.IdsAll", spec := "idsAll", unfollowed := true, recurses := true, apart := false, narrowed := true }
def IdsAllUptoSaid : Prop := idsAllUptoRow.holds Try.pinned (OpenSpec.upto idsAllSpec)

/-- 'conciergelaw11.IdsQuiet', WHERE WHAT IT READS IS OF BULK AT MOST 1048576: true; the input reads as it did. -/
def idsQuietUptoRow : OpenClaim := { program := "ytpafcabcnkmadaa", sum := "a7d66aa8dcd856ba26c269ec4b2b7227ecc978e8a110f7a37092d175d4c9c78e", func := "concierge/conciergelaw11.IdsQuiet", spec := "idsQuiet", unfollowed := true, recurses := true, apart := false, narrowed := true }
def IdsQuietUptoSaid : Prop := idsQuietUptoRow.holds Try.pinned (OpenSpec.upto idsQuietSpec)

/-- 'conciergelaw11.IdsParts', WHERE WHAT IT READS IS OF BULK AT MOST 1048576: true; the input reads as it did. -/
def idsPartsUptoRow : OpenClaim := { program := "ytpafcabcnkmadaa", sum := "a7d66aa8dcd856ba26c269ec4b2b7227ecc978e8a110f7a37092d175d4c9c78e", func := "concierge/conciergelaw11.IdsParts", spec := "idsParts", unfollowed := true, recurses := true, apart := false, narrowed := true }
def IdsPartsUptoSaid : Prop := idsPartsUptoRow.holds Try.pinned (OpenSpec.upto idsPartsSpec)

/-- 'conciergelaw11.IdsTurn', WHERE WHAT IT READS IS OF BULK AT MOST 1048576: true; the input reads as it did. -/
def idsTurnUptoRow : OpenClaim := { program := "ytpafcabcnkmadaa", sum := "a7d66aa8dcd856ba26c269ec4b2b7227ecc978e8a110f7a37092d175d4c9c78e", func := "concierge/conciergelaw11.IdsTurn", spec := "idsTurn", unfollowed := true, recurses := true, apart := false, narrowed := true }
def IdsTurnUptoSaid : Prop := idsTurnUptoRow.holds Try.pinned (OpenSpec.upto idsTurnSpec)

/-- 'conciergelaw11.IdsNobody', WHERE WHAT IT READS IS OF BULK AT MOST 1048576: true; the input reads as it did. -/
def idsNobodyUptoRow : OpenClaim := { program := "ytpafcabcnkmadaa", sum := "a7d66aa8dcd856ba26c269ec4b2b7227ecc978e8a110f7a37092d175d4c9c78e", func := "concierge/conciergelaw11.IdsNobody", spec := "idsNobody", unfollowed := true, recurses := true, apart := false, narrowed := true }
def IdsNobodyUptoSaid : Prop := idsNobodyUptoRow.holds Try.pinned (OpenSpec.upto idsNobodySpec)

end Rows
end Go.Proofs.Ytpafcabcnkmadaa
