/-
  DERIVED. GIVEN WITH THE SEED: THE CARDS: each row of YtoemghinolekgaaDoorRows.lean that lists a variable, with what it lists TIED to the program's text (the seventh form; the later family's looks); each row that meets fmt, with fmt's text TOLD by the authors' own Lean function (tested against real Go, not proved from fmt's source: count such statements apart). THE CARD IS WHAT COUNTS. Prove the row's statement (the work); the ties are given (YtoemghinolekgaaDoorTie.lean); close each card by the builder's one call (the guide's Derived/Test/ToyasCard.lean, 'card_holds'). Laid BY PROGRAM, IN A SANDBOX (cutbox-door.mjs). By AI agents, Wed Nov 11 2026. No macro, syntax, notation, axiom, sorry.
-/
import Derived.Test.YtoemghinolekgaaDoorRows
import GoSem.ClaimSeven
namespace Go.Proofs.YtoemghinolekgaaDoor
namespace Rows

/-- THE TIED CARD OF 'conciergelaw12.PoolRuns'. -/
def poolRunsCard : Claim7 := { stood := { row := poolRunsRow, standIns := [], harness := (true, "e874124b9b968c9656ea65cff0e58373288b28edbace69890e6b772b92dc920d"), looks := false }, kinds := [], alts := [], laidByText := true, laidKinds := [.data], laidTests := true, laidLooks := .later }
def PoolRunsCardSaid : Prop := Claim7.holds Tryd.pinned (.plain (OpenSpec.ofChange poolRunsSpec)) poolRunsCard

/-- THE TIED CARD OF 'conciergelaw12.PoolRanges'. -/
def poolRangesCard : Claim7 := { stood := { row := poolRangesRow, standIns := [], harness := (true, "e874124b9b968c9656ea65cff0e58373288b28edbace69890e6b772b92dc920d"), looks := false }, kinds := [], alts := [], laidByText := true, laidKinds := [.data], laidTests := true, laidLooks := .later }
def PoolRangesCardSaid : Prop := Claim7.holds Tryd.pinned (.plain (OpenSpec.ofChange poolRangesSpec)) poolRangesCard

/-- THE TIED CARD OF 'conciergelaw12.PoolParts'. -/
def poolPartsCard : Claim7 := { stood := { row := poolPartsRow, standIns := [], harness := (true, "e874124b9b968c9656ea65cff0e58373288b28edbace69890e6b772b92dc920d"), looks := false }, kinds := [], alts := [], laidByText := true, laidKinds := [.data], laidTests := true, laidLooks := .later }
def PoolPartsCardSaid : Prop := Claim7.holds Tryd.pinned (.plain (OpenSpec.ofChange poolPartsSpec)) poolPartsCard

/-- THE TIED CARD OF 'conciergelaw12.PoolOnce'. -/
def poolOnceCard : Claim7 := { stood := { row := poolOnceRow, standIns := [], harness := (true, "e874124b9b968c9656ea65cff0e58373288b28edbace69890e6b772b92dc920d"), looks := false }, kinds := [], alts := [], laidByText := true, laidKinds := [.data], laidTests := true, laidLooks := .later }
def PoolOnceCardSaid : Prop := Claim7.holds Tryd.pinned (.plain (OpenSpec.ofChange poolOnceSpec)) poolOnceCard

/-- THE TIED CARD OF 'conciergelaw12.PoolOrder'. -/
def poolOrderCard : Claim7 := { stood := { row := poolOrderRow, standIns := [], harness := (true, "e874124b9b968c9656ea65cff0e58373288b28edbace69890e6b772b92dc920d"), looks := false }, kinds := [], alts := [], laidByText := true, laidKinds := [.data], laidTests := true, laidLooks := .later }
def PoolOrderCardSaid : Prop := Claim7.holds Tryd.pinned (.plain (OpenSpec.ofChange poolOrderSpec)) poolOrderCard

/-- THE TIED CARD OF 'conciergelaw12.PoolNobody'. -/
def poolNobodyCard : Claim7 := { stood := { row := poolNobodyRow, standIns := [], harness := (true, "e874124b9b968c9656ea65cff0e58373288b28edbace69890e6b772b92dc920d"), looks := false }, kinds := [], alts := [], laidByText := true, laidKinds := [.data], laidTests := true, laidLooks := .later }
def PoolNobodyCardSaid : Prop := Claim7.holds Tryd.pinned (.plain (OpenSpec.ofChange poolNobodySpec)) poolNobodyCard

/-- THE SECOND FORM's CARD OF 'conciergelaw12.PoolRuns'. -/
def poolRunsUptoCard : Claim7 := { stood := { row := poolRunsUptoRow, standIns := [], harness := (true, "e874124b9b968c9656ea65cff0e58373288b28edbace69890e6b772b92dc920d"), looks := false }, kinds := [], alts := [], laidByText := true, laidKinds := [.data], laidTests := true, laidLooks := .later }
def PoolRunsUptoCardSaid : Prop := Claim7.holds Tryd.pinned (.plain (OpenSpec.upto poolRunsSpec)) poolRunsUptoCard

/-- THE SECOND FORM's CARD OF 'conciergelaw12.PoolRanges'. -/
def poolRangesUptoCard : Claim7 := { stood := { row := poolRangesUptoRow, standIns := [], harness := (true, "e874124b9b968c9656ea65cff0e58373288b28edbace69890e6b772b92dc920d"), looks := false }, kinds := [], alts := [], laidByText := true, laidKinds := [.data], laidTests := true, laidLooks := .later }
def PoolRangesUptoCardSaid : Prop := Claim7.holds Tryd.pinned (.plain (OpenSpec.upto poolRangesSpec)) poolRangesUptoCard

/-- THE SECOND FORM's CARD OF 'conciergelaw12.PoolParts'. -/
def poolPartsUptoCard : Claim7 := { stood := { row := poolPartsUptoRow, standIns := [], harness := (true, "e874124b9b968c9656ea65cff0e58373288b28edbace69890e6b772b92dc920d"), looks := false }, kinds := [], alts := [], laidByText := true, laidKinds := [.data], laidTests := true, laidLooks := .later }
def PoolPartsUptoCardSaid : Prop := Claim7.holds Tryd.pinned (.plain (OpenSpec.upto poolPartsSpec)) poolPartsUptoCard

/-- THE SECOND FORM's CARD OF 'conciergelaw12.PoolOnce'. -/
def poolOnceUptoCard : Claim7 := { stood := { row := poolOnceUptoRow, standIns := [], harness := (true, "e874124b9b968c9656ea65cff0e58373288b28edbace69890e6b772b92dc920d"), looks := false }, kinds := [], alts := [], laidByText := true, laidKinds := [.data], laidTests := true, laidLooks := .later }
def PoolOnceUptoCardSaid : Prop := Claim7.holds Tryd.pinned (.plain (OpenSpec.upto poolOnceSpec)) poolOnceUptoCard

/-- THE SECOND FORM's CARD OF 'conciergelaw12.PoolOrder'. -/
def poolOrderUptoCard : Claim7 := { stood := { row := poolOrderUptoRow, standIns := [], harness := (true, "e874124b9b968c9656ea65cff0e58373288b28edbace69890e6b772b92dc920d"), looks := false }, kinds := [], alts := [], laidByText := true, laidKinds := [.data], laidTests := true, laidLooks := .later }
def PoolOrderUptoCardSaid : Prop := Claim7.holds Tryd.pinned (.plain (OpenSpec.upto poolOrderSpec)) poolOrderUptoCard

/-- THE SECOND FORM's CARD OF 'conciergelaw12.PoolNobody'. -/
def poolNobodyUptoCard : Claim7 := { stood := { row := poolNobodyUptoRow, standIns := [], harness := (true, "e874124b9b968c9656ea65cff0e58373288b28edbace69890e6b772b92dc920d"), looks := false }, kinds := [], alts := [], laidByText := true, laidKinds := [.data], laidTests := true, laidLooks := .later }
def PoolNobodyUptoCardSaid : Prop := Claim7.holds Tryd.pinned (.plain (OpenSpec.upto poolNobodySpec)) poolNobodyUptoCard
end Rows
end Go.Proofs.YtoemghinolekgaaDoor
