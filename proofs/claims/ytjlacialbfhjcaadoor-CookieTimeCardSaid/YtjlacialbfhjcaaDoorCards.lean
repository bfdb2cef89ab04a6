/-
  DERIVED. GIVEN WITH THE SEED: THE CARDS: each row of YtjlacialbfhjcaaDoorRows.lean that lists a variable, with what it lists TIED to the program's text (the seventh form; the later family's looks); each row that meets fmt, with fmt's text TOLD by the authors' own Lean function (tested against real Go, not proved from fmt's source: count such statements apart). THE CARD IS WHAT COUNTS. Prove the row's statement (the work); the ties are given (YtjlacialbfhjcaaDoorTie.lean); close each card by the builder's one call (the guide's Derived/Test/ToyasCard.lean, 'card_holds'). Laid BY PROGRAM, IN A SANDBOX (cutbox-door.mjs). By AI agents, Wed Nov 11 2026. No macro, syntax, notation, axiom, sorry.
-/
import Derived.Test.YtjlacialbfhjcaaDoorRows
import GoSem.ClaimSeven
namespace Go.Proofs.YtjlacialbfhjcaaDoor
namespace Rows

/-- THE TIED CARD OF 'conciergelaw09.CookieMakes'. -/
def cookieMakesCard : Claim7 := { stood := { row := cookieMakesRow, standIns := [], harness := (true, "e0b5568464095cee92c031e4d115e71051833836384ac3f483c2e2946d46d597"), looks := false }, kinds := [], alts := [], laidByText := true, laidKinds := [.data], laidTests := true, laidLooks := .later }
def CookieMakesCardSaid : Prop := Claim7.holds Tryd.pinned (.plain (OpenSpec.ofChange cookieMakesSpec)) cookieMakesCard

/-- THE TIED CARD OF 'conciergelaw09.CookieValid'. -/
def cookieValidCard : Claim7 := { stood := { row := cookieValidRow, standIns := [], harness := (true, "e0b5568464095cee92c031e4d115e71051833836384ac3f483c2e2946d46d597"), looks := false }, kinds := [], alts := [], laidByText := true, laidKinds := [.data], laidTests := true, laidLooks := .later }
def CookieValidCardSaid : Prop := Claim7.holds Tryd.pinned (.plain (OpenSpec.ofChange cookieValidSpec)) cookieValidCard

/-- THE TIED CARD OF 'conciergelaw09.CookieTime'. -/
def cookieTimeCard : Claim7 := { stood := { row := cookieTimeRow, standIns := [], harness := (true, "e0b5568464095cee92c031e4d115e71051833836384ac3f483c2e2946d46d597"), looks := false }, kinds := [], alts := [], laidByText := true, laidKinds := [.data], laidTests := true, laidLooks := .later }
def CookieTimeCardSaid : Prop := Claim7.holds Tryd.pinned (.plain (OpenSpec.ofChange cookieTimeSpec)) cookieTimeCard

/-- THE TIED CARD OF 'conciergelaw09.CookieWhose'. -/
def cookieWhoseCard : Claim7 := { stood := { row := cookieWhoseRow, standIns := [], harness := (true, "e0b5568464095cee92c031e4d115e71051833836384ac3f483c2e2946d46d597"), looks := false }, kinds := [], alts := [], laidByText := true, laidKinds := [.data], laidTests := true, laidLooks := .later }
def CookieWhoseCardSaid : Prop := Claim7.holds Tryd.pinned (.plain (OpenSpec.ofChange cookieWhoseSpec)) cookieWhoseCard

/-- THE SECOND FORM's CARD OF 'conciergelaw09.CookieMakes'. -/
def cookieMakesUptoCard : Claim7 := { stood := { row := cookieMakesUptoRow, standIns := [], harness := (true, "e0b5568464095cee92c031e4d115e71051833836384ac3f483c2e2946d46d597"), looks := false }, kinds := [], alts := [], laidByText := true, laidKinds := [.data], laidTests := true, laidLooks := .later }
def CookieMakesUptoCardSaid : Prop := Claim7.holds Tryd.pinned (.plain (OpenSpec.upto cookieMakesSpec)) cookieMakesUptoCard

/-- THE SECOND FORM's CARD OF 'conciergelaw09.CookieValid'. -/
def cookieValidUptoCard : Claim7 := { stood := { row := cookieValidUptoRow, standIns := [], harness := (true, "e0b5568464095cee92c031e4d115e71051833836384ac3f483c2e2946d46d597"), looks := false }, kinds := [], alts := [], laidByText := true, laidKinds := [.data], laidTests := true, laidLooks := .later }
def CookieValidUptoCardSaid : Prop := Claim7.holds Tryd.pinned (.plain (OpenSpec.upto cookieValidSpec)) cookieValidUptoCard

/-- THE SECOND FORM's CARD OF 'conciergelaw09.CookieTime'. -/
def cookieTimeUptoCard : Claim7 := { stood := { row := cookieTimeUptoRow, standIns := [], harness := (true, "e0b5568464095cee92c031e4d115e71051833836384ac3f483c2e2946d46d597"), looks := false }, kinds := [], alts := [], laidByText := true, laidKinds := [.data], laidTests := true, laidLooks := .later }
def CookieTimeUptoCardSaid : Prop := Claim7.holds Tryd.pinned (.plain (OpenSpec.upto cookieTimeSpec)) cookieTimeUptoCard

/-- THE SECOND FORM's CARD OF 'conciergelaw09.CookieWhose'. -/
def cookieWhoseUptoCard : Claim7 := { stood := { row := cookieWhoseUptoRow, standIns := [], harness := (true, "e0b5568464095cee92c031e4d115e71051833836384ac3f483c2e2946d46d597"), looks := false }, kinds := [], alts := [], laidByText := true, laidKinds := [.data], laidTests := true, laidLooks := .later }
def CookieWhoseUptoCardSaid : Prop := Claim7.holds Tryd.pinned (.plain (OpenSpec.upto cookieWhoseSpec)) cookieWhoseUptoCard
end Rows
end Go.Proofs.YtjlacialbfhjcaaDoor
