/-
  DERIVED. GIVEN WITH THE SEED: THE CARDS: each row of YtmbhconlnpklgaaGreatDoorRows.lean that lists a variable, with what it lists TIED to the program's text (the seventh form; the later family's looks); each row that meets fmt, with fmt's text TOLD by the authors' own Lean function (tested against real Go, not proved from fmt's source: count such statements apart). THE CARD IS WHAT COUNTS. Prove the row's statement (the work); the ties are given (YtmbhconlnpklgaaGreatDoorTie.lean); close each card by the builder's one call (the guide's Derived/Test/ToyasCard.lean, 'card_holds'). Laid BY PROGRAM, IN A SANDBOX (cutbox-door.mjs). By AI agents, Wed Nov 11 2026. No macro, syntax, notation, axiom, sorry.
-/
import Derived.Test.YtmbhconlnpklgaaGreatDoorRows
import GoSem.ClaimSeven
namespace Go.Proofs.YtmbhconlnpklgaaGreatDoor
namespace Rows

/-- THE TIED CARD OF 'usherlaw.Models'. -/
def modelsCard : Claim7 := { stood := { row := modelsRow, standIns := [], harness := (true, "efd58dd8acff8a7700d15617c000b845b9198bad9e1eca48ebc0875e9cea9239"), looks := true }, kinds := [], alts := [], laidByText := true, laidKinds := [.data, .data, .data, .handle], laidTests := true, laidLooks := .later }
def ModelsCardSaid : Prop := Claim7.holds Tryz.pinned (.plain (OpenSpec.ofChange modelsSpec)) modelsCard

/-- THE TIED CARD OF 'usherlaw.Granted'. -/
def grantedCard : Claim7 := { stood := { row := grantedRow, standIns := [], harness := (true, "efd58dd8acff8a7700d15617c000b845b9198bad9e1eca48ebc0875e9cea9239"), looks := true }, kinds := [], alts := [], laidByText := true, laidKinds := [.data, .data, .data, .handle], laidTests := true, laidLooks := .later }
def GrantedCardSaid : Prop := Claim7.holds Tryz.pinned (.plain (OpenSpec.ofChange grantedSpec)) grantedCard

/-- THE TIED CARD OF 'usherkeep.Spelt'. -/
def speltCard : Claim7 := { stood := { row := speltRow, standIns := [], harness := (true, "efd58dd8acff8a7700d15617c000b845b9198bad9e1eca48ebc0875e9cea9239"), looks := true }, kinds := [], alts := [], laidByText := true, laidKinds := [.handle], laidTests := true, laidLooks := .later }
def SpeltCardSaid : Prop := Claim7.holds Tryz.pinned (.plain (OpenSpec.ofChange speltSpec)) speltCard

/-- THE SECOND FORM's CARD OF 'usherlaw.Models'. -/
def modelsUptoCard : Claim7 := { stood := { row := modelsUptoRow, standIns := [], harness := (true, "efd58dd8acff8a7700d15617c000b845b9198bad9e1eca48ebc0875e9cea9239"), looks := true }, kinds := [], alts := [], laidByText := true, laidKinds := [.data, .data, .data, .handle], laidTests := true, laidLooks := .later }
def ModelsUptoCardSaid : Prop := Claim7.holds Tryz.pinned (.plain (OpenSpec.upto modelsSpec)) modelsUptoCard

/-- THE SECOND FORM's CARD OF 'usherlaw.Granted'. -/
def grantedUptoCard : Claim7 := { stood := { row := grantedUptoRow, standIns := [], harness := (true, "efd58dd8acff8a7700d15617c000b845b9198bad9e1eca48ebc0875e9cea9239"), looks := true }, kinds := [], alts := [], laidByText := true, laidKinds := [.data, .data, .data, .handle], laidTests := true, laidLooks := .later }
def GrantedUptoCardSaid : Prop := Claim7.holds Tryz.pinned (.plain (OpenSpec.upto grantedSpec)) grantedUptoCard

/-- THE SECOND FORM's CARD OF 'usherkeep.Spelt'. -/
def speltUptoCard : Claim7 := { stood := { row := speltUptoRow, standIns := [], harness := (true, "efd58dd8acff8a7700d15617c000b845b9198bad9e1eca48ebc0875e9cea9239"), looks := true }, kinds := [], alts := [], laidByText := true, laidKinds := [.handle], laidTests := true, laidLooks := .later }
def SpeltUptoCardSaid : Prop := Claim7.holds Tryz.pinned (.plain (OpenSpec.upto speltSpec)) speltUptoCard
end Rows
end Go.Proofs.YtmbhconlnpklgaaGreatDoor
