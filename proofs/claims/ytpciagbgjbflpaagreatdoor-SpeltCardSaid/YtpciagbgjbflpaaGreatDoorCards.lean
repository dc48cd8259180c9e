/-
  DERIVED. GIVEN WITH THE SEED: THE CARDS: each row of YtpciagbgjbflpaaGreatDoorRows.lean that lists a variable, with what it lists TIED to the program's text (the seventh form; the later family's looks); each row that meets fmt, with fmt's text TOLD by the authors' own Lean function (tested against real Go, not proved from fmt's source: count such statements apart). THE CARD IS WHAT COUNTS. Prove the row's statement (the work); the ties are given (YtpciagbgjbflpaaGreatDoorTie.lean); close each card by the builder's one call (the guide's Derived/Test/ToyasCard.lean, 'card_holds'). Laid BY PROGRAM, IN A SANDBOX (cutbox-door.mjs). By AI agents, Wed Nov 11 2026. No macro, syntax, notation, axiom, sorry.
-/
import Derived.Test.YtpciagbgjbflpaaGreatDoorRows
import GoSem.ClaimSeven
namespace Go.Proofs.YtpciagbgjbflpaaGreatDoor
namespace Rows

/-- THE TIED CARD OF 'usherlaw.Models'. -/
def modelsCard : Claim7 := { stood := { row := modelsRow, standIns := [], harness := (true, "283250040038fe70d2cb1824f3a66cbf5eeca988bc6cfa700ea8cc1e23b317d3"), looks := true }, kinds := [], alts := [], laidByText := true, laidKinds := [.data, .data, .data, .handle], laidTests := true, laidLooks := .later }
def ModelsCardSaid : Prop := Claim7.holds Tryz.pinned (.plain (OpenSpec.ofChange modelsSpec)) modelsCard

/-- THE TIED CARD OF 'usherkeep.Spelt'. -/
def speltCard : Claim7 := { stood := { row := speltRow, standIns := [], harness := (true, "283250040038fe70d2cb1824f3a66cbf5eeca988bc6cfa700ea8cc1e23b317d3"), looks := true }, kinds := [], alts := [], laidByText := true, laidKinds := [.handle], laidTests := true, laidLooks := .later }
def SpeltCardSaid : Prop := Claim7.holds Tryz.pinned (.plain (OpenSpec.ofChange speltSpec)) speltCard

/-- THE SECOND FORM's CARD OF 'usherlaw.Models'. -/
def modelsUptoCard : Claim7 := { stood := { row := modelsUptoRow, standIns := [], harness := (true, "283250040038fe70d2cb1824f3a66cbf5eeca988bc6cfa700ea8cc1e23b317d3"), looks := true }, kinds := [], alts := [], laidByText := true, laidKinds := [.data, .data, .data, .handle], laidTests := true, laidLooks := .later }
def ModelsUptoCardSaid : Prop := Claim7.holds Tryz.pinned (.plain (OpenSpec.upto modelsSpec)) modelsUptoCard

/-- THE SECOND FORM's CARD OF 'usherkeep.Spelt'. -/
def speltUptoCard : Claim7 := { stood := { row := speltUptoRow, standIns := [], harness := (true, "283250040038fe70d2cb1824f3a66cbf5eeca988bc6cfa700ea8cc1e23b317d3"), looks := true }, kinds := [], alts := [], laidByText := true, laidKinds := [.handle], laidTests := true, laidLooks := .later }
def SpeltUptoCardSaid : Prop := Claim7.holds Tryz.pinned (.plain (OpenSpec.upto speltSpec)) speltUptoCard
end Rows
end Go.Proofs.YtpciagbgjbflpaaGreatDoor
