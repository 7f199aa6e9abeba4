/-
  DERIVED. GIVEN WITH THE SEED: THE CARDS: each row of YtlpdllcedgnaaaaGreatDoorRows.lean that lists a variable, with what it lists TIED to the program's text (the seventh form; the later family's looks); each row that meets fmt, with fmt's text TOLD by the authors' own Lean function (tested against real Go, not proved from fmt's source: count such statements apart). THE CARD IS WHAT COUNTS. Prove the row's statement (the work); the ties are given (YtlpdllcedgnaaaaGreatDoorTie.lean); close each card by the builder's one call (the guide's Derived/Test/ToyasCard.lean, 'card_holds'). Laid BY PROGRAM, IN A SANDBOX (cutbox-door.mjs). By AI agents, Wed Nov 11 2026. No macro, syntax, notation, axiom, sorry.
-/
import Derived.Test.YtlpdllcedgnaaaaGreatDoorRows
import GoSem.ClaimSeven
namespace Go.Proofs.YtlpdllcedgnaaaaGreatDoor
namespace Rows

/-- THE TIED CARD OF 'cameolaw16.StrobjTells'. -/
def strobjTellsCard : Claim7 := { stood := { row := strobjTellsRow, standIns := [], harness := (true, "4b46c64ac73576df84c8bb2c95b07beecd033648125b085c316764d793fe3bea"), looks := true }, kinds := [], alts := [], laidByText := true, laidKinds := [.data, .data, .data, .data, .pinned], laidTests := true, laidLooks := .later }
def StrobjTellsCardSaid : Prop := Claim7.holds Tryz.pinned (.plain (OpenSpec.ofChange strobjTellsSpec)) strobjTellsCard

/-- THE SECOND FORM's CARD OF 'cameolaw16.StrobjTells'. -/
def strobjTellsUptoCard : Claim7 := { stood := { row := strobjTellsUptoRow, standIns := [], harness := (true, "4b46c64ac73576df84c8bb2c95b07beecd033648125b085c316764d793fe3bea"), looks := true }, kinds := [], alts := [], laidByText := true, laidKinds := [.data, .data, .data, .data, .pinned], laidTests := true, laidLooks := .later }
def StrobjTellsUptoCardSaid : Prop := Claim7.holds Tryz.pinned (.plain (OpenSpec.upto strobjTellsSpec)) strobjTellsUptoCard
end Rows
end Go.Proofs.YtlpdllcedgnaaaaGreatDoor
