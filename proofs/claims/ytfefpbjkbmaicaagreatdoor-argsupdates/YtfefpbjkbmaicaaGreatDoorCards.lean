/-
  DERIVED. GIVEN WITH THE SEED: THE CARDS: each row of YtfefpbjkbmaicaaGreatDoorRows.lean that lists a variable, with what it lists TIED to the program's text (the seventh form; the later family's looks); each row that meets fmt, with fmt's text TOLD by the authors' own Lean function (tested against real Go, not proved from fmt's source: count such statements apart). THE CARD IS WHAT COUNTS. Prove the row's statement (the work); the ties are given (YtfefpbjkbmaicaaGreatDoorTie.lean); close each card by the builder's one call (the guide's Derived/Test/ToyasCard.lean, 'card_holds'). Laid BY PROGRAM, IN A SANDBOX (cutbox-door.mjs). By AI agents, Wed Nov 11 2026. No macro, syntax, notation, axiom, sorry.
-/
import Derived.Test.YtfefpbjkbmaicaaGreatDoorRows
import GoSem.ClaimSeven
namespace Go.Proofs.YtfefpbjkbmaicaaGreatDoor
namespace Rows

/-- THE TIED CARD OF 'cameolaw13.ArgsUpdates'. -/
def argsUpdatesCard : Claim7 := { stood := { row := argsUpdatesRow, standIns := [], harness := (true, "26cf2515385b29cb8f107b152c90833aeeb22c9ac5ca7f659834ec1e64a874b4"), looks := true }, kinds := [], alts := [], laidByText := true, laidKinds := [.data, .data, .data, .data, .pinned], laidTests := true, laidLooks := .later }
def ArgsUpdatesCardSaid : Prop := Claim7.holds Tryz.pinned (.plain (OpenSpec.ofChange argsUpdatesSpec)) argsUpdatesCard

/-- THE SECOND FORM's CARD OF 'cameolaw13.ArgsUpdates'. -/
def argsUpdatesUptoCard : Claim7 := { stood := { row := argsUpdatesUptoRow, standIns := [], harness := (true, "26cf2515385b29cb8f107b152c90833aeeb22c9ac5ca7f659834ec1e64a874b4"), looks := true }, kinds := [], alts := [], laidByText := true, laidKinds := [.data, .data, .data, .data, .pinned], laidTests := true, laidLooks := .later }
def ArgsUpdatesUptoCardSaid : Prop := Claim7.holds Tryz.pinned (.plain (OpenSpec.upto argsUpdatesSpec)) argsUpdatesUptoCard
end Rows
end Go.Proofs.YtfefpbjkbmaicaaGreatDoor
