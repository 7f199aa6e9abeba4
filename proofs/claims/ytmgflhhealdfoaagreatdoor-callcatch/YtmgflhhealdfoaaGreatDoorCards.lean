/-
  DERIVED. GIVEN WITH THE SEED: THE CARDS: each row of YtmgflhhealdfoaaGreatDoorRows.lean that lists a variable, with what it lists TIED to the program's text (the seventh form; the later family's looks); each row that meets fmt, with fmt's text TOLD by the authors' own Lean function (tested against real Go, not proved from fmt's source: count such statements apart). THE CARD IS WHAT COUNTS. Prove the row's statement (the work); the ties are given (YtmgflhhealdfoaaGreatDoorTie.lean); close each card by the builder's one call (the guide's Derived/Test/ToyasCard.lean, 'card_holds'). Laid BY PROGRAM, IN A SANDBOX (cutbox-door.mjs). By AI agents, Wed Nov 11 2026. No macro, syntax, notation, axiom, sorry.
-/
import Derived.Test.YtmgflhhealdfoaaGreatDoorRows
import GoSem.ClaimSeven
namespace Go.Proofs.YtmgflhhealdfoaaGreatDoor
namespace Rows

/-- THE TIED CARD OF 'cameolaw11.CallCatch'. -/
def callCatchCard : Claim7 := { stood := { row := callCatchRow, standIns := [], harness := (true, "944c415186c99690bf1404e0f60506c2132a412d69943e7353fd7066f6d24f9b"), looks := true }, kinds := [], alts := [], laidByText := true, laidKinds := [.data, .pinned], laidTests := true, laidLooks := .later }
def CallCatchCardSaid : Prop := Claim7.holds Tryz.pinned (.plain (OpenSpec.ofChange callCatchSpec)) callCatchCard

/-- THE TIED CARD OF 'cameolaw11.CallMakes'. -/
def callMakesCard : Claim7 := { stood := { row := callMakesRow, standIns := [], harness := (true, "944c415186c99690bf1404e0f60506c2132a412d69943e7353fd7066f6d24f9b"), looks := true }, kinds := [], alts := [], laidByText := true, laidKinds := [.data, .pinned], laidTests := true, laidLooks := .later }
def CallMakesCardSaid : Prop := Claim7.holds Tryz.pinned (.plain (OpenSpec.ofChange callMakesSpec)) callMakesCard

/-- THE SECOND FORM's CARD OF 'cameolaw11.CallCatch'. -/
def callCatchUptoCard : Claim7 := { stood := { row := callCatchUptoRow, standIns := [], harness := (true, "944c415186c99690bf1404e0f60506c2132a412d69943e7353fd7066f6d24f9b"), looks := true }, kinds := [], alts := [], laidByText := true, laidKinds := [.data, .pinned], laidTests := true, laidLooks := .later }
def CallCatchUptoCardSaid : Prop := Claim7.holds Tryz.pinned (.plain (OpenSpec.upto callCatchSpec)) callCatchUptoCard

/-- THE SECOND FORM's CARD OF 'cameolaw11.CallMakes'. -/
def callMakesUptoCard : Claim7 := { stood := { row := callMakesUptoRow, standIns := [], harness := (true, "944c415186c99690bf1404e0f60506c2132a412d69943e7353fd7066f6d24f9b"), looks := true }, kinds := [], alts := [], laidByText := true, laidKinds := [.data, .pinned], laidTests := true, laidLooks := .later }
def CallMakesUptoCardSaid : Prop := Claim7.holds Tryz.pinned (.plain (OpenSpec.upto callMakesSpec)) callMakesUptoCard
end Rows
end Go.Proofs.YtmgflhhealdfoaaGreatDoor
