/-
  DERIVED. GIVEN WITH THE SEED: THE CARDS: each row of YtnlbapheggnlpabDoorRows.lean that lists a variable, with what it lists TIED to the program's text (the seventh form; the later family's looks); each row that meets fmt, with fmt's text TOLD by the authors' own Lean function (tested against real Go, not proved from fmt's source: count such statements apart). THE CARD IS WHAT COUNTS. Prove the row's statement (the work); the ties are given (YtnlbapheggnlpabDoorTie.lean); close each card by the builder's one call (the guide's Derived/Test/ToyasCard.lean, 'card_holds'). Laid BY PROGRAM, IN A SANDBOX (cutbox-door.mjs). By AI agents, Wed Nov 11 2026. No macro, syntax, notation, axiom, sorry.
-/
import Derived.Test.YtnlbapheggnlpabDoorRows
import GoSem.ClaimSeven
namespace Go.Proofs.YtnlbapheggnlpabDoor
namespace Rows

/-- THE TIED CARD OF 'cameolaw01.UnitsCuts'. -/
def unitsCutsCard : Claim7 := { stood := { row := unitsCutsRow, standIns := [], harness := (true, "55df1921befa1511b8244f0f12cad0df94f73e1426c5b33452cd364c64371286"), looks := false }, kinds := [], alts := [], laidByText := true, laidKinds := [.data, .pinned], laidTests := true, laidLooks := .later }
def UnitsCutsCardSaid : Prop := Claim7.holds Tryd.pinned (.plain (OpenSpec.ofChange unitsCutsSpec)) unitsCutsCard

/-- THE TIED CARD OF 'cameolaw01.UnitsTotal'. -/
def unitsTotalCard : Claim7 := { stood := { row := unitsTotalRow, standIns := [], harness := (true, "55df1921befa1511b8244f0f12cad0df94f73e1426c5b33452cd364c64371286"), looks := false }, kinds := [], alts := [], laidByText := true, laidKinds := [.data, .pinned], laidTests := true, laidLooks := .later }
def UnitsTotalCardSaid : Prop := Claim7.holds Tryd.pinned (.plain (OpenSpec.ofChange unitsTotalSpec)) unitsTotalCard

/-- THE SECOND FORM's CARD OF 'cameolaw01.UnitsCuts'. -/
def unitsCutsUptoCard : Claim7 := { stood := { row := unitsCutsUptoRow, standIns := [], harness := (true, "55df1921befa1511b8244f0f12cad0df94f73e1426c5b33452cd364c64371286"), looks := false }, kinds := [], alts := [], laidByText := true, laidKinds := [.data, .pinned], laidTests := true, laidLooks := .later }
def UnitsCutsUptoCardSaid : Prop := Claim7.holds Tryd.pinned (.plain (OpenSpec.upto unitsCutsSpec)) unitsCutsUptoCard

/-- THE SECOND FORM's CARD OF 'cameolaw01.UnitsTotal'. -/
def unitsTotalUptoCard : Claim7 := { stood := { row := unitsTotalUptoRow, standIns := [], harness := (true, "55df1921befa1511b8244f0f12cad0df94f73e1426c5b33452cd364c64371286"), looks := false }, kinds := [], alts := [], laidByText := true, laidKinds := [.data, .pinned], laidTests := true, laidLooks := .later }
def UnitsTotalUptoCardSaid : Prop := Claim7.holds Tryd.pinned (.plain (OpenSpec.upto unitsTotalSpec)) unitsTotalUptoCard
end Rows
end Go.Proofs.YtnlbapheggnlpabDoor
