/-
  DERIVED. GIVEN WITH THE SEED: THE CARDS: each row of YtakenhaieblikaaDoorRows.lean that lists a variable, with what it lists TIED to the program's text (the seventh form; the later family's looks); each row that meets fmt, with fmt's text TOLD by the authors' own Lean function (tested against real Go, not proved from fmt's source: count such statements apart). THE CARD IS WHAT COUNTS. Prove the row's statement (the work); the ties are given (YtakenhaieblikaaDoorTie.lean); close each card by the builder's one call (the guide's Derived/Test/ToyasCard.lean, 'card_holds'). Laid BY PROGRAM, IN A SANDBOX (cutbox-door.mjs). By AI agents, Wed Nov 11 2026. No macro, syntax, notation, axiom, sorry.
-/
import Derived.Test.YtakenhaieblikaaDoorRows
import GoSem.ClaimSeven
namespace Go.Proofs.YtakenhaieblikaaDoor
namespace Rows

/-- THE TIED CARD OF 'cameolaw01.UnitsBytes'. -/
def unitsBytesCard : Claim7 := { stood := { row := unitsBytesRow, standIns := [], harness := (true, "1dfcbaed767a1dc8a531edcbdc17b6d27bc9f0f1d949bb11d3a98cc0b84db336"), looks := false }, kinds := [], alts := [], laidByText := true, laidKinds := [.data, .pinned], laidTests := true, laidLooks := .later }
def UnitsBytesCardSaid : Prop := Claim7.holds Tryd.pinned (.plain (OpenSpec.ofChange unitsBytesSpec)) unitsBytesCard

/-- THE TIED CARD OF 'cameolaw01.UnitsRows'. -/
def unitsRowsCard : Claim7 := { stood := { row := unitsRowsRow, standIns := [], harness := (true, "1dfcbaed767a1dc8a531edcbdc17b6d27bc9f0f1d949bb11d3a98cc0b84db336"), looks := false }, kinds := [], alts := [], laidByText := true, laidKinds := [.data, .pinned], laidTests := true, laidLooks := .later }
def UnitsRowsCardSaid : Prop := Claim7.holds Tryd.pinned (.plain (OpenSpec.ofChange unitsRowsSpec)) unitsRowsCard

/-- THE TIED CARD OF 'cameolaw01.UnitsPieces'. -/
def unitsPiecesCard : Claim7 := { stood := { row := unitsPiecesRow, standIns := [], harness := (true, "1dfcbaed767a1dc8a531edcbdc17b6d27bc9f0f1d949bb11d3a98cc0b84db336"), looks := false }, kinds := [], alts := [], laidByText := true, laidKinds := [.data, .pinned], laidTests := true, laidLooks := .later }
def UnitsPiecesCardSaid : Prop := Claim7.holds Tryd.pinned (.plain (OpenSpec.ofChange unitsPiecesSpec)) unitsPiecesCard

/-- THE TIED CARD OF 'cameolaw01.UnitsOrders'. -/
def unitsOrdersCard : Claim7 := { stood := { row := unitsOrdersRow, standIns := [], harness := (true, "1dfcbaed767a1dc8a531edcbdc17b6d27bc9f0f1d949bb11d3a98cc0b84db336"), looks := false }, kinds := [], alts := [], laidByText := true, laidKinds := [.data, .pinned], laidTests := true, laidLooks := .later }
def UnitsOrdersCardSaid : Prop := Claim7.holds Tryd.pinned (.plain (OpenSpec.ofChange unitsOrdersSpec)) unitsOrdersCard

/-- THE TIED CARD OF 'cameolaw01.UnitsPoints'. -/
def unitsPointsCard : Claim7 := { stood := { row := unitsPointsRow, standIns := [], harness := (true, "1dfcbaed767a1dc8a531edcbdc17b6d27bc9f0f1d949bb11d3a98cc0b84db336"), looks := false }, kinds := [], alts := [], laidByText := true, laidKinds := [.data, .pinned], laidTests := true, laidLooks := .later }
def UnitsPointsCardSaid : Prop := Claim7.holds Tryd.pinned (.plain (OpenSpec.ofChange unitsPointsSpec)) unitsPointsCard

/-- THE TIED CARD OF 'cameolaw01.UnitsBack'. -/
def unitsBackCard : Claim7 := { stood := { row := unitsBackRow, standIns := [], harness := (true, "1dfcbaed767a1dc8a531edcbdc17b6d27bc9f0f1d949bb11d3a98cc0b84db336"), looks := false }, kinds := [], alts := [], laidByText := true, laidKinds := [.data, .pinned], laidTests := true, laidLooks := .later }
def UnitsBackCardSaid : Prop := Claim7.holds Tryd.pinned (.plain (OpenSpec.ofChange unitsBackSpec)) unitsBackCard

/-- THE SECOND FORM's CARD OF 'cameolaw01.UnitsBytes'. -/
def unitsBytesUptoCard : Claim7 := { stood := { row := unitsBytesUptoRow, standIns := [], harness := (true, "1dfcbaed767a1dc8a531edcbdc17b6d27bc9f0f1d949bb11d3a98cc0b84db336"), looks := false }, kinds := [], alts := [], laidByText := true, laidKinds := [.data, .pinned], laidTests := true, laidLooks := .later }
def UnitsBytesUptoCardSaid : Prop := Claim7.holds Tryd.pinned (.plain (OpenSpec.upto unitsBytesSpec)) unitsBytesUptoCard

/-- THE SECOND FORM's CARD OF 'cameolaw01.UnitsRows'. -/
def unitsRowsUptoCard : Claim7 := { stood := { row := unitsRowsUptoRow, standIns := [], harness := (true, "1dfcbaed767a1dc8a531edcbdc17b6d27bc9f0f1d949bb11d3a98cc0b84db336"), looks := false }, kinds := [], alts := [], laidByText := true, laidKinds := [.data, .pinned], laidTests := true, laidLooks := .later }
def UnitsRowsUptoCardSaid : Prop := Claim7.holds Tryd.pinned (.plain (OpenSpec.upto unitsRowsSpec)) unitsRowsUptoCard

/-- THE SECOND FORM's CARD OF 'cameolaw01.UnitsPieces'. -/
def unitsPiecesUptoCard : Claim7 := { stood := { row := unitsPiecesUptoRow, standIns := [], harness := (true, "1dfcbaed767a1dc8a531edcbdc17b6d27bc9f0f1d949bb11d3a98cc0b84db336"), looks := false }, kinds := [], alts := [], laidByText := true, laidKinds := [.data, .pinned], laidTests := true, laidLooks := .later }
def UnitsPiecesUptoCardSaid : Prop := Claim7.holds Tryd.pinned (.plain (OpenSpec.upto unitsPiecesSpec)) unitsPiecesUptoCard

/-- THE SECOND FORM's CARD OF 'cameolaw01.UnitsOrders'. -/
def unitsOrdersUptoCard : Claim7 := { stood := { row := unitsOrdersUptoRow, standIns := [], harness := (true, "1dfcbaed767a1dc8a531edcbdc17b6d27bc9f0f1d949bb11d3a98cc0b84db336"), looks := false }, kinds := [], alts := [], laidByText := true, laidKinds := [.data, .pinned], laidTests := true, laidLooks := .later }
def UnitsOrdersUptoCardSaid : Prop := Claim7.holds Tryd.pinned (.plain (OpenSpec.upto unitsOrdersSpec)) unitsOrdersUptoCard

/-- THE SECOND FORM's CARD OF 'cameolaw01.UnitsPoints'. -/
def unitsPointsUptoCard : Claim7 := { stood := { row := unitsPointsUptoRow, standIns := [], harness := (true, "1dfcbaed767a1dc8a531edcbdc17b6d27bc9f0f1d949bb11d3a98cc0b84db336"), looks := false }, kinds := [], alts := [], laidByText := true, laidKinds := [.data, .pinned], laidTests := true, laidLooks := .later }
def UnitsPointsUptoCardSaid : Prop := Claim7.holds Tryd.pinned (.plain (OpenSpec.upto unitsPointsSpec)) unitsPointsUptoCard

/-- THE SECOND FORM's CARD OF 'cameolaw01.UnitsBack'. -/
def unitsBackUptoCard : Claim7 := { stood := { row := unitsBackUptoRow, standIns := [], harness := (true, "1dfcbaed767a1dc8a531edcbdc17b6d27bc9f0f1d949bb11d3a98cc0b84db336"), looks := false }, kinds := [], alts := [], laidByText := true, laidKinds := [.data, .pinned], laidTests := true, laidLooks := .later }
def UnitsBackUptoCardSaid : Prop := Claim7.holds Tryd.pinned (.plain (OpenSpec.upto unitsBackSpec)) unitsBackUptoCard
end Rows
end Go.Proofs.YtakenhaieblikaaDoor
