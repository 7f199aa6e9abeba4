/-
  DERIVED. GIVEN WITH THE SEED: THE CARDS: each row of YtedgaaaloigpdaaDoorRows.lean that lists a variable, with what it lists TIED to the program's text (the seventh form; the later family's looks); each row that meets fmt, with fmt's text TOLD by the authors' own Lean function (tested against real Go, not proved from fmt's source: count such statements apart). THE CARD IS WHAT COUNTS. Prove the row's statement (the work); the ties are given (YtedgaaaloigpdaaDoorTie.lean); close each card by the builder's one call (the guide's Derived/Test/ToyasCard.lean, 'card_holds'). Laid BY PROGRAM, IN A SANDBOX (cutbox-door.mjs). By AI agents, Wed Nov 11 2026. No macro, syntax, notation, axiom, sorry.
-/
import Derived.Test.YtedgaaaloigpdaaDoorRows
import GoSem.ClaimSeven
namespace Go.Proofs.YtedgaaaloigpdaaDoor
namespace Rows

/-- THE TIED CARD OF 'cameolaw05.DescKinds'. -/
def descKindsCard : Claim7 := { stood := { row := descKindsRow, standIns := [], harness := (true, "631d3a768271d5c5399fbdbb1b2038bf471b468d00d517d99acc5ef3e1fd4bd9"), looks := true }, kinds := [], alts := [], laidByText := true, laidKinds := [.data, .pinned], laidTests := true, laidLooks := .later }
def DescKindsCardSaid : Prop := Claim7.holds Tryd.pinned (.plain (OpenSpec.ofChange descKindsSpec)) descKindsCard

/-- THE TIED CARD OF 'cameolaw05.DescApplies'. -/
def descAppliesCard : Claim7 := { stood := { row := descAppliesRow, standIns := [], harness := (true, "631d3a768271d5c5399fbdbb1b2038bf471b468d00d517d99acc5ef3e1fd4bd9"), looks := true }, kinds := [], alts := [], laidByText := true, laidKinds := [.data, .pinned], laidTests := true, laidLooks := .later }
def DescAppliesCardSaid : Prop := Claim7.holds Tryd.pinned (.plain (OpenSpec.ofChange descAppliesSpec)) descAppliesCard

/-- THE TIED CARD OF 'cameolaw05.DescTakes'. -/
def descTakesCard : Claim7 := { stood := { row := descTakesRow, standIns := [], harness := (true, "631d3a768271d5c5399fbdbb1b2038bf471b468d00d517d99acc5ef3e1fd4bd9"), looks := true }, kinds := [], alts := [], laidByText := true, laidKinds := [.data, .pinned], laidTests := true, laidLooks := .later }
def DescTakesCardSaid : Prop := Claim7.holds Tryd.pinned (.plain (OpenSpec.ofChange descTakesSpec)) descTakesCard

/-- THE TIED CARD OF 'cameolaw05.DescKeeps'. -/
def descKeepsCard : Claim7 := { stood := { row := descKeepsRow, standIns := [], harness := (true, "631d3a768271d5c5399fbdbb1b2038bf471b468d00d517d99acc5ef3e1fd4bd9"), looks := true }, kinds := [], alts := [], laidByText := true, laidKinds := [.data, .pinned], laidTests := true, laidLooks := .later }
def DescKeepsCardSaid : Prop := Claim7.holds Tryd.pinned (.plain (OpenSpec.ofChange descKeepsSpec)) descKeepsCard

/-- THE TIED CARD OF 'cameolaw05.DescFrozen'. -/
def descFrozenCard : Claim7 := { stood := { row := descFrozenRow, standIns := [], harness := (true, "631d3a768271d5c5399fbdbb1b2038bf471b468d00d517d99acc5ef3e1fd4bd9"), looks := true }, kinds := [], alts := [], laidByText := true, laidKinds := [.data, .pinned], laidTests := true, laidLooks := .later }
def DescFrozenCardSaid : Prop := Claim7.holds Tryd.pinned (.plain (OpenSpec.ofChange descFrozenSpec)) descFrozenCard

/-- THE SECOND FORM's CARD OF 'cameolaw05.DescKinds'. -/
def descKindsUptoCard : Claim7 := { stood := { row := descKindsUptoRow, standIns := [], harness := (true, "631d3a768271d5c5399fbdbb1b2038bf471b468d00d517d99acc5ef3e1fd4bd9"), looks := true }, kinds := [], alts := [], laidByText := true, laidKinds := [.data, .pinned], laidTests := true, laidLooks := .later }
def DescKindsUptoCardSaid : Prop := Claim7.holds Tryd.pinned (.plain (OpenSpec.upto descKindsSpec)) descKindsUptoCard

/-- THE SECOND FORM's CARD OF 'cameolaw05.DescApplies'. -/
def descAppliesUptoCard : Claim7 := { stood := { row := descAppliesUptoRow, standIns := [], harness := (true, "631d3a768271d5c5399fbdbb1b2038bf471b468d00d517d99acc5ef3e1fd4bd9"), looks := true }, kinds := [], alts := [], laidByText := true, laidKinds := [.data, .pinned], laidTests := true, laidLooks := .later }
def DescAppliesUptoCardSaid : Prop := Claim7.holds Tryd.pinned (.plain (OpenSpec.upto descAppliesSpec)) descAppliesUptoCard

/-- THE SECOND FORM's CARD OF 'cameolaw05.DescTakes'. -/
def descTakesUptoCard : Claim7 := { stood := { row := descTakesUptoRow, standIns := [], harness := (true, "631d3a768271d5c5399fbdbb1b2038bf471b468d00d517d99acc5ef3e1fd4bd9"), looks := true }, kinds := [], alts := [], laidByText := true, laidKinds := [.data, .pinned], laidTests := true, laidLooks := .later }
def DescTakesUptoCardSaid : Prop := Claim7.holds Tryd.pinned (.plain (OpenSpec.upto descTakesSpec)) descTakesUptoCard

/-- THE SECOND FORM's CARD OF 'cameolaw05.DescKeeps'. -/
def descKeepsUptoCard : Claim7 := { stood := { row := descKeepsUptoRow, standIns := [], harness := (true, "631d3a768271d5c5399fbdbb1b2038bf471b468d00d517d99acc5ef3e1fd4bd9"), looks := true }, kinds := [], alts := [], laidByText := true, laidKinds := [.data, .pinned], laidTests := true, laidLooks := .later }
def DescKeepsUptoCardSaid : Prop := Claim7.holds Tryd.pinned (.plain (OpenSpec.upto descKeepsSpec)) descKeepsUptoCard

/-- THE SECOND FORM's CARD OF 'cameolaw05.DescFrozen'. -/
def descFrozenUptoCard : Claim7 := { stood := { row := descFrozenUptoRow, standIns := [], harness := (true, "631d3a768271d5c5399fbdbb1b2038bf471b468d00d517d99acc5ef3e1fd4bd9"), looks := true }, kinds := [], alts := [], laidByText := true, laidKinds := [.data, .pinned], laidTests := true, laidLooks := .later }
def DescFrozenUptoCardSaid : Prop := Claim7.holds Tryd.pinned (.plain (OpenSpec.upto descFrozenSpec)) descFrozenUptoCard
end Rows
end Go.Proofs.YtedgaaaloigpdaaDoor
