/-
  DERIVED. GIVEN WITH THE SEED: THE CARDS: each row of YthcmamjpfigdfaaGreatDoorRows.lean that lists a variable, with what it lists TIED to the program's text (the seventh form; the later family's looks); each row that meets fmt, with fmt's text TOLD by the authors' own Lean function (tested against real Go, not proved from fmt's source: count such statements apart). THE CARD IS WHAT COUNTS. Prove the row's statement (the work); the ties are given (YthcmamjpfigdfaaGreatDoorTie.lean); close each card by the builder's one call (the guide's Derived/Test/ToyasCard.lean, 'card_holds'). Laid BY PROGRAM, IN A SANDBOX (cutbox-door.mjs). By AI agents, Wed Nov 11 2026. No macro, syntax, notation, axiom, sorry.
-/
import Derived.Test.YthcmamjpfigdfaaGreatDoorRows
import GoSem.ClaimSeven
namespace Go.Proofs.YthcmamjpfigdfaaGreatDoor
namespace Rows

/-- THE TIED CARD OF 'cameolaw09.OrdinaryAlways'. -/
def ordinaryAlwaysCard : Claim7 := { stood := { row := ordinaryAlwaysRow, standIns := [], harness := (true, "90b378937fad2c68d4bb9e00e4781cf0ad07f4b06fc54cedabef8baed59d1281"), looks := true }, kinds := [], alts := [], laidByText := true, laidKinds := [.data, .pinned], laidTests := true, laidLooks := .later }
def OrdinaryAlwaysCardSaid : Prop := Claim7.holds Tryz.pinned (.plain (OpenSpec.ofChange ordinaryAlwaysSpec)) ordinaryAlwaysCard

/-- THE TIED CARD OF 'cameolaw10.InvariantHolds'. -/
def invariantHoldsCard : Claim7 := { stood := { row := invariantHoldsRow, standIns := [], harness := (true, "90b378937fad2c68d4bb9e00e4781cf0ad07f4b06fc54cedabef8baed59d1281"), looks := true }, kinds := [], alts := [], laidByText := true, laidKinds := [.data, .pinned], laidTests := true, laidLooks := .later }
def InvariantHoldsCardSaid : Prop := Claim7.holds Tryz.pinned (.plain (OpenSpec.ofChange invariantHoldsSpec)) invariantHoldsCard

/-- THE SECOND FORM's CARD OF 'cameolaw09.OrdinaryAlways'. -/
def ordinaryAlwaysUptoCard : Claim7 := { stood := { row := ordinaryAlwaysUptoRow, standIns := [], harness := (true, "90b378937fad2c68d4bb9e00e4781cf0ad07f4b06fc54cedabef8baed59d1281"), looks := true }, kinds := [], alts := [], laidByText := true, laidKinds := [.data, .pinned], laidTests := true, laidLooks := .later }
def OrdinaryAlwaysUptoCardSaid : Prop := Claim7.holds Tryz.pinned (.plain (OpenSpec.upto ordinaryAlwaysSpec)) ordinaryAlwaysUptoCard

/-- THE SECOND FORM's CARD OF 'cameolaw10.InvariantHolds'. -/
def invariantHoldsUptoCard : Claim7 := { stood := { row := invariantHoldsUptoRow, standIns := [], harness := (true, "90b378937fad2c68d4bb9e00e4781cf0ad07f4b06fc54cedabef8baed59d1281"), looks := true }, kinds := [], alts := [], laidByText := true, laidKinds := [.data, .pinned], laidTests := true, laidLooks := .later }
def InvariantHoldsUptoCardSaid : Prop := Claim7.holds Tryz.pinned (.plain (OpenSpec.upto invariantHoldsSpec)) invariantHoldsUptoCard
end Rows
end Go.Proofs.YthcmamjpfigdfaaGreatDoor
