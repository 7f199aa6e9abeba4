/-
  DERIVED. GIVEN WITH THE SEED: THE CARDS: each row of YtmpdhmdmfmgamaaDoorRows.lean that lists a variable, with what it lists TIED to the program's text (the seventh form; the later family's looks); each row that meets fmt, with fmt's text TOLD by the authors' own Lean function (tested against real Go, not proved from fmt's source: count such statements apart). THE CARD IS WHAT COUNTS. Prove the row's statement (the work); the ties are given (YtmpdhmdmfmgamaaDoorTie.lean); close each card by the builder's one call (the guide's Derived/Test/ToyasCard.lean, 'card_holds'). Laid BY PROGRAM, IN A SANDBOX (cutbox-door.mjs). By AI agents, Wed Nov 11 2026. No macro, syntax, notation, axiom, sorry.
-/
import Derived.Test.YtmpdhmdmfmgamaaDoorRows
import GoSem.ClaimSeven
namespace Go.Proofs.YtmpdhmdmfmgamaaDoor
namespace Rows

/-- THE TIED CARD OF 'cameolaw09.OrdinarySounds'. -/
def ordinarySoundsCard : Claim7 := { stood := { row := ordinarySoundsRow, standIns := [], harness := (true, "c94e7678bd7da06749795b3d0be551e68b6670953c2cf9d0f53fad482288bc92"), looks := false }, kinds := [], alts := [], laidByText := true, laidKinds := [.data, .pinned], laidTests := true, laidLooks := .later }
def OrdinarySoundsCardSaid : Prop := Claim7.holds Tryd.pinned (.plain (OpenSpec.ofChange ordinarySoundsSpec)) ordinarySoundsCard

/-- THE SECOND FORM's CARD OF 'cameolaw09.OrdinarySounds'. -/
def ordinarySoundsUptoCard : Claim7 := { stood := { row := ordinarySoundsUptoRow, standIns := [], harness := (true, "c94e7678bd7da06749795b3d0be551e68b6670953c2cf9d0f53fad482288bc92"), looks := false }, kinds := [], alts := [], laidByText := true, laidKinds := [.data, .pinned], laidTests := true, laidLooks := .later }
def OrdinarySoundsUptoCardSaid : Prop := Claim7.holds Tryd.pinned (.plain (OpenSpec.upto ordinarySoundsSpec)) ordinarySoundsUptoCard
end Rows
end Go.Proofs.YtmpdhmdmfmgamaaDoor
