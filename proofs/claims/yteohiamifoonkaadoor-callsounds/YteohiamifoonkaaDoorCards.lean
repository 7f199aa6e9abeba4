/-
  DERIVED. GIVEN WITH THE SEED: THE CARDS: each row of YteohiamifoonkaaDoorRows.lean that lists a variable, with what it lists TIED to the program's text (the seventh form; the later family's looks); each row that meets fmt, with fmt's text TOLD by the authors' own Lean function (tested against real Go, not proved from fmt's source: count such statements apart). THE CARD IS WHAT COUNTS. Prove the row's statement (the work); the ties are given (YteohiamifoonkaaDoorTie.lean); close each card by the builder's one call (the guide's Derived/Test/ToyasCard.lean, 'card_holds'). Laid BY PROGRAM, IN A SANDBOX (cutbox-door.mjs). By AI agents, Wed Nov 11 2026. No macro, syntax, notation, axiom, sorry.
-/
import Derived.Test.YteohiamifoonkaaDoorRows
import GoSem.ClaimSeven
namespace Go.Proofs.YteohiamifoonkaaDoor
namespace Rows

/-- THE TIED CARD OF 'cameolaw11.CallSounds'. -/
def callSoundsCard : Claim7 := { stood := { row := callSoundsRow, standIns := [], harness := (true, "5861122aebbb761d3ea371c9c28d4bb248ccfec4a3aec0101578ac0a6e89f651"), looks := true }, kinds := [], alts := [], laidByText := true, laidKinds := [.data, .pinned], laidTests := true, laidLooks := .later }
def CallSoundsCardSaid : Prop := Claim7.holds Tryd.pinned (.plain (OpenSpec.ofChange callSoundsSpec)) callSoundsCard

/-- THE TIED CARD OF 'cameolaw11.CallCaught'. -/
def callCaughtCard : Claim7 := { stood := { row := callCaughtRow, standIns := [], harness := (true, "5861122aebbb761d3ea371c9c28d4bb248ccfec4a3aec0101578ac0a6e89f651"), looks := true }, kinds := [], alts := [], laidByText := true, laidKinds := [.data, .pinned], laidTests := true, laidLooks := .later }
def CallCaughtCardSaid : Prop := Claim7.holds Tryd.pinned (.plain (OpenSpec.ofChange callCaughtSpec)) callCaughtCard

/-- THE SECOND FORM's CARD OF 'cameolaw11.CallSounds'. -/
def callSoundsUptoCard : Claim7 := { stood := { row := callSoundsUptoRow, standIns := [], harness := (true, "5861122aebbb761d3ea371c9c28d4bb248ccfec4a3aec0101578ac0a6e89f651"), looks := true }, kinds := [], alts := [], laidByText := true, laidKinds := [.data, .pinned], laidTests := true, laidLooks := .later }
def CallSoundsUptoCardSaid : Prop := Claim7.holds Tryd.pinned (.plain (OpenSpec.upto callSoundsSpec)) callSoundsUptoCard

/-- THE SECOND FORM's CARD OF 'cameolaw11.CallCaught'. -/
def callCaughtUptoCard : Claim7 := { stood := { row := callCaughtUptoRow, standIns := [], harness := (true, "5861122aebbb761d3ea371c9c28d4bb248ccfec4a3aec0101578ac0a6e89f651"), looks := true }, kinds := [], alts := [], laidByText := true, laidKinds := [.data, .pinned], laidTests := true, laidLooks := .later }
def CallCaughtUptoCardSaid : Prop := Claim7.holds Tryd.pinned (.plain (OpenSpec.upto callCaughtSpec)) callCaughtUptoCard
end Rows
end Go.Proofs.YteohiamifoonkaaDoor
