/-
  DERIVED. GIVEN WITH THE SEED: THE CARDS: each row of YtcflglloopgieaaDoorRows.lean that lists a variable, with what it lists TIED to the program's text (the seventh form; the later family's looks); each row that meets fmt, with fmt's text TOLD by the authors' own Lean function (tested against real Go, not proved from fmt's source: count such statements apart). THE CARD IS WHAT COUNTS. Prove the row's statement (the work); the ties are given (YtcflglloopgieaaDoorTie.lean); close each card by the builder's one call (the guide's Derived/Test/ToyasCard.lean, 'card_holds'). Laid BY PROGRAM, IN A SANDBOX (cutbox-door.mjs). By AI agents, Wed Nov 11 2026. No macro, syntax, notation, axiom, sorry.
-/
import Derived.Test.YtcflglloopgieaaDoorRows
import GoSem.ClaimSeven
namespace Go.Proofs.YtcflglloopgieaaDoor
namespace Rows

/-- THE TIED CARD OF 'cameolaw10.InvariantDiffs'. -/
def invariantDiffsCard : Claim7 := { stood := { row := invariantDiffsRow, standIns := [], harness := (true, "4a143cf5ada7f7e092fc1c0b86bd3528a4d98909e588eb9a2c828ea48702e116"), looks := true }, kinds := [], alts := [], laidByText := true, laidKinds := [.data, .pinned], laidTests := true, laidLooks := .later }
def InvariantDiffsCardSaid : Prop := Claim7.holds Tryd.pinned (.plain (OpenSpec.ofChange invariantDiffsSpec)) invariantDiffsCard

/-- THE TIED CARD OF 'cameolaw10.InvariantGoes'. -/
def invariantGoesCard : Claim7 := { stood := { row := invariantGoesRow, standIns := [], harness := (true, "4a143cf5ada7f7e092fc1c0b86bd3528a4d98909e588eb9a2c828ea48702e116"), looks := true }, kinds := [], alts := [], laidByText := true, laidKinds := [.data, .pinned], laidTests := true, laidLooks := .later }
def InvariantGoesCardSaid : Prop := Claim7.holds Tryd.pinned (.plain (OpenSpec.ofChange invariantGoesSpec)) invariantGoesCard

/-- THE TIED CARD OF 'cameolaw10.InvariantFrozen'. -/
def invariantFrozenCard : Claim7 := { stood := { row := invariantFrozenRow, standIns := [], harness := (true, "4a143cf5ada7f7e092fc1c0b86bd3528a4d98909e588eb9a2c828ea48702e116"), looks := true }, kinds := [], alts := [], laidByText := true, laidKinds := [.data, .pinned], laidTests := true, laidLooks := .later }
def InvariantFrozenCardSaid : Prop := Claim7.holds Tryd.pinned (.plain (OpenSpec.ofChange invariantFrozenSpec)) invariantFrozenCard

/-- THE SECOND FORM's CARD OF 'cameolaw10.InvariantDiffs'. -/
def invariantDiffsUptoCard : Claim7 := { stood := { row := invariantDiffsUptoRow, standIns := [], harness := (true, "4a143cf5ada7f7e092fc1c0b86bd3528a4d98909e588eb9a2c828ea48702e116"), looks := true }, kinds := [], alts := [], laidByText := true, laidKinds := [.data, .pinned], laidTests := true, laidLooks := .later }
def InvariantDiffsUptoCardSaid : Prop := Claim7.holds Tryd.pinned (.plain (OpenSpec.upto invariantDiffsSpec)) invariantDiffsUptoCard

/-- THE SECOND FORM's CARD OF 'cameolaw10.InvariantGoes'. -/
def invariantGoesUptoCard : Claim7 := { stood := { row := invariantGoesUptoRow, standIns := [], harness := (true, "4a143cf5ada7f7e092fc1c0b86bd3528a4d98909e588eb9a2c828ea48702e116"), looks := true }, kinds := [], alts := [], laidByText := true, laidKinds := [.data, .pinned], laidTests := true, laidLooks := .later }
def InvariantGoesUptoCardSaid : Prop := Claim7.holds Tryd.pinned (.plain (OpenSpec.upto invariantGoesSpec)) invariantGoesUptoCard

/-- THE SECOND FORM's CARD OF 'cameolaw10.InvariantFrozen'. -/
def invariantFrozenUptoCard : Claim7 := { stood := { row := invariantFrozenUptoRow, standIns := [], harness := (true, "4a143cf5ada7f7e092fc1c0b86bd3528a4d98909e588eb9a2c828ea48702e116"), looks := true }, kinds := [], alts := [], laidByText := true, laidKinds := [.data, .pinned], laidTests := true, laidLooks := .later }
def InvariantFrozenUptoCardSaid : Prop := Claim7.holds Tryd.pinned (.plain (OpenSpec.upto invariantFrozenSpec)) invariantFrozenUptoCard
end Rows
end Go.Proofs.YtcflglloopgieaaDoor
