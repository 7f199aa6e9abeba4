/-
  DERIVED. GIVEN WITH THE SEED: THE CARDS: each row of YtcflglloopgieaaGreatDoorRows.lean that lists a variable, with what it lists TIED to the program's text (the seventh form; the later family's looks); each row that meets fmt, with fmt's text TOLD by the authors' own Lean function (tested against real Go, not proved from fmt's source: count such statements apart). THE CARD IS WHAT COUNTS. Prove the row's statement (the work); the ties are given (YtcflglloopgieaaGreatDoorTie.lean); close each card by the builder's one call (the guide's Derived/Test/ToyasCard.lean, 'card_holds'). Laid BY PROGRAM, IN A SANDBOX (cutbox-door.mjs). By AI agents, Wed Nov 11 2026. No macro, syntax, notation, axiom, sorry.
-/
import Derived.Test.YtcflglloopgieaaGreatDoorRows
import GoSem.ClaimSeven
namespace Go.Proofs.YtcflglloopgieaaGreatDoor
namespace Rows

/-- THE TIED CARD OF 'cameolaw10.InvariantBroken'. -/
def invariantBrokenCard : Claim7 := { stood := { row := invariantBrokenRow, standIns := [], harness := (true, "c78ebc648ce42a9f788c196c8169ad6756e28a09db02ad3a83b7f399262833ad"), looks := true }, kinds := [], alts := [], laidByText := true, laidKinds := [.data, .pinned], laidTests := true, laidLooks := .later }
def InvariantBrokenCardSaid : Prop := Claim7.holds Tryz.pinned (.plain (OpenSpec.ofChange invariantBrokenSpec)) invariantBrokenCard

/-- THE TIED CARD OF 'cameolaw10.InvariantBack'. -/
def invariantBackCard : Claim7 := { stood := { row := invariantBackRow, standIns := [], harness := (true, "c78ebc648ce42a9f788c196c8169ad6756e28a09db02ad3a83b7f399262833ad"), looks := true }, kinds := [], alts := [], laidByText := true, laidKinds := [.data, .pinned], laidTests := true, laidLooks := .later }
def InvariantBackCardSaid : Prop := Claim7.holds Tryz.pinned (.plain (OpenSpec.ofChange invariantBackSpec)) invariantBackCard

/-- THE SECOND FORM's CARD OF 'cameolaw10.InvariantBroken'. -/
def invariantBrokenUptoCard : Claim7 := { stood := { row := invariantBrokenUptoRow, standIns := [], harness := (true, "c78ebc648ce42a9f788c196c8169ad6756e28a09db02ad3a83b7f399262833ad"), looks := true }, kinds := [], alts := [], laidByText := true, laidKinds := [.data, .pinned], laidTests := true, laidLooks := .later }
def InvariantBrokenUptoCardSaid : Prop := Claim7.holds Tryz.pinned (.plain (OpenSpec.upto invariantBrokenSpec)) invariantBrokenUptoCard

/-- THE SECOND FORM's CARD OF 'cameolaw10.InvariantBack'. -/
def invariantBackUptoCard : Claim7 := { stood := { row := invariantBackUptoRow, standIns := [], harness := (true, "c78ebc648ce42a9f788c196c8169ad6756e28a09db02ad3a83b7f399262833ad"), looks := true }, kinds := [], alts := [], laidByText := true, laidKinds := [.data, .pinned], laidTests := true, laidLooks := .later }
def InvariantBackUptoCardSaid : Prop := Claim7.holds Tryz.pinned (.plain (OpenSpec.upto invariantBackSpec)) invariantBackUptoCard
end Rows
end Go.Proofs.YtcflglloopgieaaGreatDoor
