/-
  DERIVED. GIVEN WITH THE SEED: THE CARDS: each row of YtfnohipnenkhoaaGreatDoorRows.lean that lists a variable, with what it lists TIED to the program's text (the seventh form; the later family's looks); each row that meets fmt, with fmt's text TOLD by the authors' own Lean function (tested against real Go, not proved from fmt's source: count such statements apart). THE CARD IS WHAT COUNTS. Prove the row's statement (the work); the ties are given (YtfnohipnenkhoaaGreatDoorTie.lean); close each card by the builder's one call (the guide's Derived/Test/ToyasCard.lean, 'card_holds'). Laid BY PROGRAM, IN A SANDBOX (cutbox-door.mjs). By AI agents, Wed Nov 11 2026. No macro, syntax, notation, axiom, sorry.
-/
import Derived.Test.YtfnohipnenkhoaaGreatDoorRows
import GoSem.ClaimSeven
namespace Go.Proofs.YtfnohipnenkhoaaGreatDoor
namespace Rows

/-- THE TIED CARD OF 'cameolaw09.OrdinarySpends'. -/
def ordinarySpendsCard : Claim7 := { stood := { row := ordinarySpendsRow, standIns := [], harness := (true, "293c760c651087a2a2a353e2978630f42f128bea5784f1127344a4ff009c0e39"), looks := true }, kinds := [], alts := [], laidByText := true, laidKinds := [.data, .pinned], laidTests := true, laidLooks := .later }
def OrdinarySpendsCardSaid : Prop := Claim7.holds Tryz.pinned (.plain (OpenSpec.ofChange ordinarySpendsSpec)) ordinarySpendsCard

/-- THE TIED CARD OF 'cameolaw09.OrdinarySets'. -/
def ordinarySetsCard : Claim7 := { stood := { row := ordinarySetsRow, standIns := [], harness := (true, "293c760c651087a2a2a353e2978630f42f128bea5784f1127344a4ff009c0e39"), looks := true }, kinds := [], alts := [], laidByText := true, laidKinds := [.data, .pinned], laidTests := true, laidLooks := .later }
def OrdinarySetsCardSaid : Prop := Claim7.holds Tryz.pinned (.plain (OpenSpec.ofChange ordinarySetsSpec)) ordinarySetsCard

/-- THE SECOND FORM's CARD OF 'cameolaw09.OrdinarySpends'. -/
def ordinarySpendsUptoCard : Claim7 := { stood := { row := ordinarySpendsUptoRow, standIns := [], harness := (true, "293c760c651087a2a2a353e2978630f42f128bea5784f1127344a4ff009c0e39"), looks := true }, kinds := [], alts := [], laidByText := true, laidKinds := [.data, .pinned], laidTests := true, laidLooks := .later }
def OrdinarySpendsUptoCardSaid : Prop := Claim7.holds Tryz.pinned (.plain (OpenSpec.upto ordinarySpendsSpec)) ordinarySpendsUptoCard

/-- THE SECOND FORM's CARD OF 'cameolaw09.OrdinarySets'. -/
def ordinarySetsUptoCard : Claim7 := { stood := { row := ordinarySetsUptoRow, standIns := [], harness := (true, "293c760c651087a2a2a353e2978630f42f128bea5784f1127344a4ff009c0e39"), looks := true }, kinds := [], alts := [], laidByText := true, laidKinds := [.data, .pinned], laidTests := true, laidLooks := .later }
def OrdinarySetsUptoCardSaid : Prop := Claim7.holds Tryz.pinned (.plain (OpenSpec.upto ordinarySetsSpec)) ordinarySetsUptoCard
end Rows
end Go.Proofs.YtfnohipnenkhoaaGreatDoor
