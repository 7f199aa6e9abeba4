/-
  DERIVED. GIVEN WITH THE SEED: THE CARDS: each row of YtieahhciibdnaaaGreatDoorRows.lean that lists a variable, with what it lists TIED to the program's text (the seventh form; the later family's looks); each row that meets fmt, with fmt's text TOLD by the authors' own Lean function (tested against real Go, not proved from fmt's source: count such statements apart). THE CARD IS WHAT COUNTS. Prove the row's statement (the work); the ties are given (YtieahhciibdnaaaGreatDoorTie.lean); close each card by the builder's one call (the guide's Derived/Test/ToyasCard.lean, 'card_holds'). Laid BY PROGRAM, IN A SANDBOX (cutbox-door.mjs). By AI agents, Wed Nov 11 2026. No macro, syntax, notation, axiom, sorry.
-/
import Derived.Test.YtieahhciibdnaaaGreatDoorRows
import GoSem.ClaimSeven
namespace Go.Proofs.YtieahhciibdnaaaGreatDoor
namespace Rows

/-- THE TIED CARD OF 'cameolaw20.NamespaceLive'. -/
def namespaceLiveCard : Claim7 := { stood := { row := namespaceLiveRow, standIns := [], harness := (true, "7f74a014526f6ca8fdeb093e050e68b6648aa7b166263489929d2e3f5201d02a"), looks := true }, kinds := [], alts := [], laidByText := true, laidKinds := [.data, .pinned], laidTests := true, laidLooks := .later }
def NamespaceLiveCardSaid : Prop := Claim7.holds Tryz.pinned (.plain (OpenSpec.ofChange namespaceLiveSpec)) namespaceLiveCard

/-- THE SECOND FORM's CARD OF 'cameolaw20.NamespaceLive'. -/
def namespaceLiveUptoCard : Claim7 := { stood := { row := namespaceLiveUptoRow, standIns := [], harness := (true, "7f74a014526f6ca8fdeb093e050e68b6648aa7b166263489929d2e3f5201d02a"), looks := true }, kinds := [], alts := [], laidByText := true, laidKinds := [.data, .pinned], laidTests := true, laidLooks := .later }
def NamespaceLiveUptoCardSaid : Prop := Claim7.holds Tryz.pinned (.plain (OpenSpec.upto namespaceLiveSpec)) namespaceLiveUptoCard
end Rows
end Go.Proofs.YtieahhciibdnaaaGreatDoor
