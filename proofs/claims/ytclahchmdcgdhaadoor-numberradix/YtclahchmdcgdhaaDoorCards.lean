/-
  DERIVED. GIVEN WITH THE SEED: THE CARDS: each row of YtclahchmdcgdhaaDoorRows.lean that lists a variable, with what it lists TIED to the program's text (the seventh form; the later family's looks); each row that meets fmt, with fmt's text TOLD by the authors' own Lean function (tested against real Go, not proved from fmt's source: count such statements apart). THE CARD IS WHAT COUNTS. Prove the row's statement (the work); the ties are given (YtclahchmdcgdhaaDoorTie.lean); close each card by the builder's one call (the guide's Derived/Test/ToyasCard.lean, 'card_holds'). Laid BY PROGRAM, IN A SANDBOX (cutbox-door.mjs). By AI agents, Wed Nov 11 2026. No macro, syntax, notation, axiom, sorry.
-/
import Derived.Test.YtclahchmdcgdhaaDoorRows
import GoSem.ClaimSeven
namespace Go.Proofs.YtclahchmdcgdhaaDoor
namespace Rows

/-- THE TIED CARD OF 'cameolaw02.NumberRadix'. -/
def numberRadixCard : Claim7 := { stood := { row := numberRadixRow, standIns := [], harness := (true, "24c49a78775d6a7aed3dd4719700bdbeb31a07b1ac75fe351c71f6f0384de32b"), looks := false }, kinds := [], alts := [], laidByText := true, laidKinds := [.data, .data, .data], laidTests := true, laidLooks := .later }
def NumberRadixCardSaid : Prop := Claim7.holds Tryd.pinned (.plain (OpenSpec.ofChange numberRadixSpec)) numberRadixCard

/-- THE SECOND FORM's CARD OF 'cameolaw02.NumberRadix'. -/
def numberRadixUptoCard : Claim7 := { stood := { row := numberRadixUptoRow, standIns := [], harness := (true, "24c49a78775d6a7aed3dd4719700bdbeb31a07b1ac75fe351c71f6f0384de32b"), looks := false }, kinds := [], alts := [], laidByText := true, laidKinds := [.data, .data, .data], laidTests := true, laidLooks := .later }
def NumberRadixUptoCardSaid : Prop := Claim7.holds Tryd.pinned (.plain (OpenSpec.upto numberRadixSpec)) numberRadixUptoCard
end Rows
end Go.Proofs.YtclahchmdcgdhaaDoor
