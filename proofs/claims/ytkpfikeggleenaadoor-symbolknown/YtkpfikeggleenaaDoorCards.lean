/-
  DERIVED. GIVEN WITH THE SEED: THE CARDS: each row of YtkpfikeggleenaaDoorRows.lean that lists a variable, with what it lists TIED to the program's text (the seventh form; the later family's looks); each row that meets fmt, with fmt's text TOLD by the authors' own Lean function (tested against real Go, not proved from fmt's source: count such statements apart). THE CARD IS WHAT COUNTS. Prove the row's statement (the work); the ties are given (YtkpfikeggleenaaDoorTie.lean); close each card by the builder's one call (the guide's Derived/Test/ToyasCard.lean, 'card_holds'). Laid BY PROGRAM, IN A SANDBOX (cutbox-door.mjs). By AI agents, Wed Nov 11 2026. No macro, syntax, notation, axiom, sorry.
-/
import Derived.Test.YtkpfikeggleenaaDoorRows
import GoSem.ClaimSeven
namespace Go.Proofs.YtkpfikeggleenaaDoor
namespace Rows

/-- THE TIED CARD OF 'cameolaw08.SymbolNames'. -/
def symbolNamesCard : Claim7 := { stood := { row := symbolNamesRow, standIns := [], harness := (true, "b4e2313eeb2796fc26de0a87b48a9a391f38509170e57735e4b53f29cc865f1a"), looks := true }, kinds := [], alts := [], laidByText := true, laidKinds := [.data, .data, .data, .pinned], laidTests := true, laidLooks := .later }
def SymbolNamesCardSaid : Prop := Claim7.holds Tryd.pinned (.plain (OpenSpec.ofChange symbolNamesSpec)) symbolNamesCard

/-- THE TIED CARD OF 'cameolaw08.SymbolKnown'. -/
def symbolKnownCard : Claim7 := { stood := { row := symbolKnownRow, standIns := [], harness := (true, "b4e2313eeb2796fc26de0a87b48a9a391f38509170e57735e4b53f29cc865f1a"), looks := true }, kinds := [], alts := [], laidByText := true, laidKinds := [.data, .data, .pinned], laidTests := true, laidLooks := .later }
def SymbolKnownCardSaid : Prop := Claim7.holds Tryd.pinned (.plain (OpenSpec.ofChange symbolKnownSpec)) symbolKnownCard

/-- THE TIED CARD OF 'cameolaw08.SymbolNew'. -/
def symbolNewCard : Claim7 := { stood := { row := symbolNewRow, standIns := [], harness := (true, "b4e2313eeb2796fc26de0a87b48a9a391f38509170e57735e4b53f29cc865f1a"), looks := true }, kinds := [], alts := [], laidByText := true, laidKinds := [.data, .data, .pinned], laidTests := true, laidLooks := .later }
def SymbolNewCardSaid : Prop := Claim7.holds Tryd.pinned (.plain (OpenSpec.ofChange symbolNewSpec)) symbolNewCard

/-- THE SECOND FORM's CARD OF 'cameolaw08.SymbolNames'. -/
def symbolNamesUptoCard : Claim7 := { stood := { row := symbolNamesUptoRow, standIns := [], harness := (true, "b4e2313eeb2796fc26de0a87b48a9a391f38509170e57735e4b53f29cc865f1a"), looks := true }, kinds := [], alts := [], laidByText := true, laidKinds := [.data, .data, .data, .pinned], laidTests := true, laidLooks := .later }
def SymbolNamesUptoCardSaid : Prop := Claim7.holds Tryd.pinned (.plain (OpenSpec.upto symbolNamesSpec)) symbolNamesUptoCard

/-- THE SECOND FORM's CARD OF 'cameolaw08.SymbolKnown'. -/
def symbolKnownUptoCard : Claim7 := { stood := { row := symbolKnownUptoRow, standIns := [], harness := (true, "b4e2313eeb2796fc26de0a87b48a9a391f38509170e57735e4b53f29cc865f1a"), looks := true }, kinds := [], alts := [], laidByText := true, laidKinds := [.data, .data, .pinned], laidTests := true, laidLooks := .later }
def SymbolKnownUptoCardSaid : Prop := Claim7.holds Tryd.pinned (.plain (OpenSpec.upto symbolKnownSpec)) symbolKnownUptoCard

/-- THE SECOND FORM's CARD OF 'cameolaw08.SymbolNew'. -/
def symbolNewUptoCard : Claim7 := { stood := { row := symbolNewUptoRow, standIns := [], harness := (true, "b4e2313eeb2796fc26de0a87b48a9a391f38509170e57735e4b53f29cc865f1a"), looks := true }, kinds := [], alts := [], laidByText := true, laidKinds := [.data, .data, .pinned], laidTests := true, laidLooks := .later }
def SymbolNewUptoCardSaid : Prop := Claim7.holds Tryd.pinned (.plain (OpenSpec.upto symbolNewSpec)) symbolNewUptoCard
end Rows
end Go.Proofs.YtkpfikeggleenaaDoor
