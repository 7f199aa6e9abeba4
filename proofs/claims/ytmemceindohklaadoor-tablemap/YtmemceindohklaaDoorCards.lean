/-
  DERIVED. GIVEN WITH THE SEED: THE CARDS: each row of YtmemceindohklaaDoorRows.lean that lists a variable, with what it lists TIED to the program's text (the seventh form; the later family's looks); each row that meets fmt, with fmt's text TOLD by the authors' own Lean function (tested against real Go, not proved from fmt's source: count such statements apart). THE CARD IS WHAT COUNTS. Prove the row's statement (the work); the ties are given (YtmemceindohklaaDoorTie.lean); close each card by the builder's one call (the guide's Derived/Test/ToyasCard.lean, 'card_holds'). Laid BY PROGRAM, IN A SANDBOX (cutbox-door.mjs). By AI agents, Wed Nov 11 2026. No macro, syntax, notation, axiom, sorry.
-/
import Derived.Test.YtmemceindohklaaDoorRows
import GoSem.ClaimSeven
namespace Go.Proofs.YtmemceindohklaaDoor
namespace Rows

/-- THE TIED CARD OF 'cameolaw06.TableQuiet'. -/
def tableQuietCard : Claim7 := { stood := { row := tableQuietRow, standIns := [], harness := (true, "69c490af43db2219eb80402353fae929a02c8aa54901f31bec5b170d20aef16f"), looks := false }, kinds := [], alts := [], laidByText := true, laidKinds := [.data, .data, .data, .data, .pinned], laidTests := true, laidLooks := .later }
def TableQuietCardSaid : Prop := Claim7.holds Tryd.pinned (.plain (OpenSpec.ofChange tableQuietSpec)) tableQuietCard

/-- THE TIED CARD OF 'cameolaw06.TableMap'. -/
def tableMapCard : Claim7 := { stood := { row := tableMapRow, standIns := [], harness := (true, "69c490af43db2219eb80402353fae929a02c8aa54901f31bec5b170d20aef16f"), looks := false }, kinds := [], alts := [], laidByText := true, laidKinds := [.data, .data, .data, .data, .pinned], laidTests := true, laidLooks := .later }
def TableMapCardSaid : Prop := Claim7.holds Tryd.pinned (.plain (OpenSpec.ofChange tableMapSpec)) tableMapCard

/-- THE TIED CARD OF 'cameolaw06.TableAnew'. -/
def tableAnewCard : Claim7 := { stood := { row := tableAnewRow, standIns := [], harness := (true, "69c490af43db2219eb80402353fae929a02c8aa54901f31bec5b170d20aef16f"), looks := false }, kinds := [], alts := [], laidByText := true, laidKinds := [.data, .data, .data, .data, .pinned], laidTests := true, laidLooks := .later }
def TableAnewCardSaid : Prop := Claim7.holds Tryd.pinned (.plain (OpenSpec.ofChange tableAnewSpec)) tableAnewCard

/-- THE SECOND FORM's CARD OF 'cameolaw06.TableQuiet'. -/
def tableQuietUptoCard : Claim7 := { stood := { row := tableQuietUptoRow, standIns := [], harness := (true, "69c490af43db2219eb80402353fae929a02c8aa54901f31bec5b170d20aef16f"), looks := false }, kinds := [], alts := [], laidByText := true, laidKinds := [.data, .data, .data, .data, .pinned], laidTests := true, laidLooks := .later }
def TableQuietUptoCardSaid : Prop := Claim7.holds Tryd.pinned (.plain (OpenSpec.upto tableQuietSpec)) tableQuietUptoCard

/-- THE SECOND FORM's CARD OF 'cameolaw06.TableMap'. -/
def tableMapUptoCard : Claim7 := { stood := { row := tableMapUptoRow, standIns := [], harness := (true, "69c490af43db2219eb80402353fae929a02c8aa54901f31bec5b170d20aef16f"), looks := false }, kinds := [], alts := [], laidByText := true, laidKinds := [.data, .data, .data, .data, .pinned], laidTests := true, laidLooks := .later }
def TableMapUptoCardSaid : Prop := Claim7.holds Tryd.pinned (.plain (OpenSpec.upto tableMapSpec)) tableMapUptoCard

/-- THE SECOND FORM's CARD OF 'cameolaw06.TableAnew'. -/
def tableAnewUptoCard : Claim7 := { stood := { row := tableAnewUptoRow, standIns := [], harness := (true, "69c490af43db2219eb80402353fae929a02c8aa54901f31bec5b170d20aef16f"), looks := false }, kinds := [], alts := [], laidByText := true, laidKinds := [.data, .data, .data, .data, .pinned], laidTests := true, laidLooks := .later }
def TableAnewUptoCardSaid : Prop := Claim7.holds Tryd.pinned (.plain (OpenSpec.upto tableAnewSpec)) tableAnewUptoCard
end Rows
end Go.Proofs.YtmemceindohklaaDoor
