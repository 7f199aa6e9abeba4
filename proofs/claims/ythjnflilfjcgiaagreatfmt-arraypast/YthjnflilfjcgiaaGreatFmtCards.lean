/-
  DERIVED. GIVEN WITH THE SEED: THE CARDS: each row of YthjnflilfjcgiaaGreatFmtRows.lean that lists a variable, with what it lists TIED to the program's text (the seventh form; the later family's looks); each row that meets fmt, with fmt's text TOLD by the authors' own Lean function (tested against real Go, not proved from fmt's source: count such statements apart). THE CARD IS WHAT COUNTS. Prove the row's statement (the work); the ties are given (YthjnflilfjcgiaaGreatFmtTie.lean); close each card by the builder's one call (the guide's Derived/Test/ToyasCard.lean, 'card_holds'). Laid BY PROGRAM, IN A SANDBOX (cutbox-door.mjs). By AI agents, Wed Nov 11 2026. No macro, syntax, notation, axiom, sorry.
-/
import Derived.Test.YthjnflilfjcgiaaGreatFmtRows
import GoSem.ClaimSeven
namespace Go.Proofs.YthjnflilfjcgiaaGreatFmt
namespace Rows

/-- THE TOLD AND TIED CARD OF 'cameolaw14.ArrayTells'. -/
def arrayTellsCard : Claim7 := { stood := { row := arrayTellsRow, standIns := [], harness := (true, "71905c41c0bfb6b1f69febc2690571ab80886dcab5aa2341eefd0ec2dfb8b413"), looks := true }, told := true, laidByText := true, laidKinds := [.data, .data, .data, .data, .pinned], laidTests := true, laidLooks := .later, goes := false }
def ArrayTellsToldSaid : Prop := Claim7.holds Tryz.pinned (.plain (OpenSpec.ofChange arrayTellsSpec)) arrayTellsCard
/-- ITS FALSE NEIGHBOUR. Refute it at one input. -/
def ArrayTellsToldWrongFalsely : Prop := Claim7.holds Tryz.pinned (.plain (OpenSpec.ofChange arrayTellsWrong)) arrayTellsCard

/-- THE TOLD AND TIED CARD OF 'cameolaw14.ArrayPast'. -/
def arrayPastCard : Claim7 := { stood := { row := arrayPastRow, standIns := [], harness := (true, "71905c41c0bfb6b1f69febc2690571ab80886dcab5aa2341eefd0ec2dfb8b413"), looks := true }, told := true, laidByText := true, laidKinds := [.data, .data, .data, .data, .pinned], laidTests := true, laidLooks := .later, goes := false }
def ArrayPastToldSaid : Prop := Claim7.holds Tryz.pinned (.plain (OpenSpec.ofChange arrayPastSpec)) arrayPastCard
/-- ITS FALSE NEIGHBOUR. Refute it at one input. -/
def ArrayPastToldWrongFalsely : Prop := Claim7.holds Tryz.pinned (.plain (OpenSpec.ofChange arrayPastWrong)) arrayPastCard
end Rows
end Go.Proofs.YthjnflilfjcgiaaGreatFmt
