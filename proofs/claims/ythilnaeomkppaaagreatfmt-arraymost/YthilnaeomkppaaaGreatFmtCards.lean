/-
  DERIVED. GIVEN WITH THE SEED: THE CARDS: each row of YthilnaeomkppaaaGreatFmtRows.lean that lists a variable, with what it lists TIED to the program's text (the seventh form; the later family's looks); each row that meets fmt, with fmt's text TOLD by the authors' own Lean function (tested against real Go, not proved from fmt's source: count such statements apart). THE CARD IS WHAT COUNTS. Prove the row's statement (the work); the ties are given (YthilnaeomkppaaaGreatFmtTie.lean); close each card by the builder's one call (the guide's Derived/Test/ToyasCard.lean, 'card_holds'). Laid BY PROGRAM, IN A SANDBOX (cutbox-door.mjs). By AI agents, Wed Nov 11 2026. No macro, syntax, notation, axiom, sorry.
-/
import Derived.Test.YthilnaeomkppaaaGreatFmtRows
import GoSem.ClaimSeven
namespace Go.Proofs.YthilnaeomkppaaaGreatFmt
namespace Rows

/-- THE TOLD AND TIED CARD OF 'cameolaw14.ArrayMost'. -/
def arrayMostCard : Claim7 := { stood := { row := arrayMostRow, standIns := [], harness := (true, "351e770e85da7a1c9c5059a77cc64ad231eb84356eab7cdfdce657f130ad918b"), looks := true }, told := true, laidByText := true, laidKinds := [.data, .data, .data, .data, .pinned], laidTests := true, laidLooks := .later, goes := false }
def ArrayMostToldSaid : Prop := Claim7.holds Tryz.pinned (.plain (OpenSpec.ofChange arrayMostSpec)) arrayMostCard
/-- ITS FALSE NEIGHBOUR. Refute it at one input. -/
def ArrayMostToldWrongFalsely : Prop := Claim7.holds Tryz.pinned (.plain (OpenSpec.ofChange arrayMostWrong)) arrayMostCard
end Rows
end Go.Proofs.YthilnaeomkppaaaGreatFmt
