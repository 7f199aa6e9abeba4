/-
  NARROWER THAN 'FOR EVERY INPUT', by the rows' own cells (each row's printed sentence says how): InvariantDiffs: laid · InvariantGoes: laid · InvariantFrozen: laid.
  DERIVED. THE GIVEN ROWS OF THIS SEAT. 3 by the template 'for every input the law returns true; each argument reads behind the call as it read before'; 0 by the template 'total and deterministic' (their statements: YtcflglloopgieaaDoorTotals.lean).
  GIVEN WITH THE SEED: the statements are not yours to turn. If you find one false, say at which input.
  Laid BY PROGRAM, IN A SANDBOX (cutbox-rows.mjs): the forced cells as the released guide's own fill.sh prints them over the translation edfbfadd808b0237… (all of the seat's roots in one cut). By AI agents, Wed Nov 11 2026. No macro, syntax, notation, axiom, sorry.
-/
import Derived.Test.YtcflglloopgieaaDoorChecked
import GoSem.PinnedTables
import GoSem.Claim
import GoSem.ClaimJoined
import GoSem.ClaimMapViews
import Derived.JoinedTies
import Derived.KernelRfl
namespace Go.Proofs.YtcflglloopgieaaDoor
/- THE CELL 'sum', in the pinned program and in every row, IS THE sha256 OF THE DUMP (.gsa) THAT YtcflglloopgieaaDoorProg.lean LOADS. Nothing in Lean hashes anything: it is a label: what it is worth is what the hold of that sum in a sandbox is worth. -/
noncomputable def Tryd.pinned : Pinned := { name := "ytcflglloopgieaadoor", sum := "edfbfadd808b0237f833cc2f16be9b5336afe4dba9bf91e023dc6389448dddc8", checked := Tryd.checked }
namespace Rows
def none {H : Type} : Left H := { results := [], args := [] }

/- WHAT THE LISTED PACKAGE-LEVEL VARIABLES READ AS WHEN THE CALL BEGINS. Each datum BY PROGRAM (the guide's laid-datum.mjs) off the statement by which the dump's own 'gosem.cut.vars' lays the variable. In a bare row this is a premise. The card (YtcflglloopgieaaDoorCards.lean) ties it to the program's text. -/
def laid_unicode_utf8_acceptRanges {H : Type} : DataW H := .agg [.agg [.lit (.int .u8 128), .lit (.int .u8 191)], .agg [.lit (.int .u8 160), .lit (.int .u8 191)], .agg [.lit (.int .u8 128), .lit (.int .u8 159)], .agg [.lit (.int .u8 144), .lit (.int .u8 191)], .agg [.lit (.int .u8 128), .lit (.int .u8 143)], .agg [.lit (.int .u8 0), .lit (.int .u8 0)], .agg [.lit (.int .u8 0), .lit (.int .u8 0)], .agg [.lit (.int .u8 0), .lit (.int .u8 0)], .agg [.lit (.int .u8 0), .lit (.int .u8 0)], .agg [.lit (.int .u8 0), .lit (.int .u8 0)], .agg [.lit (.int .u8 0), .lit (.int .u8 0)], .agg [.lit (.int .u8 0), .lit (.int .u8 0)], .agg [.lit (.int .u8 0), .lit (.int .u8 0)], .agg [.lit (.int .u8 0), .lit (.int .u8 0)], .agg [.lit (.int .u8 0), .lit (.int .u8 0)], .agg [.lit (.int .u8 0), .lit (.int .u8 0)]]
/-- One of Go's own tables, pinned by name: the form's constant. -/
def laid_unicode_utf8_first : DataW Unit := Go.Pinned.utf8First

/-- 'cameolaw10.InvariantDiffs': WHATEVER THE INPUT: true; the input reads as it did. -/
def invariantDiffsSpec : ChangeSpec := { name := "invariantDiffs", fn := fun _ => fun
  | [d1, d2] => { results := [.lit (.bool true)], args := [d1, d2] }
  | _ => none }
def invariantDiffsRow : OpenClaim := { program := "ytcflglloopgieaadoor", sum := "edfbfadd808b0237f833cc2f16be9b5336afe4dba9bf91e023dc6389448dddc8", func := "cameo/cameolaw10.InvariantDiffs", spec := "invariantDiffs", inPlace := ["math.Float64bits"], unfollowed := true, recurses := true, named := ["unicode/utf8.first", "unicode/utf8.acceptRanges"], plainKeys := false, apart := false, laid := [("unicode/utf8.acceptRanges", laid_unicode_utf8_acceptRanges), ("unicode/utf8.first", laid_unicode_utf8_first)] }
def InvariantDiffsSaid : Prop := invariantDiffsRow.holds Tryd.pinned (OpenSpec.ofChange invariantDiffsSpec)

/-- ITS FALSE NEIGHBOUR: 'it returns false'. Refute it at one input. -/
def invariantDiffsWrong : ChangeSpec := { name := "invariantDiffs", fn := fun _ => fun
  | [d1, d2] => { results := [.lit (.bool false)], args := [d1, d2] }
  | _ => none }
def InvariantDiffsWrongFalsely : Prop := invariantDiffsRow.holds Tryd.pinned (OpenSpec.ofChange invariantDiffsWrong)

/-- 'cameolaw10.InvariantGoes': WHATEVER THE INPUT: true; the input reads as it did. -/
def invariantGoesSpec : ChangeSpec := { name := "invariantGoes", fn := fun _ => fun
  | [d1, d2, d3] => { results := [.lit (.bool true)], args := [d1, d2, d3] }
  | _ => none }
def invariantGoesRow : OpenClaim := { program := "ytcflglloopgieaadoor", sum := "edfbfadd808b0237f833cc2f16be9b5336afe4dba9bf91e023dc6389448dddc8", func := "cameo/cameolaw10.InvariantGoes", spec := "invariantGoes", inPlace := ["math.Float64bits"], unfollowed := true, recurses := true, named := ["unicode/utf8.first", "unicode/utf8.acceptRanges"], plainKeys := false, apart := false, laid := [("unicode/utf8.acceptRanges", laid_unicode_utf8_acceptRanges), ("unicode/utf8.first", laid_unicode_utf8_first)] }
def InvariantGoesSaid : Prop := invariantGoesRow.holds Tryd.pinned (OpenSpec.ofChange invariantGoesSpec)

/-- ITS FALSE NEIGHBOUR: 'it returns false'. Refute it at one input. -/
def invariantGoesWrong : ChangeSpec := { name := "invariantGoes", fn := fun _ => fun
  | [d1, d2, d3] => { results := [.lit (.bool false)], args := [d1, d2, d3] }
  | _ => none }
def InvariantGoesWrongFalsely : Prop := invariantGoesRow.holds Tryd.pinned (OpenSpec.ofChange invariantGoesWrong)

/-- 'cameolaw10.InvariantFrozen': WHATEVER THE INPUT: true; the input reads as it did. -/
def invariantFrozenSpec : ChangeSpec := { name := "invariantFrozen", fn := fun _ => fun
  | [d1, d2] => { results := [.lit (.bool true)], args := [d1, d2] }
  | _ => none }
def invariantFrozenRow : OpenClaim := { program := "ytcflglloopgieaadoor", sum := "edfbfadd808b0237f833cc2f16be9b5336afe4dba9bf91e023dc6389448dddc8", func := "cameo/cameolaw10.InvariantFrozen", spec := "invariantFrozen", inPlace := ["math.Float64bits"], unfollowed := true, recurses := true, named := ["unicode/utf8.first", "unicode/utf8.acceptRanges"], plainKeys := false, apart := false, laid := [("unicode/utf8.acceptRanges", laid_unicode_utf8_acceptRanges), ("unicode/utf8.first", laid_unicode_utf8_first)] }
def InvariantFrozenSaid : Prop := invariantFrozenRow.holds Tryd.pinned (OpenSpec.ofChange invariantFrozenSpec)

/-- ITS FALSE NEIGHBOUR: 'it returns false'. Refute it at one input. -/
def invariantFrozenWrong : ChangeSpec := { name := "invariantFrozen", fn := fun _ => fun
  | [d1, d2] => { results := [.lit (.bool false)], args := [d1, d2] }
  | _ => none }
def InvariantFrozenWrongFalsely : Prop := invariantFrozenRow.holds Tryd.pinned (OpenSpec.ofChange invariantFrozenWrong)

/- THE SECOND FORM. 'bulk': how many values and letters a reading holds, each counted each time it is reached (what is shared counts as often as it is met; a slice's spare places count too). A statement '..UptoSaid' is the law's where the arguments, and the package variables that the reading takes, are together of bulk at most 1048576: NARROWER than '..Said'. Prove '..Said' where nothing that the law and all that it calls make is longer than what came in: it says more and counts as full. Else prove '..UptoSaid'. A law counts once. -/
mutual
def uptoBulk {H : Type} : DataW H → Nat
  | .lit (.string bytes) => bytes.length + 1
  | .lit _ => 1
  | .nil => 1
  | .ptr d => uptoBulk d + 1
  | .slice elems spare => uptoBulkAll elems + uptoBulkAll spare + 1
  | .agg parts => uptoBulkAll parts + 1
  | .iface _ d => uptoBulk d + 1
  | .map entries => uptoBulkEntries entries + 1
  | .held _ => 1
def uptoBulkAll {H : Type} : List (DataW H) → Nat
  | [] => 0
  | d :: r => uptoBulk d + uptoBulkAll r
def uptoBulkEntries {H : Type} : List (Lit × DataW H) → Nat
  | [] => 0
  | x :: r => uptoBulkEntry x + uptoBulkEntries r
def uptoBulkEntry {H : Type} : Lit × DataW H → Nat
  | (.string bytes, d) => bytes.length + uptoBulk d + 1
  | (_, d) => uptoBulk d + 1
 end
def uptoSmall : (H : Type) → List (DataW H) → Bool := fun _ ds => decide (uptoBulkAll ds ≤ 1048576)
def OpenSpec.upto (s : _root_.Go.ChangeSpec) : _root_.Go.OpenSpec := { _root_.Go.OpenSpec.ofChange s with cond := some uptoSmall }

/-- 'cameolaw10.InvariantDiffs', WHERE WHAT IT READS IS OF BULK AT MOST 1048576: true; the input reads as it did. -/
def invariantDiffsUptoRow : OpenClaim := { program := "ytcflglloopgieaadoor", sum := "edfbfadd808b0237f833cc2f16be9b5336afe4dba9bf91e023dc6389448dddc8", func := "cameo/cameolaw10.InvariantDiffs", spec := "invariantDiffs", inPlace := ["math.Float64bits"], unfollowed := true, recurses := true, named := ["unicode/utf8.first", "unicode/utf8.acceptRanges"], plainKeys := false, apart := false, laid := [("unicode/utf8.acceptRanges", laid_unicode_utf8_acceptRanges), ("unicode/utf8.first", laid_unicode_utf8_first)], narrowed := true }
def InvariantDiffsUptoSaid : Prop := invariantDiffsUptoRow.holds Tryd.pinned (OpenSpec.upto invariantDiffsSpec)

/-- 'cameolaw10.InvariantGoes', WHERE WHAT IT READS IS OF BULK AT MOST 1048576: true; the input reads as it did. -/
def invariantGoesUptoRow : OpenClaim := { program := "ytcflglloopgieaadoor", sum := "edfbfadd808b0237f833cc2f16be9b5336afe4dba9bf91e023dc6389448dddc8", func := "cameo/cameolaw10.InvariantGoes", spec := "invariantGoes", inPlace := ["math.Float64bits"], unfollowed := true, recurses := true, named := ["unicode/utf8.first", "unicode/utf8.acceptRanges"], plainKeys := false, apart := false, laid := [("unicode/utf8.acceptRanges", laid_unicode_utf8_acceptRanges), ("unicode/utf8.first", laid_unicode_utf8_first)], narrowed := true }
def InvariantGoesUptoSaid : Prop := invariantGoesUptoRow.holds Tryd.pinned (OpenSpec.upto invariantGoesSpec)

/-- 'cameolaw10.InvariantFrozen', WHERE WHAT IT READS IS OF BULK AT MOST 1048576: true; the input reads as it did. -/
def invariantFrozenUptoRow : OpenClaim := { program := "ytcflglloopgieaadoor", sum := "edfbfadd808b0237f833cc2f16be9b5336afe4dba9bf91e023dc6389448dddc8", func := "cameo/cameolaw10.InvariantFrozen", spec := "invariantFrozen", inPlace := ["math.Float64bits"], unfollowed := true, recurses := true, named := ["unicode/utf8.first", "unicode/utf8.acceptRanges"], plainKeys := false, apart := false, laid := [("unicode/utf8.acceptRanges", laid_unicode_utf8_acceptRanges), ("unicode/utf8.first", laid_unicode_utf8_first)], narrowed := true }
def InvariantFrozenUptoSaid : Prop := invariantFrozenUptoRow.holds Tryd.pinned (OpenSpec.upto invariantFrozenSpec)

end Rows
end Go.Proofs.YtcflglloopgieaaDoor
