import Derived.Test.YtcflglloopgieaaId
namespace Go.Proofs.Ytcflglloopgieaa
open Go Go.Proofs Go.Maps Go.RowKit FM
set_option linter.unusedSimpArgs false
set_option linter.unusedVariables false
set_option maxHeartbeats 1000000
def fO (l : List PR) (k : KK) : Option Nat := l.findIdx? (fun p => decide (p.k = k))
def oI : Option Nat → Int
  | some j => (j : Int)
  | none => -1
theorem fI_fO (l : List PR) (k : KK) : fI l k = oI (fO l k) := by
  unfold fI fO fx
  rw [List.findIdx?_eq_guard_findIdx_lt]
  by_cases h : l.findIdx (fun p => decide (p.k = k)) < l.length
  · simp [Option.guard, h, oI]
  · simp [Option.guard, h, oI]
end Go.Proofs.Ytcflglloopgieaa
