/-
  Closed facts of the row of CallCatch over the whole program, part by part (what joins the row to the program).
-/
import Derived.Test.YtmgflhhealdfoaaGreatDoorRows
import Derived.ProofKit
import Derived.Deep.DeepHandedRow
set_option linter.all false
namespace Go.Proofs.YtmgflhhealdfoaaGreatDoor.callCatch
open Go Go.Proofs
theorem andI {a b : Bool} (ha : a = true) (hb : b = true) : (a && b) = true := by rw [ha, hb]; rfl
set_option maxHeartbeats 0 in
set_option maxRecDepth 100000 in
theorem closed : joinedFacts Tryz.pinned.checked.prog 3 Tryz.f3 (OpenSpec.ofChange Rows.callCatchSpec).bare Rows.callCatchRow = true := by
  unfold joinedFacts
  repeat' (with_reducible refine andI ?_ ?_)
  all_goals as_aux_lemma => kernel_rfl
end Go.Proofs.YtmgflhhealdfoaaGreatDoor.callCatch
