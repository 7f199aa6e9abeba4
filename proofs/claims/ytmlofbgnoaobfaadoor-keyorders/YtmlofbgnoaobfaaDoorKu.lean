import Derived.Test.YtmlofbgnoaobfaaDoorKs
import Derived.Test.YtmlofbgnoaobfaaDoorShelfN
namespace Go.Proofs.YtmlofbgnoaobfaaDoor
open Go Go.Proofs Go.RowKit
set_option linter.unusedSimpArgs false
set_option linter.unusedVariables false
set_option maxHeartbeats 2000000 in
set_option maxRecDepth 100000 in
theorem small72 (u : Nat) (h : u < 100) (w : World) : Calls Tryd.prog 72 #[.int .u64 (u : Nat), .int .i64 10] w fun e w' => e = .returned (.string ⟨(Lib.decDigits u).toArray⟩) ∧ w' = w := by
  have z : (u : Int) < 100 := by omega
  have HS := hide (fun w => Tryd.internal_strconv_small u h w)
  generalize Lib.decDigits u = d at *
  go_enter Tryd.func72, Tryd.ntmps72
  go_wp2_with fail
  refine (unhide HS _).mono ?_
  rintro e w1 ⟨rfl, rfl⟩
  go_wp2
  go_ret
  exact ⟨rfl, rfl⟩
end Go.Proofs.YtmlofbgnoaobfaaDoor
