/-
  Proved here: for any list of values, whatever their fields hold, and any number, the law ArrayTells (promise 14.7: an array of values tells them, by Get of each index, and its length; a lesser length that is defined leaves just those below it, and a greater one behind it makes no element) returns true, and its arguments read as before.
  Conditions: the five tables of the library that the road names (powers of ten, two of package math/bits, two of the UTF-8 package) read as their texts lay them (the card ties them). The card tells fmt's texts; no text of fmt's is asked for on the way that is walked.
-/
import Derived.Test.YthjnflilfjcgiaaGreatFmtRx
import Derived.Test.YthjnflilfjcgiaaGreatFmtRr
set_option linter.all false
namespace Go.Proofs.YthjnflilfjcgiaaGreatFmt
set_option maxRecDepth 100000
set_option maxHeartbeats 0
theorem arrayTells_card:Rows.ArrayTellsToldSaid:=
 Claim7.holds_of_told_tied_any_at .later 3 Tryz.f3 "fmt.Sprintf" [] [] _ _ _ _ _ arrayTells.k_wf rfl rfl rfl arrayTells.laidOut arrayTells.k_maps rfl ⟨rfl, rfl, rfl, rfl, rfl, rfl, rfl⟩ rfl rfl arrayTells.k_tie arrayTells.k_fn Tryz.func3 arrayTells.k_read
  arrayTells.k_inst arrayTells.k_wrap arrayTells.stops.symm rfl arrayTells.stopKnobs.symm arrayTells.k_word
  arrayTells.k_in arrayTells.k_un arrayTells.k_rec arrayTells.k_named arrayTells.k_mp arrayTells.k_if arrayTells.k_mo arrayTells.k_lo arrayTells.k_wk rfl arrayTells.k_vars rfl rfl
  rfl rfl
  rfl arrayTells.k_main arrayTells.k_looks arrayTells.k_fun (by decide) arrayTells.k_goes arrayTells_row_tie
  (OpenClaim.moreEntering_of arrayTells.k_enter arrayTells.k_res arrayTells.k_heard arrayTells.k_io arrayTells.k_loo arrayTells.k_kinds arrayTells.k_pin arrayTells.k_keys arrayTells.k_lift arrayTells.k_make)
  ⟨_,WideRow.started_initial,arrayTells.quiet _⟩
  (fun os started _ H enc _=>arrayTells.lifted os started H enc) ⟨arrayTells.k_v1,arrayTells.k_v2⟩
#print axioms arrayTells_card
end Go.Proofs.YthjnflilfjcgiaaGreatFmt
