/-
  Proved here: for any float, a not a number, the infinities and both noughts among them, and any value, whatever its fields hold, the law ArrayPast (promise 14.2: a number that is no length, defined as an array's length, is thrown back as a RangeError and changes nothing; one that is, is taken) returns true, and its arguments read as before.
  Conditions: the five tables of the library that the road names (powers of ten, two of package math/bits, two of the UTF-8 package) read as their texts lay them (the card ties them). The card tells fmt's texts; no text of fmt's is asked for on the way that is walked.
-/
import Derived.Test.YthjnflilfjcgiaaGreatFmtRy
import Derived.Test.YthjnflilfjcgiaaGreatFmtRz
set_option linter.all false
namespace Go.Proofs.YthjnflilfjcgiaaGreatFmt
set_option maxRecDepth 100000
set_option maxHeartbeats 0
theorem arrayPast_card:Rows.ArrayPastToldSaid:=
 Claim7.holds_of_told_tied_any_at .later 4 Tryz.f4 "fmt.Sprintf" [] [] _ _ _ _ _ arrayPast.k_wf rfl rfl rfl arrayPast.laidOut arrayPast.k_maps rfl ⟨rfl, rfl, rfl, rfl, rfl, rfl, rfl⟩ rfl rfl arrayPast.k_tie arrayPast.k_fn Tryz.func4 arrayPast.k_read
  arrayPast.k_inst arrayPast.k_wrap arrayPast.stops.symm rfl arrayPast.stopKnobs.symm arrayPast.k_word
  arrayPast.k_in arrayPast.k_un arrayPast.k_rec arrayPast.k_named arrayPast.k_mp arrayPast.k_if arrayPast.k_mo arrayPast.k_lo arrayPast.k_wk rfl arrayPast.k_vars rfl rfl
  rfl rfl
  rfl arrayPast.k_main arrayPast.k_looks arrayPast.k_fun (by decide) arrayPast.k_goes arrayPast_row_tie
  (OpenClaim.moreEntering_of arrayPast.k_enter arrayPast.k_res arrayPast.k_heard arrayPast.k_io arrayPast.k_loo arrayPast.k_kinds arrayPast.k_pin arrayPast.k_keys arrayPast.k_lift arrayPast.k_make)
  ⟨_,WideRow.started_initial,arrayPast.quiet _⟩
  (fun os started _ H enc _=>arrayPast.lifted os started H enc) ⟨arrayPast.k_v1,arrayPast.k_v2⟩
#print axioms arrayPast_card
end Go.Proofs.YthjnflilfjcgiaaGreatFmt
