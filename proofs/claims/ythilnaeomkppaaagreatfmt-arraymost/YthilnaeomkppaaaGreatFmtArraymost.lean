/-
  Proved here: for any list of values, whatever their fields hold, and any number, the law ArrayMost (promise 14.5: Values of an array, as many as are asked for at most; ErrRange where that number is below nought; ErrRef where there is no such object; of an array whose length was defined as the greatest one, ErrLong where too many are asked for, and else as many as are asked for, the first ones those of the list) returns true and leaves its arguments as they were.
  Conditions: the five tables of the library that the road names (powers of ten, two of package math/bits, two of the UTF-8 package) read as their texts lay them (the card ties them). The card tells fmt's texts; no text of fmt's is asked for on the way that is walked.
-/
import Derived.Test.YthilnaeomkppaaaGreatFmtRs
import Derived.Test.YthilnaeomkppaaaGreatFmtRt
import Derived.Test.YthilnaeomkppaaaGreatFmtRu
import Derived.Test.YthilnaeomkppaaaGreatFmtRv
set_option linter.all false
set_option maxRecDepth 100000
namespace Go.Proofs.YthilnaeomkppaaaGreatFmt
/-- THE CARD. -/
theorem arrayMost_card : Rows.ArrayMostToldSaid :=
  Claim7.holds_of_told_tied_any_at .later 3 Tryz.f3 "fmt.Sprintf" [] [] _ _ _ _ _ arrayMost.k_wf rfl rfl rfl arrayMost.laidOut arrayMost.k_maps rfl ⟨rfl, rfl, rfl, rfl, rfl, rfl, rfl⟩ rfl rfl arrayMost.k_tie arrayMost.k_fn Tryz.func3 arrayMost.k_read
    arrayMost.k_inst arrayMost.k_wrap arrayMost.stops.symm rfl arrayMost.stopKnobs.symm arrayMost.k_word
    arrayMost.k_in arrayMost.k_un arrayMost.k_rec arrayMost.k_named arrayMost.k_mp arrayMost.k_if arrayMost.k_mo arrayMost.k_lo arrayMost.k_wk rfl arrayMost.k_vars rfl rfl
    rfl rfl
    rfl arrayMost.k_main arrayMost.k_looks arrayMost.k_fun (by decide) arrayMost.k_goes arrayMost_row_tie
    (OpenClaim.moreEntering_of arrayMost.k_enter arrayMost.k_res arrayMost.k_heard arrayMost.k_io arrayMost.k_loo arrayMost.k_kinds arrayMost.k_pin arrayMost.k_keys arrayMost.k_lift arrayMost.k_make)
    ⟨_, WideRow.started_initial, arrayMost.quiet _⟩
    (fun os started _ H enc _ => arrayMost.lifted os started H enc) ⟨arrayMost.k_v1, arrayMost.k_v2⟩
#print axioms arrayMost_card
end Go.Proofs.YthilnaeomkppaaaGreatFmt
