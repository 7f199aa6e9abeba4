import Derived.Test.YtedgaaaloigpdaaDoorDr
import Derived.Test.YtedgaaaloigpdaaDoorDs
import Derived.Test.YtedgaaaloigpdaaDoorDt
namespace Go.Proofs.YtedgaaaloigpdaaDoor
open Go Go.Proofs Go.RowKit FM
set_option linter.unusedSimpArgs false
set_option linter.unusedVariables false
theorem whole_kinds {d : DD} (h : wholeV d = true) : kindV d = 2 ∨ kindV d = 3 := by
  rcases kind_cases d with hk | hk | hk | hk
  · exact absurd hk (whole_kind h)
  · unfold wholeV at h
    rw [hk] at h
    simp at h
  · exact Or.inl hk
  · exact Or.inr hk
/-- The law DescKinds at any descriptor. -/
theorem law_kinds (d : DD) (hd : FD d) (w : World) (hT : Lib.Utf8Tabs 1 2 w) : Calls Tryd.prog 3 #[d.agg] w fun e w' => e = .returned (.bool true) ∧ Below w.heap.size w w' := by
  cases hw : wholeV d
  · rcases kind_cases d with hk | hk | hk | hk
    · exact kinds_0f d hd hk hw w hT
    · exact kinds_1f d hd hk hw w hT
    · exact kinds_2f d hd hk hw w hT
    · exact kinds_3f d hd hk hw w hT
  · rcases whole_kinds hw with hk | hk
    · exact kinds_2t d hd hk hw w hT
    · exact kinds_3t d hd hk hw w hT
end Go.Proofs.YtedgaaaloigpdaaDoor
