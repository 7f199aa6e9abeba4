import Derived.Test.YtedgaaaloigpdaaDoorEq
import Derived.Test.YtedgaaaloigpdaaDoorEr
import Derived.Test.YtedgaaaloigpdaaDoorEs
namespace Go.Proofs.YtedgaaaloigpdaaDoor
open Go Go.Proofs Go.RowKit FM
set_option linter.unusedSimpArgs false
set_option linter.unusedVariables false
theorem law_takes (x : Bool) (n d : DD) (hn : FD n) (hd : FD d) (w : World) (hT : Lib.Utf8Tabs 1 2 w) : Calls Tryd.prog 5 #[.bool x, n.agg, d.agg] w fun e w' => e = .returned (.bool true) ∧ Below w.heap.size w w' := by
  by_cases hE : appE n d = 0
  · cases hB : appB x n d
    · exact takes_not x n d hn hd hE hB w hT
    · obtain ⟨hk, -, -⟩ := app_took hB
      obtain ⟨e1, e2, e3⟩ := kind_keys hk
      obtain ⟨-, q⟩ := (kind_iff d).1 hk
      rw [← e1, ← e2, ← e3] at q
      cases hv : (d.v.k != 0)
      · cases hg : (d.g.k != 0)
        · cases hs : (d.s.k != 0)
          · exact takes_000 x n d hn hd hB hv hg hs w hT
          · exact takes_001 x n d hn hd hB hv hg hs w hT
        · cases hs : (d.s.k != 0)
          · exact takes_010 x n d hn hd hB hv hg hs w hT
          · exact takes_011 x n d hn hd hB hv hg hs w hT
      · rw [hv] at q
        simp only [Bool.true_or, Bool.true_and, Bool.or_eq_false_iff] at q
        exact takes_100 x n d hn hd hB hv q.1 q.2 w hT
  · exact takes_err x n d hn hd hE w hT
end Go.Proofs.YtedgaaaloigpdaaDoor
