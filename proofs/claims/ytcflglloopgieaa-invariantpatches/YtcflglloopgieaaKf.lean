import Derived.Test.YtcflglloopgieaaIz
namespace Go.Proofs.Ytcflglloopgieaa
open Go Go.Proofs Go.Maps Go.RowKit FM
set_option linter.unusedSimpArgs false
set_option linter.unusedVariables false
set_option maxHeartbeats 1000000
theorem bfr {w X : World} (h : Below w.heap.size w X) : Fr w X [] := Fr.of_below h []
end Go.Proofs.Ytcflglloopgieaa
