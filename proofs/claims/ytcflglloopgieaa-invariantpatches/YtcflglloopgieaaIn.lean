import Derived.Test.YtcflglloopgieaaIl
namespace Go.Proofs.Ytcflglloopgieaa
open Go Go.Proofs Go.Maps Go.RowKit FM
set_option linter.unusedSimpArgs false
set_option linter.unusedVariables false
set_option maxHeartbeats 1000000
def zeroL : DL := ⟨0, 0, 0, false, zeroV, ⟨⟨#[]⟩, 0⟩, zeroD⟩
theorem hold_grown {X Y : World} {t : Nat} {cs : List Value} {lv : Value} (h : Holds X t cs) (hl : t < X.heap.size) (hg : X.grownBy Y lv.ownBlock) (hn : lv.ownBlock ≠ some t) : Holds Y t cs := h.block (hg.block t hl (fun e => hn e.symm))
end Go.Proofs.Ytcflglloopgieaa
