import Derived.Test.YtcflglloopgieaaIr
namespace Go.Proofs.Ytcflglloopgieaa
open Go Go.Proofs Go.Maps Go.RowKit FM
set_option linter.unusedSimpArgs false
set_option linter.unusedVariables false
set_option maxHeartbeats 1000000
/-- A slice of shapes with few properties and strings that can be copied. -/
def ReadsU (w : World) (A : Option Addr) (l : List SH) : Prop := ∀ j s, l[j]? = some s → SS s ∧ s.p.x < 2 ^ 64 ∧ s.ps.length ≤ 400 ∧ ∃ b off SA cap, A = some ⟨b, off, none⟩ ∧ b < w.heap.size ∧ ReadsP w SA s.ps ∧ w.rangeAt b (off + j * 8) (s.cs SA cap) ∧ s.ps.length ≤ cap
end Go.Proofs.Ytcflglloopgieaa
