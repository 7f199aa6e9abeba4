import Derived.Test.YtcflglloopgieaaIf
namespace Go.Proofs.Ytcflglloopgieaa
open Go Go.Proofs Go.Maps Go.RowKit FM
set_option linter.unusedSimpArgs false
set_option linter.unusedVariables false
set_option maxHeartbeats 1000000
theorem ex_indexA {o : Oper} {a : Act} {w : World} {x ix : Operand} {g off n cap : Nat} {A : Option Addr} (t : TypeId) (sz j : Nat) (hk : Try.prog.underlying t = some (.slice (Try.prog.elem t))) (he : ∀ w, (sizeOf (Try.prog.elem t)).run Try.prog w = .ok sz w) (ho : o.op = .indexAddr t x ix) (hx : a.eval x = .slice A n cap) (hA : A = some ⟨g, off, none⟩) (hix : a.eval ix = .int .i64 (j : Nat)) (hj : j < n) : (execOp a.eval o).run Try.prog w = .ok (.value (.pointer (some ⟨g, off + j * sz, none⟩))) w := by
  subst hA
  exact ex_indexG t sz j hk he ho hx hix hj
end Go.Proofs.Ytcflglloopgieaa
