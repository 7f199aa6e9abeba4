import Derived.Test.YtkpfikeggleenaaGreatDoorYj
namespace Go.Proofs.YtkpfikeggleenaaGreatDoor
open Go Go.Proofs Go.Maps Go.RowKit
set_option linter.unusedSimpArgs false
set_option linter.unusedVariables false
set_option maxHeartbeats 1000000
/-- A slice whose elements are these values. -/
def ReadsV (w : World) (A : Option Addr) (l : List VV) : Prop := ∀ j u, l[j]? = some u → ∃ b off, A = some ⟨b, off, none⟩ ∧ b < w.heap.size ∧ w.rangeAt b (off + j * 5) u.cs
theorem ex_add1 {o : Oper} {a : Act} {w : World} {x y : Operand} {n : Nat} (ho : o.op = .binOp .add 3 x y 3) (hx : a.eval x = .int .i64 (n : Nat)) (hc : a.eval y = .int .i64 1) (hn : n < 1000000) : (execOp a.eval o).run Tryz.prog w = .ok (.value (.int .i64 ((n + 1 : Nat) : Int))) w := by
  unfold execOp
  simp only [ho, hx, hc]
  have e : IntKind.i64.wrap ((n : Int) + 1) = (n : Int) + 1 := by
    rw [IntKind.wrap_i64]
    omega
  simp [go_sem, eqGuard, e]
theorem ex_neqI {o : Oper} {a : Act} {w : World} {x y : Operand} {n : Int} (ho : o.op = .binOp .neq 3 x y 3) (hx : a.eval x = .int .i64 n) (hc : a.eval y = .int .i64 n) : (execOp a.eval o).run Tryz.prog w = .ok (.value (.bool false)) w := by
  unfold execOp
  simp only [ho, hx, hc]
  simp [go_sem, eqGuard]
theorem eqB_self (u : VV) : eqB u u = true := by
  unfold eqB
  simp
def NI (w wr : World) (r m : Nat) (ll : List SY) : Prop := ∃ sv, (RG.mk r m sv ll).Is wr 0 0 (fun _ => none) ∧ Fr w wr [] ∧ (∀ b ∈ (RG.mk r m sv ll).blocks, w.heap.size ≤ b)
end Go.Proofs.YtkpfikeggleenaaGreatDoor
