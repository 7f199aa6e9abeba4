import Derived.Test.YthilnaeomkppaaaGreatFmtQg
set_option linter.all false
namespace Go.Proofs.YthilnaeomkppaaaGreatFmt
section
open Go.RowKit FM
attribute [local go_sem] bits_run run_store_floatD
theorem strV_x {k : Int} {b : Bool} {x : Nat} {s : ByteArray} {i : Int} (hk : k ≠ 4) (hx : x ≠ 0) : goodV k b x s i = false := by
  unfold goodV inG strV
  simp [hk, hx]
