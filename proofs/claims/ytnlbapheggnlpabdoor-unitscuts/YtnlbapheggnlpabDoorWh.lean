import Derived.Test.YtnlbapheggnlpabDoorWg
import Derived.Deep.RegionHeld3
import Derived.Deep.AppendLies
import Derived.LoopTactic
namespace Go.Proofs.YtnlbapheggnlpabDoor
open Go.RowKit Go.Shelf

def i64v (u : Nat) : Value := .int .i64 (u : Nat)
theorem below_app' {B n size : Nat} {w w' : World} {v : Value} {e : TypeId} {xs : List Value} {tmp : Obj} (hown : w.ownsRow B e size v n xs) (hB : B ≤ w.heap.size) (hgrow : (w.alloc tmp).grownBy w' v.ownBlock) : Below B w w' := by
  refine ((Below.refl B w).alloc hB tmp).grown hgrow (by simp; omega) fun j ej => ?_
  rcases hown.2 with ⟨rfl, _⟩ | ⟨g, cap, cur, rfl, hb, _, _⟩
  · simp [Value.ownBlock] at ej
  · obtain rfl : g = j := by simpa [Value.ownBlock] using ej
    exact hb

end Go.Proofs.YtnlbapheggnlpabDoor
