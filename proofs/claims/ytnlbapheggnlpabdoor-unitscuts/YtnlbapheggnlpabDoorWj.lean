import Derived.Test.YtnlbapheggnlpabDoorWi
import Derived.LoopTactic
namespace Go.Proofs.YtnlbapheggnlpabDoor
open Go.RowKit Go.Shelf

theorem tail_len : ∀ (n : Nat) (l : List Nat) (c d : Nat), M.tailN n l c = some d → n ≤ l.length
  | 0, _, _, _, _ => Nat.zero_le _
  | n + 1, l, c, d, h => by
    unfold M.tailN at h
    split at h
    · simp at h
    · split at h
      · simp at h
      · rename_i b t hb
        have := tail_len n t _ d h
        simp; omega
theorem wrap_small {a : Nat} (h : a ≤ 1114111) : IntKind.i64.wrap (a : Int) = (a : Int) := by rw [IntKind.wrap_i64]; omega

/-- What read comes to. -/
def rdB (s : ByteArray) : Bool := (M.rd (nums s)).isSome
def rdL (s : ByteArray) : List Nat := (M.rd (nums s)).getD []

end Go.Proofs.YtnlbapheggnlpabDoor
