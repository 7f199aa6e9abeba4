import Derived.Test.YtnlbapheggnlpabDoorWh
import Derived.LoopTactic
namespace Go.Proofs.YtnlbapheggnlpabDoor
open Go.RowKit Go.Shelf

theorem row_small (l : List Nat) (h16 : ∀ x ∈ l, x < 65536) : ∀ c ∈ M.row l, c ≤ 1114111 := (M.row_props l.length l (Nat.le_refl _) h16).1
theorem tail_bound : ∀ (n : Nat) (l : List Nat) (c d : Nat), M.tailN n l c = some d → d < 64 ^ n * (c + 1)
  | 0, _, c, d, h => by simp [M.tailN] at h; omega
  | n + 1, l, c, d, h => by
    unfold M.tailN at h
    split at h
    · simp at h
    · split at h
      · simp at h
      · rename_i b t hb
        have := tail_bound n t (64 * c + (b - 128)) d h
        have h2 : 64 ^ n * (64 * c + (b - 128) + 1) ≤ 64 ^ n * (64 * (c + 1)) := Nat.mul_le_mul_left _ (by omega)
        rw [Nat.pow_succ]
        have h3 : 64 ^ n * 64 * (c + 1) = 64 ^ n * (64 * (c + 1)) := by rw [Nat.mul_assoc]
        omega
end Go.Proofs.YtnlbapheggnlpabDoor
