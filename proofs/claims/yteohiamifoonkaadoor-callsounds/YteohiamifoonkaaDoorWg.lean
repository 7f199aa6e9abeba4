import Derived.Test.YteohiamifoonkaaDoorWf
import Derived.LoopTactic
namespace Go.Proofs.YteohiamifoonkaaDoor
open Go.RowKit Go.Shelf

/-- v is a slice whose elements are the units l. -/
def Reads (w : World) (v : Value) (l : List Nat) : Prop :=
  (∃ A c, v = .slice A 0 c ∧ l = []) ∨ ∃ b off cap, v = .slice (some ⟨b, off, none⟩) l.length cap ∧ b < w.heap.size ∧ ∀ i, i < l.length → w.cell? ⟨b, off + i, none⟩ = some (.int .u16 (l.getD i 0 : Nat))
theorem Reads.same {w w' : World} {v : Value} {l : List Nat} (h : Reads w v l) (hb : Below w.heap.size w w') : Reads w' v l := by
  rcases h with h | ⟨b, off, cap, rfl, hlt, hc⟩
  · exact .inl h
  · exact .inr ⟨b, off, cap, rfl, Nat.lt_of_lt_of_le hlt hb.size, fun i hi => (hb.cell (p := ⟨b, off + i, none⟩) hlt).trans (hc i hi)⟩

theorem row_pair (a b : Nat) (r : List Nat) (h : (M.isHi a && M.isLo b) = true) : M.row (a :: b :: r) = (65536 + 1024 * (a - 55296) + (b - 56320)) :: M.row r := by
  simp only [M.row, h, if_true]
theorem row_single (a : Nat) (t : List Nat) (h : ∀ b r, t = b :: r → (M.isHi a && M.isLo b) = false) : M.row (a :: t) = a :: M.row t := M.row_cons_of a t h
theorem drop_getD (l : List Nat) (k : Nat) (h : k < l.length) : l.drop k = l.getD k 0 :: l.drop (k + 1) := by
  rw [List.drop_eq_getElem_cons h, List.getD_eq_getElem?_getD, List.getElem?_eq_getElem h]; rfl

end Go.Proofs.YteohiamifoonkaaDoor
