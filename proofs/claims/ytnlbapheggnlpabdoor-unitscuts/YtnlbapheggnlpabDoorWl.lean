import Derived.Test.YtnlbapheggnlpabDoorWk
import Derived.Laws.OwnMore
import Derived.Deep.Cut
import Derived.LoopTactic
namespace Go.Proofs.YtnlbapheggnlpabDoor
open Go.RowKit Go.Shelf

theorem u16_get (l : List Nat) (j : Nat) (u : Value) (h : (l.map u16v)[j]? = some u) : j < l.length ∧ u = .int .u16 (l.getD j 0 : Nat) := by
  rw [List.getElem?_map] at h
  cases hj : l[j]? with
  | none => rw [hj] at h; simp at h
  | some x =>
    obtain ⟨h1, h2⟩ := List.getElem?_eq_some_iff.1 hj
    rw [hj] at h
    refine ⟨h1, ?_⟩
    simp only [Option.map_some, Option.some.injEq] at h
    rw [← h, List.getD_eq_getElem?_getD, hj]; rfl
theorem add_plain (b off j : Nat) : (⟨b, off, none⟩ : Addr).add j = ⟨b, off + j, none⟩ := by unfold Addr.add; split <;> simp_all

end Go.Proofs.YtnlbapheggnlpabDoor
