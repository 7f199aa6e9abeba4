import Derived.Test.YthilnaeomkppaaaGreatFmtQd
import Derived.RangeFuncNested
import Derived.RangeFuncBound
import Derived.RangeFuncCalls
import Derived.RangeFuncLeaves
import Derived.RangeFuncBox
import Derived.Shelf.Abstract
import Derived.Shelf.RegionOpen
import Derived.OwnWalkIn
import Derived.TacticsInMore
import Derived.LoopNIn
import Derived.LoopIn
import Derived.Maps.AppendAt
set_option linter.all false
namespace Go.Proofs.YthilnaeomkppaaaGreatFmt
section
open Go.RowKit Go.Shelf
attribute [local go_sem] Oper.semAt_some
/-- a code point; a code point and where it begins -/
abbrev CP := { c : Nat // c ≤ 1114111 }
abbrev PT := { x : Nat × Nat // x.2 ≤ 1114111 }
def wid (c : Nat) : Nat := if 65536 ≤ c then 2 else 1
def pts : Nat → List CP → List PT
  | _, [] => []
  | k, c :: r => ⟨(k, c.1), c.2⟩ :: pts (k + wid c.1) r
def encs (x : PT) : Array Value := #[.int .i64 (x.1.1 : Nat), .int .i32 (x.1.2 : Nat)]
def bytes (cs : List CP) : List Nat := (cs.map (·.1)).flatMap M.E

theorem tabs_size {w : World} (h : Lib.Utf8Tabs 4 5 w) : 6 ≤ w.heap.size := by
  have := (h.2 0 (by omega)).1
  rcases Nat.lt_or_ge 5 w.heap.size with h' | h'
  · omega
  · simp [World.cell?, Array.getElem?_eq_none h'] at this
theorem tabs_belowB {B : Nat} {w w' : World} (h : Lib.Utf8Tabs 4 5 w) (hB : 6 ≤ B) (hb : Below B w w') : Lib.Utf8Tabs 4 5 w' :=
  ⟨fun c hc => (hb.cell (p := ⟨4, c, none⟩) (by show 4 < B; omega)).trans (h.1 c hc), fun i hi => ⟨(hb.cell (p := ⟨5, 2 * i, none⟩) (by show 5 < B; omega)).trans (h.2 i hi).1, (hb.cell (p := ⟨5, 2 * i + 1, none⟩) (by show 5 < B; omega)).trans (h.2 i hi).2⟩⟩
theorem grown_of_below {w w' : World} (h : Below w.heap.size w w') : w.grownBy w' none := ⟨h.os, h.tape, h.output, h.size, fun k hk _ => h.block k hk⟩

theorem isEmpty_of_nil {u : ByteArray} (h : nums u = []) : u.toList.isEmpty = true := by
  unfold nums at h
  rw [List.map_eq_nil_iff] at h
  simp [Lib.toList_data, h]
theorem isEmpty_of_size {u : ByteArray} (h : 0 < u.size) : u.toList.isEmpty = false := by
  cases hE : u.toList.isEmpty with
  | false => rfl
  | true =>
    have e : u.data.toList = [] := by simpa [Lib.toList_data] using hE
    have : u.size = 0 := by rw [ByteArray.size, ← Array.length_toList, e]; rfl
    omega
theorem wid_le (c : Nat) : wid c ≤ (M.E c).length := by
  unfold wid M.E; repeat' split
  all_goals (simp; try omega)
