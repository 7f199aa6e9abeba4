import Derived.Test.YtdlbciiekghkaaaDoorSc
import Derived.Test.YtdlbciiekghkaaaDoorSd
import Derived.Test.YtdlbciiekghkaaaDoorDm
import Derived.Test.YtdlbciiekghkaaaDoorShelfS
namespace Go.Proofs.YtdlbciiekghkaaaDoor
open Go Go.Proofs Go.Shelf Go.RowKit Go.Lib Go.Sort FM
instance : Inhabited GV := ⟨⟨⟨1, false, 0, ByteArray.empty, 0⟩, by decide +kernel⟩⟩
def encG (v : GV) : Value := v.1.ifc
theorem encG_one : OneCell encG := by
  intro x
  unfold encG VV.ifc
  repeat' split
  all_goals rfl
/-- A row of values lies at the head of block blk. -/
def Lies (w : World) (blk : Nat) (d : Array GV) : Prop := ∃ r : Array Value, w.heap[blk]? = some (.cells (d.map encG ++ r) 63 (0, 0))
theorem Lies.lt {w : World} {blk : Nat} {d : Array GV} (h : Lies w blk d) : blk < w.heap.size := by
  obtain ⟨r, h⟩ := h
  exact (Array.getElem?_eq_some_iff.1 h).1
theorem Lies.holds {w : World} {blk : Nat} {d : Array GV} (h : Lies w blk d) : Holds encG w blk 0 d := by
  intro j hj
  obtain ⟨r, h⟩ := h
  refine ⟨?_, ?_⟩
  · simp [go_sem, World.cell?, h, hj, Array.getElem?_append_left]
  · simp [go_sem, World.frozen?, h]
theorem heap_put (w : World) (blk m : Nat) (d : Array GV) (os : Array Obj) (k : Nat) (hk : k < w.heap.size) : (sortWorld encG w blk 0 m d os).heap[k]? = if k = blk then (w.heap[k]?).map (onCells (putCells encG 0 d)) else w.heap[k]? := by
  unfold sortWorld grow putRow mapBlock Sort.ahead
  dsimp only
  rw [Array.getElem?_append_left (by simpa using hk), Array.getElem?_modify]
  split
  · rw [if_pos (by omega)]
  · rw [if_neg (by omega)]
theorem below_put (w : World) (blk m : Nat) (d : Array GV) (os : Array Obj) (hblk : blk < w.heap.size) : Below blk w (sortWorld encG w blk 0 m d os) := by
  refine ⟨rfl, rfl, rfl, ?_, ?_⟩
  · simp [sortWorld, grow, putRow, mapBlock, Sort.ahead]
  · intro k hk
    rw [heap_put _ _ _ _ _ _ (by omega), if_neg (by omega)]
theorem lies_put {w : World} {blk : Nat} {d : Array GV} (m : Nat) (d' : Array GV) (os : Array Obj) (h : Lies w blk d) (hs : d'.size = d.size) : Lies (sortWorld encG w blk 0 m d' os) blk d' := by
  have hl := h.lt
  obtain ⟨r, h⟩ := h
  refine ⟨r, ?_⟩
  rw [heap_put _ _ _ _ _ _ hl, if_pos rfl, h]
  simp only [Option.map_some, onCells, putCells]
  congr 2
  apply Array.ext
  · simp [hs]
  · intro j h1 h2
    simp only [Array.size_mapIdx, Array.size_append, Array.size_map] at h1 h2
    by_cases hj : j < d.size
    · have hj' : j < d'.size := by omega
      simp [hj', Array.getElem_append_left]
    · have hj' : ¬ j < d'.size := by omega
      have e1 : (d.map encG).size ≤ j := by simp; omega
      have e2 : (d'.map encG).size ≤ j := by simp; omega
      simp [Array.getElem_append_right e1, Array.getElem_append_right e2, hs]
      intro h
      omega
theorem sort44 (blk cap : Nat) (d : Array GV) (w : World) (hT : Lib.Utf8Tabs 1 2 w) (h3 : 3 ≤ blk) (hL : Lies w blk d) (hsz : d.size < 4611686018427387904) :
    Calls Tryd.prog 44 #[.slice (some ⟨blk, 0, none⟩) d.size cap, .func (.func 45) #[] #[]] w fun e w' => e = .returned (.tuple #[]) ∧ ∃ d' : Array GV, d'.toList.Perm d.toList ∧ SortedIn (ltOf cmpG) 0 d.size d' ∧ Lies w' blk d' ∧ Below blk w w' := by
  have eg : ∀ args w, (callFunc 45 args).run Tryd.prog w = .ok (.enter 45 args) w := enters_of Tryd.func45 (by kernel_rfl) rfl
  have hcmp : CmpLays1 Tryd.prog 45 #[] encG cmpG blk 0 d.size w := by
    intro m os dk hs x y
    have hT' : Lib.Utf8Tabs 1 2 (sortWorld encG w blk 0 m dk os) := tabs_belowB hT h3 (below_put w blk m dk os hL.lt)
    exact calls_grows (compareV_any x.1 y.1 x.2.1 y.2.1 x.2.2 y.2.2 _ hT')
  have hcon := Any.slices_SortFunc Tryd.sortI encG encG_one cmpG swo 45 #[] blk 0 cap d w eg hcmp hL.holds hL.lt hsz
  change Calls Tryd.prog 44 _ _ _ at hcon
  refine hcon.mono ?_
  rintro e w' ⟨rfl, d', n, os, hp, hs, rfl⟩
  have hz : d'.size = d.size := hp.1
  refine ⟨rfl, d', ?_, hs, lies_put n d' os hL hz, below_put w blk n d' os hL.lt⟩
  have := hp.2.2
  simp only [Array.toList_extract, List.extract_eq_take_drop, List.drop_zero, Nat.sub_zero] at this
  rwa [List.take_of_length_le (by simp [hz]), List.take_of_length_le (by simp)] at this
end Go.Proofs.YtdlbciiekghkaaaDoor
