import Derived.Test.YtkpfikeggleenaaGreatDoorSa
import Derived.Test.YtkpfikeggleenaaGreatDoorDm
import Derived.Test.YtkpfikeggleenaaGreatDoorShelfS
import Derived.Sort.Statements
import Derived.Shelf.SlSortCmp.Insertion
namespace Go.Proofs.YtkpfikeggleenaaGreatDoor
open Go Go.Proofs Go.Shelf Go.RowKit Go.Lib Go.Sort
set_option linter.unusedSimpArgs false
set_option linter.unusedVariables false
/-- Texts. -/
abbrev GS := { s : ByteArray // vS s = true ∧ s.size ≤ 1048576 }
def cmpS (a b : GS) : Int := M.cmpL (unS a.1) (unS b.1)
theorem cmpS_neg (a b : GS) : cmpS a b = - cmpS b a := M.cmpL_neg _ _
theorem cmpS_le (a b c : GS) (h1 : cmpS a b ≤ 0) (h2 : cmpS b c ≤ 0) : cmpS a c ≤ 0 := M.cmpL_le _ _ _ h1 h2
theorem swoS : Go.Sort.SWO (ltOf cmpS) where
  irrefl a := by
    have := cmpS_neg a a
    simp only [ltOf, decide_eq_false_iff_not]
    omega
  trans a b c h1 h2 := by
    simp only [ltOf, decide_eq_true_eq] at *
    have n1 := cmpS_neg a b
    have n3 := cmpS_neg a c
    have l1 := cmpS_le a b c (by omega) (by omega)
    by_cases h : cmpS a c = 0
    · have l2 := cmpS_le b c a (by omega) (by omega)
      omega
    · omega
  ntrans a b c h1 h2 := by
    simp only [ltOf, decide_eq_false_iff_not] at *
    have n1 := cmpS_neg a b
    have n2 := cmpS_neg b c
    have n3 := cmpS_neg a c
    have l1 := cmpS_le c b a (by omega) (by omega)
    have n4 := cmpS_neg c a
    omega
instance : Inhabited GS := ⟨⟨⟨#[]⟩, by kernel_rfl, by decide⟩⟩
def encS (v : GS) : Value := .string v.1
theorem encS_one : OneCell encS := fun x => rfl
/-- A row of texts lies at the head of block blk. -/
def LiesS (w : World) (blk : Nat) (d : Array GS) : Prop := ∃ r : Array Value, w.heap[blk]? = some (.cells (d.map encS ++ r) 9 (0, 0))
theorem LiesS.lt {w : World} {blk : Nat} {d : Array GS} (h : LiesS w blk d) : blk < w.heap.size := by
  obtain ⟨r, h⟩ := h
  exact (Array.getElem?_eq_some_iff.1 h).1
theorem LiesS.holds {w : World} {blk : Nat} {d : Array GS} (h : LiesS w blk d) : Holds encS w blk 0 d := by
  intro j hj
  obtain ⟨r, h⟩ := h
  refine ⟨?_, ?_⟩
  · simp [go_sem, World.cell?, h, hj, Array.getElem?_append_left]
  · simp [go_sem, World.frozen?, h]
theorem heap_putS (w : World) (blk m : Nat) (d : Array GS) (os : Array Obj) (k : Nat) (hk : k < w.heap.size) : (sortWorld encS w blk 0 m d os).heap[k]? = if k = blk then (w.heap[k]?).map (onCells (putCells encS 0 d)) else w.heap[k]? := by
  unfold sortWorld grow putRow mapBlock Sort.ahead
  dsimp only
  rw [Array.getElem?_append_left (by simpa using hk), Array.getElem?_modify]
  split
  · rw [if_pos (by omega)]
  · rw [if_neg (by omega)]
theorem below_putS (w : World) (blk m : Nat) (d : Array GS) (os : Array Obj) (hblk : blk < w.heap.size) : Below blk w (sortWorld encS w blk 0 m d os) := by
  refine ⟨rfl, rfl, rfl, ?_, ?_⟩
  · simp [sortWorld, grow, putRow, mapBlock, Sort.ahead]
  · intro k hk
    rw [heap_putS _ _ _ _ _ _ (by omega), if_neg (by omega)]
theorem cmI_good {a b : ByteArray} (ha : vS a = true) (hb : vS b = true) : cmI a b = M.cmpL (unS a) (unS b) := by
  unfold cmI okC'
  rw [ha, hb]
  rfl
set_option maxRecDepth 100000 in
theorem compare36 (a b : GS) (w : World) (hT : Lib.Utf8Tabs 3 4 w) : Calls Tryz.prog 42 #[.string a.1, .string b.1] w fun e w' => e = .returned (.int .i64 (cmpS a b)) ∧ Below w.heap.size w w' := by
  have hc := compare_any a.1 b.1 (Nat.le_trans a.2.2 (by decide)) (Nat.le_trans b.2.2 (by decide)) w hT
  rw [cmI_good a.2.1 b.2.1] at hc
  have HC := hide hc
  clear hc hT
  unfold cmpS
  generalize M.cmpL (unS a.1) (unS b.1) = c at *
  generalize cmE a.1 b.1 = e0 at *
  go_enter Tryz.func42, Tryz.ntmps42
  go_wp2_with fail
  refine (unhide HC).mono ?_
  rintro e X ⟨rfl, hb⟩
  have HB := hide hb
  clear hb
  go_wp2
  go_ret
  exact ⟨rfl, unhide HB⟩
/-- The sort of a row of texts. -/
theorem sort35g (blk cap : Nat) (d : Array GS) (w : World) (hT : Lib.Utf8Tabs 3 4 w) (h5 : 5 ≤ blk) (hL : LiesS w blk d) (hsz : d.size < 4611686018427387904) :
    Calls Tryz.prog 41 #[.slice (some ⟨blk, 0, none⟩) d.size cap, .func (.func 42) #[] #[]] w fun e w' => e = .returned (.tuple #[]) ∧ Below blk w w' := by
  have eg : ∀ args w, (callFunc 42 args).run Tryz.prog w = .ok (.enter 42 args) w := enters_of Tryz.func42 (by kernel_rfl) rfl
  have hcmp : CmpLays1 Tryz.prog 42 #[] encS cmpS blk 0 d.size w := by
    intro m os dk hs x y
    have hT' : Lib.Utf8Tabs 3 4 (sortWorld encS w blk 0 m dk os) := tabs_belowB hT h5 (below_putS w blk m dk os hL.lt)
    exact calls_grows (compare36 x y _ hT')
  have hcon := Any.slices_SortFunc Tryz.sortS encS encS_one cmpS swoS 42 #[] blk 0 cap d w eg hcmp hL.holds hL.lt hsz
  change Calls Tryz.prog 41 _ _ _ at hcon
  refine hcon.mono ?_
  rintro e w' ⟨rfl, d', n, os, hp, hs, rfl⟩
  exact ⟨rfl, below_putS w blk n d' os hL.lt⟩
end Go.Proofs.YtkpfikeggleenaaGreatDoor
