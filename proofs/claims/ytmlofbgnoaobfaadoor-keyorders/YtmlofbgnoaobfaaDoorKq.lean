import Derived.Test.YtmlofbgnoaobfaaDoorKp
namespace Go.Proofs.YtmlofbgnoaobfaaDoor
open Go Go.Proofs Go.RowKit
set_option linter.unusedSimpArgs false
set_option linter.unusedVariables false
theorem two2 {w w1 : World} {c0 c1 d0 d1 : Value} {t u : TypeId} (hb : Below ((w.alloc (Obj.cells #[c0, c1] t)).alloc (Obj.cells #[d0, d1] u)).drew.heap.size ((w.alloc (Obj.cells #[c0, c1] t)).alloc (Obj.cells #[d0, d1] u)).drew w1) :
    w1.cell? ⟨w.heap.size, 1, none⟩ = some c1 ∧ w1.cell? ⟨w.heap.size + 1, 0, none⟩ = some d0 ∧ w1.cell? ⟨w.heap.size + 1, 1, none⟩ = some d1 ∧ w1.frozen? ⟨w.heap.size + 1, 0, none⟩ = false ∧ w1.frozen? ⟨w.heap.size + 1, 1, none⟩ = false ∧
    Below w.heap.size w w1 ∧ w1.heap[w.heap.size + 1]? = some (Obj.cells #[d0, d1] u) := by
  have h1 := hb.cell (p := ⟨w.heap.size, 1, none⟩) (by simp; omega)
  have h2 := hb.cell (p := ⟨w.heap.size + 1, 0, none⟩) (by simp)
  have h3 := hb.cell (p := ⟨w.heap.size + 1, 1, none⟩) (by simp)
  have h4 := hb.frozen (p := ⟨w.heap.size + 1, 0, none⟩) (by simp)
  have h5 := hb.frozen (p := ⟨w.heap.size + 1, 1, none⟩) (by simp)
  have h6 := hb.block (w.heap.size + 1) (by simp)
  simp [go_sem] at h1 h2 h3 h4 h5
  refine ⟨h1, h2, h3, h4, h5, ((kbelow2 w _ _).drew).trans (hb.mono (by simp; omega)), ?_⟩
  rw [h6]
  have e := heap_alloc_new (w.alloc (Obj.cells #[c0, c1] t)) (Obj.cells #[d0, d1] u)
  rw [show (w.alloc (Obj.cells #[c0, c1] t)).heap.size = w.heap.size + 1 by simp] at e
  exact e
set_option maxRecDepth 100000 in
theorem anew30 (s : ByteArray) (n : Int) (h : s.size ≤ 1048576) (w : World) : Calls Tryd.prog 30 #[keyV s n] w fun e w' => e = .returned (keyV s n) ∧ Below w.heap.size w w' := by
  have HC := hide (fun w => clone_any s w h)
  unfold keyV
  go_enter Tryd.func30, Tryd.ntmps30
  go_wp2_with fail
  go_region_with (go_at_call 43; refine (unhide HC _).mono ?_; rintro e w1 ⟨rfl, hb⟩; obtain ⟨c1, d0, d1, f0, f1, hB, hO⟩ := two2 hb; have HB := hide hB; have HO := hide hO; clear hb hB hO)
  all_goals
    have g0 : ((w1.setCell ⟨w.heap.size + 1, 0, none⟩ (.string s)).setCell ⟨w.heap.size + 1, 1, none⟩ (.int .i64 n)).cell? ⟨w.heap.size + 1, 0, none⟩ = some (.string s) := by
      simp [World.cell?, World.setCell, Array.getElem?_modify, unhide HO]
    have g1 : ((w1.setCell ⟨w.heap.size + 1, 0, none⟩ (.string s)).setCell ⟨w.heap.size + 1, 1, none⟩ (.int .i64 n)).cell? ⟨w.heap.size + 1, 1, none⟩ = some (.int .i64 n) := by
      simp [World.cell?, World.setCell, Array.getElem?_modify, unhide HO]
    have HG := hide (((unhide HB).setCell (p := ⟨w.heap.size + 1, 0, none⟩) (by simp) (.string s)).setCell (p := ⟨w.heap.size + 1, 1, none⟩) (by simp) (.int .i64 n))
    generalize (w1.setCell ⟨w.heap.size + 1, 0, none⟩ (.string s)).setCell ⟨w.heap.size + 1, 1, none⟩ (.int .i64 n) = W at *
    clear HB HO f0 f1 d0 d1 c1 HC
    go_wp2
    simp [bodyPost, results, Tryd.results30, go_sem, g0, g1]
    exact unhide HG
end Go.Proofs.YtmlofbgnoaobfaaDoor
