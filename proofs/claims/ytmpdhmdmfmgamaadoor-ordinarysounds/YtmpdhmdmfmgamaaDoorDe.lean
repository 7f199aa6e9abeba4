import Derived.Test.YtmpdhmdmfmgamaaDoorDd
namespace Go.Proofs.YtmpdhmdmfmgamaaDoor
open Go Go.Proofs Go.RowKit FM
set_option linter.unusedSimpArgs false
set_option linter.unusedVariables false
theorem vv10 {w X : World} {k : Int} {b1 : Bool} {x : Nat} {s : ByteArray} {i : Int} {k2 : Int} {b2 : Bool} {x2 : Nat} {s2 : ByteArray} {i2 : Int} (h : Lie w X [.V ⟨k, b1, x, s, i⟩, .V ⟨k2, b2, x2, s2, i2⟩]) :
    X.cell? ⟨w.heap.size, 0, none⟩ = some (.int .i64 k) ∧ X.cell? ⟨w.heap.size, 1, none⟩ = some (.bool b1) ∧ X.cell? ⟨w.heap.size, 2, none⟩ = some (.float .f64 x) ∧ X.cell? ⟨w.heap.size, 3, none⟩ = some (.string s) ∧ X.cell? ⟨w.heap.size, 4, none⟩ = some (.int .i64 i) ∧ X.cell? ⟨w.heap.size + 1, 0, none⟩ = some (.int .i64 k2) ∧ X.cell? ⟨w.heap.size + 1, 1, none⟩ = some (.bool b2) ∧ X.cell? ⟨w.heap.size + 1, 2, none⟩ = some (.float .f64 x2) ∧ X.cell? ⟨w.heap.size + 1, 3, none⟩ = some (.string s2) ∧ X.cell? ⟨w.heap.size + 1, 4, none⟩ = some (.int .i64 i2) := by
  obtain ⟨-, a0, a1, a2, a3, a4⟩ := h.one
  obtain ⟨-, b0, b1, b2, b3, b4⟩ := h.two
  exact ⟨a0, a1, a2, a3, a4, b0, b1, b2, b3, b4⟩
end Go.Proofs.YtmpdhmdmfmgamaaDoor
