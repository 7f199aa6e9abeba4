/-
  Closed facts of the row of CallCatch over the whole program, part by part (no function starts a goroutine).
-/
import Derived.Test.YtmgflhhealdfoaaGreatDoorCards
import Derived.ProofKit
import Derived.Deep.DeepHandedRow
set_option linter.all false
namespace Go.Proofs.YtmgflhhealdfoaaGreatDoor.callCatch
open Go Go.Proofs
theorem goes_no {P : Program} {n : Nat} (hn : P.funcs.size = n) (h : ∀ i, i < n → (P.funcs[i]?).any Func.goes = false) (f : FuncId) : P.goes f = false := by
  have h1 : P.funcs.any Func.goes = false := by
    rw [Array.any_eq_false]
    intro i hi
    have := h i (hn ▸ hi)
    rw [Array.getElem?_eq_getElem hi] at this
    simpa using this
  have h2 : ((P.closure f).any fun g => (P.funcs[g]?).any Func.goes) = false := by
    rw [List.any_eq_false]
    intro g _
    by_cases hg : g < n
    · rw [h g hg]
      decide
    · rw [Array.getElem?_eq_none (hn ▸ Nat.le_of_not_lt hg)]
      decide
  unfold Program.goes
  rw [h1, h2]
  simp
theorem goes_part {P : Program} {lo m : Nat} (h : (List.range m).all (fun i => !((P.funcs[lo + i]?).any Func.goes)) = true) (i : Nat) (h1 : lo ≤ i) (h2 : i < lo + m) : (P.funcs[i]?).any Func.goes = false := by
  rw [List.all_eq_true] at h
  have := h (i - lo) (List.mem_range.2 (by omega))
  rw [show lo + (i - lo) = i by omega] at this
  simpa using this
set_option maxHeartbeats 0 in
set_option maxRecDepth 100000 in
theorem goes0 : (List.range 40).all (fun i => !((Tryz.prog.funcs[0 + i]?).any Func.goes)) = true := by kernel_rfl
set_option maxHeartbeats 0 in
set_option maxRecDepth 100000 in
theorem goes1 : (List.range 40).all (fun i => !((Tryz.prog.funcs[40 + i]?).any Func.goes)) = true := by kernel_rfl
set_option maxHeartbeats 0 in
set_option maxRecDepth 100000 in
theorem goes2 : (List.range 40).all (fun i => !((Tryz.prog.funcs[80 + i]?).any Func.goes)) = true := by kernel_rfl
set_option maxHeartbeats 0 in
set_option maxRecDepth 100000 in
theorem goes3 : (List.range 40).all (fun i => !((Tryz.prog.funcs[120 + i]?).any Func.goes)) = true := by kernel_rfl
set_option maxHeartbeats 0 in
set_option maxRecDepth 100000 in
theorem goes4 : (List.range 40).all (fun i => !((Tryz.prog.funcs[160 + i]?).any Func.goes)) = true := by kernel_rfl
set_option maxHeartbeats 0 in
set_option maxRecDepth 100000 in
theorem goes5 : (List.range 40).all (fun i => !((Tryz.prog.funcs[200 + i]?).any Func.goes)) = true := by kernel_rfl
set_option maxHeartbeats 0 in
set_option maxRecDepth 100000 in
theorem goes6 : (List.range 40).all (fun i => !((Tryz.prog.funcs[240 + i]?).any Func.goes)) = true := by kernel_rfl
set_option maxHeartbeats 0 in
set_option maxRecDepth 100000 in
theorem goes7 : (List.range 40).all (fun i => !((Tryz.prog.funcs[280 + i]?).any Func.goes)) = true := by kernel_rfl
set_option maxHeartbeats 0 in
set_option maxRecDepth 100000 in
theorem goes8 : (List.range 40).all (fun i => !((Tryz.prog.funcs[320 + i]?).any Func.goes)) = true := by kernel_rfl
set_option maxHeartbeats 0 in
set_option maxRecDepth 100000 in
theorem goes9 : (List.range 40).all (fun i => !((Tryz.prog.funcs[360 + i]?).any Func.goes)) = true := by kernel_rfl
set_option maxHeartbeats 0 in
set_option maxRecDepth 100000 in
theorem goes10 : (List.range 40).all (fun i => !((Tryz.prog.funcs[400 + i]?).any Func.goes)) = true := by kernel_rfl
set_option maxHeartbeats 0 in
set_option maxRecDepth 100000 in
theorem goes11 : (List.range 40).all (fun i => !((Tryz.prog.funcs[440 + i]?).any Func.goes)) = true := by kernel_rfl
set_option maxHeartbeats 0 in
set_option maxRecDepth 100000 in
theorem goes12 : (List.range 29).all (fun i => !((Tryz.prog.funcs[480 + i]?).any Func.goes)) = true := by kernel_rfl
theorem goes : ∀ i, i < 509 → (Tryz.prog.funcs[i]?).any Func.goes = false := by
  intro i hi
  by_cases h0 : i < 40
  · exact goes_part goes0 i (by omega) (by omega)
  by_cases h1 : i < 80
  · exact goes_part goes1 i (by omega) (by omega)
  by_cases h2 : i < 120
  · exact goes_part goes2 i (by omega) (by omega)
  by_cases h3 : i < 160
  · exact goes_part goes3 i (by omega) (by omega)
  by_cases h4 : i < 200
  · exact goes_part goes4 i (by omega) (by omega)
  by_cases h5 : i < 240
  · exact goes_part goes5 i (by omega) (by omega)
  by_cases h6 : i < 280
  · exact goes_part goes6 i (by omega) (by omega)
  by_cases h7 : i < 320
  · exact goes_part goes7 i (by omega) (by omega)
  by_cases h8 : i < 360
  · exact goes_part goes8 i (by omega) (by omega)
  by_cases h9 : i < 400
  · exact goes_part goes9 i (by omega) (by omega)
  by_cases h10 : i < 440
  · exact goes_part goes10 i (by omega) (by omega)
  by_cases h11 : i < 480
  · exact goes_part goes11 i (by omega) (by omega)
  by_cases h12 : i < 509
  · exact goes_part goes12 i (by omega) (by omega)
  omega
theorem goesBy : false = Rows.callCatchRow.goesBy Tryz.pinned.checked.prog := by
  have hs : Tryz.prog.funcs.size = 509 := by as_aux_lemma => kernel_rfl
  have h : Tryz.prog.goes 3 = false := goes_no hs goes 3
  have e : Tryz.prog.funcNamed "cameo/cameolaw11.CallCatch" = some 3 := by as_aux_lemma => kernel_rfl
  show false = (((Tryz.prog.funcNamed "cameo/cameolaw11.CallCatch").any Tryz.prog.goes) || false)
  rw [e]
  simp [h]
end Go.Proofs.YtmgflhhealdfoaaGreatDoor.callCatch
