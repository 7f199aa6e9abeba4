import Derived.Test.YtkpfikeggleenaaGreatDoorYi
namespace Go.Proofs.YtkpfikeggleenaaGreatDoor
open Go Go.Proofs Go.Maps Go.RowKit
set_option linter.unusedSimpArgs false
set_option linter.unusedVariables false
set_option maxHeartbeats 1000000
def undV : VV := ⟨1, false, 0, ⟨#[]⟩, 0⟩
def aB : ByteArray := ⟨#[97]⟩
theorem ex_build44u {o : Oper} {a : Act} {w : World} {x : Operand} (ho : o.op = .build 35 #[(0, x)]) (hx : a.eval x = .int .i64 1) : (execOp a.eval o).run Tryz.prog w = .ok (.value (.agg undV.cs.toArray)) w := by
  have e : (Instr.build 35 #[(0, .int .i64 1)]).run Tryz.prog w = .ok (.agg undV.cs.toArray) w := by kernel_rfl
  unfold execOp
  simp only [ho, List.map_toArray, List.map_cons, List.map_nil, hx]
  simp [e]
def itS : ByteArray := ⟨#[83, 121, 109, 98, 111, 108, 40, 83, 121, 109, 98, 111, 108, 46, 105, 116, 101, 114, 97, 116, 111, 114, 41]⟩
theorem it_words : wordsS (wkL[3]) = itS := by kernel_rfl
theorem und_des : desV undV = true := by kernel_rfl
theorem a_good : (sV aB).good = true := by kernel_rfl
/-- The registry moves on: what it is, that nothing else of the old changed. -/
theorem RG.ge_of {r m : Nat} {sv sv' : Value} {l l' : List SY} {w X : World} (h : ∀ b ∈ (RG.mk r m sv l).blocks, w.heap.size ≤ b) (hs : ∀ g, sv'.ownBlock = some g → sv.ownBlock = some g ∨ X.heap.size ≤ g) (hw : w.heap.size ≤ X.heap.size) : ∀ b ∈ (RG.mk r m sv' l').blocks, w.heap.size ≤ b := by
  intro b hb
  unfold RG.blocks at hb h
  simp only [List.mem_cons] at hb h
  rcases hb with hb | hb | hb
  · exact h b (.inl hb)
  · exact h b (.inr (.inl hb))
  · rcases hs b (by simpa using hb) with e | e
    · exact h b (.inr (.inr (by rw [e]; simp)))
    · omega
end Go.Proofs.YtkpfikeggleenaaGreatDoor
