import Derived.Test.YtkpfikeggleenaaDoorYi
namespace Go.Proofs.YtkpfikeggleenaaDoor
open Go Go.Proofs Go.Maps Go.RowKit
set_option linter.unusedSimpArgs false
set_option linter.unusedVariables false
set_option maxHeartbeats 1000000
def undV : VV := ⟨1, false, 0, ⟨#[]⟩, 0⟩
def aB : ByteArray := ⟨#[97]⟩
theorem ex_build44u {o : Oper} {a : Act} {w : World} {x : Operand} (ho : o.op = .build 44 #[(0, x)]) (hx : a.eval x = .int .i64 1) : (execOp a.eval o).run Tryd.prog w = .ok (.value (.agg undV.cs.toArray)) w := by
  have e : (Instr.build 44 #[(0, .int .i64 1)]).run Tryd.prog w = .ok (.agg undV.cs.toArray) w := by kernel_rfl
  unfold execOp
  simp only [ho, List.map_toArray, List.map_cons, List.map_nil, hx]
  simp [e]
def itS : ByteArray := ⟨#[83, 121, 109, 98, 111, 108, 40, 83, 121, 109, 98, 111, 108, 46, 105, 116, 101, 114, 97, 116, 111, 114, 41]⟩
theorem it_words : wordsS (wkL[3]) = itS := by kernel_rfl
theorem und_des : desV undV = true := by kernel_rfl
theorem a_good : (sV aB).good = true := by kernel_rfl
/-- The registry moves on: what it is, that nothing else of the old changed. -/
theorem RG.ge_of {r m : Nat} {sv sv' : Value} {l l' : List SY} {w X : World} (h : ∀ b ∈ (RG.mk r m sv l).blocks, w.heap.size ≤ b) (hs : ∀ g, sv'.ownBlock = some g → sv.ownBlock = some g ∨ X.heap.size ≤ g) (hw : w.heap.size ≤ X.heap.size) : ∀ b ∈ (RG.mk r m sv' l').blocks, w.heap.size ≤ b := by
  intro b hb
  unfold RG.blocks at hb h
  simp only [List.mem_cons] at hb h
  rcases hb with hb | hb | hb
  · exact h b (.inl hb)
  · exact h b (.inr (.inl hb))
  · rcases hs b (by simpa using hb) with e | e
    · exact h b (.inr (.inr (by rw [e]; simp)))
    · omega
set_option maxRecDepth 100000 in
theorem works11 (w : World) (hT : Tabs w) : Calls Tryd.prog 11 #[] w fun e w' => e = .returned (.bool true) ∧ Below w.heap.size w w' := by
  have HN := hide (new12 w hT)
  have HT := hide hT
  clear hT
  go_enter Tryd.func11, Tryd.ntmps11
  go_wp2_with fail
  refine (unhide HN).mono ?_
  rintro e X1 ⟨⟨r, m, sv, l⟩, rfl, hI, hl, hge, hb⟩
  dsimp only at *
  subst hl
  have F1 := Fr.of_below hb []
  have T1 := (unhide HT).fr F1 (by simp)
  have C13 : Calls Tryd.prog 13 #[.pointer (some ⟨r, 0, none⟩), .agg undV.cs.toArray] X1 fun e w' => e = .returned (.tuple #[.int .i64 14, .int .i64 0]) ∧ ∃ sv2, (RG.mk r m sv2 (wkY ++ [SY.mk undV false])).Is w' 0 0 (fun _ => none) ∧ Fr X1 w' (RG.mk r m sv wkY).blocks ∧ (∀ g, sv2.ownBlock = some g → sv.ownBlock = some g ∨ X1.heap.size ≤ g) := make_ok ⟨r, m, sv, wkY⟩ undV X1 hI T1 und_des (by show 13 < 10000; omega)
  have HC := hide C13
  have H1 := hide (And.intro F1 (And.intro T1 (And.intro hge hI.ge)))
  clear C13 F1 T1 hge hb hI HN HT
  go_wp2_with (first | go_skip | ((with_reducible show wpList _ _ _ _ _ _); first | ((refine rd (by rfl) (ex_build44u rfl rfl) ?_); simp only [Act.put, List.setIfInBounds_toArray, List.set_cons_succ, List.set_cons_zero])))
  refine (unhide HC).mono ?_
  rintro e X2 ⟨rfl, sv2, hI2, hF2, hS2⟩
  obtain ⟨F1, T1, hge, h5⟩ := unhide H1
  have F2 : Fr w X2 [] := F1.trans hF2 (fun b hb => .inr (hge b hb))
  have T2 := T1.fr hF2 h5
  have hge2 : ∀ b ∈ (RG.mk r m sv2 (wkY ++ [SY.mk undV false])).blocks, w.heap.size ≤ b := RG.ge_of hge hS2 F1.size
  have C15 : Calls Tryd.prog 15 #[.pointer (some ⟨r, 0, none⟩), .string aB] X2 fun e w' => e = .returned (.tuple #[.int .i64 15, .int .i64 0]) ∧ ∃ sv3, (RG.mk r m sv3 (wkY ++ [SY.mk undV false] ++ [SY.mk (sV aB) true])).Is w' 1 1 (putS (fun _ => none) aB 15) ∧ Fr X2 w' (RG.mk r m sv2 (wkY ++ [SY.mk undV false])).blocks ∧ (∀ g, sv3.ownBlock = some g → sv2.ownBlock = some g ∨ X2.heap.size ≤ g) := for_new ⟨r, m, sv2, wkY ++ [SY.mk undV false]⟩ aB X2 hI2 T2 a_good rfl (by show 14 < 10000; omega) (by omega)
  replace HC := hide C15
  have H2 := hide (And.intro F2 (And.intro T2 (And.intro hge2 hI2.ge)))
  clear C15 F2 T2 hge2 hI2 hF2 hS2 F1 T1 hge h5 H1
  go_wp2_with fail
  refine (unhide HC).mono ?_
  rintro e X3 ⟨rfl, sv3, hI3, hF3, hS3⟩
  obtain ⟨F2, T2, hge2, h5⟩ := unhide H2
  have F3 : Fr w X3 [] := F2.trans hF3 (fun b hb => .inr (hge2 b hb))
  have T3 := T2.fr hF3 h5
  have C15 : Calls Tryd.prog 15 #[.pointer (some ⟨r, 0, none⟩), .string aB] X3 fun e w' => e = .returned (.tuple #[.int .i64 15, .int .i64 0]) ∧ Below X3.heap.size X3 w' := for_old ⟨r, m, sv3, _⟩ aB X3 hI3 T3 a_good 15 (by unfold putS; rw [if_pos rfl])
  replace HC := hide C15
  have H3 := hide (And.intro F3 (And.intro T3 hI3))
  clear C15 F3 T3 hI3 hF3 hS3 F2 T2 hge2 h5 H2
  go_wp2_with fail
  refine (unhide HC).mono ?_
  rintro e X4 ⟨rfl, hb4⟩
  obtain ⟨F3, T3, hI3⟩ := unhide H3
  have hI4 := hI3.on hb4
  have F4 := F3.on hb4
  have C25 : Calls Tryd.prog 25 #[.pointer (some ⟨r, 0, none⟩), .int .i64 4] X4 fun e w' => e = .returned (.tuple #[.string (wordsS wkL[3]), .int .i64 0]) ∧ Below X4.heap.size X4 w' := text_in ⟨r, m, sv3, _⟩ 3 ⟨sV wkL[3], false⟩ X4 hI4 rfl (by show 15 ≤ 100000; omega) (wk_good (List.getElem_mem _)).2
  rw [it_words] at C25
  unfold itS at C25
  replace HC := hide C25
  have H4 := hide (And.intro F4 hI4)
  clear C25 F4 hI4 F3 T3 hI3 hb4 H3
  go_wp2_with fail
  refine (unhide HC).mono ?_
  rintro e X5 ⟨rfl, hb5⟩
  have H5 := hide (And.intro ((unhide H4).1.on hb5) (count14 _ X5 ((unhide H4).2.on hb5)))
  clear hb5 H4 HC
  go_wp2_with fail
  refine (num16 0 ⟨by omega, by omega⟩ _).mono ?_
  rintro e X9 ⟨rfl, h9⟩
  rw [h9]
  clear h9 X9
  go_wp2_with fail
  refine (num16 0 ⟨by omega, by omega⟩ _).mono ?_
  rintro e X9 ⟨rfl, h9⟩
  rw [h9]
  clear h9 X9
  go_wp2_with fail
  refine (num16 0 ⟨by omega, by omega⟩ _).mono ?_
  rintro e X9 ⟨rfl, h9⟩
  rw [h9]
  clear h9 X9
  go_wp2_with fail
  refine (num16 0 ⟨by omega, by omega⟩ _).mono ?_
  rintro e X9 ⟨rfl, h9⟩
  rw [h9]
  clear h9 X9
  go_wp2_with fail
  have C14 : Calls Tryd.prog 14 #[.pointer (some ⟨r, 0, none⟩)] X5 fun e w' => e = .returned (.int .i64 15) ∧ w' = X5 := (unhide H5).2
  refine C14.mono ?_
  rintro e X6 ⟨rfl, h9⟩
  rw [h9]
  clear h9 X6 C14
  go_wp2
  go_ret
  exact ⟨rfl, (unhide H5).1.below⟩
end Go.Proofs.YtkpfikeggleenaaDoor
