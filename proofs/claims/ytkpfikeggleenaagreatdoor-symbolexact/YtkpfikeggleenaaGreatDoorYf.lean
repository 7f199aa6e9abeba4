import Derived.Test.YtkpfikeggleenaaGreatDoorYe
namespace Go.Proofs.YtkpfikeggleenaaGreatDoor
open Go Go.Proofs Go.Maps Go.RowKit
set_option linter.unusedSimpArgs false
set_option linter.unusedVariables false
set_option maxHeartbeats 1000000
theorem ret_t3 {fn : Func} {R : Ending → World → Prop} {a : Act} {w : World} {r q p : Nat} {v1 v2 v3 : Value} (hr : fn.results = #[.tmp r, .tmp q, .tmp p]) (hdf : a.defers = []) (h1 : a.tmps.getD r undef = v1) (h2 : a.tmps.getD q undef = v2) (h3 : a.tmps.getD p undef = v3) (h : R (.returned (.tuple #[v1, v2, v3])) w) : bodyPost Tryz.prog fn R .ret a w := by
  refine ⟨hdf, _, ?_, h⟩
  simp only [Array.getD_eq_getD_getElem?] at h1 h2 h3
  unfold results
  simp [hr, h1, h2, h3]
  try rfl
def kfS (y : SY) : ByteArray := if y.k then y.v.s else ⟨#[]⟩
theorem ex_build77 {o : Oper} {a : Act} {w : World} {x : Operand} {v : VV} (ho : o.op = .build 77 #[(0, x)]) (hx : a.eval x = .agg v.cs.toArray) : (execOp a.eval o).run Tryz.prog w = .ok (.value (.agg (SY.mk v false).cs.toArray)) w := by
  have e : (Instr.build 77 #[(0, .agg v.cs.toArray)]).run Tryz.prog w = .ok (.agg (SY.mk v false).cs.toArray) w := by kernel_rfl
  unfold execOp
  simp only [ho, List.map_toArray, List.map_cons, List.map_nil, hx]
  simp [e]
theorem ex_build77k {o : Oper} {a : Act} {w : World} {x y : Operand} {v : VV} (ho : o.op = .build 77 #[(0, x), (1, y)]) (hx : a.eval x = .agg v.cs.toArray) (hy : a.eval y = .bool true) : (execOp a.eval o).run Tryz.prog w = .ok (.value (.agg (SY.mk v true).cs.toArray)) w := by
  have e : (Instr.build 77 #[(0, .agg v.cs.toArray), (1, .bool true)]).run Tryz.prog w = .ok (.agg (SY.mk v true).cs.toArray) w := by kernel_rfl
  unfold execOp
  simp only [ho, List.map_toArray, List.map_cons, List.map_nil, hx, hy]
  simp [e]
set_option maxRecDepth 100000 in
theorem keyFor_out (R : RG) (i : Int) (w : World) {n sz : Nat} {F : ByteArray → Option Nat} (hR : R.Is w n sz F) (h : i < 1 ∨ (R.l.length : Int) < i) : Calls Tryz.prog 23 #[.pointer (some ⟨R.r, 0, none⟩), .int .i64 i] w fun e w' => e = .returned (.tuple #[.string ⟨#[]⟩, .bool false, .int .i64 7]) ∧ Below w.heap.size w w' := by
  have LL := hide (Hq.nil w [])
  have HC := hide (at_out R i w hR h)
  unfold SY.agg at HC
  clear hR h
  go_enter Tryz.func23, Tryz.ntmps23
  go_wp2_with fail
  refine (unhide HC).mono ?_
  rintro e X0 ⟨rfl, hb⟩
  replace LL := hide ((unhide LL).on hb)
  clear hb
  go_wp2_with (first | go_skip | ((with_reducible show wpList _ _ _ _ _ _); first | ((refine alG 77 (zeroY.cs) (by rfl) rfl (fun w => by kernel_rfl) (Nat.succ_pos _) (unhide LL) ?_); intro X1 B1 hE1 L1 hb1; have hB1 := hide (Nat.le_trans (unhide LL).fr.size (Nat.le_of_eq hE1.symm)); replace LL := hide L1; clear L1 hb1 hE1; simp only [Act.put, List.setIfInBounds_toArray, List.set_cons_succ, List.set_cons_zero]) | ((refine st (vs := zeroY.cs) 0 77 (by rfl) rfl rfl rfl rfl (ycs_one _) (siz77) (unhide LL) rfl (by simp [cput, ycs_length, vcs_length, SY.cs, VV.cs]) (Or.inr (unhide hB1)) ?_); intro X3 L3 hf3 hs3; replace LL := hide L3; clear L3 hf3 hs3; simp only [Act.put, List.setIfInBounds_toArray, List.set_cons_succ, List.set_cons_zero])))
  exact ret_t3 rfl rfl rfl rfl rfl ⟨rfl, (unhide LL).fr.below⟩
set_option maxRecDepth 100000 in
theorem keyFor_in (R : RG) (j : Nat) (y : SY) (w : World) {n sz : Nat} {F : ByteArray → Option Nat} (hR : R.Is w n sz F) (hy : R.l[j]? = some y) (hl : R.l.length ≤ 100000) : Calls Tryz.prog 23 #[.pointer (some ⟨R.r, 0, none⟩), .int .i64 ((j + 1 : Nat) : Int)] w fun e w' => e = .returned (.tuple #[.string (kfS y), .bool y.k, .int .i64 0]) ∧ Below w.heap.size w w' := by
  have LL := hide (Hq.nil w [])
  have HC := hide (at_in R j y w hR hy hl)
  have HS := hide (fun X => clone_any y.v.s X (hR.sml y (List.mem_of_getElem? hy)))
  unfold SY.agg at HC
  clear hR hy hl
  unfold kfS
  generalize ((j + 1 : Nat) : Int) = J at *
  obtain ⟨v, k⟩ := y
  dsimp only at *
  cases k
  · go_enter Tryz.func23, Tryz.ntmps23
    go_wp2_with fail
    refine (unhide HC).mono ?_
    rintro e X0 ⟨rfl, hb⟩
    replace LL := hide ((unhide LL).on hb)
    clear hb
    go_wp2_with (first | go_skip | ((with_reducible show wpList _ _ _ _ _ _); first | ((refine alG 77 (zeroY.cs) (by rfl) rfl (fun w => by kernel_rfl) (Nat.succ_pos _) (unhide LL) ?_); intro X1 B1 hE1 L1 hb1; have hB1 := hide (Nat.le_trans (unhide LL).fr.size (Nat.le_of_eq hE1.symm)); replace LL := hide L1; clear L1 hb1 hE1; simp only [Act.put, List.setIfInBounds_toArray, List.set_cons_succ, List.set_cons_zero]) | ((refine st (vs := (SY.mk v false).cs) 0 77 (by rfl) rfl rfl rfl rfl (ycs_one _) (siz77) (unhide LL) rfl (by simp [cput, ycs_length, vcs_length, SY.cs, VV.cs]) (Or.inr (unhide hB1)) ?_); intro X3 L3 hf3 hs3; replace LL := hide L3; clear L3 hf3 hs3; simp only [Act.put, List.setIfInBounds_toArray, List.set_cons_succ, List.set_cons_zero]) | ((refine rd (by rfl) (ex_load1 4 Tryz.isAgg4 rfl rfl ((unhide LL).get 0 rfl) rfl) ?_); simp only [Act.put, List.setIfInBounds_toArray, List.set_cons_succ, List.set_cons_zero])))
    exact ret_t3 rfl rfl rfl rfl rfl ⟨rfl, (unhide LL).fr.below⟩
  · go_enter Tryz.func23, Tryz.ntmps23
    go_wp2_with fail
    refine (unhide HC).mono ?_
    rintro e X0 ⟨rfl, hb⟩
    replace LL := hide ((unhide LL).on hb)
    clear hb
    go_wp2_with (first | go_skip | ((with_reducible show wpList _ _ _ _ _ _); first | ((refine alG 77 (zeroY.cs) (by rfl) rfl (fun w => by kernel_rfl) (Nat.succ_pos _) (unhide LL) ?_); intro X1 B1 hE1 L1 hb1; have hB1 := hide (Nat.le_trans (unhide LL).fr.size (Nat.le_of_eq hE1.symm)); replace LL := hide L1; clear L1 hb1 hE1; simp only [Act.put, List.setIfInBounds_toArray, List.set_cons_succ, List.set_cons_zero]) | ((refine st (vs := (SY.mk v true).cs) 0 77 (by rfl) rfl rfl rfl rfl (ycs_one _) (siz77) (unhide LL) rfl (by simp [cput, ycs_length, vcs_length, SY.cs, VV.cs]) (Or.inr (unhide hB1)) ?_); intro X3 L3 hf3 hs3; replace LL := hide L3; clear L3 hf3 hs3; simp only [Act.put, List.setIfInBounds_toArray, List.set_cons_succ, List.set_cons_zero]) | ((refine rd (by rfl) (ex_load1 4 Tryz.isAgg4 rfl rfl ((unhide LL).get 0 rfl) rfl) ?_); simp only [Act.put, List.setIfInBounds_toArray, List.set_cons_succ, List.set_cons_zero]) | ((refine rd (by rfl) (ex_load1 9 Tryz.isAgg9 rfl rfl ((unhide LL).get 0 rfl) rfl) ?_); simp only [Act.put, List.setIfInBounds_toArray, List.set_cons_succ, List.set_cons_zero])))
    refine (unhide HS _).mono ?_
    rintro e X5 ⟨rfl, hb⟩
    replace LL := hide ((unhide LL).on hb)
    clear hb
    go_wp2
    exact ret_t3 rfl rfl rfl rfl rfl ⟨rfl, (unhide LL).fr.below⟩
theorem ex_build44z {o : Oper} {a : Act} {w : World} (ho : o.op = .build 35 #[]) : (execOp a.eval o).run Tryz.prog w = .ok (.value (.agg zeroV.cs.toArray)) w := by
  have e : (Instr.build 35 #[]).run Tryz.prog w = .ok (.agg zeroV.cs.toArray) w := by kernel_rfl
  unfold execOp
  simp only [ho, List.map_toArray, List.map_nil]
  simp [e]
set_option maxRecDepth 100000 in
theorem desc_out (R : RG) (i : Int) (w : World) {n sz : Nat} {F : ByteArray → Option Nat} (hR : R.Is w n sz F) (h : i < 1 ∨ (R.l.length : Int) < i) : Calls Tryz.prog 25 #[.pointer (some ⟨R.r, 0, none⟩), .int .i64 i] w fun e w' => e = .returned (.tuple #[zeroV.agg, .int .i64 7]) ∧ Below w.heap.size w w' := by
  have LL := hide (Hq.nil w [])
  have HR := hide hR
  have HC := hide (fun X (hX : Fr w X []) => at_out R i X (hR.fr hX (by simp)) h)
  unfold SY.agg at HC
  rw [vagg]
  clear hR h
  go_enter Tryz.func25, Tryz.ntmps25
  go_wp2_with (first | go_skip | ((with_reducible show wpList _ _ _ _ _ _); first | ((refine alG 35 (zeroV.cs) (by rfl) rfl (fun w => by kernel_rfl) (Nat.succ_pos _) (unhide LL) ?_); intro X2 B2 hE2 L2 hb2; have hB2 := hide (Nat.le_trans (unhide LL).fr.size (Nat.le_of_eq hE2.symm)); replace LL := hide L2; clear L2 hb2 hE2; simp only [Act.put, List.setIfInBounds_toArray, List.set_cons_succ, List.set_cons_zero])))
  refine (unhide HC _ (unhide LL).fr).mono ?_
  rintro e X0 ⟨rfl, hb⟩
  replace LL := hide ((unhide LL).on hb)
  clear hb
  go_wp2_with (first | go_skip | ((with_reducible show wpList _ _ _ _ _ _); first | ((refine alG 77 (zeroY.cs) (by rfl) rfl (fun w => by kernel_rfl) (Nat.succ_pos _) (unhide LL) ?_); intro X1 B1 hE1 L1 hb1; have hB1 := hide (Nat.le_trans (unhide LL).fr.size (Nat.le_of_eq hE1.symm)); replace LL := hide L1; clear L1 hb1 hE1; simp only [Act.put, List.setIfInBounds_toArray, List.set_cons_succ, List.set_cons_zero]) | ((refine st (vs := zeroY.cs) 1 77 (by rfl) rfl rfl rfl rfl (ycs_one _) (siz77) (unhide LL) rfl (by simp [cput, ycs_length, vcs_length, SY.cs, VV.cs]) (Or.inr (unhide hB1)) ?_); intro X3 L3 hf3 hs3; replace LL := hide L3; clear L3 hf3 hs3; simp only [Act.put, List.setIfInBounds_toArray, List.set_cons_succ, List.set_cons_zero]) | ((refine rd (by rfl) (ex_build44z rfl) ?_); simp only [Act.put, List.setIfInBounds_toArray, List.set_cons_succ, List.set_cons_zero]) | ((refine st (vs := zeroV.cs) 0 35 (by rfl) rfl rfl rfl rfl (vcs_one _) (siz44) (unhide LL) rfl (by simp [cput, ycs_length, vcs_length, SY.cs, VV.cs]) (Or.inr (unhide hB2)) ?_); intro X4 L4 hf4 hs4; replace LL := hide L4; clear L4 hf4 hs4; simp only [Act.put, List.setIfInBounds_toArray, List.set_cons_succ, List.set_cons_zero])))
  exact ret_ct row44 siz44 rfl rfl rfl rfl ((unhide LL).get 0 rfl) rfl ⟨rfl, (unhide LL).fr.below⟩
set_option maxRecDepth 100000 in
theorem desc_in (R : RG) (j : Nat) (y : SY) (w : World) {n sz : Nat} {F : ByteArray → Option Nat} (hR : R.Is w n sz F) (hy : R.l[j]? = some y) (hl : R.l.length ≤ 100000) : Calls Tryz.prog 25 #[.pointer (some ⟨R.r, 0, none⟩), .int .i64 ((j + 1 : Nat) : Int)] w fun e w' => e = .returned (.tuple #[y.v.agg, .int .i64 0]) ∧ Below w.heap.size w w' := by
  have LL := hide (Hq.nil w [])
  have HC := hide (fun X (hX : Fr w X []) => at_in R j y X (hR.fr hX (by simp)) hy hl)
  have HS := hide (fun X => anew32 y.v X (hR.sml y (List.mem_of_getElem? hy)))
  unfold SY.agg at HC
  rw [vagg] at *
  clear hR hy hl
  generalize ((j + 1 : Nat) : Int) = J at *
  go_enter Tryz.func25, Tryz.ntmps25
  go_wp2_with (first | go_skip | ((with_reducible show wpList _ _ _ _ _ _); first | ((refine alG 35 (zeroV.cs) (by rfl) rfl (fun w => by kernel_rfl) (Nat.succ_pos _) (unhide LL) ?_); intro X2 B2 hE2 L2 hb2; have hB2 := hide (Nat.le_trans (unhide LL).fr.size (Nat.le_of_eq hE2.symm)); replace LL := hide L2; clear L2 hb2 hE2; simp only [Act.put, List.setIfInBounds_toArray, List.set_cons_succ, List.set_cons_zero])))
  refine (unhide HC _ (unhide LL).fr).mono ?_
  rintro e X0 ⟨rfl, hb⟩
  replace LL := hide ((unhide LL).on hb)
  clear hb
  go_wp2_with (first | go_skip | ((with_reducible show wpList _ _ _ _ _ _); first | ((refine alG 77 (zeroY.cs) (by rfl) rfl (fun w => by kernel_rfl) (Nat.succ_pos _) (unhide LL) ?_); intro X1 B1 hE1 L1 hb1; have hB1 := hide (Nat.le_trans (unhide LL).fr.size (Nat.le_of_eq hE1.symm)); replace LL := hide L1; clear L1 hb1 hE1; simp only [Act.put, List.setIfInBounds_toArray, List.set_cons_succ, List.set_cons_zero]) | ((refine st (vs := y.cs) 1 77 (by rfl) rfl rfl rfl rfl (ycs_one _) (siz77) (unhide LL) rfl (by simp [cput, ycs_length, vcs_length, SY.cs, VV.cs]) (Or.inr (unhide hB1)) ?_); intro X3 L3 hf3 hs3; replace LL := hide L3; clear L3 hf3 hs3; simp only [Act.put, List.setIfInBounds_toArray, List.set_cons_succ, List.set_cons_zero]) | ((refine rd (by rfl) (ex_loadN (vs := y.v.cs) 35 5 row44 siz44 rfl rfl ((unhide LL).get 1 rfl) rfl rfl) ?_); simp only [Act.put, List.setIfInBounds_toArray, List.set_cons_succ, List.set_cons_zero])))
  refine (unhide HS _).mono ?_
  rintro e X5 ⟨rfl, hb⟩
  replace LL := hide ((unhide LL).on hb)
  clear hb
  go_wp2_with (first | go_skip | ((with_reducible show wpList _ _ _ _ _ _); first | ((refine st (vs := y.v.cs) 0 35 (by rfl) rfl rfl rfl rfl (vcs_one _) (siz44) (unhide LL) rfl (by simp [cput, ycs_length, vcs_length, SY.cs, VV.cs]) (Or.inr (unhide hB2)) ?_); intro X4 L4 hf4 hs4; replace LL := hide L4; clear L4 hf4 hs4; simp only [Act.put, List.setIfInBounds_toArray, List.set_cons_succ, List.set_cons_zero])))
  exact ret_ct row44 siz44 rfl rfl rfl rfl ((unhide LL).get 0 rfl) rfl ⟨rfl, (unhide LL).fr.below⟩
end Go.Proofs.YtkpfikeggleenaaGreatDoor
