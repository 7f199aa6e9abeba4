import Derived.Test.YteohiamifoonkaaDoorCa
namespace Go.Proofs.YteohiamifoonkaaDoor
open Go Go.Proofs Go.Maps Go.RowKit FM
set_option linter.unusedSimpArgs false
set_option linter.unusedVariables false
set_option maxHeartbeats 1000000
theorem ta_thr (p : Value) (w : World) : (Instr.typeAssert (.iface 37 p) 50 37 true).run Tryd.prog w = .ok (.tuple #[p, .bool true]) w := by kernel_rfl
theorem ta_ern (c : Int) (w : World) : (Instr.typeAssert (.iface 40 (.int .i64 c)) 50 37 true).run Tryd.prog w = .ok (.tuple #[.pointer none, .bool false]) w := by kernel_rfl
theorem ta_nil (w : World) : (Instr.typeAssert .nilIface 50 37 true).run Tryd.prog w = .ok (.tuple #[.pointer none, .bool false]) w := by kernel_rfl
theorem ex_bT {o : Oper} {a : Act} {w : World} {x y : Operand} (k : Int) (v : VV) (ho : o.op = .build 39 #[(0, x), (1, y)]) (hx : a.eval x = .int .i64 k) (hy : a.eval y = .agg v.cs.toArray) : (execOp a.eval o).run Tryd.prog w = .ok (.value (.agg (tcs k v).toArray)) w := by
  have e1 : (Instr.build 39 #[(0, .int .i64 k), (1, .agg v.cs.toArray)]).run Tryd.prog w = .ok (.agg (tcs k v).toArray) w := by kernel_rfl
  unfold execOp
  simp only [ho]
  simp [hx, hy, e1]
theorem ex_bF {o : Oper} {a : Act} {w : World} {x : Operand} (k : Int) (ho : o.op = .build 44 #[(1, x)]) (hx : a.eval x = .int .i64 k) : (execOp a.eval o).run Tryd.prog w = .ok (.value (.agg (fcs 0 k zeroV).toArray)) w := by
  have e1 : (Instr.build 44 #[(1, .int .i64 k)]).run Tryd.prog w = .ok (.agg (fcs 0 k zeroV).toArray) w := by kernel_rfl
  unfold execOp
  simp only [ho]
  simp [hx, e1]
attribute [local go_sem] ta_thr ta_ern ta_nil
set_option maxHeartbeats 4000000 in
set_option maxRecDepth 100000 in
theorem caught14 (k : Int) (v : VV) (B : Nat) (w : World) (hH : Holds w B (tcs k v)) (hT : Lib.Utf8Tabs 1 2 w) : Calls Tryd.prog 14 #[.iface 37 (.pointer (some ⟨B, 0, none⟩))] w fun e w' => e = .returned (.tuple #[(cauV k v).agg, .bool (cauB k v)]) ∧ Below w.heap.size w w' := by
  have LL := hide ((Hq.nil w []).add hH (Nat.succ_pos _) (by simp))
  replace LL : Hid (Hq w w [] [(B, tcs k v)]) := LL
  have HA := hide (asValue_any k v B)
  have HT := hide hT
  clear hH hT
  simp only [vagg] at *
  generalize cauV k v = r at *
  generalize cauB k v = b at *
  go_enter Tryd.func14, Tryd.ntmps14
  go_wp2_with (first | go_skip | ((with_reducible show wpList _ _ _ _ _ _); first | ((refine alG 27 (zeroV.cs) (by rfl) rfl (fun w => by kernel_rfl) (Nat.succ_pos _) (unhide LL) ?_); intro X2 B2 hE2 L2 hb2; have hB2 := hide (Nat.le_trans (unhide LL).fr.size (Nat.le_of_eq hE2.symm)); replace LL := hide L2; clear L2 hb2 hE2; simp only [Act.put, List.setIfInBounds_toArray, List.set_cons_succ, List.set_cons_zero])))
  refine (unhide HA _ ((unhide LL).get 0 rfl) (tabs_below (unhide HT) (unhide LL).fr.below)).mono ?_
  rintro e X3 ⟨rfl, hb3⟩
  replace LL := hide ((unhide LL).on hb3)
  clear hb3
  go_wp2_with (first | go_skip | ((with_reducible show wpList _ _ _ _ _ _); first | ((refine st (vs := r.cs) 1 27 (by rfl) rfl rfl rfl rfl (vcs_one _) (szV) (unhide LL) rfl (by simp [cput, VV.cs, KK.cs, DD.cs, zeroV]) (Or.inr (unhide hB2)) ?_); intro X5 L5 hf5 hs5; replace LL := hide L5; clear L5 hf5 hs5; simp only [Act.put, List.setIfInBounds_toArray, List.set_cons_succ, List.set_cons_zero])))
  refine ret_ct (cs := r.cs) rwV szV rfl rfl rfl rfl ((unhide LL).get 1 rfl) rfl ?_
  exact ⟨rfl, (unhide LL).fr.below⟩
set_option maxHeartbeats 4000000 in
set_option maxRecDepth 100000 in
theorem caught14E (c : Int) (w : World) : Calls Tryd.prog 14 #[.iface 40 (.int .i64 c)] w fun e w' => e = .returned (.tuple #[zeroV.agg, .bool false]) ∧ Below w.heap.size w w' := by
  have LL := hide (Hq.nil w [])
  simp only [vagg] at *
  go_enter Tryd.func14, Tryd.ntmps14
  go_wp2_with (first | go_skip | ((with_reducible show wpList _ _ _ _ _ _); first | ((refine alG 27 (zeroV.cs) (by rfl) rfl (fun w => by kernel_rfl) (Nat.succ_pos _) (unhide LL) ?_); intro X2 B2 hE2 L2 hb2; have hB2 := hide (Nat.le_trans (unhide LL).fr.size (Nat.le_of_eq hE2.symm)); replace LL := hide L2; clear L2 hb2 hE2; simp only [Act.put, List.setIfInBounds_toArray, List.set_cons_succ, List.set_cons_zero]) | ((refine rd (by rfl) (ex_b0 rfl) ?_); simp only [Act.put, List.setIfInBounds_toArray, List.set_cons_succ, List.set_cons_zero]) | ((refine st (vs := zeroV.cs) 0 27 (by rfl) rfl rfl rfl rfl (vcs_one _) (szV) (unhide LL) rfl (by simp [cput, VV.cs, KK.cs, DD.cs, zeroV]) (Or.inr (unhide hB2)) ?_); intro X5 L5 hf5 hs5; replace LL := hide L5; clear L5 hf5 hs5; simp only [Act.put, List.setIfInBounds_toArray, List.set_cons_succ, List.set_cons_zero])))
  refine ret_ct (cs := zeroV.cs) rwV szV rfl rfl rfl rfl ((unhide LL).get 0 rfl) rfl ?_
  exact ⟨rfl, (unhide LL).fr.below⟩
set_option maxHeartbeats 4000000 in
set_option maxRecDepth 100000 in
theorem caught14N (w : World) : Calls Tryd.prog 14 #[.nilIface] w fun e w' => e = .returned (.tuple #[zeroV.agg, .bool false]) ∧ Below w.heap.size w w' := by
  have LL := hide (Hq.nil w [])
  simp only [vagg] at *
  go_enter Tryd.func14, Tryd.ntmps14
  go_wp2_with (first | go_skip | ((with_reducible show wpList _ _ _ _ _ _); first | ((refine alG 27 (zeroV.cs) (by rfl) rfl (fun w => by kernel_rfl) (Nat.succ_pos _) (unhide LL) ?_); intro X2 B2 hE2 L2 hb2; have hB2 := hide (Nat.le_trans (unhide LL).fr.size (Nat.le_of_eq hE2.symm)); replace LL := hide L2; clear L2 hb2 hE2; simp only [Act.put, List.setIfInBounds_toArray, List.set_cons_succ, List.set_cons_zero]) | ((refine rd (by rfl) (ex_b0 rfl) ?_); simp only [Act.put, List.setIfInBounds_toArray, List.set_cons_succ, List.set_cons_zero]) | ((refine st (vs := zeroV.cs) 0 27 (by rfl) rfl rfl rfl rfl (vcs_one _) (szV) (unhide LL) rfl (by simp [cput, VV.cs, KK.cs, DD.cs, zeroV]) (Or.inr (unhide hB2)) ?_); intro X5 L5 hf5 hs5; replace LL := hide L5; clear L5 hf5 hs5; simp only [Act.put, List.setIfInBounds_toArray, List.set_cons_succ, List.set_cons_zero])))
  refine ret_ct (cs := zeroV.cs) rwV szV rfl rfl rfl rfl ((unhide LL).get 0 rfl) rfl ?_
  exact ⟨rfl, (unhide LL).fr.below⟩
set_option maxHeartbeats 4000000 in
set_option maxRecDepth 100000 in
theorem caught7 (k : Int) (v : VV) (B : Nat) (w : World) (hH : Holds w B (tcs k v)) (hT : Lib.Utf8Tabs 1 2 w) : Calls Tryd.prog 7 #[.iface 37 (.pointer (some ⟨B, 0, none⟩))] w fun e w' => e = .returned (.tuple #[(cauV k v).agg, .bool (cauB k v)]) ∧ Below w.heap.size w w' := by
  have LL := hide (Hq.nil w [])
  have HC := hide (fun (X : World) (hX : Below w.heap.size w X) => caught14 k v B X (hH.block (hX.block B (hH.lt (Nat.succ_pos _)))) (tabs_below hT hX))
  clear hH hT
  simp only [vagg] at *
  generalize (cauV k v) = r at *
  generalize (cauB k v) = b at *
  go_enter Tryd.func7, Tryd.ntmps7
  go_wp2_with (first | go_skip | ((with_reducible show wpList _ _ _ _ _ _); first | ((refine alG 27 (zeroV.cs) (by rfl) rfl (fun w => by kernel_rfl) (Nat.succ_pos _) (unhide LL) ?_); intro X2 B2 hE2 L2 hb2; have hB2 := hide (Nat.le_trans (unhide LL).fr.size (Nat.le_of_eq hE2.symm)); replace LL := hide L2; clear L2 hb2 hE2; simp only [Act.put, List.setIfInBounds_toArray, List.set_cons_succ, List.set_cons_zero])))
  refine (unhide HC _ (unhide LL).fr.below).mono ?_
  rintro e X3 ⟨rfl, hb3⟩
  replace LL := hide ((unhide LL).on hb3)
  clear hb3
  go_wp2_with (first | go_skip | ((with_reducible show wpList _ _ _ _ _ _); first | ((refine st (vs := r.cs) 0 27 (by rfl) rfl rfl rfl rfl (vcs_one _) (szV) (unhide LL) rfl (by simp [cput, VV.cs, KK.cs, DD.cs, zeroV]) (Or.inr (unhide hB2)) ?_); intro X5 L5 hf5 hs5; replace LL := hide L5; clear L5 hf5 hs5; simp only [Act.put, List.setIfInBounds_toArray, List.set_cons_succ, List.set_cons_zero])))
  refine ret_ct (cs := r.cs) rwV szV rfl rfl rfl rfl ((unhide LL).get 0 rfl) rfl ?_
  exact ⟨rfl, (unhide LL).fr.below⟩
set_option maxHeartbeats 4000000 in
set_option maxRecDepth 100000 in
theorem caught7E (c : Int) (w : World) : Calls Tryd.prog 7 #[.iface 40 (.int .i64 c)] w fun e w' => e = .returned (.tuple #[zeroV.agg, .bool false]) ∧ Below w.heap.size w w' := by
  have LL := hide (Hq.nil w [])
  have HC := hide (fun (X : World) (hX : Below w.heap.size w X) => caught14E c X)
  simp only [vagg] at *
  skip
  go_enter Tryd.func7, Tryd.ntmps7
  go_wp2_with (first | go_skip | ((with_reducible show wpList _ _ _ _ _ _); first | ((refine alG 27 (zeroV.cs) (by rfl) rfl (fun w => by kernel_rfl) (Nat.succ_pos _) (unhide LL) ?_); intro X2 B2 hE2 L2 hb2; have hB2 := hide (Nat.le_trans (unhide LL).fr.size (Nat.le_of_eq hE2.symm)); replace LL := hide L2; clear L2 hb2 hE2; simp only [Act.put, List.setIfInBounds_toArray, List.set_cons_succ, List.set_cons_zero])))
  refine (unhide HC _ (unhide LL).fr.below).mono ?_
  rintro e X3 ⟨rfl, hb3⟩
  replace LL := hide ((unhide LL).on hb3)
  clear hb3
  go_wp2_with (first | go_skip | ((with_reducible show wpList _ _ _ _ _ _); first | ((refine st (vs := zeroV.cs) 0 27 (by rfl) rfl rfl rfl rfl (vcs_one _) (szV) (unhide LL) rfl (by simp [cput, VV.cs, KK.cs, DD.cs, zeroV]) (Or.inr (unhide hB2)) ?_); intro X5 L5 hf5 hs5; replace LL := hide L5; clear L5 hf5 hs5; simp only [Act.put, List.setIfInBounds_toArray, List.set_cons_succ, List.set_cons_zero])))
  refine ret_ct (cs := zeroV.cs) rwV szV rfl rfl rfl rfl ((unhide LL).get 0 rfl) rfl ?_
  exact ⟨rfl, (unhide LL).fr.below⟩
set_option maxHeartbeats 4000000 in
set_option maxRecDepth 100000 in
theorem caught7N (w : World) : Calls Tryd.prog 7 #[.nilIface] w fun e w' => e = .returned (.tuple #[zeroV.agg, .bool false]) ∧ Below w.heap.size w w' := by
  have LL := hide (Hq.nil w [])
  have HC := hide (fun (X : World) (hX : Below w.heap.size w X) => caught14N X)
  simp only [vagg] at *
  skip
  go_enter Tryd.func7, Tryd.ntmps7
  go_wp2_with (first | go_skip | ((with_reducible show wpList _ _ _ _ _ _); first | ((refine alG 27 (zeroV.cs) (by rfl) rfl (fun w => by kernel_rfl) (Nat.succ_pos _) (unhide LL) ?_); intro X2 B2 hE2 L2 hb2; have hB2 := hide (Nat.le_trans (unhide LL).fr.size (Nat.le_of_eq hE2.symm)); replace LL := hide L2; clear L2 hb2 hE2; simp only [Act.put, List.setIfInBounds_toArray, List.set_cons_succ, List.set_cons_zero])))
  refine (unhide HC _ (unhide LL).fr.below).mono ?_
  rintro e X3 ⟨rfl, hb3⟩
  replace LL := hide ((unhide LL).on hb3)
  clear hb3
  go_wp2_with (first | go_skip | ((with_reducible show wpList _ _ _ _ _ _); first | ((refine st (vs := zeroV.cs) 0 27 (by rfl) rfl rfl rfl rfl (vcs_one _) (szV) (unhide LL) rfl (by simp [cput, VV.cs, KK.cs, DD.cs, zeroV]) (Or.inr (unhide hB2)) ?_); intro X5 L5 hf5 hs5; replace LL := hide L5; clear L5 hf5 hs5; simp only [Act.put, List.setIfInBounds_toArray, List.set_cons_succ, List.set_cons_zero])))
  refine ret_ct (cs := zeroV.cs) rwV szV rfl rfl rfl rfl ((unhide LL).get 0 rfl) rfl ?_
  exact ⟨rfl, (unhide LL).fr.below⟩
def nms : List Value := [.string ⟨#[]⟩, .string ⟨#[]⟩, .string (errS 2), .string (errS 3), .string (errS 4), .string (errS 5)]
theorem nms_one : ∀ u ∈ nms, u.oneCell' = true := by simp [nms, Value.oneCell']
theorem sz6 : (Tryd.prog.info? 53).map (·.size) = some 6 := by kernel_rfl
theorem zvz (w : World) : (zeroValue 53).run Tryd.prog w = .ok (.agg #[.string ⟨#[]⟩, .string ⟨#[]⟩, .string ⟨#[]⟩, .string ⟨#[]⟩, .string ⟨#[]⟩, .string ⟨#[]⟩]) w := by kernel_rfl
theorem ex_b6 {o : Oper} {a : Act} {w : World} {x0 x1 x2 x3 x4 x5 : Operand} (ho : o.op = .build 53 #[(0, x0), (1, x1), (2, x2), (3, x3), (4, x4), (5, x5)]) (h0 : a.eval x0 = .string ⟨#[]⟩) (h1 : a.eval x1 = .string ⟨#[]⟩) (h2 : a.eval x2 = .string (errS 2)) (h3 : a.eval x3 = .string (errS 3)) (h4 : a.eval x4 = .string (errS 4)) (h5 : a.eval x5 = .string (errS 5)) : (execOp a.eval o).run Tryd.prog w = .ok (.value (.agg nms.toArray)) w := by
  have e1 : (Instr.build 53 #[(0, .string ⟨#[]⟩), (1, .string ⟨#[]⟩), (2, .string (errS 2)), (3, .string (errS 3)), (4, .string (errS 4)), (5, .string (errS 5))]).run Tryd.prog w = .ok (.agg nms.toArray) w := by kernel_rfl
  unfold execOp
  simp only [ho]
  simp [h0, h1, h2, h3, h4, h5, e1]
set_option maxHeartbeats 4000000 in
set_option maxRecDepth 100000 in
theorem refThrown2 (w : World) : Calls Tryd.prog 9 #[.agg (fcs 0 2 zeroV).toArray] w fun e w' => e = .returned ((strO (errS 2)).agg) ∧ Below w.heap.size w w' := by
  have LL := hide (Hq.nil w [])
  simp only [vagg]
  skip
  go_enter Tryd.func9, Tryd.ntmps9
  go_wp2_with (first | go_skip | ((with_reducible show wpList _ _ _ _ _ _); first | ((refine bx 44 (fcs 0 2 zeroV) (by rfl) rfl rfl rfl (Nat.succ_pos _) (unhide LL) ?_); intro X1 B1 hE1 L1 hb1; have hB1 := hide (Nat.le_trans (unhide LL).fr.size (Nat.le_of_eq hE1.symm)); replace LL := hide L1; clear L1 hb1 hE1; simp only [Act.put, List.setIfInBounds_toArray, List.set_cons_succ, List.set_cons_zero]) | ((refine alG 27 (zeroV.cs) (by rfl) rfl (fun w => by kernel_rfl) (Nat.succ_pos _) (unhide LL) ?_); intro X2 B2 hE2 L2 hb2; have hB2 := hide (Nat.le_trans (unhide LL).fr.size (Nat.le_of_eq hE2.symm)); replace LL := hide L2; clear L2 hb2 hE2; simp only [Act.put, List.setIfInBounds_toArray, List.set_cons_succ, List.set_cons_zero]) | ((refine rd (by rfl) (ex_b6 rfl rfl rfl rfl rfl rfl rfl) ?_); simp only [Act.put, List.setIfInBounds_toArray, List.set_cons_succ, List.set_cons_zero]) | ((refine alG 53 ([.string ⟨#[]⟩, .string ⟨#[]⟩, .string ⟨#[]⟩, .string ⟨#[]⟩, .string ⟨#[]⟩, .string ⟨#[]⟩]) (by rfl) rfl (fun w => by kernel_rfl) (Nat.succ_pos _) (unhide LL) ?_); intro X3 B3 hE3 L3 hb3; have hB3 := hide (Nat.le_trans (unhide LL).fr.size (Nat.le_of_eq hE3.symm)); replace LL := hide L3; clear L3 hb3 hE3; simp only [Act.put, List.setIfInBounds_toArray, List.set_cons_succ, List.set_cons_zero]) | ((refine st (vs := nms) 2 53 (by rfl) rfl rfl rfl rfl (nms_one) (sz6) (unhide LL) rfl (Nat.le_refl _) (Or.inr (unhide hB3)) ?_); intro X4 L4 hf4 hs4; replace LL := hide L4; clear L4 hf4 hs4; simp only [Act.put, List.setIfInBounds_toArray, List.set_cons_succ, List.set_cons_zero]) | ((refine rd (by rfl) (ex_load1 3 Tryd.isAgg3 rfl rfl ((unhide LL).get 0 rfl) rfl) ?_); simp only [Act.put, List.setIfInBounds_toArray, List.set_cons_succ, List.set_cons_zero]) | ((refine rd (by rfl) (ex_load1 9 Tryd.isAgg9 rfl rfl ((unhide LL).get 2 rfl) rfl) ?_); simp only [Act.put, List.setIfInBounds_toArray, List.set_cons_succ, List.set_cons_zero]) | ((refine rd (by rfl) (ex_bS (errS 2) rfl rfl rfl) ?_); simp only [Act.put, List.setIfInBounds_toArray, List.set_cons_succ, List.set_cons_zero]) | ((refine st (vs := (strO (errS 2)).cs) 1 27 (by rfl) rfl rfl rfl rfl (vcs_one _) (szV) (unhide LL) rfl (by simp [cput, VV.cs, KK.cs, DD.cs, zeroV]) (Or.inr (unhide hB2)) ?_); intro X5 L5 hf5 hs5; replace LL := hide L5; clear L5 hf5 hs5; simp only [Act.put, List.setIfInBounds_toArray, List.set_cons_succ, List.set_cons_zero])))
  refine ret_c (cs := (strO (errS 2)).cs) rwV szV rfl rfl rfl ((unhide LL).get 1 rfl) rfl ?_
  exact ⟨rfl, (unhide LL).fr.below⟩
set_option maxHeartbeats 4000000 in
set_option maxRecDepth 100000 in
theorem refThrown3 (w : World) : Calls Tryd.prog 9 #[.agg (fcs 0 3 zeroV).toArray] w fun e w' => e = .returned ((strO (errS 3)).agg) ∧ Below w.heap.size w w' := by
  have LL := hide (Hq.nil w [])
  simp only [vagg]
  skip
  go_enter Tryd.func9, Tryd.ntmps9
  go_wp2_with (first | go_skip | ((with_reducible show wpList _ _ _ _ _ _); first | ((refine bx 44 (fcs 0 3 zeroV) (by rfl) rfl rfl rfl (Nat.succ_pos _) (unhide LL) ?_); intro X1 B1 hE1 L1 hb1; have hB1 := hide (Nat.le_trans (unhide LL).fr.size (Nat.le_of_eq hE1.symm)); replace LL := hide L1; clear L1 hb1 hE1; simp only [Act.put, List.setIfInBounds_toArray, List.set_cons_succ, List.set_cons_zero]) | ((refine alG 27 (zeroV.cs) (by rfl) rfl (fun w => by kernel_rfl) (Nat.succ_pos _) (unhide LL) ?_); intro X2 B2 hE2 L2 hb2; have hB2 := hide (Nat.le_trans (unhide LL).fr.size (Nat.le_of_eq hE2.symm)); replace LL := hide L2; clear L2 hb2 hE2; simp only [Act.put, List.setIfInBounds_toArray, List.set_cons_succ, List.set_cons_zero]) | ((refine rd (by rfl) (ex_b6 rfl rfl rfl rfl rfl rfl rfl) ?_); simp only [Act.put, List.setIfInBounds_toArray, List.set_cons_succ, List.set_cons_zero]) | ((refine alG 53 ([.string ⟨#[]⟩, .string ⟨#[]⟩, .string ⟨#[]⟩, .string ⟨#[]⟩, .string ⟨#[]⟩, .string ⟨#[]⟩]) (by rfl) rfl (fun w => by kernel_rfl) (Nat.succ_pos _) (unhide LL) ?_); intro X3 B3 hE3 L3 hb3; have hB3 := hide (Nat.le_trans (unhide LL).fr.size (Nat.le_of_eq hE3.symm)); replace LL := hide L3; clear L3 hb3 hE3; simp only [Act.put, List.setIfInBounds_toArray, List.set_cons_succ, List.set_cons_zero]) | ((refine st (vs := nms) 2 53 (by rfl) rfl rfl rfl rfl (nms_one) (sz6) (unhide LL) rfl (Nat.le_refl _) (Or.inr (unhide hB3)) ?_); intro X4 L4 hf4 hs4; replace LL := hide L4; clear L4 hf4 hs4; simp only [Act.put, List.setIfInBounds_toArray, List.set_cons_succ, List.set_cons_zero]) | ((refine rd (by rfl) (ex_load1 3 Tryd.isAgg3 rfl rfl ((unhide LL).get 0 rfl) rfl) ?_); simp only [Act.put, List.setIfInBounds_toArray, List.set_cons_succ, List.set_cons_zero]) | ((refine rd (by rfl) (ex_load1 9 Tryd.isAgg9 rfl rfl ((unhide LL).get 2 rfl) rfl) ?_); simp only [Act.put, List.setIfInBounds_toArray, List.set_cons_succ, List.set_cons_zero]) | ((refine rd (by rfl) (ex_bS (errS 3) rfl rfl rfl) ?_); simp only [Act.put, List.setIfInBounds_toArray, List.set_cons_succ, List.set_cons_zero]) | ((refine st (vs := (strO (errS 3)).cs) 1 27 (by rfl) rfl rfl rfl rfl (vcs_one _) (szV) (unhide LL) rfl (by simp [cput, VV.cs, KK.cs, DD.cs, zeroV]) (Or.inr (unhide hB2)) ?_); intro X5 L5 hf5 hs5; replace LL := hide L5; clear L5 hf5 hs5; simp only [Act.put, List.setIfInBounds_toArray, List.set_cons_succ, List.set_cons_zero])))
  refine ret_c (cs := (strO (errS 3)).cs) rwV szV rfl rfl rfl ((unhide LL).get 1 rfl) rfl ?_
  exact ⟨rfl, (unhide LL).fr.below⟩
set_option maxHeartbeats 4000000 in
set_option maxRecDepth 100000 in
theorem refThrown4 (w : World) : Calls Tryd.prog 9 #[.agg (fcs 0 4 zeroV).toArray] w fun e w' => e = .returned ((strO (errS 4)).agg) ∧ Below w.heap.size w w' := by
  have LL := hide (Hq.nil w [])
  simp only [vagg]
  skip
  go_enter Tryd.func9, Tryd.ntmps9
  go_wp2_with (first | go_skip | ((with_reducible show wpList _ _ _ _ _ _); first | ((refine bx 44 (fcs 0 4 zeroV) (by rfl) rfl rfl rfl (Nat.succ_pos _) (unhide LL) ?_); intro X1 B1 hE1 L1 hb1; have hB1 := hide (Nat.le_trans (unhide LL).fr.size (Nat.le_of_eq hE1.symm)); replace LL := hide L1; clear L1 hb1 hE1; simp only [Act.put, List.setIfInBounds_toArray, List.set_cons_succ, List.set_cons_zero]) | ((refine alG 27 (zeroV.cs) (by rfl) rfl (fun w => by kernel_rfl) (Nat.succ_pos _) (unhide LL) ?_); intro X2 B2 hE2 L2 hb2; have hB2 := hide (Nat.le_trans (unhide LL).fr.size (Nat.le_of_eq hE2.symm)); replace LL := hide L2; clear L2 hb2 hE2; simp only [Act.put, List.setIfInBounds_toArray, List.set_cons_succ, List.set_cons_zero]) | ((refine rd (by rfl) (ex_b6 rfl rfl rfl rfl rfl rfl rfl) ?_); simp only [Act.put, List.setIfInBounds_toArray, List.set_cons_succ, List.set_cons_zero]) | ((refine alG 53 ([.string ⟨#[]⟩, .string ⟨#[]⟩, .string ⟨#[]⟩, .string ⟨#[]⟩, .string ⟨#[]⟩, .string ⟨#[]⟩]) (by rfl) rfl (fun w => by kernel_rfl) (Nat.succ_pos _) (unhide LL) ?_); intro X3 B3 hE3 L3 hb3; have hB3 := hide (Nat.le_trans (unhide LL).fr.size (Nat.le_of_eq hE3.symm)); replace LL := hide L3; clear L3 hb3 hE3; simp only [Act.put, List.setIfInBounds_toArray, List.set_cons_succ, List.set_cons_zero]) | ((refine st (vs := nms) 2 53 (by rfl) rfl rfl rfl rfl (nms_one) (sz6) (unhide LL) rfl (Nat.le_refl _) (Or.inr (unhide hB3)) ?_); intro X4 L4 hf4 hs4; replace LL := hide L4; clear L4 hf4 hs4; simp only [Act.put, List.setIfInBounds_toArray, List.set_cons_succ, List.set_cons_zero]) | ((refine rd (by rfl) (ex_load1 3 Tryd.isAgg3 rfl rfl ((unhide LL).get 0 rfl) rfl) ?_); simp only [Act.put, List.setIfInBounds_toArray, List.set_cons_succ, List.set_cons_zero]) | ((refine rd (by rfl) (ex_load1 9 Tryd.isAgg9 rfl rfl ((unhide LL).get 2 rfl) rfl) ?_); simp only [Act.put, List.setIfInBounds_toArray, List.set_cons_succ, List.set_cons_zero]) | ((refine rd (by rfl) (ex_bS (errS 4) rfl rfl rfl) ?_); simp only [Act.put, List.setIfInBounds_toArray, List.set_cons_succ, List.set_cons_zero]) | ((refine st (vs := (strO (errS 4)).cs) 1 27 (by rfl) rfl rfl rfl rfl (vcs_one _) (szV) (unhide LL) rfl (by simp [cput, VV.cs, KK.cs, DD.cs, zeroV]) (Or.inr (unhide hB2)) ?_); intro X5 L5 hf5 hs5; replace LL := hide L5; clear L5 hf5 hs5; simp only [Act.put, List.setIfInBounds_toArray, List.set_cons_succ, List.set_cons_zero])))
  refine ret_c (cs := (strO (errS 4)).cs) rwV szV rfl rfl rfl ((unhide LL).get 1 rfl) rfl ?_
  exact ⟨rfl, (unhide LL).fr.below⟩
set_option maxHeartbeats 4000000 in
set_option maxRecDepth 100000 in
theorem refThrown5 (w : World) : Calls Tryd.prog 9 #[.agg (fcs 0 5 zeroV).toArray] w fun e w' => e = .returned ((strO (errS 5)).agg) ∧ Below w.heap.size w w' := by
  have LL := hide (Hq.nil w [])
  simp only [vagg]
  skip
  go_enter Tryd.func9, Tryd.ntmps9
  go_wp2_with (first | go_skip | ((with_reducible show wpList _ _ _ _ _ _); first | ((refine bx 44 (fcs 0 5 zeroV) (by rfl) rfl rfl rfl (Nat.succ_pos _) (unhide LL) ?_); intro X1 B1 hE1 L1 hb1; have hB1 := hide (Nat.le_trans (unhide LL).fr.size (Nat.le_of_eq hE1.symm)); replace LL := hide L1; clear L1 hb1 hE1; simp only [Act.put, List.setIfInBounds_toArray, List.set_cons_succ, List.set_cons_zero]) | ((refine alG 27 (zeroV.cs) (by rfl) rfl (fun w => by kernel_rfl) (Nat.succ_pos _) (unhide LL) ?_); intro X2 B2 hE2 L2 hb2; have hB2 := hide (Nat.le_trans (unhide LL).fr.size (Nat.le_of_eq hE2.symm)); replace LL := hide L2; clear L2 hb2 hE2; simp only [Act.put, List.setIfInBounds_toArray, List.set_cons_succ, List.set_cons_zero]) | ((refine rd (by rfl) (ex_b6 rfl rfl rfl rfl rfl rfl rfl) ?_); simp only [Act.put, List.setIfInBounds_toArray, List.set_cons_succ, List.set_cons_zero]) | ((refine alG 53 ([.string ⟨#[]⟩, .string ⟨#[]⟩, .string ⟨#[]⟩, .string ⟨#[]⟩, .string ⟨#[]⟩, .string ⟨#[]⟩]) (by rfl) rfl (fun w => by kernel_rfl) (Nat.succ_pos _) (unhide LL) ?_); intro X3 B3 hE3 L3 hb3; have hB3 := hide (Nat.le_trans (unhide LL).fr.size (Nat.le_of_eq hE3.symm)); replace LL := hide L3; clear L3 hb3 hE3; simp only [Act.put, List.setIfInBounds_toArray, List.set_cons_succ, List.set_cons_zero]) | ((refine st (vs := nms) 2 53 (by rfl) rfl rfl rfl rfl (nms_one) (sz6) (unhide LL) rfl (Nat.le_refl _) (Or.inr (unhide hB3)) ?_); intro X4 L4 hf4 hs4; replace LL := hide L4; clear L4 hf4 hs4; simp only [Act.put, List.setIfInBounds_toArray, List.set_cons_succ, List.set_cons_zero]) | ((refine rd (by rfl) (ex_load1 3 Tryd.isAgg3 rfl rfl ((unhide LL).get 0 rfl) rfl) ?_); simp only [Act.put, List.setIfInBounds_toArray, List.set_cons_succ, List.set_cons_zero]) | ((refine rd (by rfl) (ex_load1 9 Tryd.isAgg9 rfl rfl ((unhide LL).get 2 rfl) rfl) ?_); simp only [Act.put, List.setIfInBounds_toArray, List.set_cons_succ, List.set_cons_zero]) | ((refine rd (by rfl) (ex_bS (errS 5) rfl rfl rfl) ?_); simp only [Act.put, List.setIfInBounds_toArray, List.set_cons_succ, List.set_cons_zero]) | ((refine st (vs := (strO (errS 5)).cs) 1 27 (by rfl) rfl rfl rfl rfl (vcs_one _) (szV) (unhide LL) rfl (by simp [cput, VV.cs, KK.cs, DD.cs, zeroV]) (Or.inr (unhide hB2)) ?_); intro X5 L5 hf5 hs5; replace LL := hide L5; clear L5 hf5 hs5; simp only [Act.put, List.setIfInBounds_toArray, List.set_cons_succ, List.set_cons_zero])))
  refine ret_c (cs := (strO (errS 5)).cs) rwV szV rfl rfl rfl ((unhide LL).get 1 rfl) rfl ?_
  exact ⟨rfl, (unhide LL).fr.below⟩
end Go.Proofs.YteohiamifoonkaaDoor
