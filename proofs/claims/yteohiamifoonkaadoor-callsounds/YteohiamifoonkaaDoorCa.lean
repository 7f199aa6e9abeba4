import Derived.Test.YteohiamifoonkaaDoorOc
namespace Go.Proofs.YteohiamifoonkaaDoor
open Go Go.Proofs Go.Maps Go.RowKit FM
set_option linter.unusedSimpArgs false
set_option linter.unusedVariables false
set_option maxHeartbeats 1000000
theorem rwV : ∃ d, Tryd.prog.underlying 27 = some d ∧ d.isRow = true := ⟨_, Tryd.underlying27, rfl⟩
theorem szV : (Tryd.prog.info? 27).map (·.size) = some 5 := by kernel_rfl
theorem rwD : ∃ d, Tryd.prog.underlying 32 = some d ∧ d.isRow = true := ⟨_, Tryd.underlying32, rfl⟩
theorem szD : (Tryd.prog.info? 32).map (·.size) = some 18 := by kernel_rfl
theorem rwK : ∃ d, Tryd.prog.underlying 29 = some d ∧ d.isRow = true := ⟨_, Tryd.underlying29, rfl⟩
theorem szK : (Tryd.prog.info? 29).map (·.size) = some 2 := by kernel_rfl
theorem rwO : ∃ d, Tryd.prog.underlying 34 = some d ∧ d.isRow = true := ⟨_, Tryd.underlying34, rfl⟩
theorem szO : (Tryd.prog.info? 34).map (·.size) = some 32 := by kernel_rfl
theorem rwT : ∃ d, Tryd.prog.underlying 39 = some d ∧ d.isRow = true := ⟨_, Tryd.underlying39, rfl⟩
theorem szT : (Tryd.prog.info? 39).map (·.size) = some 6 := by kernel_rfl
theorem rwF : ∃ d, Tryd.prog.underlying 44 = some d ∧ d.isRow = true := ⟨_, Tryd.underlying44, rfl⟩
theorem szF : (Tryd.prog.info? 44).map (·.size) = some 7 := by kernel_rfl
theorem ret_ct {fn : Func} {R : Ending → World → Prop} {a : Act} {w : World} {b r q T n : Nat} {v : Value} {cs : List Value} (hT : ∃ d, Tryd.prog.underlying T = some d ∧ d.isRow = true) (hn : (Tryd.prog.info? T).map (·.size) = some n) (hr : fn.results = #[.cell r T, .tmp q]) (hdf : a.defers = [])
    (hx : a.tmps.getD r undef = .pointer (some ⟨b, 0, none⟩)) (hq : a.tmps.getD q undef = v) (hc : Holds w b cs) (hcs : cs.length = n) (h : R (.returned (.tuple #[.agg cs.toArray, v])) w) : bodyPost Tryd.prog fn R .ret a w := by
  obtain ⟨t, hu, hd⟩ := hT
  have h0 := hc.mid 0 n
  rw [List.drop_zero, List.take_of_length_le (by omega)] at h0
  have hl := run_loadVar_mid (P := Tryd.prog) w b 0 T _ t h0 hu hd (by rw [hn, hcs])
  refine ⟨hdf, _, ?_, h⟩
  simp only [Array.getD_eq_getD_getElem?] at hx hq
  unfold results
  simp [hr, hx, hq, hl, asAddr]
  try rfl
theorem ex_b0 {o : Oper} {a : Act} {w : World} (ho : o.op = .build 27 #[]) : (execOp a.eval o).run Tryd.prog w = .ok (.value (.agg zeroV.cs.toArray)) w := by
  have e1 : (Instr.build 27 #[]).run Tryd.prog w = .ok (.agg zeroV.cs.toArray) w := by kernel_rfl
  unfold execOp
  simp only [ho]
  simp [e1]
def strO (s : ByteArray) : VV := ⟨5, false, 0, s, 0⟩
theorem ex_bS {o : Oper} {a : Act} {w : World} {x y : Operand} (s : ByteArray) (ho : o.op = .build 27 #[(0, x), (3, y)]) (hx : a.eval x = .int .i64 5) (hy : a.eval y = .string s) : (execOp a.eval o).run Tryd.prog w = .ok (.value (.agg (strO s).cs.toArray)) w := by
  have e1 : (Instr.build 27 #[(0, .int .i64 5), (3, .string s)]).run Tryd.prog w = .ok (.agg (strO s).cs.toArray) w := by kernel_rfl
  unfold execOp
  simp only [ho]
  simp [hx, hy, e1]
theorem vcs_put (a b : VV) : cput a.cs 0 b.cs = b.cs := by simp [cput, VV.cs]
theorem eqB_self (a : VV) : eqB a a = true := by simp [eqB]
def errS (k : Int) : ByteArray := if k = 2 then ⟨#[84, 121, 112, 101, 69, 114, 114, 111, 114]⟩ else if k = 3 then ⟨#[82, 97, 110, 103, 101, 69, 114, 114, 111, 114]⟩ else if k = 4 then ⟨#[83, 121, 110, 116, 97, 120, 69, 114, 114, 111, 114]⟩ else ⟨#[82, 101, 102, 101, 114, 101, 110, 99, 101, 69, 114, 114, 111, 114]⟩
def cauV (k : Int) (v : VV) : VV := if (k == 1 && v.good) = true then v else if (decide (2 ≤ k) && decide (k ≤ 5)) = true then strO (errS k) else zeroV
def cauB (k : Int) (v : VV) : Bool := (k == 1 && v.good) || (decide (2 ≤ k) && decide (k ≤ 5))
theorem err_good2 : (strO (errS 2)).good = true := by decide +kernel
theorem err_good3 : (strO (errS 3)).good = true := by decide +kernel
theorem err_good4 : (strO (errS 4)).good = true := by decide +kernel
theorem err_good5 : (strO (errS 5)).good = true := by decide +kernel
def tcs (k : Int) (v : VV) : List Value := Value.int .i64 k :: v.cs
def fcs (k : Int) (t : Int) (v : VV) : List Value := Value.int .i64 k :: Value.int .i64 t :: v.cs
theorem vcs_len (v : VV) : v.cs.length = 5 := rfl
theorem made_good {v : VV} (h : v.good = true) : v.made = v := by unfold VV.made; rw [h]; rfl
set_option maxHeartbeats 4000000 in
set_option maxRecDepth 100000 in
theorem checked_any (v : VV) (hg : v.good = true) (w : World) (hT : Lib.Utf8Tabs 1 2 w) : Calls Tryd.prog 47 #[v.agg] w fun e w' => e = .returned (v.agg) ∧ Below w.heap.size w w' := by
  have HI := hide (fun w hT => inside_good v hg w hT)
  have HO := hide (fun w => outside_any v hg w)
  have HT := hide hT
  have LL := hide (Hq.nil w [])
  clear hg hT
  simp only [vagg] at *
  generalize v.ifc = f at *
  go_enter Tryd.func47, Tryd.ntmps47
  go_wp2_with (first | go_skip | ((with_reducible show wpList _ _ _ _ _ _); first | ((refine bx 27 (v.cs) (by rfl) rfl rfl rfl (Nat.succ_pos _) (unhide LL) ?_); intro X1 B1 hE1 L1 hb1; have hB1 := hide (Nat.le_trans (unhide LL).fr.size (Nat.le_of_eq hE1.symm)); replace LL := hide L1; clear L1 hb1 hE1; simp only [Act.put, List.setIfInBounds_toArray, List.set_cons_succ, List.set_cons_zero]) | ((refine alG 27 (zeroV.cs) (by rfl) rfl (fun w => by kernel_rfl) (Nat.succ_pos _) (unhide LL) ?_); intro X2 B2 hE2 L2 hb2; have hB2 := hide (Nat.le_trans (unhide LL).fr.size (Nat.le_of_eq hE2.symm)); replace LL := hide L2; clear L2 hb2 hE2; simp only [Act.put, List.setIfInBounds_toArray, List.set_cons_succ, List.set_cons_zero]) | ((refine rd (by rfl) (ex_loadN (vs := v.cs) 27 5 rwV szV rfl rfl ((unhide LL).get 0 rfl) rfl rfl) ?_); simp only [Act.put, List.setIfInBounds_toArray, List.set_cons_succ, List.set_cons_zero])))
  refine (unhide HI _ (tabs_below (unhide HT) (unhide LL).fr.below)).mono ?_
  rintro e X3 ⟨rfl, hb3⟩
  replace LL := hide ((unhide LL).on hb3)
  clear hb3
  go_wp2_with (first | go_skip | ((with_reducible show wpList _ _ _ _ _ _); first | fail))
  refine (unhide HO _).mono ?_
  rintro e X4 ⟨rfl, hb4⟩
  replace LL := hide ((unhide LL).on hb4)
  clear hb4
  go_wp2_with (first | go_skip | ((with_reducible show wpList _ _ _ _ _ _); first | ((refine st (vs := v.cs) 1 27 (by rfl) rfl rfl rfl rfl (vcs_one v) (szV) (unhide LL) rfl (by simp [cput, VV.cs, KK.cs, DD.cs, zeroV]) (Or.inr (unhide hB2)) ?_); intro X5 L5 hf5 hs5; replace LL := hide L5; clear L5 hf5 hs5; simp only [Act.put, List.setIfInBounds_toArray, List.set_cons_succ, List.set_cons_zero])))
  refine ret_c (cs := v.cs) rwV szV rfl rfl rfl ((unhide LL).get 1 rfl) rfl ?_
  exact ⟨rfl, (unhide LL).fr.below⟩
set_option maxHeartbeats 4000000 in
set_option maxRecDepth 100000 in
theorem str_any (b : ByteArray) (hg : (strO b).good = true) (w : World) (hT : Lib.Utf8Tabs 1 2 w) : Calls Tryd.prog 40 #[.string b] w fun e w' => e = .returned ((strO b).agg) ∧ Below w.heap.size w w' := by
  have HC := hide (fun w hT => checked_any (strO b) hg w hT)
  have HT := hide hT
  have LL := hide (Hq.nil w [])
  clear hg hT
  simp only [vagg] at *
  go_enter Tryd.func40, Tryd.ntmps40
  go_wp2_with (first | go_skip | ((with_reducible show wpList _ _ _ _ _ _); first | ((refine alG 27 (zeroV.cs) (by rfl) rfl (fun w => by kernel_rfl) (Nat.succ_pos _) (unhide LL) ?_); intro X2 B2 hE2 L2 hb2; have hB2 := hide (Nat.le_trans (unhide LL).fr.size (Nat.le_of_eq hE2.symm)); replace LL := hide L2; clear L2 hb2 hE2; simp only [Act.put, List.setIfInBounds_toArray, List.set_cons_succ, List.set_cons_zero]) | ((refine rd (by rfl) (ex_bS b rfl rfl rfl) ?_); simp only [Act.put, List.setIfInBounds_toArray, List.set_cons_succ, List.set_cons_zero])))
  refine (unhide HC _ (tabs_below (unhide HT) (unhide LL).fr.below)).mono ?_
  rintro e X3 ⟨rfl, hb3⟩
  replace LL := hide ((unhide LL).on hb3)
  clear hb3
  go_wp2_with (first | go_skip | ((with_reducible show wpList _ _ _ _ _ _); first | ((refine st (vs := (strO b).cs) 0 27 (by rfl) rfl rfl rfl rfl (vcs_one _) (szV) (unhide LL) rfl (by simp [cput, VV.cs, KK.cs, DD.cs, zeroV]) (Or.inr (unhide hB2)) ?_); intro X5 L5 hf5 hs5; replace LL := hide L5; clear L5 hf5 hs5; simp only [Act.put, List.setIfInBounds_toArray, List.set_cons_succ, List.set_cons_zero])))
  refine ret_c (cs := (strO b).cs) rwV szV rfl rfl rfl ((unhide LL).get 0 rfl) rfl ?_
  exact ⟨rfl, (unhide LL).fr.below⟩
set_option maxRecDepth 100000 in
theorem error2 (v : VV) (B : Nat) (w : World) (hH : Holds w B (tcs 2 v)) : Calls Tryd.prog 41 #[.pointer (some ⟨B, 0, none⟩)] w fun e w' => e = .returned (.string (errS 2)) ∧ Below w.heap.size w w' := by
  have HH := hide hH
  clear hH
  go_enter Tryd.func41, Tryd.ntmps41
  go_wp2_with (first | go_skip | ((with_reducible show wpList _ _ _ _ _ _); first | ((refine rd (by rfl) (ex_load1 3 Tryd.isAgg3 rfl rfl (unhide HH) rfl) ?_); simp only [Act.put, List.setIfInBounds_toArray, List.set_cons_succ, List.set_cons_zero])))
  go_ret
  exact ⟨rfl, Below.refl _ _⟩
set_option maxRecDepth 100000 in
theorem error3 (v : VV) (B : Nat) (w : World) (hH : Holds w B (tcs 3 v)) : Calls Tryd.prog 41 #[.pointer (some ⟨B, 0, none⟩)] w fun e w' => e = .returned (.string (errS 3)) ∧ Below w.heap.size w w' := by
  have HH := hide hH
  clear hH
  go_enter Tryd.func41, Tryd.ntmps41
  go_wp2_with (first | go_skip | ((with_reducible show wpList _ _ _ _ _ _); first | ((refine rd (by rfl) (ex_load1 3 Tryd.isAgg3 rfl rfl (unhide HH) rfl) ?_); simp only [Act.put, List.setIfInBounds_toArray, List.set_cons_succ, List.set_cons_zero])))
  go_ret
  exact ⟨rfl, Below.refl _ _⟩
set_option maxRecDepth 100000 in
theorem error4 (v : VV) (B : Nat) (w : World) (hH : Holds w B (tcs 4 v)) : Calls Tryd.prog 41 #[.pointer (some ⟨B, 0, none⟩)] w fun e w' => e = .returned (.string (errS 4)) ∧ Below w.heap.size w w' := by
  have HH := hide hH
  clear hH
  go_enter Tryd.func41, Tryd.ntmps41
  go_wp2_with (first | go_skip | ((with_reducible show wpList _ _ _ _ _ _); first | ((refine rd (by rfl) (ex_load1 3 Tryd.isAgg3 rfl rfl (unhide HH) rfl) ?_); simp only [Act.put, List.setIfInBounds_toArray, List.set_cons_succ, List.set_cons_zero])))
  go_ret
  exact ⟨rfl, Below.refl _ _⟩
set_option maxRecDepth 100000 in
theorem error5 (v : VV) (B : Nat) (w : World) (hH : Holds w B (tcs 5 v)) : Calls Tryd.prog 41 #[.pointer (some ⟨B, 0, none⟩)] w fun e w' => e = .returned (.string (errS 5)) ∧ Below w.heap.size w w' := by
  have HH := hide hH
  clear hH
  go_enter Tryd.func41, Tryd.ntmps41
  go_wp2_with (first | go_skip | ((with_reducible show wpList _ _ _ _ _ _); first | ((refine rd (by rfl) (ex_load1 3 Tryd.isAgg3 rfl rfl (unhide HH) rfl) ?_); simp only [Act.put, List.setIfInBounds_toArray, List.set_cons_succ, List.set_cons_zero])))
  go_ret
  exact ⟨rfl, Below.refl _ _⟩
set_option maxHeartbeats 4000000 in
set_option maxRecDepth 100000 in
theorem asValue1t (v : VV) (B : Nat) (w : World) (hH : Holds w B (tcs 1 v)) (hg : v.good = true) (hT : Lib.Utf8Tabs 1 2 w) : Calls Tryd.prog 29 #[.pointer (some ⟨B, 0, none⟩)] w fun e w' => e = .returned (.tuple #[v.agg, .bool true]) ∧ Below w.heap.size w w' := by
  have LL := hide ((Hq.nil w []).add hH (Nat.succ_pos _) (by simp))
  replace LL : Hid (Hq w w [] [(B, tcs 1 v)]) := LL
  clear hH
  simp only [vagg] at *
  have HC := hide (fun w hT => check_any v w hT)
  rw [hg] at HC
  simp only [vagg] at HC
  have HT := hide hT
  clear hT hg
  go_enter Tryd.func29, Tryd.ntmps29
  go_wp2_with (first | go_skip | ((with_reducible show wpList _ _ _ _ _ _); first | ((refine alG 27 (zeroV.cs) (by rfl) rfl (fun w => by kernel_rfl) (Nat.succ_pos _) (unhide LL) ?_); intro X2 B2 hE2 L2 hb2; have hB2 := hide (Nat.le_trans (unhide LL).fr.size (Nat.le_of_eq hE2.symm)); replace LL := hide L2; clear L2 hb2 hE2; simp only [Act.put, List.setIfInBounds_toArray, List.set_cons_succ, List.set_cons_zero]) | ((refine rd (by rfl) (ex_load1 3 Tryd.isAgg3 rfl rfl ((unhide LL).get 0 rfl) rfl) ?_); simp only [Act.put, List.setIfInBounds_toArray, List.set_cons_succ, List.set_cons_zero]) | ((refine rd (by rfl) (ex_loadN (vs := v.cs) 27 5 rwV szV rfl rfl ((unhide LL).get 0 rfl) rfl rfl) ?_); simp only [Act.put, List.setIfInBounds_toArray, List.set_cons_succ, List.set_cons_zero]) | ((refine rd (by rfl) (ex_b0 rfl) ?_); simp only [Act.put, List.setIfInBounds_toArray, List.set_cons_succ, List.set_cons_zero])))
  refine (unhide HC _ (tabs_below (unhide HT) (unhide LL).fr.below)).mono ?_
  rintro e X3 ⟨rfl, hb3⟩
  replace LL := hide ((unhide LL).on hb3)
  clear hb3
  simp only [errB]
  go_wp2_with (first | go_skip | ((with_reducible show wpList _ _ _ _ _ _); first | ((refine alG 27 (zeroV.cs) (by rfl) rfl (fun w => by kernel_rfl) (Nat.succ_pos _) (unhide LL) ?_); intro X2 B2 hE2 L2 hb2; have hB2 := hide (Nat.le_trans (unhide LL).fr.size (Nat.le_of_eq hE2.symm)); replace LL := hide L2; clear L2 hb2 hE2; simp only [Act.put, List.setIfInBounds_toArray, List.set_cons_succ, List.set_cons_zero]) | ((refine rd (by rfl) (ex_load1 3 Tryd.isAgg3 rfl rfl ((unhide LL).get 0 rfl) rfl) ?_); simp only [Act.put, List.setIfInBounds_toArray, List.set_cons_succ, List.set_cons_zero]) | ((refine rd (by rfl) (ex_loadN (vs := v.cs) 27 5 rwV szV rfl rfl ((unhide LL).get 0 rfl) rfl rfl) ?_); simp only [Act.put, List.setIfInBounds_toArray, List.set_cons_succ, List.set_cons_zero]) | ((refine rd (by rfl) (ex_b0 rfl) ?_); simp only [Act.put, List.setIfInBounds_toArray, List.set_cons_succ, List.set_cons_zero]) | ((refine st (vs := v.cs) 1 27 (by rfl) rfl rfl rfl rfl (vcs_one _) (szV) (unhide LL) rfl (by simp [cput, VV.cs, KK.cs, DD.cs, zeroV]) (Or.inr (unhide hB2)) ?_); intro X5 L5 hf5 hs5; replace LL := hide L5; clear L5 hf5 hs5; simp only [Act.put, List.setIfInBounds_toArray, List.set_cons_succ, List.set_cons_zero])))
  refine ret_ct (cs := v.cs) rwV szV rfl rfl rfl rfl ((unhide LL).get 1 rfl) rfl ?_
  exact ⟨rfl, (unhide LL).fr.below⟩
set_option maxHeartbeats 4000000 in
set_option maxRecDepth 100000 in
theorem asValue1f (v : VV) (B : Nat) (w : World) (hH : Holds w B (tcs 1 v)) (hg : v.good = false) (hT : Lib.Utf8Tabs 1 2 w) : Calls Tryd.prog 29 #[.pointer (some ⟨B, 0, none⟩)] w fun e w' => e = .returned (.tuple #[zeroV.agg, .bool false]) ∧ Below w.heap.size w w' := by
  have LL := hide ((Hq.nil w []).add hH (Nat.succ_pos _) (by simp))
  replace LL : Hid (Hq w w [] [(B, tcs 1 v)]) := LL
  clear hH
  simp only [vagg] at *
  have HC := hide (fun w hT => check_any v w hT)
  rw [hg] at HC
  simp only [vagg] at HC
  have HT := hide hT
  clear hT hg
  go_enter Tryd.func29, Tryd.ntmps29
  go_wp2_with (first | go_skip | ((with_reducible show wpList _ _ _ _ _ _); first | ((refine alG 27 (zeroV.cs) (by rfl) rfl (fun w => by kernel_rfl) (Nat.succ_pos _) (unhide LL) ?_); intro X2 B2 hE2 L2 hb2; have hB2 := hide (Nat.le_trans (unhide LL).fr.size (Nat.le_of_eq hE2.symm)); replace LL := hide L2; clear L2 hb2 hE2; simp only [Act.put, List.setIfInBounds_toArray, List.set_cons_succ, List.set_cons_zero]) | ((refine rd (by rfl) (ex_load1 3 Tryd.isAgg3 rfl rfl ((unhide LL).get 0 rfl) rfl) ?_); simp only [Act.put, List.setIfInBounds_toArray, List.set_cons_succ, List.set_cons_zero]) | ((refine rd (by rfl) (ex_loadN (vs := v.cs) 27 5 rwV szV rfl rfl ((unhide LL).get 0 rfl) rfl rfl) ?_); simp only [Act.put, List.setIfInBounds_toArray, List.set_cons_succ, List.set_cons_zero]) | ((refine rd (by rfl) (ex_b0 rfl) ?_); simp only [Act.put, List.setIfInBounds_toArray, List.set_cons_succ, List.set_cons_zero])))
  refine (unhide HC _ (tabs_below (unhide HT) (unhide LL).fr.below)).mono ?_
  rintro e X3 ⟨rfl, hb3⟩
  replace LL := hide ((unhide LL).on hb3)
  clear hb3
  simp only [errB]
  go_wp2_with (first | go_skip | ((with_reducible show wpList _ _ _ _ _ _); first | ((refine alG 27 (zeroV.cs) (by rfl) rfl (fun w => by kernel_rfl) (Nat.succ_pos _) (unhide LL) ?_); intro X2 B2 hE2 L2 hb2; have hB2 := hide (Nat.le_trans (unhide LL).fr.size (Nat.le_of_eq hE2.symm)); replace LL := hide L2; clear L2 hb2 hE2; simp only [Act.put, List.setIfInBounds_toArray, List.set_cons_succ, List.set_cons_zero]) | ((refine rd (by rfl) (ex_load1 3 Tryd.isAgg3 rfl rfl ((unhide LL).get 0 rfl) rfl) ?_); simp only [Act.put, List.setIfInBounds_toArray, List.set_cons_succ, List.set_cons_zero]) | ((refine rd (by rfl) (ex_loadN (vs := v.cs) 27 5 rwV szV rfl rfl ((unhide LL).get 0 rfl) rfl rfl) ?_); simp only [Act.put, List.setIfInBounds_toArray, List.set_cons_succ, List.set_cons_zero]) | ((refine rd (by rfl) (ex_b0 rfl) ?_); simp only [Act.put, List.setIfInBounds_toArray, List.set_cons_succ, List.set_cons_zero]) | ((refine st (vs := zeroV.cs) 1 27 (by rfl) rfl rfl rfl rfl (vcs_one _) (szV) (unhide LL) rfl (by simp [cput, VV.cs, KK.cs, DD.cs, zeroV]) (Or.inr (unhide hB2)) ?_); intro X5 L5 hf5 hs5; replace LL := hide L5; clear L5 hf5 hs5; simp only [Act.put, List.setIfInBounds_toArray, List.set_cons_succ, List.set_cons_zero])))
  refine ret_ct (cs := zeroV.cs) rwV szV rfl rfl rfl rfl ((unhide LL).get 1 rfl) rfl ?_
  exact ⟨rfl, (unhide LL).fr.below⟩
set_option maxHeartbeats 4000000 in
set_option maxRecDepth 100000 in
theorem asValue2 (v : VV) (B : Nat) (w : World) (hH : Holds w B (tcs 2 v)) (hT : Lib.Utf8Tabs 1 2 w) : Calls Tryd.prog 29 #[.pointer (some ⟨B, 0, none⟩)] w fun e w' => e = .returned (.tuple #[(strO (errS 2)).agg, .bool true]) ∧ Below w.heap.size w w' := by
  have LL := hide ((Hq.nil w []).add hH (Nat.succ_pos _) (by simp))
  replace LL : Hid (Hq w w [] [(B, tcs 2 v)]) := LL
  clear hH
  simp only [vagg] at *
  have HE := hide (error2 v B)
  have HS := hide (fun w hT => str_any (errS 2) err_good2 w hT)
  simp only [vagg] at HS
  have HT := hide hT
  clear hT
  go_enter Tryd.func29, Tryd.ntmps29
  go_wp2_with (first | go_skip | ((with_reducible show wpList _ _ _ _ _ _); first | ((refine alG 27 (zeroV.cs) (by rfl) rfl (fun w => by kernel_rfl) (Nat.succ_pos _) (unhide LL) ?_); intro X2 B2 hE2 L2 hb2; have hB2 := hide (Nat.le_trans (unhide LL).fr.size (Nat.le_of_eq hE2.symm)); replace LL := hide L2; clear L2 hb2 hE2; simp only [Act.put, List.setIfInBounds_toArray, List.set_cons_succ, List.set_cons_zero]) | ((refine rd (by rfl) (ex_load1 3 Tryd.isAgg3 rfl rfl ((unhide LL).get 0 rfl) rfl) ?_); simp only [Act.put, List.setIfInBounds_toArray, List.set_cons_succ, List.set_cons_zero]) | ((refine rd (by rfl) (ex_loadN (vs := v.cs) 27 5 rwV szV rfl rfl ((unhide LL).get 0 rfl) rfl rfl) ?_); simp only [Act.put, List.setIfInBounds_toArray, List.set_cons_succ, List.set_cons_zero]) | ((refine rd (by rfl) (ex_b0 rfl) ?_); simp only [Act.put, List.setIfInBounds_toArray, List.set_cons_succ, List.set_cons_zero])))
  refine (unhide HE _ ((unhide LL).get 0 rfl)).mono ?_
  rintro e X3 ⟨rfl, hb3⟩
  replace LL := hide ((unhide LL).on hb3)
  clear hb3
  go_wp2_with (first | go_skip | ((with_reducible show wpList _ _ _ _ _ _); first | ((refine alG 27 (zeroV.cs) (by rfl) rfl (fun w => by kernel_rfl) (Nat.succ_pos _) (unhide LL) ?_); intro X2 B2 hE2 L2 hb2; have hB2 := hide (Nat.le_trans (unhide LL).fr.size (Nat.le_of_eq hE2.symm)); replace LL := hide L2; clear L2 hb2 hE2; simp only [Act.put, List.setIfInBounds_toArray, List.set_cons_succ, List.set_cons_zero]) | ((refine rd (by rfl) (ex_load1 3 Tryd.isAgg3 rfl rfl ((unhide LL).get 0 rfl) rfl) ?_); simp only [Act.put, List.setIfInBounds_toArray, List.set_cons_succ, List.set_cons_zero]) | ((refine rd (by rfl) (ex_loadN (vs := v.cs) 27 5 rwV szV rfl rfl ((unhide LL).get 0 rfl) rfl rfl) ?_); simp only [Act.put, List.setIfInBounds_toArray, List.set_cons_succ, List.set_cons_zero]) | ((refine rd (by rfl) (ex_b0 rfl) ?_); simp only [Act.put, List.setIfInBounds_toArray, List.set_cons_succ, List.set_cons_zero])))
  refine (unhide HS _ (tabs_below (unhide HT) (unhide LL).fr.below)).mono ?_
  rintro e X4 ⟨rfl, hb4⟩
  replace LL := hide ((unhide LL).on hb4)
  clear hb4
  go_wp2_with (first | go_skip | ((with_reducible show wpList _ _ _ _ _ _); first | ((refine alG 27 (zeroV.cs) (by rfl) rfl (fun w => by kernel_rfl) (Nat.succ_pos _) (unhide LL) ?_); intro X2 B2 hE2 L2 hb2; have hB2 := hide (Nat.le_trans (unhide LL).fr.size (Nat.le_of_eq hE2.symm)); replace LL := hide L2; clear L2 hb2 hE2; simp only [Act.put, List.setIfInBounds_toArray, List.set_cons_succ, List.set_cons_zero]) | ((refine rd (by rfl) (ex_load1 3 Tryd.isAgg3 rfl rfl ((unhide LL).get 0 rfl) rfl) ?_); simp only [Act.put, List.setIfInBounds_toArray, List.set_cons_succ, List.set_cons_zero]) | ((refine rd (by rfl) (ex_loadN (vs := v.cs) 27 5 rwV szV rfl rfl ((unhide LL).get 0 rfl) rfl rfl) ?_); simp only [Act.put, List.setIfInBounds_toArray, List.set_cons_succ, List.set_cons_zero]) | ((refine rd (by rfl) (ex_b0 rfl) ?_); simp only [Act.put, List.setIfInBounds_toArray, List.set_cons_succ, List.set_cons_zero]) | ((refine st (vs := (strO (errS 2)).cs) 1 27 (by rfl) rfl rfl rfl rfl (vcs_one _) (szV) (unhide LL) rfl (by simp [cput, VV.cs, KK.cs, DD.cs, zeroV]) (Or.inr (unhide hB2)) ?_); intro X5 L5 hf5 hs5; replace LL := hide L5; clear L5 hf5 hs5; simp only [Act.put, List.setIfInBounds_toArray, List.set_cons_succ, List.set_cons_zero])))
  refine ret_ct (cs := (strO (errS 2)).cs) rwV szV rfl rfl rfl rfl ((unhide LL).get 1 rfl) rfl ?_
  exact ⟨rfl, (unhide LL).fr.below⟩
set_option maxHeartbeats 4000000 in
set_option maxRecDepth 100000 in
theorem asValue3 (v : VV) (B : Nat) (w : World) (hH : Holds w B (tcs 3 v)) (hT : Lib.Utf8Tabs 1 2 w) : Calls Tryd.prog 29 #[.pointer (some ⟨B, 0, none⟩)] w fun e w' => e = .returned (.tuple #[(strO (errS 3)).agg, .bool true]) ∧ Below w.heap.size w w' := by
  have LL := hide ((Hq.nil w []).add hH (Nat.succ_pos _) (by simp))
  replace LL : Hid (Hq w w [] [(B, tcs 3 v)]) := LL
  clear hH
  simp only [vagg] at *
  have HE := hide (error3 v B)
  have HS := hide (fun w hT => str_any (errS 3) err_good3 w hT)
  simp only [vagg] at HS
  have HT := hide hT
  clear hT
  go_enter Tryd.func29, Tryd.ntmps29
  go_wp2_with (first | go_skip | ((with_reducible show wpList _ _ _ _ _ _); first | ((refine alG 27 (zeroV.cs) (by rfl) rfl (fun w => by kernel_rfl) (Nat.succ_pos _) (unhide LL) ?_); intro X2 B2 hE2 L2 hb2; have hB2 := hide (Nat.le_trans (unhide LL).fr.size (Nat.le_of_eq hE2.symm)); replace LL := hide L2; clear L2 hb2 hE2; simp only [Act.put, List.setIfInBounds_toArray, List.set_cons_succ, List.set_cons_zero]) | ((refine rd (by rfl) (ex_load1 3 Tryd.isAgg3 rfl rfl ((unhide LL).get 0 rfl) rfl) ?_); simp only [Act.put, List.setIfInBounds_toArray, List.set_cons_succ, List.set_cons_zero]) | ((refine rd (by rfl) (ex_loadN (vs := v.cs) 27 5 rwV szV rfl rfl ((unhide LL).get 0 rfl) rfl rfl) ?_); simp only [Act.put, List.setIfInBounds_toArray, List.set_cons_succ, List.set_cons_zero]) | ((refine rd (by rfl) (ex_b0 rfl) ?_); simp only [Act.put, List.setIfInBounds_toArray, List.set_cons_succ, List.set_cons_zero])))
  refine (unhide HE _ ((unhide LL).get 0 rfl)).mono ?_
  rintro e X3 ⟨rfl, hb3⟩
  replace LL := hide ((unhide LL).on hb3)
  clear hb3
  go_wp2_with (first | go_skip | ((with_reducible show wpList _ _ _ _ _ _); first | ((refine alG 27 (zeroV.cs) (by rfl) rfl (fun w => by kernel_rfl) (Nat.succ_pos _) (unhide LL) ?_); intro X2 B2 hE2 L2 hb2; have hB2 := hide (Nat.le_trans (unhide LL).fr.size (Nat.le_of_eq hE2.symm)); replace LL := hide L2; clear L2 hb2 hE2; simp only [Act.put, List.setIfInBounds_toArray, List.set_cons_succ, List.set_cons_zero]) | ((refine rd (by rfl) (ex_load1 3 Tryd.isAgg3 rfl rfl ((unhide LL).get 0 rfl) rfl) ?_); simp only [Act.put, List.setIfInBounds_toArray, List.set_cons_succ, List.set_cons_zero]) | ((refine rd (by rfl) (ex_loadN (vs := v.cs) 27 5 rwV szV rfl rfl ((unhide LL).get 0 rfl) rfl rfl) ?_); simp only [Act.put, List.setIfInBounds_toArray, List.set_cons_succ, List.set_cons_zero]) | ((refine rd (by rfl) (ex_b0 rfl) ?_); simp only [Act.put, List.setIfInBounds_toArray, List.set_cons_succ, List.set_cons_zero])))
  refine (unhide HS _ (tabs_below (unhide HT) (unhide LL).fr.below)).mono ?_
  rintro e X4 ⟨rfl, hb4⟩
  replace LL := hide ((unhide LL).on hb4)
  clear hb4
  go_wp2_with (first | go_skip | ((with_reducible show wpList _ _ _ _ _ _); first | ((refine alG 27 (zeroV.cs) (by rfl) rfl (fun w => by kernel_rfl) (Nat.succ_pos _) (unhide LL) ?_); intro X2 B2 hE2 L2 hb2; have hB2 := hide (Nat.le_trans (unhide LL).fr.size (Nat.le_of_eq hE2.symm)); replace LL := hide L2; clear L2 hb2 hE2; simp only [Act.put, List.setIfInBounds_toArray, List.set_cons_succ, List.set_cons_zero]) | ((refine rd (by rfl) (ex_load1 3 Tryd.isAgg3 rfl rfl ((unhide LL).get 0 rfl) rfl) ?_); simp only [Act.put, List.setIfInBounds_toArray, List.set_cons_succ, List.set_cons_zero]) | ((refine rd (by rfl) (ex_loadN (vs := v.cs) 27 5 rwV szV rfl rfl ((unhide LL).get 0 rfl) rfl rfl) ?_); simp only [Act.put, List.setIfInBounds_toArray, List.set_cons_succ, List.set_cons_zero]) | ((refine rd (by rfl) (ex_b0 rfl) ?_); simp only [Act.put, List.setIfInBounds_toArray, List.set_cons_succ, List.set_cons_zero]) | ((refine st (vs := (strO (errS 3)).cs) 1 27 (by rfl) rfl rfl rfl rfl (vcs_one _) (szV) (unhide LL) rfl (by simp [cput, VV.cs, KK.cs, DD.cs, zeroV]) (Or.inr (unhide hB2)) ?_); intro X5 L5 hf5 hs5; replace LL := hide L5; clear L5 hf5 hs5; simp only [Act.put, List.setIfInBounds_toArray, List.set_cons_succ, List.set_cons_zero])))
  refine ret_ct (cs := (strO (errS 3)).cs) rwV szV rfl rfl rfl rfl ((unhide LL).get 1 rfl) rfl ?_
  exact ⟨rfl, (unhide LL).fr.below⟩
set_option maxHeartbeats 4000000 in
set_option maxRecDepth 100000 in
theorem asValue4 (v : VV) (B : Nat) (w : World) (hH : Holds w B (tcs 4 v)) (hT : Lib.Utf8Tabs 1 2 w) : Calls Tryd.prog 29 #[.pointer (some ⟨B, 0, none⟩)] w fun e w' => e = .returned (.tuple #[(strO (errS 4)).agg, .bool true]) ∧ Below w.heap.size w w' := by
  have LL := hide ((Hq.nil w []).add hH (Nat.succ_pos _) (by simp))
  replace LL : Hid (Hq w w [] [(B, tcs 4 v)]) := LL
  clear hH
  simp only [vagg] at *
  have HE := hide (error4 v B)
  have HS := hide (fun w hT => str_any (errS 4) err_good4 w hT)
  simp only [vagg] at HS
  have HT := hide hT
  clear hT
  go_enter Tryd.func29, Tryd.ntmps29
  go_wp2_with (first | go_skip | ((with_reducible show wpList _ _ _ _ _ _); first | ((refine alG 27 (zeroV.cs) (by rfl) rfl (fun w => by kernel_rfl) (Nat.succ_pos _) (unhide LL) ?_); intro X2 B2 hE2 L2 hb2; have hB2 := hide (Nat.le_trans (unhide LL).fr.size (Nat.le_of_eq hE2.symm)); replace LL := hide L2; clear L2 hb2 hE2; simp only [Act.put, List.setIfInBounds_toArray, List.set_cons_succ, List.set_cons_zero]) | ((refine rd (by rfl) (ex_load1 3 Tryd.isAgg3 rfl rfl ((unhide LL).get 0 rfl) rfl) ?_); simp only [Act.put, List.setIfInBounds_toArray, List.set_cons_succ, List.set_cons_zero]) | ((refine rd (by rfl) (ex_loadN (vs := v.cs) 27 5 rwV szV rfl rfl ((unhide LL).get 0 rfl) rfl rfl) ?_); simp only [Act.put, List.setIfInBounds_toArray, List.set_cons_succ, List.set_cons_zero]) | ((refine rd (by rfl) (ex_b0 rfl) ?_); simp only [Act.put, List.setIfInBounds_toArray, List.set_cons_succ, List.set_cons_zero])))
  refine (unhide HE _ ((unhide LL).get 0 rfl)).mono ?_
  rintro e X3 ⟨rfl, hb3⟩
  replace LL := hide ((unhide LL).on hb3)
  clear hb3
  go_wp2_with (first | go_skip | ((with_reducible show wpList _ _ _ _ _ _); first | ((refine alG 27 (zeroV.cs) (by rfl) rfl (fun w => by kernel_rfl) (Nat.succ_pos _) (unhide LL) ?_); intro X2 B2 hE2 L2 hb2; have hB2 := hide (Nat.le_trans (unhide LL).fr.size (Nat.le_of_eq hE2.symm)); replace LL := hide L2; clear L2 hb2 hE2; simp only [Act.put, List.setIfInBounds_toArray, List.set_cons_succ, List.set_cons_zero]) | ((refine rd (by rfl) (ex_load1 3 Tryd.isAgg3 rfl rfl ((unhide LL).get 0 rfl) rfl) ?_); simp only [Act.put, List.setIfInBounds_toArray, List.set_cons_succ, List.set_cons_zero]) | ((refine rd (by rfl) (ex_loadN (vs := v.cs) 27 5 rwV szV rfl rfl ((unhide LL).get 0 rfl) rfl rfl) ?_); simp only [Act.put, List.setIfInBounds_toArray, List.set_cons_succ, List.set_cons_zero]) | ((refine rd (by rfl) (ex_b0 rfl) ?_); simp only [Act.put, List.setIfInBounds_toArray, List.set_cons_succ, List.set_cons_zero])))
  refine (unhide HS _ (tabs_below (unhide HT) (unhide LL).fr.below)).mono ?_
  rintro e X4 ⟨rfl, hb4⟩
  replace LL := hide ((unhide LL).on hb4)
  clear hb4
  go_wp2_with (first | go_skip | ((with_reducible show wpList _ _ _ _ _ _); first | ((refine alG 27 (zeroV.cs) (by rfl) rfl (fun w => by kernel_rfl) (Nat.succ_pos _) (unhide LL) ?_); intro X2 B2 hE2 L2 hb2; have hB2 := hide (Nat.le_trans (unhide LL).fr.size (Nat.le_of_eq hE2.symm)); replace LL := hide L2; clear L2 hb2 hE2; simp only [Act.put, List.setIfInBounds_toArray, List.set_cons_succ, List.set_cons_zero]) | ((refine rd (by rfl) (ex_load1 3 Tryd.isAgg3 rfl rfl ((unhide LL).get 0 rfl) rfl) ?_); simp only [Act.put, List.setIfInBounds_toArray, List.set_cons_succ, List.set_cons_zero]) | ((refine rd (by rfl) (ex_loadN (vs := v.cs) 27 5 rwV szV rfl rfl ((unhide LL).get 0 rfl) rfl rfl) ?_); simp only [Act.put, List.setIfInBounds_toArray, List.set_cons_succ, List.set_cons_zero]) | ((refine rd (by rfl) (ex_b0 rfl) ?_); simp only [Act.put, List.setIfInBounds_toArray, List.set_cons_succ, List.set_cons_zero]) | ((refine st (vs := (strO (errS 4)).cs) 1 27 (by rfl) rfl rfl rfl rfl (vcs_one _) (szV) (unhide LL) rfl (by simp [cput, VV.cs, KK.cs, DD.cs, zeroV]) (Or.inr (unhide hB2)) ?_); intro X5 L5 hf5 hs5; replace LL := hide L5; clear L5 hf5 hs5; simp only [Act.put, List.setIfInBounds_toArray, List.set_cons_succ, List.set_cons_zero])))
  refine ret_ct (cs := (strO (errS 4)).cs) rwV szV rfl rfl rfl rfl ((unhide LL).get 1 rfl) rfl ?_
  exact ⟨rfl, (unhide LL).fr.below⟩
set_option maxHeartbeats 4000000 in
set_option maxRecDepth 100000 in
theorem asValue5 (v : VV) (B : Nat) (w : World) (hH : Holds w B (tcs 5 v)) (hT : Lib.Utf8Tabs 1 2 w) : Calls Tryd.prog 29 #[.pointer (some ⟨B, 0, none⟩)] w fun e w' => e = .returned (.tuple #[(strO (errS 5)).agg, .bool true]) ∧ Below w.heap.size w w' := by
  have LL := hide ((Hq.nil w []).add hH (Nat.succ_pos _) (by simp))
  replace LL : Hid (Hq w w [] [(B, tcs 5 v)]) := LL
  clear hH
  simp only [vagg] at *
  have HE := hide (error5 v B)
  have HS := hide (fun w hT => str_any (errS 5) err_good5 w hT)
  simp only [vagg] at HS
  have HT := hide hT
  clear hT
  go_enter Tryd.func29, Tryd.ntmps29
  go_wp2_with (first | go_skip | ((with_reducible show wpList _ _ _ _ _ _); first | ((refine alG 27 (zeroV.cs) (by rfl) rfl (fun w => by kernel_rfl) (Nat.succ_pos _) (unhide LL) ?_); intro X2 B2 hE2 L2 hb2; have hB2 := hide (Nat.le_trans (unhide LL).fr.size (Nat.le_of_eq hE2.symm)); replace LL := hide L2; clear L2 hb2 hE2; simp only [Act.put, List.setIfInBounds_toArray, List.set_cons_succ, List.set_cons_zero]) | ((refine rd (by rfl) (ex_load1 3 Tryd.isAgg3 rfl rfl ((unhide LL).get 0 rfl) rfl) ?_); simp only [Act.put, List.setIfInBounds_toArray, List.set_cons_succ, List.set_cons_zero]) | ((refine rd (by rfl) (ex_loadN (vs := v.cs) 27 5 rwV szV rfl rfl ((unhide LL).get 0 rfl) rfl rfl) ?_); simp only [Act.put, List.setIfInBounds_toArray, List.set_cons_succ, List.set_cons_zero]) | ((refine rd (by rfl) (ex_b0 rfl) ?_); simp only [Act.put, List.setIfInBounds_toArray, List.set_cons_succ, List.set_cons_zero])))
  refine (unhide HE _ ((unhide LL).get 0 rfl)).mono ?_
  rintro e X3 ⟨rfl, hb3⟩
  replace LL := hide ((unhide LL).on hb3)
  clear hb3
  go_wp2_with (first | go_skip | ((with_reducible show wpList _ _ _ _ _ _); first | ((refine alG 27 (zeroV.cs) (by rfl) rfl (fun w => by kernel_rfl) (Nat.succ_pos _) (unhide LL) ?_); intro X2 B2 hE2 L2 hb2; have hB2 := hide (Nat.le_trans (unhide LL).fr.size (Nat.le_of_eq hE2.symm)); replace LL := hide L2; clear L2 hb2 hE2; simp only [Act.put, List.setIfInBounds_toArray, List.set_cons_succ, List.set_cons_zero]) | ((refine rd (by rfl) (ex_load1 3 Tryd.isAgg3 rfl rfl ((unhide LL).get 0 rfl) rfl) ?_); simp only [Act.put, List.setIfInBounds_toArray, List.set_cons_succ, List.set_cons_zero]) | ((refine rd (by rfl) (ex_loadN (vs := v.cs) 27 5 rwV szV rfl rfl ((unhide LL).get 0 rfl) rfl rfl) ?_); simp only [Act.put, List.setIfInBounds_toArray, List.set_cons_succ, List.set_cons_zero]) | ((refine rd (by rfl) (ex_b0 rfl) ?_); simp only [Act.put, List.setIfInBounds_toArray, List.set_cons_succ, List.set_cons_zero])))
  refine (unhide HS _ (tabs_below (unhide HT) (unhide LL).fr.below)).mono ?_
  rintro e X4 ⟨rfl, hb4⟩
  replace LL := hide ((unhide LL).on hb4)
  clear hb4
  go_wp2_with (first | go_skip | ((with_reducible show wpList _ _ _ _ _ _); first | ((refine alG 27 (zeroV.cs) (by rfl) rfl (fun w => by kernel_rfl) (Nat.succ_pos _) (unhide LL) ?_); intro X2 B2 hE2 L2 hb2; have hB2 := hide (Nat.le_trans (unhide LL).fr.size (Nat.le_of_eq hE2.symm)); replace LL := hide L2; clear L2 hb2 hE2; simp only [Act.put, List.setIfInBounds_toArray, List.set_cons_succ, List.set_cons_zero]) | ((refine rd (by rfl) (ex_load1 3 Tryd.isAgg3 rfl rfl ((unhide LL).get 0 rfl) rfl) ?_); simp only [Act.put, List.setIfInBounds_toArray, List.set_cons_succ, List.set_cons_zero]) | ((refine rd (by rfl) (ex_loadN (vs := v.cs) 27 5 rwV szV rfl rfl ((unhide LL).get 0 rfl) rfl rfl) ?_); simp only [Act.put, List.setIfInBounds_toArray, List.set_cons_succ, List.set_cons_zero]) | ((refine rd (by rfl) (ex_b0 rfl) ?_); simp only [Act.put, List.setIfInBounds_toArray, List.set_cons_succ, List.set_cons_zero]) | ((refine st (vs := (strO (errS 5)).cs) 1 27 (by rfl) rfl rfl rfl rfl (vcs_one _) (szV) (unhide LL) rfl (by simp [cput, VV.cs, KK.cs, DD.cs, zeroV]) (Or.inr (unhide hB2)) ?_); intro X5 L5 hf5 hs5; replace LL := hide L5; clear L5 hf5 hs5; simp only [Act.put, List.setIfInBounds_toArray, List.set_cons_succ, List.set_cons_zero])))
  refine ret_ct (cs := (strO (errS 5)).cs) rwV szV rfl rfl rfl rfl ((unhide LL).get 1 rfl) rfl ?_
  exact ⟨rfl, (unhide LL).fr.below⟩
set_option maxHeartbeats 4000000 in
set_option maxRecDepth 100000 in
theorem asValueO (k : Int) (v : VV) (B : Nat) (w : World) (hH : Holds w B (tcs k v)) (h1 : k ≠ 1) (hk : ¬ (2 ≤ k ∧ k ≤ 5)) : Calls Tryd.prog 29 #[.pointer (some ⟨B, 0, none⟩)] w fun e w' => e = .returned (.tuple #[zeroV.agg, .bool false]) ∧ Below w.heap.size w w' := by
  have LL := hide ((Hq.nil w []).add hH (Nat.succ_pos _) (by simp))
  replace LL : Hid (Hq w w [] [(B, tcs k v)]) := LL
  clear hH
  simp only [vagg] at *
  by_cases h2 : 2 ≤ k
  · have HG5 : ¬ k ≤ 5 := by omega
    have hg5 : decide (k ≤ 5) = false := decide_eq_false HG5
    have hg2 : decide (k ≥ 2) = true := decide_eq_true h2
    have h2d : decide (2 ≤ k) = true := decide_eq_true h2
    clear hk h2
    have HN1 := hide h1
    clear h1
    go_enter Tryd.func29, Tryd.ntmps29
    go_wp2_with (first | go_skip | ((with_reducible show wpList _ _ _ _ _ _); first | ((refine alG 27 (zeroV.cs) (by rfl) rfl (fun w => by kernel_rfl) (Nat.succ_pos _) (unhide LL) ?_); intro X2 B2 hE2 L2 hb2; have hB2 := hide (Nat.le_trans (unhide LL).fr.size (Nat.le_of_eq hE2.symm)); replace LL := hide L2; clear L2 hb2 hE2; simp only [Act.put, List.setIfInBounds_toArray, List.set_cons_succ, List.set_cons_zero]) | ((refine rd (by rfl) (ex_load1 3 Tryd.isAgg3 rfl rfl ((unhide LL).get 0 rfl) rfl) ?_); simp only [Act.put, List.setIfInBounds_toArray, List.set_cons_succ, List.set_cons_zero]) | ((refine rd (by rfl) (ex_loadN (vs := v.cs) 27 5 rwV szV rfl rfl ((unhide LL).get 0 rfl) rfl rfl) ?_); simp only [Act.put, List.setIfInBounds_toArray, List.set_cons_succ, List.set_cons_zero]) | ((refine rd (by rfl) (ex_b0 rfl) ?_); simp only [Act.put, List.setIfInBounds_toArray, List.set_cons_succ, List.set_cons_zero]) | ((refine rd (by rfl) (ex_eqNo rfl rfl rfl (unhide HN1)) ?_); simp only [Act.put, List.setIfInBounds_toArray, List.set_cons_succ, List.set_cons_zero]) | ((refine st (vs := zeroV.cs) 1 27 (by rfl) rfl rfl rfl rfl (vcs_one _) (szV) (unhide LL) rfl (by simp [cput, VV.cs, KK.cs, DD.cs, zeroV]) (Or.inr (unhide hB2)) ?_); intro X5 L5 hf5 hs5; replace LL := hide L5; clear L5 hf5 hs5; simp only [Act.put, List.setIfInBounds_toArray, List.set_cons_succ, List.set_cons_zero])))
    refine ret_ct (cs := zeroV.cs) rwV szV rfl rfl rfl rfl ((unhide LL).get 1 rfl) rfl ?_
    exact ⟨rfl, (unhide LL).fr.below⟩
  · have h2d : decide (2 ≤ k) = false := decide_eq_false h2
    clear hk
    have HN1 := hide h1
    clear h1
    go_enter Tryd.func29, Tryd.ntmps29
    go_wp2_with (first | go_skip | ((with_reducible show wpList _ _ _ _ _ _); first | ((refine alG 27 (zeroV.cs) (by rfl) rfl (fun w => by kernel_rfl) (Nat.succ_pos _) (unhide LL) ?_); intro X2 B2 hE2 L2 hb2; have hB2 := hide (Nat.le_trans (unhide LL).fr.size (Nat.le_of_eq hE2.symm)); replace LL := hide L2; clear L2 hb2 hE2; simp only [Act.put, List.setIfInBounds_toArray, List.set_cons_succ, List.set_cons_zero]) | ((refine rd (by rfl) (ex_load1 3 Tryd.isAgg3 rfl rfl ((unhide LL).get 0 rfl) rfl) ?_); simp only [Act.put, List.setIfInBounds_toArray, List.set_cons_succ, List.set_cons_zero]) | ((refine rd (by rfl) (ex_loadN (vs := v.cs) 27 5 rwV szV rfl rfl ((unhide LL).get 0 rfl) rfl rfl) ?_); simp only [Act.put, List.setIfInBounds_toArray, List.set_cons_succ, List.set_cons_zero]) | ((refine rd (by rfl) (ex_b0 rfl) ?_); simp only [Act.put, List.setIfInBounds_toArray, List.set_cons_succ, List.set_cons_zero]) | ((refine rd (by rfl) (ex_eqNo rfl rfl rfl (unhide HN1)) ?_); simp only [Act.put, List.setIfInBounds_toArray, List.set_cons_succ, List.set_cons_zero]) | ((refine st (vs := zeroV.cs) 1 27 (by rfl) rfl rfl rfl rfl (vcs_one _) (szV) (unhide LL) rfl (by simp [cput, VV.cs, KK.cs, DD.cs, zeroV]) (Or.inr (unhide hB2)) ?_); intro X5 L5 hf5 hs5; replace LL := hide L5; clear L5 hf5 hs5; simp only [Act.put, List.setIfInBounds_toArray, List.set_cons_succ, List.set_cons_zero])))
    refine ret_ct (cs := zeroV.cs) rwV szV rfl rfl rfl rfl ((unhide LL).get 1 rfl) rfl ?_
    exact ⟨rfl, (unhide LL).fr.below⟩
theorem cau_cases (k : Int) : k = 1 ∨ k = 2 ∨ k = 3 ∨ k = 4 ∨ k = 5 ∨ (k ≠ 1 ∧ ¬ (2 ≤ k ∧ k ≤ 5)) := by omega
theorem cau_other {k : Int} {v : VV} (h1 : k ≠ 1) (h2 : ¬ (2 ≤ k ∧ k ≤ 5)) : cauV k v = zeroV ∧ cauB k v = false := by
  have e1 : (k == 1) = false := by simpa using h1
  have e2 : (decide (2 ≤ k) && decide (k ≤ 5)) = false := by rw [← Bool.decide_and]; exact decide_eq_false h2
  simp [cauV, cauB, e1, e2]
theorem asValue_any (k : Int) (v : VV) (B : Nat) (w : World) (hH : Holds w B (tcs k v)) (hT : Lib.Utf8Tabs 1 2 w) : Calls Tryd.prog 29 #[.pointer (some ⟨B, 0, none⟩)] w fun e w' => e = .returned (.tuple #[(cauV k v).agg, .bool (cauB k v)]) ∧ Below w.heap.size w w' := by
  rcases cau_cases k with rfl | rfl | rfl | rfl | rfl | ⟨h1, h2⟩
  · cases hg : v.good
    · have e : cauV 1 v = zeroV ∧ cauB 1 v = false := by simp [cauV, cauB, hg]
      rw [e.1, e.2]; exact asValue1f v B w hH hg hT
    · have e : cauV 1 v = v ∧ cauB 1 v = true := by simp [cauV, cauB, hg]
      rw [e.1, e.2]; exact asValue1t v B w hH hg hT
  · exact asValue2 v B w hH hT
  · exact asValue3 v B w hH hT
  · exact asValue4 v B w hH hT
  · exact asValue5 v B w hH hT
  · rw [(cau_other h1 h2).1, (cau_other h1 h2).2]; exact asValueO k v B w hH h1 h2
end Go.Proofs.YteohiamifoonkaaDoor
