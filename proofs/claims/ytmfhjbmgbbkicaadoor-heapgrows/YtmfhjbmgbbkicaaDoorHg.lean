import Derived.Test.YtmfhjbmgbbkicaaDoorHf
namespace Go.Proofs.YtmfhjbmgbbkicaaDoor
open Go Go.Proofs Go.Maps Go.RowKit FM
set_option linter.unusedSimpArgs false
set_option linter.unusedVariables false
set_option maxHeartbeats 1000000
theorem ret_ct {fn : Func} {R : Ending → World → Prop} {a : Act} {w : World} {b r q T n : Nat} {v : Value} {cs : List Value} (hT : ∃ d, Tryd.prog.underlying T = some d ∧ d.isRow = true) (hn : (Tryd.prog.info? T).map (·.size) = some n) (hr : fn.results = #[.cell r T, .tmp q]) (hdf : a.defers = [])
    (hx : a.tmps.getD r undef = .pointer (some ⟨b, 0, none⟩)) (hq : a.tmps.getD q undef = v) (hc : Holds w b cs) (hcs : cs.length = n) (h : R (.returned (.tuple #[.agg cs.toArray, v])) w) : bodyPost Tryd.prog fn R .ret a w := by
  obtain ⟨t, hu, hd⟩ := hT
  have h0 := hc.mid 0 n
  rw [List.drop_zero, List.take_of_length_le (by omega)] at h0
  have hl := run_loadVar_mid (P := Tryd.prog) w b 0 T _ t h0 hu hd (by rw [hn, hcs])
  refine ⟨hdf, _, ?_, h⟩
  simp only [Array.getD_eq_getD_getElem?] at hx hq
  unfold results
  simp [hr, hx, hq, hl, asAddr]
  try rfl
theorem eqB_self (a : VV) : eqB a a = true := by simp [eqB]
/-- A fault's cells: a number alone. -/
def fcs (e : Int) : List Value := [.int .i64 e, .int .i64 0] ++ zeroV.cs
theorem fcs_one (e : Int) : ∀ u ∈ fcs e, u.oneCell' = true := by simp [fcs, VV.cs, Value.oneCell']
theorem fcs_put (a b : Int) : cput (fcs a) 0 (fcs b) = fcs b := by simp [cput, fcs, VV.cs]
theorem ta25 (e : Int) (w : World) : (Instr.typeAssert (.iface 25 (.int .i64 e)) 30 25 true).run Tryd.prog w = .ok (.tuple #[.int .i64 e, .bool true]) w := by kernel_rfl
theorem ex_build46 {o : Oper} {a : Act} {w : World} {x0 : Operand} (e : Int) (ho : o.op = .build 46 #[(0, x0)]) (h0 : a.eval x0 = .int .i64 e) : (execOp a.eval o).run Tryd.prog w = .ok (.value (.agg (fcs e).toArray)) w := by
  have e1 : (Instr.build 46 #[(0, .int .i64 e)]).run Tryd.prog w = .ok (.agg (fcs e).toArray) w := by kernel_rfl
  unfold execOp
  simp only [ho]
  simp [h0, e1]
theorem ex_eql46 {o : Oper} {a : Act} {w : World} {x y : Operand} (ho : o.op = .binOp .eql 46 x y 46) (hx : a.eval x = .agg (fcs 3).toArray) (hy : a.eval y = .agg (fcs 3).toArray) : (execOp a.eval o).run Tryd.prog w = .ok (.value (.bool true)) w := by
  have e : (binOp .eql 46 (.agg (fcs 3).toArray) (.agg (fcs 3).toArray)).run Tryd.prog w = .ok (.bool true) w := by kernel_rfl
  have e2 : (eqGuard .eql 46 x y (.agg (fcs 3).toArray) (.agg (fcs 3).toArray)).run Tryd.prog w = .ok () w := by kernel_rfl
  unfold execOp
  simp only [ho, hx, hy]
  simp [e, e2]
attribute [local go_sem] ta25
set_option maxRecDepth 100000 in
theorem fault12 (w : World) : Calls Tryd.prog 12 #[.iface 25 (.int .i64 3)] w fun e w' => e = .returned (.agg (fcs 3).toArray) ∧ Below w.heap.size w w' := by
  have LL := hide (Hq.nil w [])
  go_enter Tryd.func12, Tryd.ntmps12
  go_wp2_with (first | go_skip | ((with_reducible show wpList _ _ _ _ _ _); first | ((refine alG 46 (fcs 0) (by rfl) rfl (fun w => by kernel_rfl) (Nat.succ_pos _) (unhide LL) ?_); intro X2 B2 hE2 L2 hb2; have hB2 := hide (Nat.le_trans (unhide LL).fr.size (Nat.le_of_eq hE2.symm)); replace LL := hide L2; clear L2 hb2 hE2; simp only [Act.put, List.setIfInBounds_toArray, List.set_cons_succ, List.set_cons_zero]) | ((refine rd (by rfl) (ex_build46 3 rfl rfl) ?_); simp only [Act.put, List.setIfInBounds_toArray, List.set_cons_succ, List.set_cons_zero]) | ((refine st (vs := fcs 3) 0 46 (by rfl) rfl rfl rfl rfl (fcs_one _) siz46 (unhide LL) rfl (by simp [fcs, VV.cs]) (Or.inr (unhide hB2)) ?_); intro X3 L3 hf3 hs3; replace LL := hide L3; clear L3 hf3 hs3; simp only [Act.put, List.setIfInBounds_toArray, List.set_cons_succ, List.set_cons_zero])))
  refine ret_c row46 siz46 rfl rfl rfl ((unhide LL).get 0 rfl) rfl ⟨by rw [fcs_put], (unhide LL).fr.below⟩
set_option maxRecDepth 100000 in
theorem stop13 (w : World) : Calls Tryd.prog 13 #[.int .i64 3] w fun e w' => e = .returned (.agg (fcs 3).toArray) ∧ Below w.heap.size w w' := by
  have LL := hide (Hq.nil w [])
  go_enter Tryd.func13, Tryd.ntmps13
  go_wp2_with (first | go_skip | ((with_reducible show wpList _ _ _ _ _ _); first | ((refine alG 46 (fcs 0) (by rfl) rfl (fun w => by kernel_rfl) (Nat.succ_pos _) (unhide LL) ?_); intro X2 B2 hE2 L2 hb2; have hB2 := hide (Nat.le_trans (unhide LL).fr.size (Nat.le_of_eq hE2.symm)); replace LL := hide L2; clear L2 hb2 hE2; simp only [Act.put, List.setIfInBounds_toArray, List.set_cons_succ, List.set_cons_zero]) | ((refine rd (by rfl) (ex_build46 3 rfl rfl) ?_); simp only [Act.put, List.setIfInBounds_toArray, List.set_cons_succ, List.set_cons_zero]) | ((refine st (vs := fcs 3) 0 46 (by rfl) rfl rfl rfl rfl (fcs_one _) siz46 (unhide LL) rfl (by simp [fcs, VV.cs]) (Or.inr (unhide hB2)) ?_); intro X3 L3 hf3 hs3; replace LL := hide L3; clear L3 hf3 hs3; simp only [Act.put, List.setIfInBounds_toArray, List.set_cons_succ, List.set_cons_zero])))
  refine ret_c row46 siz46 rfl rfl rfl ((unhide LL).get 0 rfl) rfl ⟨by rw [fcs_put], (unhide LL).fr.below⟩
set_option maxHeartbeats 2000000 in
set_option maxRecDepth 100000 in
theorem same10 (p : VV) (A B : Option Addr) (a b : Nat) (w : World) : Calls Tryd.prog 10 #[.agg (shc p A a).toArray, .agg (shc p B b).toArray] w fun e w' => e = .returned (.bool true) ∧ Below w.heap.size w w' := by
  have LL := hide (Hq.nil w [])
  have HE := hide (eq_any p p)
  rw [eqB_self, vagg] at HE
  go_enter Tryd.func10, Tryd.ntmps10
  go_wp2_with (first | go_skip | ((with_reducible show wpList _ _ _ _ _ _); first | ((refine bx 38 (shc p A a) (by rfl) rfl rfl rfl (Nat.succ_pos _) (unhide LL) ?_); intro X1 B1 hE1 L1 hb1; have hB1 := hide (Nat.le_trans (unhide LL).fr.size (Nat.le_of_eq hE1.symm)); replace LL := hide L1; clear L1 hb1 hE1; simp only [Act.put, List.setIfInBounds_toArray, List.set_cons_succ, List.set_cons_zero]) | ((refine bx 38 (shc p B b) (by rfl) rfl rfl rfl (Nat.succ_pos _) (unhide LL) ?_); intro X2 B2 hE2 L2 hb2; have hB2 := hide (Nat.le_trans (unhide LL).fr.size (Nat.le_of_eq hE2.symm)); replace LL := hide L2; clear L2 hb2 hE2; simp only [Act.put, List.setIfInBounds_toArray, List.set_cons_succ, List.set_cons_zero]) | ((refine rd (by rfl) (ex_load1 3 Tryd.isAgg3 rfl rfl ((unhide LL).get 0 rfl) rfl) ?_); simp only [Act.put, List.setIfInBounds_toArray, List.set_cons_succ, List.set_cons_zero]) | ((refine rd (by rfl) (ex_load1 3 Tryd.isAgg3 rfl rfl ((unhide LL).get 1 rfl) rfl) ?_); simp only [Act.put, List.setIfInBounds_toArray, List.set_cons_succ, List.set_cons_zero]) | ((refine rd (by rfl) (ex_loadN (vs := p.cs) 35 5 row35 siz35 rfl rfl ((unhide LL).get 0 rfl) rfl rfl) ?_); simp only [Act.put, List.setIfInBounds_toArray, List.set_cons_succ, List.set_cons_zero]) | ((refine rd (by rfl) (ex_loadN (vs := p.cs) 35 5 row35 siz35 rfl rfl ((unhide LL).get 1 rfl) rfl rfl) ?_); simp only [Act.put, List.setIfInBounds_toArray, List.set_cons_succ, List.set_cons_zero]) | ((refine rd (by rfl) (ex_load1 4 Tryd.isAgg4 rfl rfl ((unhide LL).get 0 rfl) rfl) ?_); simp only [Act.put, List.setIfInBounds_toArray, List.set_cons_succ, List.set_cons_zero]) | ((refine rd (by rfl) (ex_load1 4 Tryd.isAgg4 rfl rfl ((unhide LL).get 1 rfl) rfl) ?_); simp only [Act.put, List.setIfInBounds_toArray, List.set_cons_succ, List.set_cons_zero]) | ((refine rd (by rfl) (ex_load1 36 Tryd.isAgg36 rfl rfl ((unhide LL).get 0 rfl) rfl) ?_); simp only [Act.put, List.setIfInBounds_toArray, List.set_cons_succ, List.set_cons_zero]) | ((refine rd (by rfl) (ex_load1 36 Tryd.isAgg36 rfl rfl ((unhide LL).get 1 rfl) rfl) ?_); simp only [Act.put, List.setIfInBounds_toArray, List.set_cons_succ, List.set_cons_zero]) | ((refine rd (by rfl) (ex_lenG 36 64 Tryd.underlying36 rfl rfl) ?_); simp only [Act.put, List.setIfInBounds_toArray, List.set_cons_succ, List.set_cons_zero])))
  refine (unhide HE _).mono ?_
  rintro e X3 ⟨rfl, hb⟩
  replace LL := hide ((unhide LL).on hb)
  clear hb
  go_wp2_with (first | go_skip | ((with_reducible show wpList _ _ _ _ _ _); first | ((refine bx 38 (shc p A a) (by rfl) rfl rfl rfl (Nat.succ_pos _) (unhide LL) ?_); intro X1 B1 hE1 L1 hb1; have hB1 := hide (Nat.le_trans (unhide LL).fr.size (Nat.le_of_eq hE1.symm)); replace LL := hide L1; clear L1 hb1 hE1; simp only [Act.put, List.setIfInBounds_toArray, List.set_cons_succ, List.set_cons_zero]) | ((refine bx 38 (shc p B b) (by rfl) rfl rfl rfl (Nat.succ_pos _) (unhide LL) ?_); intro X2 B2 hE2 L2 hb2; have hB2 := hide (Nat.le_trans (unhide LL).fr.size (Nat.le_of_eq hE2.symm)); replace LL := hide L2; clear L2 hb2 hE2; simp only [Act.put, List.setIfInBounds_toArray, List.set_cons_succ, List.set_cons_zero]) | ((refine rd (by rfl) (ex_load1 3 Tryd.isAgg3 rfl rfl ((unhide LL).get 0 rfl) rfl) ?_); simp only [Act.put, List.setIfInBounds_toArray, List.set_cons_succ, List.set_cons_zero]) | ((refine rd (by rfl) (ex_load1 3 Tryd.isAgg3 rfl rfl ((unhide LL).get 1 rfl) rfl) ?_); simp only [Act.put, List.setIfInBounds_toArray, List.set_cons_succ, List.set_cons_zero]) | ((refine rd (by rfl) (ex_loadN (vs := p.cs) 35 5 row35 siz35 rfl rfl ((unhide LL).get 0 rfl) rfl rfl) ?_); simp only [Act.put, List.setIfInBounds_toArray, List.set_cons_succ, List.set_cons_zero]) | ((refine rd (by rfl) (ex_loadN (vs := p.cs) 35 5 row35 siz35 rfl rfl ((unhide LL).get 1 rfl) rfl rfl) ?_); simp only [Act.put, List.setIfInBounds_toArray, List.set_cons_succ, List.set_cons_zero]) | ((refine rd (by rfl) (ex_load1 4 Tryd.isAgg4 rfl rfl ((unhide LL).get 0 rfl) rfl) ?_); simp only [Act.put, List.setIfInBounds_toArray, List.set_cons_succ, List.set_cons_zero]) | ((refine rd (by rfl) (ex_load1 4 Tryd.isAgg4 rfl rfl ((unhide LL).get 1 rfl) rfl) ?_); simp only [Act.put, List.setIfInBounds_toArray, List.set_cons_succ, List.set_cons_zero]) | ((refine rd (by rfl) (ex_load1 36 Tryd.isAgg36 rfl rfl ((unhide LL).get 0 rfl) rfl) ?_); simp only [Act.put, List.setIfInBounds_toArray, List.set_cons_succ, List.set_cons_zero]) | ((refine rd (by rfl) (ex_load1 36 Tryd.isAgg36 rfl rfl ((unhide LL).get 1 rfl) rfl) ?_); simp only [Act.put, List.setIfInBounds_toArray, List.set_cons_succ, List.set_cons_zero]) | ((refine rd (by rfl) (ex_lenG 36 64 Tryd.underlying36 rfl rfl) ?_); simp only [Act.put, List.setIfInBounds_toArray, List.set_cons_succ, List.set_cons_zero])))
  go_loopg [5] 0 (fun gm s5 wr => s5 = .int .i64 0 ∧ Hid (Hq w wr [] [(B1, shc p A a), (B2, shc p B b)]))
  case atStart => exact ⟨rfl, LL⟩
  case round =>
    clear LL
    obtain ⟨rfl, LL⟩ := hrel
    go_wp2_with (first | go_skip | ((with_reducible show wpList _ _ _ _ _ _); first | ((refine rd (by rfl) (ex_load1 36 Tryd.isAgg36 rfl rfl ((unhide LL).get 0 rfl) rfl) ?_); simp only [Act.put, List.setIfInBounds_toArray, List.set_cons_succ, List.set_cons_zero]) | ((refine rd (by rfl) (ex_lenG 36 64 Tryd.underlying36 rfl rfl) ?_); simp only [Act.put, List.setIfInBounds_toArray, List.set_cons_succ, List.set_cons_zero])))
    go_ret
    exact ⟨rfl, (unhide LL).fr.below⟩
end Go.Proofs.YtmfhjbmgbbkicaaDoor
