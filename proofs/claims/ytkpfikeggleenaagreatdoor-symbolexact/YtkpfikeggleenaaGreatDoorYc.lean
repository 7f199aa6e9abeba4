import Derived.Test.YtkpfikeggleenaaGreatDoorYb
import Derived.Test.YtkpfikeggleenaaGreatDoorVg
namespace Go.Proofs.YtkpfikeggleenaaGreatDoor
open Go Go.Proofs Go.Maps Go.RowKit
set_option linter.unusedSimpArgs false
set_option linter.unusedVariables false
set_option maxHeartbeats 1000000
/-! Laws for boxes, and for results that lie in a box. -/
theorem alG {ops : Array Oper} {rest : List Oper} {Q : Exit → Act → World → Prop} {w w0 : World} {a : Act} {o : Oper} {E : List Nat} {L : List (Nat × List Value)} (t : TypeId) (cs : List Value) (hw : Region.wanted o (yielded ops a.tmps) = true) (ho : o.op = .alloc t) (hz : ∀ w, (zeroValue t).run Tryz.prog w = .ok (.agg cs.toArray) w) (hc : 0 < cs.length) (hL : Hq w0 w E L)
    (h : ∀ X B, B = w.heap.size → Hq w0 X E (L ++ [(B, cs)]) → Below w.heap.size w X → wpList Tryz.prog ops Q rest (a.put o.dst (.pointer (some ⟨B, 0, none⟩))) X) : wpList Tryz.prog ops Q (o :: rest) a w := by
  refine BigFrame.wpList_want hw fun K hK => ?_
  have hP := hK _ _ (h _ _ rfl (hL.new cs t hc) ((Below.refl _ _).alloc (Nat.le_refl _) _))
  unfold Oper.wp execOp
  simp only [ho]
  simp [go_sem, hz, Value.cells]
  exact hP
theorem ret_ct {fn : Func} {R : Ending → World → Prop} {a : Act} {w : World} {b r q T n : Nat} {v : Value} {cs : List Value} (hT : ∃ d, Tryz.prog.underlying T = some d ∧ d.isRow = true) (hn : (Tryz.prog.info? T).map (·.size) = some n) (hr : fn.results = #[.cell r T, .tmp q]) (hdf : a.defers = [])
    (hx : a.tmps.getD r undef = .pointer (some ⟨b, 0, none⟩)) (hq : a.tmps.getD q undef = v) (hc : Holds w b cs) (hcs : cs.length = n) (h : R (.returned (.tuple #[.agg cs.toArray, v])) w) : bodyPost Tryz.prog fn R .ret a w := by
  obtain ⟨t, hu, hd⟩ := hT
  have h0 := hc.mid 0 n
  rw [List.drop_zero, List.take_of_length_le (by omega)] at h0
  have hl := run_loadVar_mid (P := Tryz.prog) w b 0 T _ t h0 hu hd (by rw [hn, hcs])
  refine ⟨hdf, _, ?_, h⟩
  simp only [Array.getD_eq_getD_getElem?] at hx hq
  unfold results
  simp [hr, hx, hq, hl, asAddr]
  try rfl
theorem ret_c {fn : Func} {R : Ending → World → Prop} {a : Act} {w : World} {b r T n : Nat} {cs : List Value} (hT : ∃ d, Tryz.prog.underlying T = some d ∧ d.isRow = true) (hn : (Tryz.prog.info? T).map (·.size) = some n) (hr : fn.results = #[.cell r T]) (hdf : a.defers = [])
    (hx : a.tmps.getD r undef = .pointer (some ⟨b, 0, none⟩)) (hc : Holds w b cs) (hcs : cs.length = n) (h : R (.returned (.agg cs.toArray)) w) : bodyPost Tryz.prog fn R .ret a w := by
  obtain ⟨t, hu, hd⟩ := hT
  have h0 := hc.mid 0 n
  rw [List.drop_zero, List.take_of_length_le (by omega)] at h0
  have hl := run_loadVar_mid (P := Tryz.prog) w b 0 T _ t h0 hu hd (by rw [hn, hcs])
  refine ⟨hdf, _, ?_, h⟩
  simp only [Array.getD_eq_getD_getElem?] at hx
  unfold results
  simp [hr, hx, hl, asAddr]
  try rfl
theorem row44 : ∃ d, Tryz.prog.underlying 35 = some d ∧ d.isRow = true := ⟨_, Tryz.underlying35, rfl⟩
theorem siz44 : (Tryz.prog.info? 35).map (·.size) = some 5 := by kernel_rfl
theorem row77 : ∃ d, Tryz.prog.underlying 77 = some d ∧ d.isRow = true := ⟨_, Tryz.underlying77, rfl⟩
theorem siz77 : (Tryz.prog.info? 77).map (·.size) = some 6 := by kernel_rfl
theorem siz9 : (Tryz.prog.info? 9).map (·.size) = some 1 := by kernel_rfl
theorem siz72 : (Tryz.prog.info? 71).map (·.size) = some 1 := by kernel_rfl
theorem ex_lenG {o : Oper} {a : Act} {w : World} {m : Operand} {A : Option Addr} {n c : Nat} (t e : TypeId) (ht : Tryz.prog.underlying t = some (.slice e)) (ho : o.op = .call { callee := .builtin .len, args := #[m], argTypes := #[t] }) (hm : a.eval m = .slice A n c) : (execOp a.eval o).run Tryz.prog w = .ok (.value (.int .i64 (n : Nat))) w := by
  simp [execOp, ho, resolve, invoke, builtin, hm, Builtin.len_, Result.andThen, goInt, ht, run_underlying ht]
/-- Could a value be a description? -/
def desV (v : VV) : Bool := v.good && (v.k == 1 || v.k == 5)
def zeroY : SY := ⟨zeroV, false⟩
theorem count14 (R : RG) (w : World) {n sz : Nat} {F : ByteArray → Option Nat} (hR : R.Is w n sz F) : Calls Tryz.prog 21 #[.pointer (some ⟨R.r, 0, none⟩)] w fun e w' => e = .returned (.int .i64 (R.l.length : Nat)) ∧ w' = w := by
  have HR := hide hR
  obtain ⟨A, c, hv⟩ := hR.own.form
  obtain ⟨r, m, sv, l⟩ := R
  dsimp only at *
  subst hv
  clear hR
  go_enter Tryz.func21, Tryz.ntmps21
  go_wp2_with (first | go_skip | ((with_reducible show wpList _ _ _ _ _ _); first | ((refine rd (by rfl) (ex_load1 71 Tryz.isAgg71 rfl rfl ((unhide HR).hold) rfl) ?_); simp only [Act.put, List.setIfInBounds_toArray, List.set_cons_succ, List.set_cons_zero]) | ((refine rd (by rfl) (ex_lenG 71 77 Tryz.underlying71 rfl rfl) ?_); simp only [Act.put, List.setIfInBounds_toArray, List.set_cons_succ, List.set_cons_zero])))
  go_ret
  exact ⟨rfl, rfl⟩
theorem num16 (n : Int) (h : 0 ≤ n ∧ n ≤ 1000) (w : World) : Calls Tryz.prog 13 #[.int .i64 n] w fun e w' => e = .returned (.int .i64 n) ∧ w' = w := by
  have hw : IntKind.i64.wrap n = n := by rw [IntKind.wrap_i64]; omega
  go_enter Tryz.func13, Tryz.ntmps13
  go_wp2
  go_ret
  exact ⟨rfl, rfl⟩
set_option maxRecDepth 100000 in
theorem describes30 (v : VV) (w : World) (hT : Tabs w) : Calls Tryz.prog 33 #[v.agg] w fun e w' => e = .returned (.bool (desV v)) ∧ Below w.heap.size w w' := by
  have HT := hide hT
  have HC := hide (fun X (h : Tabs X) => check_any v X h.u)
  have LL := hide (Hq.nil w [])
  clear hT
  unfold desV
  rw [vagg] at *
  generalize v.good = g at *
  obtain ⟨k, b, x, s, i⟩ := v
  dsimp only at *
  have hk : k = 1 ∨ k = 5 ∨ (k == 1) = false ∧ (k == 5) = false := by simp only [beq_eq_false_iff_ne]; omega
  cases g
  all_goals
    rcases hk with rfl | rfl | ⟨e1, e2⟩
    all_goals
      go_enter Tryz.func33, Tryz.ntmps33
      go_wp2_with (first | go_skip | ((with_reducible show wpList _ _ _ _ _ _); first | ((refine bx 35 (VV.cs ⟨_, b, x, s, i⟩) (by rfl) rfl rfl rfl (Nat.succ_pos _) (unhide LL) ?_); intro X1 B1 hE1 L1 hb1; have hB1 := hide (Nat.le_trans (unhide LL).fr.size (Nat.le_of_eq hE1.symm)); replace LL := hide L1; clear L1 hb1 hE1; simp only [Act.put, List.setIfInBounds_toArray, List.set_cons_succ, List.set_cons_zero]) | ((refine rd (by rfl) (ex_loadN (vs := VV.cs ⟨_, b, x, s, i⟩) 35 5 row44 siz44 rfl rfl ((unhide LL).get 0 rfl) rfl rfl) ?_); simp only [Act.put, List.setIfInBounds_toArray, List.set_cons_succ, List.set_cons_zero])))
      refine (unhide HC _ ((unhide HT).fr (unhide LL).fr (by simp))).mono ?_
      rintro e X2 ⟨rfl, hb⟩
      replace LL := hide ((unhide LL).on hb)
      clear hb
      unfold errB
      go_wp2_with (first | go_skip | ((with_reducible show wpList _ _ _ _ _ _); first | ((refine rd (by rfl) (ex_load1 3 Tryz.isAgg3 rfl rfl ((unhide LL).get 0 rfl) rfl) ?_); simp only [Act.put, List.setIfInBounds_toArray, List.set_cons_succ, List.set_cons_zero])))
      go_ret
      exact ⟨by simp [*], (unhide LL).fr.below⟩
set_option maxRecDepth 100000 in
theorem anew32 (v : VV) (w : World) (hs : v.s.size ≤ 1048576) : Calls Tryz.prog 35 #[v.agg] w fun e w' => e = .returned v.agg ∧ Below w.heap.size w w' := by
  have HC := hide (fun X => clone_any v.s X hs)
  have LL := hide (Hq.nil w [])
  clear hs
  rw [vagg]
  go_enter Tryz.func35, Tryz.ntmps35
  go_wp2_with (first | go_skip | ((with_reducible show wpList _ _ _ _ _ _); first | ((refine bx 35 (v.cs) (by rfl) rfl rfl rfl (Nat.succ_pos _) (unhide LL) ?_); intro X1 B1 hE1 L1 hb1; have hB1 := hide (Nat.le_trans (unhide LL).fr.size (Nat.le_of_eq hE1.symm)); replace LL := hide L1; clear L1 hb1 hE1; simp only [Act.put, List.setIfInBounds_toArray, List.set_cons_succ, List.set_cons_zero]) | ((refine alG 35 (zeroV.cs) (by rfl) rfl (fun w => by kernel_rfl) (Nat.succ_pos _) (unhide LL) ?_); intro X2 B2 hE2 L2 hb2; have hB2 := hide (Nat.le_trans (unhide LL).fr.size (Nat.le_of_eq hE2.symm)); replace LL := hide L2; clear L2 hb2 hE2; simp only [Act.put, List.setIfInBounds_toArray, List.set_cons_succ, List.set_cons_zero]) | ((refine rd (by rfl) (ex_load1 9 Tryz.isAgg9 rfl rfl ((unhide LL).get 0 rfl) rfl) ?_); simp only [Act.put, List.setIfInBounds_toArray, List.set_cons_succ, List.set_cons_zero])))
  refine (unhide HC _).mono ?_
  rintro e X3 ⟨rfl, hb⟩
  replace LL := hide ((unhide LL).on hb)
  clear hb
  go_wp2_with (first | go_skip | ((with_reducible show wpList _ _ _ _ _ _); first | ((refine st (vs := [.string v.s]) 0 9 (by rfl) rfl rfl rfl rfl (by simp [Value.oneCell']) (siz9) (unhide LL) rfl (by simp [cput, ycs_length, vcs_length, SY.cs, VV.cs]) (Or.inr (unhide hB1)) ?_); intro X4 L4 hf4 hs4; replace LL := hide L4; clear L4 hf4 hs4; simp only [Act.put, List.setIfInBounds_toArray, List.set_cons_succ, List.set_cons_zero]) | ((refine rd (by rfl) (ex_loadN (vs := v.cs) 35 5 row44 siz44 rfl rfl ((unhide LL).get 0 rfl) rfl rfl) ?_); simp only [Act.put, List.setIfInBounds_toArray, List.set_cons_succ, List.set_cons_zero]) | ((refine st (vs := v.cs) 1 35 (by rfl) rfl rfl rfl rfl (vcs_one v) (siz44) (unhide LL) rfl (by simp [cput, ycs_length, vcs_length, SY.cs, VV.cs]) (Or.inr (unhide hB2)) ?_); intro X5 L5 hf5 hs5; replace LL := hide L5; clear L5 hf5 hs5; simp only [Act.put, List.setIfInBounds_toArray, List.set_cons_succ, List.set_cons_zero])))
  refine ret_c row44 siz44 rfl rfl rfl ((unhide LL).get 1 rfl) rfl ⟨rfl, (unhide LL).fr.below⟩
end Go.Proofs.YtkpfikeggleenaaGreatDoor
