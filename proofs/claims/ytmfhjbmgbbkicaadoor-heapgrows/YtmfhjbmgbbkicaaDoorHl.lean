import Derived.Test.YtmfhjbmgbbkicaaDoorHk
namespace Go.Proofs.YtmfhjbmgbbkicaaDoor
open Go Go.Proofs Go.Maps Go.RowKit FM
set_option linter.unusedSimpArgs false
set_option linter.unusedVariables false
set_option maxHeartbeats 1000000
def vNull : VV := ⟨2, false, 0, ⟨#[]⟩, 0⟩
def vRef : VV := ⟨7, false, 0, ⟨#[]⟩, 1⟩
theorem null_good : vNull.good = true := by simp [VV.good, goodV, inG, strV, vNull]
theorem ref_good : vRef.good = true := by simp [VV.good, goodV, inG, strV, vRef]
theorem add_null (h : HP) (hl : (h.l.length : Int) < h.cap) : addE h vNull = 0 := by
  have hr : roomE h = 0 := by unfold roomE; rw [if_neg (by omega)]
  unfold addE checkE
  rw [hr, null_good]
  simp [orE, knownE, knownV, protoE, vNull]
theorem add_ref (h : HP) (h1 : 1 ≤ h.l.length) (hl : (h.l.length : Int) < h.cap) : addE h vRef = 0 := by
  have hr : roomE h = 0 := by unfold roomE; rw [if_neg (by omega)]
  unfold addE checkE
  rw [hr, ref_good]
  have : (1 : Int) ≤ (h.l.length : Int) := by omega
  simp [orE, knownE, knownV, protoE, vRef, hasH, this]
theorem add_full (h : HP) (hl : h.cap ≤ (h.l.length : Int)) : addE h vNull = 3 := by
  have hr : roomE h = 3 := by unfold roomE; rw [if_pos hl]
  unfold addE checkE
  rw [hr, null_good]
  simp [orE, knownE, knownV, protoE, vNull]
theorem bl35a {o : Oper} {a : Act} {w : World} (ho : o.op = .build 35 #[(0, .const (.int .i64 2))]) : (execOp a.eval o).run Tryd.prog w = .ok (.value vNull.agg) w := by
  have e : (Instr.build 35 #[(0, .int .i64 2)]).run Tryd.prog w = .ok vNull.agg w := by kernel_rfl
  unfold execOp
  simp only [ho]
  simp [Act.eval, e]
theorem bl35b {o : Oper} {a : Act} {w : World} (ho : o.op = .build 35 #[(0, .const (.int .i64 7)), (4, .const (.int .i64 1))]) : (execOp a.eval o).run Tryd.prog w = .ok (.value vRef.agg) w := by
  have e : (Instr.build 35 #[(0, .int .i64 7), (4, .int .i64 1)]).run Tryd.prog w = .ok vRef.agg w := by kernel_rfl
  unfold execOp
  simp only [ho]
  simp [Act.eval, e]
set_option maxHeartbeats 4000000 in
set_option maxRecDepth 100000 in
theorem awake4 (w : World) (hT : Lib.Utf8Tabs 1 2 w) : Calls Tryd.prog 4 #[] w fun e w' => e = .returned (.bool true) ∧ Below w.heap.size w w' := by
  have HT := hide hT
  clear hT
  go_enter Tryd.func4, Tryd.ntmps4
  go_wp2_with fail
  refine (new5_good 2 10 5 w (by decide) (by decide) (by decide) (by decide) (by decide)).mono ?_
  rintro _ X0 ⟨b, rfl, hI, hb⟩
  have HF := hide (Fr.of_below hb [])
  have HI := hide hI
  clear hI hb
  go_wp2_with (first | go_skip | ((with_reducible show wpList _ _ _ _ _ _); first | ((refine rd (by rfl) (bl35a rfl) ?_); simp only [Act.put, List.setIfInBounds_toArray, List.set_cons_succ, List.set_cons_zero]) | ((refine rd (by rfl) (bl35b rfl) ?_); simp only [Act.put, List.setIfInBounds_toArray, List.set_cons_succ, List.set_cons_zero])))
  refine (make6_good ⟨b, .slice none 0 0, [], 2, 10, 5⟩ w.heap.size vNull _ (unhide HI) (tabs_below (unhide HT) (unhide HF).below) (add_null _ (by simp))).mono ?_
  rintro _ X1 ⟨o1, gv1, rfl, hp1, hI1, hf1, hg1, hob1⟩
  have HF1 := hide (AddOk.fr (unhide HF) (unhide HI) hf1)
  replace HI := hide hI1
  replace HF := HF1
  clear hI1 hf1 hg1 hob1 HF1
  go_wp2_with (first | go_skip | ((with_reducible show wpList _ _ _ _ _ _); first | ((refine rd (by rfl) (bl35a rfl) ?_); simp only [Act.put, List.setIfInBounds_toArray, List.set_cons_succ, List.set_cons_zero]) | ((refine rd (by rfl) (bl35b rfl) ?_); simp only [Act.put, List.setIfInBounds_toArray, List.set_cons_succ, List.set_cons_zero])))
  refine (make6_good ⟨b, gv1, [] ++ [o1], 2, 10, 5⟩ w.heap.size vRef _ (unhide HI) (tabs_below (unhide HT) (unhide HF).below) (add_ref _ (by simp) (by simp))).mono ?_
  rintro _ X2 ⟨o2, gv2, rfl, hp2, hI2, hf2, hg2, hob2⟩
  have HF2 := hide (AddOk.fr (unhide HF) (unhide HI) hf2)
  replace HI := hide hI2
  replace HF := HF2
  clear hI2 hf2 hg2 hob2 HF2
  go_wp2_with (first | go_skip | ((with_reducible show wpList _ _ _ _ _ _); first | ((refine rd (by rfl) (bl35a rfl) ?_); simp only [Act.put, List.setIfInBounds_toArray, List.set_cons_succ, List.set_cons_zero]) | ((refine rd (by rfl) (bl35b rfl) ?_); simp only [Act.put, List.setIfInBounds_toArray, List.set_cons_succ, List.set_cons_zero])))
  refine (make6_bad ⟨b, gv2, [] ++ [o1] ++ [o2], 2, 10, 5⟩ w.heap.size vNull 3 _ (unhide HI) (tabs_below (unhide HT) (unhide HF).below) (add_full _ (by simp)) rfl).mono ?_
  rintro _ X3 ⟨rfl, hb⟩
  replace HI := hide ((unhide HI).fr (Fr.of_below hb []))
  replace HF := hide ((unhide HF).on hb)
  clear hb
  go_wp2_with fail
  refine (shape11 ⟨b, gv2, [] ++ [o1] ++ [o2], 2, 10, 5⟩ w.heap.size o2 _ (unhide HI) rfl rfl).mono ?_
  rintro _ X4 ⟨A, c, rfl, hb⟩
  replace HI := hide ((unhide HI).fr (Fr.of_below hb []))
  replace HF := hide ((unhide HF).on hb)
  clear hb
  have LL := hide (Hq.nil X4 [])
  have hid : o2.p.i = 1 := by rw [hp2]; rfl
  clear hp1 hp2
  go_wp2_with (first | go_skip | ((with_reducible show wpList _ _ _ _ _ _); first | ((refine alG 38 (zshc) (by rfl) rfl (fun w => by kernel_rfl) (Nat.succ_pos _) (unhide LL) ?_); intro X9 B9 hE9 L9 hb9; have hB9 := hide (Nat.le_trans (unhide LL).fr.size (Nat.le_of_eq hE9.symm)); replace LL := hide L9; clear L9 hb9 hE9; simp only [Act.put, List.setIfInBounds_toArray, List.set_cons_succ, List.set_cons_zero]) | ((refine st (vs := shc o2.p A c) 0 38 (by rfl) rfl rfl rfl rfl (shc_one _ _ _) siz38 (unhide LL) rfl (by simp [shc, zshc, VV.cs]) (Or.inr (unhide hB9)) ?_); intro X9 L9 hf9 hs9; replace LL := hide L9; clear L9 hf9 hs9; simp only [Act.put, List.setIfInBounds_toArray, List.set_cons_succ, List.set_cons_zero]) | ((refine rd (by rfl) (ex_load1 3 Tryd.isAgg3 rfl rfl ((unhide LL).get 0 rfl) rfl) ?_); simp only [Act.put, List.setIfInBounds_toArray, List.set_cons_succ, List.set_cons_zero]) | ((refine rd (by rfl) (ex_load1 4 Tryd.isAgg4 rfl rfl ((unhide LL).get 0 rfl) rfl) ?_); simp only [Act.put, List.setIfInBounds_toArray, List.set_cons_succ, List.set_cons_zero]) | ((refine rd (by rfl) (ex_eql46 rfl rfl rfl) ?_); simp only [Act.put, List.setIfInBounds_toArray, List.set_cons_succ, List.set_cons_zero])))
  refine (fault12 _).mono ?_
  rintro _ X5 ⟨rfl, hb⟩
  replace LL := hide ((unhide LL).on hb)
  clear hb
  go_wp2_with fail
  refine (stop13 _).mono ?_
  rintro _ X6 ⟨rfl, hb⟩
  replace LL := hide ((unhide LL).on hb)
  clear hb
  go_wp2_with (first | go_skip | ((with_reducible show wpList _ _ _ _ _ _); first | ((refine alG 38 (zshc) (by rfl) rfl (fun w => by kernel_rfl) (Nat.succ_pos _) (unhide LL) ?_); intro X9 B9 hE9 L9 hb9; have hB9 := hide (Nat.le_trans (unhide LL).fr.size (Nat.le_of_eq hE9.symm)); replace LL := hide L9; clear L9 hb9 hE9; simp only [Act.put, List.setIfInBounds_toArray, List.set_cons_succ, List.set_cons_zero]) | ((refine st (vs := shc o2.p A c) 0 38 (by rfl) rfl rfl rfl rfl (shc_one _ _ _) siz38 (unhide LL) rfl (by simp [shc, zshc, VV.cs]) (Or.inr (unhide hB9)) ?_); intro X9 L9 hf9 hs9; replace LL := hide L9; clear L9 hf9 hs9; simp only [Act.put, List.setIfInBounds_toArray, List.set_cons_succ, List.set_cons_zero]) | ((refine rd (by rfl) (ex_load1 3 Tryd.isAgg3 rfl rfl ((unhide LL).get 0 rfl) rfl) ?_); simp only [Act.put, List.setIfInBounds_toArray, List.set_cons_succ, List.set_cons_zero]) | ((refine rd (by rfl) (ex_load1 4 Tryd.isAgg4 rfl rfl ((unhide LL).get 0 rfl) rfl) ?_); simp only [Act.put, List.setIfInBounds_toArray, List.set_cons_succ, List.set_cons_zero]) | ((refine rd (by rfl) (ex_eql46 rfl rfl rfl) ?_); simp only [Act.put, List.setIfInBounds_toArray, List.set_cons_succ, List.set_cons_zero])))
  refine (len8 ⟨b, gv2, [] ++ [o1] ++ [o2], 2, 10, 5⟩ w.heap.size _ ((unhide HI).fr (unhide LL).fr)).mono ?_
  rintro _ X7 ⟨rfl, rfl⟩
  go_wp2_with fail
  refine (fuel9 ⟨b, gv2, [] ++ [o1] ++ [o2], 2, 10, 5⟩ w.heap.size _ ((unhide HI).fr (unhide LL).fr)).mono ?_
  rintro _ X8 ⟨rfl, rfl⟩
  go_wp2
  go_ret
  exact ⟨rfl, ((unhide HF).trans (unhide LL).fr (by simp)).below⟩
end Go.Proofs.YtmfhjbmgbbkicaaDoor
