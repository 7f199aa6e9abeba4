import Derived.Test.YtcflglloopgieaaGreatDoorQv

/-! Io -/
namespace Go.Proofs.YtcflglloopgieaaGreatDoor
open Go Go.Proofs Go.Maps Go.RowKit FM
set_option linter.unusedSimpArgs false
set_option linter.unusedVariables false
set_option maxHeartbeats 1000000
def SV (v : VV) : Prop := v.s.size ≤ 281474976710656
def SD (d : DD) : Prop := SV d.v ∧ SV d.g ∧ SV d.s
def SP (p : PR) : Prop := p.k.s.size ≤ 281474976710656 ∧ SD p.d
def SS (s : SH) : Prop := SV s.p ∧ ∀ p ∈ s.ps, SP p
theorem clone_big (s : ByteArray) (w : World) (h : s.size ≤ 281474976710656) : Calls Tryz.prog 67 #[.string s] w fun e w' => e = .returned (.string s) ∧ Below w.heap.size w w' := by
  have HC := hide (Tryz.stringslite_Clone s w h)
  clear h
  go_enter Tryz.func67, Tryz.ntmps67
  go_wp2_with fail
  refine (unhide HC).mono ?_
  rintro e w' ⟨rfl, hb⟩
  go_wp2
  go_ret
  exact ⟨rfl, hb⟩
theorem szStr : (Tryz.prog.info? 9).map (·.size) = some 1 := by kernel_rfl
theorem kcs_one (k : KK) : ∀ u ∈ k.cs, u.oneCell' = true := by simp [KK.cs, Value.oneCell']
theorem dcs_one (d : DD) : ∀ u ∈ d.cs, u.oneCell' = true := by simp [DD.cs, Value.oneCell']
def zeroK : KK := ⟨⟨#[]⟩, 0⟩
set_option maxRecDepth 100000 in
theorem newKey_any (k : KK) (w : World) (h : k.s.size ≤ 281474976710656) : Calls Tryz.prog 69 #[k.agg] w fun e w' => e = .returned (k.agg) ∧ Below w.heap.size w w' := by
  have LL := hide (Hq.nil w [])
  have HC := hide (fun w => clone_big k.s w h)
  clear h
  simp only [kagg]
  go_enter Tryz.func69, Tryz.ntmps69
  go_wp2_with (first | go_skip | ((with_reducible show wpList _ _ _ _ _ _); first | ((refine bx 56 (k.cs) (by rfl) rfl rfl rfl (Nat.succ_pos _) (unhide LL) ?_); intro X1 B1 hE1 L1 hb1; have hB1 := hide (Nat.le_trans (unhide LL).fr.size (Nat.le_of_eq hE1.symm)); replace LL := hide L1; clear L1 hb1 hE1; simp only [Act.put, List.setIfInBounds_toArray, List.set_cons_succ, List.set_cons_zero]) | ((refine alG 56 (zeroK.cs) (by rfl) rfl (fun w => by kernel_rfl) (Nat.succ_pos _) (unhide LL) ?_); intro X2 B2 hE2 L2 hb2; have hB2 := hide (Nat.le_trans (unhide LL).fr.size (Nat.le_of_eq hE2.symm)); replace LL := hide L2; clear L2 hb2 hE2; simp only [Act.put, List.setIfInBounds_toArray, List.set_cons_succ, List.set_cons_zero]) | ((refine rd (by rfl) (ex_load1 9 Tryz.isAgg9 rfl rfl ((unhide LL).get 0 rfl) rfl) ?_); simp only [Act.put, List.setIfInBounds_toArray, List.set_cons_succ, List.set_cons_zero]) | ((refine rd (by rfl) (ex_loadN (vs := k.cs) 56 2 rwK szK rfl rfl ((unhide LL).get 0 rfl) rfl rfl) ?_); simp only [Act.put, List.setIfInBounds_toArray, List.set_cons_succ, List.set_cons_zero]) | ((refine st (vs := [.string k.s]) 0 9 (by rfl) rfl rfl rfl rfl (by simp [Value.oneCell']) szStr (unhide LL) rfl (by simp [VV.cs, KK.cs]) (Or.inr (unhide hB1)) ?_); intro X3 L3 hf3 hs3; replace LL := hide L3; clear L3 hf3 hs3; simp only [Act.put, List.setIfInBounds_toArray, List.set_cons_succ, List.set_cons_zero]) | ((refine st (vs := k.cs) 1 56 (by rfl) rfl rfl rfl rfl (kcs_one k) szK (unhide LL) rfl (by simp [VV.cs, KK.cs, zeroV]) (Or.inr (unhide hB2)) ?_); intro X4 L4 hf4 hs4; replace LL := hide L4; clear L4 hf4 hs4; simp only [Act.put, List.setIfInBounds_toArray, List.set_cons_succ, List.set_cons_zero])))
  refine (unhide HC _).mono ?_
  rintro e w' ⟨rfl, hb⟩
  replace LL := hide ((unhide LL).on hb)
  clear hb
  go_wp2_with (first | go_skip | ((with_reducible show wpList _ _ _ _ _ _); first | ((refine bx 56 (k.cs) (by rfl) rfl rfl rfl (Nat.succ_pos _) (unhide LL) ?_); intro X1 B1 hE1 L1 hb1; have hB1 := hide (Nat.le_trans (unhide LL).fr.size (Nat.le_of_eq hE1.symm)); replace LL := hide L1; clear L1 hb1 hE1; simp only [Act.put, List.setIfInBounds_toArray, List.set_cons_succ, List.set_cons_zero]) | ((refine alG 56 (zeroK.cs) (by rfl) rfl (fun w => by kernel_rfl) (Nat.succ_pos _) (unhide LL) ?_); intro X2 B2 hE2 L2 hb2; have hB2 := hide (Nat.le_trans (unhide LL).fr.size (Nat.le_of_eq hE2.symm)); replace LL := hide L2; clear L2 hb2 hE2; simp only [Act.put, List.setIfInBounds_toArray, List.set_cons_succ, List.set_cons_zero]) | ((refine rd (by rfl) (ex_load1 9 Tryz.isAgg9 rfl rfl ((unhide LL).get 0 rfl) rfl) ?_); simp only [Act.put, List.setIfInBounds_toArray, List.set_cons_succ, List.set_cons_zero]) | ((refine rd (by rfl) (ex_loadN (vs := k.cs) 56 2 rwK szK rfl rfl ((unhide LL).get 0 rfl) rfl rfl) ?_); simp only [Act.put, List.setIfInBounds_toArray, List.set_cons_succ, List.set_cons_zero]) | ((refine st (vs := [.string k.s]) 0 9 (by rfl) rfl rfl rfl rfl (by simp [Value.oneCell']) szStr (unhide LL) rfl (by simp [VV.cs, KK.cs]) (Or.inr (unhide hB1)) ?_); intro X3 L3 hf3 hs3; replace LL := hide L3; clear L3 hf3 hs3; simp only [Act.put, List.setIfInBounds_toArray, List.set_cons_succ, List.set_cons_zero]) | ((refine st (vs := k.cs) 1 56 (by rfl) rfl rfl rfl rfl (kcs_one k) szK (unhide LL) rfl (by simp [VV.cs, KK.cs, zeroV]) (Or.inr (unhide hB2)) ?_); intro X4 L4 hf4 hs4; replace LL := hide L4; clear L4 hf4 hs4; simp only [Act.put, List.setIfInBounds_toArray, List.set_cons_succ, List.set_cons_zero])))
  refine ret_c (cs := k.cs) rwK szK rfl rfl rfl ((unhide LL).get 1 rfl) rfl ?_
  exact ⟨rfl, (unhide LL).fr.below⟩
set_option maxRecDepth 100000 in
theorem newValue_any (v : VV) (w : World) (h : v.s.size ≤ 281474976710656) : Calls Tryz.prog 53 #[v.agg] w fun e w' => e = .returned (v.agg) ∧ Below w.heap.size w w' := by
  have LL := hide (Hq.nil w [])
  have HC := hide (fun w => clone_big v.s w h)
  clear h
  simp only [vagg]
  go_enter Tryz.func53, Tryz.ntmps53
  go_wp2_with (first | go_skip | ((with_reducible show wpList _ _ _ _ _ _); first | ((refine bx 31 (v.cs) (by rfl) rfl rfl rfl (Nat.succ_pos _) (unhide LL) ?_); intro X1 B1 hE1 L1 hb1; have hB1 := hide (Nat.le_trans (unhide LL).fr.size (Nat.le_of_eq hE1.symm)); replace LL := hide L1; clear L1 hb1 hE1; simp only [Act.put, List.setIfInBounds_toArray, List.set_cons_succ, List.set_cons_zero]) | ((refine alG 31 (zeroV.cs) (by rfl) rfl (fun w => by kernel_rfl) (Nat.succ_pos _) (unhide LL) ?_); intro X2 B2 hE2 L2 hb2; have hB2 := hide (Nat.le_trans (unhide LL).fr.size (Nat.le_of_eq hE2.symm)); replace LL := hide L2; clear L2 hb2 hE2; simp only [Act.put, List.setIfInBounds_toArray, List.set_cons_succ, List.set_cons_zero]) | ((refine rd (by rfl) (ex_load1 9 Tryz.isAgg9 rfl rfl ((unhide LL).get 0 rfl) rfl) ?_); simp only [Act.put, List.setIfInBounds_toArray, List.set_cons_succ, List.set_cons_zero]) | ((refine rd (by rfl) (ex_loadN (vs := v.cs) 31 5 rwV szV rfl rfl ((unhide LL).get 0 rfl) rfl rfl) ?_); simp only [Act.put, List.setIfInBounds_toArray, List.set_cons_succ, List.set_cons_zero]) | ((refine st (vs := [.string v.s]) 0 9 (by rfl) rfl rfl rfl rfl (by simp [Value.oneCell']) szStr (unhide LL) rfl (by simp [VV.cs, KK.cs]) (Or.inr (unhide hB1)) ?_); intro X3 L3 hf3 hs3; replace LL := hide L3; clear L3 hf3 hs3; simp only [Act.put, List.setIfInBounds_toArray, List.set_cons_succ, List.set_cons_zero]) | ((refine st (vs := v.cs) 1 31 (by rfl) rfl rfl rfl rfl (vcs_one v) szV (unhide LL) rfl (by simp [VV.cs, KK.cs, zeroV]) (Or.inr (unhide hB2)) ?_); intro X4 L4 hf4 hs4; replace LL := hide L4; clear L4 hf4 hs4; simp only [Act.put, List.setIfInBounds_toArray, List.set_cons_succ, List.set_cons_zero])))
  refine (unhide HC _).mono ?_
  rintro e w' ⟨rfl, hb⟩
  replace LL := hide ((unhide LL).on hb)
  clear hb
  go_wp2_with (first | go_skip | ((with_reducible show wpList _ _ _ _ _ _); first | ((refine bx 31 (v.cs) (by rfl) rfl rfl rfl (Nat.succ_pos _) (unhide LL) ?_); intro X1 B1 hE1 L1 hb1; have hB1 := hide (Nat.le_trans (unhide LL).fr.size (Nat.le_of_eq hE1.symm)); replace LL := hide L1; clear L1 hb1 hE1; simp only [Act.put, List.setIfInBounds_toArray, List.set_cons_succ, List.set_cons_zero]) | ((refine alG 31 (zeroV.cs) (by rfl) rfl (fun w => by kernel_rfl) (Nat.succ_pos _) (unhide LL) ?_); intro X2 B2 hE2 L2 hb2; have hB2 := hide (Nat.le_trans (unhide LL).fr.size (Nat.le_of_eq hE2.symm)); replace LL := hide L2; clear L2 hb2 hE2; simp only [Act.put, List.setIfInBounds_toArray, List.set_cons_succ, List.set_cons_zero]) | ((refine rd (by rfl) (ex_load1 9 Tryz.isAgg9 rfl rfl ((unhide LL).get 0 rfl) rfl) ?_); simp only [Act.put, List.setIfInBounds_toArray, List.set_cons_succ, List.set_cons_zero]) | ((refine rd (by rfl) (ex_loadN (vs := v.cs) 31 5 rwV szV rfl rfl ((unhide LL).get 0 rfl) rfl rfl) ?_); simp only [Act.put, List.setIfInBounds_toArray, List.set_cons_succ, List.set_cons_zero]) | ((refine st (vs := [.string v.s]) 0 9 (by rfl) rfl rfl rfl rfl (by simp [Value.oneCell']) szStr (unhide LL) rfl (by simp [VV.cs, KK.cs]) (Or.inr (unhide hB1)) ?_); intro X3 L3 hf3 hs3; replace LL := hide L3; clear L3 hf3 hs3; simp only [Act.put, List.setIfInBounds_toArray, List.set_cons_succ, List.set_cons_zero]) | ((refine st (vs := v.cs) 1 31 (by rfl) rfl rfl rfl rfl (vcs_one v) szV (unhide LL) rfl (by simp [VV.cs, KK.cs, zeroV]) (Or.inr (unhide hB2)) ?_); intro X4 L4 hf4 hs4; replace LL := hide L4; clear L4 hf4 hs4; simp only [Act.put, List.setIfInBounds_toArray, List.set_cons_succ, List.set_cons_zero])))
  refine ret_c (cs := v.cs) rwV szV rfl rfl rfl ((unhide LL).get 1 rfl) rfl ?_
  exact ⟨rfl, (unhide LL).fr.below⟩
set_option maxHeartbeats 2000000 in
set_option maxRecDepth 100000 in
theorem newDesc_any (d : DD) (w : World) (h : SD d) : Calls Tryz.prog 70 #[d.agg] w fun e w' => e = .returned (d.agg) ∧ Below w.heap.size w w' := by
  have LL := hide (Hq.nil w [])
  have hv := fun w => newValue_any d.v w h.1
  have hg := fun w => newValue_any d.g w h.2.1
  have hs := fun w => newValue_any d.s w h.2.2
  simp only [vagg] at hv hg hs
  simp only [dagg]
  go_enter Tryz.func70, Tryz.ntmps70
  go_wp2_with (first | go_skip | ((with_reducible show wpList _ _ _ _ _ _); first | ((refine bx 59 (d.cs) (by rfl) rfl rfl rfl (Nat.succ_pos _) (unhide LL) ?_); intro X1 B1 hE1 L1 hb1; have hB1 := hide (Nat.le_trans (unhide LL).fr.size (Nat.le_of_eq hE1.symm)); replace LL := hide L1; clear L1 hb1 hE1; simp only [Act.put, List.setIfInBounds_toArray, List.set_cons_succ, List.set_cons_zero]) | ((refine alG 59 (zeroD.cs) (by rfl) rfl (fun w => by kernel_rfl) (Nat.succ_pos _) (unhide LL) ?_); intro X2 B2 hE2 L2 hb2; have hB2 := hide (Nat.le_trans (unhide LL).fr.size (Nat.le_of_eq hE2.symm)); replace LL := hide L2; clear L2 hb2 hE2; simp only [Act.put, List.setIfInBounds_toArray, List.set_cons_succ, List.set_cons_zero])))
  have hq0 : Hq w _ [] [(B1, d.cs), (B2, zeroD.cs)] := (unhide LL).drew
  refine wp_region_held_drew (P := Tryz.prog) (S := fun X => Hq w X [] [(B1, d.cs), (B2, zeroD.cs)]) (by kernel_rfl) hq0 (fun hS0 => ?_)
  refine gsem 0 (some 3) (.pointer (some ⟨B1, 0, none⟩)) rfl (by kernel_rfl) (by kernel_rfl) (by kernel_rfl) (fun _ _ _ h => h) (by kernel_rfl) (by kernel_rfl) (fun _ _ => by kernel_rfl) hq0 ?_
  simp only [Act.put, List.setIfInBounds_toArray, List.set_cons_succ, List.set_cons_zero]
  refine gsem 1 (some 4) (.agg d.v.cs.toArray) rfl (by kernel_rfl) (by kernel_rfl) (by kernel_rfl) (fun _ _ _ h => h) (by kernel_rfl) (by kernel_rfl) (fun X hX => ex_loadN (vs := d.v.cs) 31 5 rwV szV rfl rfl (hX.get 0 rfl) rfl rfl) hq0 ?_
  simp only [Act.put, List.setIfInBounds_toArray, List.set_cons_succ, List.set_cons_zero]
  refine gsem 3 (some 6) (.pointer (some ⟨B1, 5, none⟩)) rfl (by kernel_rfl) (by kernel_rfl) (by kernel_rfl) (fun _ _ _ h => h) (by kernel_rfl) (by kernel_rfl) (fun _ _ => by kernel_rfl) hq0 ?_
  simp only [Act.put, List.setIfInBounds_toArray, List.set_cons_succ, List.set_cons_zero]
  refine gsem 4 (some 7) (.agg d.g.cs.toArray) rfl (by kernel_rfl) (by kernel_rfl) (by kernel_rfl) (fun _ _ _ h => h) (by kernel_rfl) (by kernel_rfl) (fun X hX => ex_loadN (vs := d.g.cs) 31 5 rwV szV rfl rfl (hX.get 0 rfl) rfl rfl) hq0 ?_
  simp only [Act.put, List.setIfInBounds_toArray, List.set_cons_succ, List.set_cons_zero]
  refine gsem 6 (some 9) (.pointer (some ⟨B1, 10, none⟩)) rfl (by kernel_rfl) (by kernel_rfl) (by kernel_rfl) (fun _ _ _ h => h) (by kernel_rfl) (by kernel_rfl) (fun _ _ => by kernel_rfl) hq0 ?_
  simp only [Act.put, List.setIfInBounds_toArray, List.set_cons_succ, List.set_cons_zero]
  refine gsem 7 (some 10) (.agg d.s.cs.toArray) rfl (by kernel_rfl) (by kernel_rfl) (by kernel_rfl) (fun _ _ _ h => h) (by kernel_rfl) (by kernel_rfl) (fun X hX => ex_loadN (vs := d.s.cs) 31 5 rwV szV rfl rfl (hX.get 0 rfl) rfl rfl) hq0 ?_
  simp only [Act.put, List.setIfInBounds_toArray, List.set_cons_succ, List.set_cons_zero]
  refine wpAnyH_ready (rs := [2]) (by kernel_rfl) (by simp) (gcallR 2 (some 5) rfl (by kernel_rfl) (by kernel_rfl) (by kernel_rfl) (hv _) ?_ AllReadyH.nil)
  rintro e Y2 ⟨rfl, hY2⟩
  have hq02 := Hq.on hq0 hY2
  refine ⟨_, rfl, hq02, ?_⟩
  simp only [Act.put, List.setIfInBounds_toArray, List.set_cons_succ, List.set_cons_zero]
  refine gsem 9 (some 12) (.pointer (some ⟨B1, 0, none⟩)) rfl (by kernel_rfl) (by kernel_rfl) (by kernel_rfl) (fun _ _ _ h => h) (by kernel_rfl) (by kernel_rfl) (fun _ _ => by kernel_rfl) hq02 ?_
  simp only [Act.put, List.setIfInBounds_toArray, List.set_cons_succ, List.set_cons_zero]
  refine wpAnyH_ready (rs := [5]) (by kernel_rfl) (by simp) (gcallR 5 (some 8) rfl (by kernel_rfl) (by kernel_rfl) (by kernel_rfl) (hg _) ?_ AllReadyH.nil)
  rintro e Y5 ⟨rfl, hY5⟩
  have hq05 := Hq.on hq02 hY5
  refine ⟨_, rfl, hq05, ?_⟩
  simp only [Act.put, List.setIfInBounds_toArray, List.set_cons_succ, List.set_cons_zero]
  refine wpAnyH_ready (rs := [8]) (by kernel_rfl) (by simp) (gcallR 8 (some 11) rfl (by kernel_rfl) (by kernel_rfl) (by kernel_rfl) (hs _) ?_ AllReadyH.nil)
  rintro e Y8 ⟨rfl, hY8⟩
  have hq08 := Hq.on hq05 hY8
  refine ⟨_, rfl, hq08, ?_⟩
  simp only [Act.put, List.setIfInBounds_toArray, List.set_cons_succ, List.set_cons_zero]
  refine wpAnyH_ready (rs := [10]) (by kernel_rfl) (by simp) (gskp 10 none rfl (by kernel_rfl) (by kernel_rfl) (ex_store (t := 31) (vs := d.v.cs) rfl rfl rfl rfl (vcs_one _) szV (hq08.get 0 rfl) (by simp [DD.cs, VV.cs])) (hq08.put 0 rfl 0 d.v.cs (by simp [DD.cs, VV.cs]) (.inr (unhide hB1))) ?_ AllReadyH.nil)
  have hqa : Hq w _ [] [(B1, d.cs), (B2, zeroD.cs)] := hq08.put 0 rfl 0 d.v.cs (by simp [DD.cs, VV.cs]) (.inr (unhide hB1))
  simp only [Act.put, List.setIfInBounds_toArray, List.set_cons_succ, List.set_cons_zero]
  refine gsem 11 (some 13) (.pointer (some ⟨B1, 5, none⟩)) rfl (by kernel_rfl) (by kernel_rfl) (by kernel_rfl) (fun _ _ _ h => h) (by kernel_rfl) (by kernel_rfl) (fun _ _ => by kernel_rfl) hqa ?_
  simp only [Act.put, List.setIfInBounds_toArray, List.set_cons_succ, List.set_cons_zero]
  refine wpAnyH_ready (rs := [12]) (by kernel_rfl) (by simp) (gskp 12 none rfl (by kernel_rfl) (by kernel_rfl) (ex_store (t := 31) (vs := d.g.cs) rfl rfl rfl rfl (vcs_one _) szV (hqa.get 0 rfl) (by simp [DD.cs, VV.cs])) (hqa.put 0 rfl 5 d.g.cs (by simp [DD.cs, VV.cs]) (.inr (unhide hB1))) ?_ AllReadyH.nil)
  have hqb : Hq w _ [] [(B1, d.cs), (B2, zeroD.cs)] := hqa.put 0 rfl 5 d.g.cs (by simp [DD.cs, VV.cs]) (.inr (unhide hB1))
  simp only [Act.put, List.setIfInBounds_toArray, List.set_cons_succ, List.set_cons_zero]
  refine gsem 13 (some 14) (.pointer (some ⟨B1, 10, none⟩)) rfl (by kernel_rfl) (by kernel_rfl) (by kernel_rfl) (fun _ _ _ h => h) (by kernel_rfl) (by kernel_rfl) (fun _ _ => by kernel_rfl) hqb ?_
  simp only [Act.put, List.setIfInBounds_toArray, List.set_cons_succ, List.set_cons_zero]
  refine wpAnyH_ready (rs := [14]) (by kernel_rfl) (by simp) (gskp 14 none rfl (by kernel_rfl) (by kernel_rfl) (ex_store (t := 31) (vs := d.s.cs) rfl rfl rfl rfl (vcs_one _) szV (hqb.get 0 rfl) (by simp [DD.cs, VV.cs])) (hqb.put 0 rfl 10 d.s.cs (by simp [DD.cs, VV.cs]) (.inr (unhide hB1))) ?_ AllReadyH.nil)
  have hqc : Hq w _ [] [(B1, d.cs), (B2, zeroD.cs)] := hqb.put 0 rfl 10 d.s.cs (by simp [DD.cs, VV.cs]) (.inr (unhide hB1))
  simp only [Act.put, List.setIfInBounds_toArray, List.set_cons_succ, List.set_cons_zero]
  refine wpAnyH_done (by kernel_rfl) ?_ _
  try simp only [Act.put, List.setIfInBounds_toArray, List.set_cons_succ, List.set_cons_zero]
  replace LL := hide hqc
  clear hqa hqb hqc hq0 hq02 hq05 hq08 hS0 hv hg hs hY2 hY5 hY8 h
  go_wp2_with (first | go_skip | ((with_reducible show wpList _ _ _ _ _ _); first | ((refine rd (by rfl) (ex_loadN (vs := d.cs) 59 18 rwD szD rfl rfl ((unhide LL).get 0 rfl) rfl rfl) ?_); simp only [Act.put, List.setIfInBounds_toArray, List.set_cons_succ, List.set_cons_zero]) | ((refine st (vs := d.cs) 1 59 (by rfl) rfl rfl rfl rfl (dcs_one d) szD (unhide LL) rfl (by simp [DD.cs, zeroD]) (Or.inr (unhide hB2)) ?_); intro X4 L4 hf4 hs4; replace LL := hide L4; clear L4 hf4 hs4; simp only [Act.put, List.setIfInBounds_toArray, List.set_cons_succ, List.set_cons_zero])))
  refine ret_c (cs := d.cs) rwD szD rfl rfl rfl ((unhide LL).get 1 rfl) rfl ?_
  exact ⟨rfl, (unhide LL).fr.below⟩
def putL (o : Int) (p : PR) : DL := ⟨o, 6, 0, false, zeroV, p.k, p.d⟩
def goneL (o : Int) (k : KK) : DL := ⟨o, 5, 0, false, zeroV, k, zeroD⟩
def makeL (o : Int) (s : SH) : DL := ⟨o, 1, s.c, s.x, s.p, zeroK, zeroD⟩
def classL (o : Int) (s : SH) : DL := ⟨o, 2, s.c, false, zeroV, zeroK, zeroD⟩
def protoL (o : Int) (s : SH) : DL := ⟨o, 3, 0, false, s.p, zeroK, zeroD⟩
def extL (o : Int) (s : SH) : DL := ⟨o, 4, 0, s.x, zeroV, zeroK, zeroD⟩
theorem bPut (k : KK) (d : DD) (w : World) : (Instr.build 65 #[(1, .int .i64 6), (5, .agg k.cs.toArray), (6, .agg d.cs.toArray)]).run Tryz.prog w = .ok (.agg (DL.cs ⟨0, 6, 0, false, zeroV, k, d⟩).toArray) w := by kernel_rfl
theorem ex_bPut {o : Oper} {a : Act} {w : World} {x1 x5 x6 : Operand} (k : KK) (d : DD) (ho : o.op = .build 65 #[(1, x1), (5, x5), (6, x6)]) (h1 : a.eval x1 = .int .i64 6) (h5 : a.eval x5 = .agg k.cs.toArray) (h6 : a.eval x6 = .agg d.cs.toArray) : (execOp a.eval o).run Tryz.prog w = .ok (.value (.agg (DL.cs ⟨0, 6, 0, false, zeroV, k, d⟩).toArray)) w := by
  have e := bPut k d w
  unfold execOp
  simp only [ho, List.map_toArray, List.map_cons, List.map_nil, h1, h5, h6]
  simp [e]
theorem bGone (k : KK) (w : World) : (Instr.build 65 #[(1, .int .i64 5), (5, .agg k.cs.toArray)]).run Tryz.prog w = .ok (.agg (DL.cs ⟨0, 5, 0, false, zeroV, k, zeroD⟩).toArray) w := by kernel_rfl
theorem ex_bGone {o : Oper} {a : Act} {w : World} {x1 x5 : Operand} (k : KK) (ho : o.op = .build 65 #[(1, x1), (5, x5)]) (h1 : a.eval x1 = .int .i64 5) (h5 : a.eval x5 = .agg k.cs.toArray) : (execOp a.eval o).run Tryz.prog w = .ok (.value (.agg (DL.cs ⟨0, 5, 0, false, zeroV, k, zeroD⟩).toArray)) w := by
  have e := bGone k w
  unfold execOp
  simp only [ho, List.map_toArray, List.map_cons, List.map_nil, h1, h5]
  simp [e]
theorem bMake (n : Int) (v : VV) (y : Bool) (w : World) : (Instr.build 65 #[(1, .int .i64 1), (2, .int .i64 n), (4, .agg v.cs.toArray), (3, .bool y)]).run Tryz.prog w = .ok (.agg (DL.cs ⟨0, 1, n, y, v, zeroK, zeroD⟩).toArray) w := by kernel_rfl
theorem ex_bMake {o : Oper} {a : Act} {w : World} {x1 x2 x4 x3 : Operand} (n : Int) (v : VV) (y : Bool) (ho : o.op = .build 65 #[(1, x1), (2, x2), (4, x4), (3, x3)]) (h1 : a.eval x1 = .int .i64 1) (h2 : a.eval x2 = .int .i64 n) (h4 : a.eval x4 = .agg v.cs.toArray) (h3 : a.eval x3 = .bool y) : (execOp a.eval o).run Tryz.prog w = .ok (.value (.agg (DL.cs ⟨0, 1, n, y, v, zeroK, zeroD⟩).toArray)) w := by
  have e := bMake n v y w
  unfold execOp
  simp only [ho, List.map_toArray, List.map_cons, List.map_nil, h1, h2, h4, h3]
  simp [e]
theorem bClass (n : Int) (w : World) : (Instr.build 65 #[(1, .int .i64 2), (2, .int .i64 n)]).run Tryz.prog w = .ok (.agg (DL.cs ⟨0, 2, n, false, zeroV, zeroK, zeroD⟩).toArray) w := by kernel_rfl
theorem ex_bClass {o : Oper} {a : Act} {w : World} {x1 x2 : Operand} (n : Int) (ho : o.op = .build 65 #[(1, x1), (2, x2)]) (h1 : a.eval x1 = .int .i64 2) (h2 : a.eval x2 = .int .i64 n) : (execOp a.eval o).run Tryz.prog w = .ok (.value (.agg (DL.cs ⟨0, 2, n, false, zeroV, zeroK, zeroD⟩).toArray)) w := by
  have e := bClass n w
  unfold execOp
  simp only [ho, List.map_toArray, List.map_cons, List.map_nil, h1, h2]
  simp [e]
theorem bProto (v : VV) (w : World) : (Instr.build 65 #[(1, .int .i64 3), (4, .agg v.cs.toArray)]).run Tryz.prog w = .ok (.agg (DL.cs ⟨0, 3, 0, false, v, zeroK, zeroD⟩).toArray) w := by kernel_rfl
theorem ex_bProto {o : Oper} {a : Act} {w : World} {x1 x4 : Operand} (v : VV) (ho : o.op = .build 65 #[(1, x1), (4, x4)]) (h1 : a.eval x1 = .int .i64 3) (h4 : a.eval x4 = .agg v.cs.toArray) : (execOp a.eval o).run Tryz.prog w = .ok (.value (.agg (DL.cs ⟨0, 3, 0, false, v, zeroK, zeroD⟩).toArray)) w := by
  have e := bProto v w
  unfold execOp
  simp only [ho, List.map_toArray, List.map_cons, List.map_nil, h1, h4]
  simp [e]
theorem bExt (y : Bool) (w : World) : (Instr.build 65 #[(1, .int .i64 4), (3, .bool y)]).run Tryz.prog w = .ok (.agg (DL.cs ⟨0, 4, 0, y, zeroV, zeroK, zeroD⟩).toArray) w := by kernel_rfl
theorem ex_bExt {o : Oper} {a : Act} {w : World} {x1 x3 : Operand} (y : Bool) (ho : o.op = .build 65 #[(1, x1), (3, x3)]) (h1 : a.eval x1 = .int .i64 4) (h3 : a.eval x3 = .bool y) : (execOp a.eval o).run Tryz.prog w = .ok (.value (.agg (DL.cs ⟨0, 4, 0, y, zeroV, zeroK, zeroD⟩).toArray)) w := by
  have e := bExt y w
  unfold execOp
  simp only [ho, List.map_toArray, List.map_cons, List.map_nil, h1, h3]
  simp [e]
set_option maxHeartbeats 2000000 in
set_option maxRecDepth 100000 in
theorem put_anyT (p : PR) (b0 t : Nat) (o : Int) (xs : List DL) (lv : Value) (X : World) (hT : TI b0 X t o xs lv) (hx : xs.length ≤ 100000) (h0 : b0 ≤ X.heap.size) (hs : SP p) : Calls Tryz.prog 55 #[.pointer (some ⟨t, 0, none⟩), p.agg] X (TPost X b0 t o xs [putL o p] lv) := by
  have LL := hide (TS.start hT)
  have hk := fun w => newKey_any p.k w hs.1
  have hd := fun w => newDesc_any p.d w hs.2
  simp only [kagg] at hk
  simp only [dagg] at hd
  rw [pagg]
  clear hT
  go_enter Tryz.func55, Tryz.ntmps55
  go_wp2_with (first | go_skip | ((with_reducible show wpList _ _ _ _ _ _); first | ((refine bxT 61 (p.cs) (by rfl) rfl rfl rfl (Nat.succ_pos _) (unhide LL) ?_); intro X1 B1 hE1 L1 hb1; have hB1 := hide (Nat.le_trans (unhide LL).hq.fr.size (Nat.le_of_eq hE1.symm)); replace LL := hide L1; clear L1 hb1 hE1; simp only [Act.put, List.setIfInBounds_toArray, List.set_cons_succ, List.set_cons_zero])))
  have ht0 : TS X _ (t :: lv.ownBlock.toList) b0 t o xs lv [(B1, p.cs)] := (unhide LL).drew
  have hq0 : ∃ ys lw, TS X _ (t :: lv.ownBlock.toList) b0 t o ys lw [(B1, p.cs)] := ⟨_, _, ht0⟩
  refine wp_region_held_drew (P := Tryz.prog) (S := fun Z => ∃ ys lw, TS X Z (t :: lv.ownBlock.toList) b0 t o ys lw [(B1, p.cs)]) (by kernel_rfl) hq0 (fun hS0 => ?_)
  refine gsem 0 (some 4) (.pointer (some ⟨t, 0, none⟩)) rfl (by kernel_rfl) (by kernel_rfl) (by kernel_rfl) (fun _ _ _ h => h) (by kernel_rfl) (by kernel_rfl) (fun _ _ => by kernel_rfl) hq0 ?_
  simp only [Act.put, List.setIfInBounds_toArray, List.set_cons_succ, List.set_cons_zero]
  refine gsem 1 (some 5) (.pointer (some ⟨B1, 0, none⟩)) rfl (by kernel_rfl) (by kernel_rfl) (by kernel_rfl) (fun _ _ _ h => h) (by kernel_rfl) (by kernel_rfl) (fun _ _ => by kernel_rfl) hq0 ?_
  simp only [Act.put, List.setIfInBounds_toArray, List.set_cons_succ, List.set_cons_zero]
  refine gsem 2 (some 6) (.agg p.k.cs.toArray) rfl (by kernel_rfl) (by kernel_rfl) (by kernel_rfl) (fun _ _ _ h => h) (by kernel_rfl) (by kernel_rfl) (fun X hX => by obtain ⟨ys, lw, hZ⟩ := hX; exact ex_loadN (vs := p.k.cs) 56 2 rwK szK rfl rfl (hZ.hq.get 0 rfl) rfl rfl) hq0 ?_
  simp only [Act.put, List.setIfInBounds_toArray, List.set_cons_succ, List.set_cons_zero]
  refine gsem 4 (some 8) (.pointer (some ⟨B1, 2, none⟩)) rfl (by kernel_rfl) (by kernel_rfl) (by kernel_rfl) (fun _ _ _ h => h) (by kernel_rfl) (by kernel_rfl) (fun _ _ => by kernel_rfl) hq0 ?_
  simp only [Act.put, List.setIfInBounds_toArray, List.set_cons_succ, List.set_cons_zero]
  refine gsem 5 (some 9) (.agg p.d.cs.toArray) rfl (by kernel_rfl) (by kernel_rfl) (by kernel_rfl) (fun _ _ _ h => h) (by kernel_rfl) (by kernel_rfl) (fun X hX => by obtain ⟨ys, lw, hZ⟩ := hX; exact ex_loadN (vs := p.d.cs) 59 18 rwD szD rfl rfl (hZ.hq.get 0 rfl) rfl rfl) hq0 ?_
  simp only [Act.put, List.setIfInBounds_toArray, List.set_cons_succ, List.set_cons_zero]
  refine wpAnyH_ready (rs := [3]) (by kernel_rfl) (by simp) (gcallR 3 (some 7) rfl (by kernel_rfl) (by kernel_rfl) (by kernel_rfl) (hk _) ?_ AllReadyH.nil)
  rintro e Y3 ⟨rfl, hY3⟩
  have ht3 := ht0.on hY3
  have hq3 : ∃ ys lw, TS X Y3 (t :: lv.ownBlock.toList) b0 t o ys lw [(B1, p.cs)] := ⟨_, _, ht3⟩
  refine ⟨_, rfl, hq3, ?_⟩
  simp only [Act.put, List.setIfInBounds_toArray, List.set_cons_succ, List.set_cons_zero]
  refine wpAnyH_ready (rs := [6]) (by kernel_rfl) (by simp) (gcallR 6 (some 10) rfl (by kernel_rfl) (by kernel_rfl) (by kernel_rfl) (hd _) ?_ AllReadyH.nil)
  rintro e Y6 ⟨rfl, hY6⟩
  have ht6 := ht3.on hY6
  have hq6 : ∃ ys lw, TS X Y6 (t :: lv.ownBlock.toList) b0 t o ys lw [(B1, p.cs)] := ⟨_, _, ht6⟩
  refine ⟨_, rfl, hq6, ?_⟩
  simp only [Act.put, List.setIfInBounds_toArray, List.set_cons_succ, List.set_cons_zero]
  refine gsem 7 (some 11) (.agg (DL.cs ⟨0, 6, 0, false, zeroV, p.k, p.d⟩).toArray) rfl (by kernel_rfl) (by kernel_rfl) (by kernel_rfl) (fun _ _ _ h => h) (by kernel_rfl) (by kernel_rfl) (fun X hX => ex_bPut p.k p.d rfl rfl rfl rfl) hq6 ?_
  simp only [Act.put, List.setIfInBounds_toArray, List.set_cons_succ, List.set_cons_zero]
  refine wpAnyH_ready (rs := [8]) (by kernel_rfl) (by simp) (gcallR 8 (some 12) rfl (by kernel_rfl) (by kernel_rfl) (by kernel_rfl) (tell_any ⟨0, 6, 0, false, zeroV, p.k, p.d⟩ b0 t o xs lv _ ht6.ti hx (Nat.le_trans h0 ht6.hq.fr.size)) ?_ AllReadyH.nil)
  rintro e Y8 ⟨lv8, rfl, hY8⟩
  have ht8 := ht6.tell hY8
  have hq8 : ∃ ys lw, TS X Y8 (t :: lv.ownBlock.toList) b0 t o ys lw [(B1, p.cs)] := ⟨_, _, ht8⟩
  refine ⟨_, rfl, hq8, ?_⟩
  simp only [Act.put, List.setIfInBounds_toArray, List.set_cons_succ, List.set_cons_zero]
  refine wpAnyH_done (by kernel_rfl) ?_ _
  try simp only [Act.put, List.setIfInBounds_toArray, List.set_cons_succ, List.set_cons_zero]
  go_wp2
  go_end0
  exact ⟨_, rfl, ht8.post⟩
set_option maxRecDepth 100000 in
theorem gone_any (k : KK) (b0 t : Nat) (o : Int) (xs : List DL) (lv : Value) (X : World) (hT : TI b0 X t o xs lv) (hx : xs.length ≤ 100000) (h0 : b0 ≤ X.heap.size) (hs : k.s.size ≤ 281474976710656) : Calls Tryz.prog 68 #[.pointer (some ⟨t, 0, none⟩), k.agg] X (TPost X b0 t o xs [goneL o k] lv) := by
  have LL := hide (TS.start hT)
  have HK := hide (fun w => newKey_any k w hs)
  have HX := hide hx
  have H0 := hide h0
  simp only [kagg] at HK
  rw [kagg]
  clear hT hx h0 hs
  go_enter Tryz.func68, Tryz.ntmps68
  go_wp2_with (first | go_skip | ((with_reducible show wpList _ _ _ _ _ _); first | ((refine bxT 56 (k.cs) (by rfl) rfl rfl rfl (Nat.succ_pos _) (unhide LL) ?_); intro X1 B1 hE1 L1 hb1; have hB1 := hide (Nat.le_trans (unhide LL).hq.fr.size (Nat.le_of_eq hE1.symm)); replace LL := hide L1; clear L1 hb1 hE1; simp only [Act.put, List.setIfInBounds_toArray, List.set_cons_succ, List.set_cons_zero]) | ((refine rd (by rfl) (ex_loadN (vs := k.cs) 56 2 rwK szK rfl rfl ((unhide LL).hq.get 0 rfl) rfl rfl) ?_); simp only [Act.put, List.setIfInBounds_toArray, List.set_cons_succ, List.set_cons_zero]) | ((refine rd (by rfl) (ex_bGone k rfl rfl rfl) ?_); simp only [Act.put, List.setIfInBounds_toArray, List.set_cons_succ, List.set_cons_zero])))
  refine (unhide HK _).mono ?_
  rintro e Y3 ⟨rfl, hY3⟩
  replace LL := hide ((unhide LL).on hY3)
  clear hY3
  go_wp2_with (first | go_skip | ((with_reducible show wpList _ _ _ _ _ _); first | ((refine bxT 56 (k.cs) (by rfl) rfl rfl rfl (Nat.succ_pos _) (unhide LL) ?_); intro X1 B1 hE1 L1 hb1; have hB1 := hide (Nat.le_trans (unhide LL).hq.fr.size (Nat.le_of_eq hE1.symm)); replace LL := hide L1; clear L1 hb1 hE1; simp only [Act.put, List.setIfInBounds_toArray, List.set_cons_succ, List.set_cons_zero]) | ((refine rd (by rfl) (ex_loadN (vs := k.cs) 56 2 rwK szK rfl rfl ((unhide LL).hq.get 0 rfl) rfl rfl) ?_); simp only [Act.put, List.setIfInBounds_toArray, List.set_cons_succ, List.set_cons_zero]) | ((refine rd (by rfl) (ex_bGone k rfl rfl rfl) ?_); simp only [Act.put, List.setIfInBounds_toArray, List.set_cons_succ, List.set_cons_zero])))
  refine (tell_any ⟨0, 5, 0, false, zeroV, k, zeroD⟩ b0 t o xs lv _ (unhide LL).ti (unhide HX) (Nat.le_trans (unhide H0) (unhide LL).hq.fr.size)).mono ?_
  rintro e Y4 ⟨lv4, rfl, hY4⟩
  replace LL := hide ((unhide LL).tell hY4)
  clear hY4
  go_wp2
  go_end0
  exact ⟨_, rfl, (unhide LL).post⟩
end Go.Proofs.YtcflglloopgieaaGreatDoor
