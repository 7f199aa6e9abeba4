import Derived.Test.YtcflglloopgieaaIn
namespace Go.Proofs.Ytcflglloopgieaa
open Go Go.Proofs Go.Maps Go.RowKit FM
set_option linter.unusedSimpArgs false
set_option linter.unusedVariables false
set_option maxHeartbeats 1000000
def SV (v : VV) : Prop := v.s.size ≤ 281474976710656
def SD (d : DD) : Prop := SV d.v ∧ SV d.g ∧ SV d.s
def SP (p : PR) : Prop := p.k.s.size ≤ 281474976710656 ∧ SD p.d
def SS (s : SH) : Prop := SV s.p ∧ ∀ p ∈ s.ps, SP p
theorem clone_big (s : ByteArray) (w : World) (h : s.size ≤ 281474976710656) : Calls Try.prog 25 #[.string s] w fun e w' => e = .returned (.string s) ∧ Below w.heap.size w w' := by
  have HC := hide (Try.stringslite_Clone s w h)
  clear h
  go_enter Try.func25, Try.ntmps25
  go_wp2_with fail
  refine (unhide HC).mono ?_
  rintro e w' ⟨rfl, hb⟩
  go_wp2
  go_ret
  exact ⟨rfl, hb⟩
theorem szStr : (Try.prog.info? 9).map (·.size) = some 1 := by kernel_rfl
theorem kcs_one (k : KK) : ∀ u ∈ k.cs, u.oneCell' = true := by simp [KK.cs, Value.oneCell']
theorem dcs_one (d : DD) : ∀ u ∈ d.cs, u.oneCell' = true := by simp [DD.cs, Value.oneCell']
def zeroK : KK := ⟨⟨#[]⟩, 0⟩
set_option maxRecDepth 100000 in
theorem newKey_any (k : KK) (w : World) (h : k.s.size ≤ 281474976710656) : Calls Try.prog 31 #[k.agg] w fun e w' => e = .returned (k.agg) ∧ Below w.heap.size w w' := by
  have LL := hide (Hq.nil w [])
  have HC := hide (fun w => clone_big k.s w h)
  clear h
  simp only [kagg]
  go_enter Try.func31, Try.ntmps31
  go_wp2_with (first | go_skip | ((with_reducible show wpList _ _ _ _ _ _); first | ((refine bx 30 (k.cs) (by rfl) rfl rfl rfl (Nat.succ_pos _) (unhide LL) ?_); intro X1 B1 hE1 L1 hb1; have hB1 := hide (Nat.le_trans (unhide LL).fr.size (Nat.le_of_eq hE1.symm)); replace LL := hide L1; clear L1 hb1 hE1; simp only [Act.put, List.setIfInBounds_toArray, List.set_cons_succ, List.set_cons_zero]) | ((refine alG 30 (zeroK.cs) (by rfl) rfl (fun w => by kernel_rfl) (Nat.succ_pos _) (unhide LL) ?_); intro X2 B2 hE2 L2 hb2; have hB2 := hide (Nat.le_trans (unhide LL).fr.size (Nat.le_of_eq hE2.symm)); replace LL := hide L2; clear L2 hb2 hE2; simp only [Act.put, List.setIfInBounds_toArray, List.set_cons_succ, List.set_cons_zero]) | ((refine rd (by rfl) (ex_load1 9 Try.isAgg9 rfl rfl ((unhide LL).get 0 rfl) rfl) ?_); simp only [Act.put, List.setIfInBounds_toArray, List.set_cons_succ, List.set_cons_zero]) | ((refine rd (by rfl) (ex_loadN (vs := k.cs) 30 2 rwK szK rfl rfl ((unhide LL).get 0 rfl) rfl rfl) ?_); simp only [Act.put, List.setIfInBounds_toArray, List.set_cons_succ, List.set_cons_zero]) | ((refine st (vs := [.string k.s]) 0 9 (by rfl) rfl rfl rfl rfl (by simp [Value.oneCell']) szStr (unhide LL) rfl (by simp [VV.cs, KK.cs]) (Or.inr (unhide hB1)) ?_); intro X3 L3 hf3 hs3; replace LL := hide L3; clear L3 hf3 hs3; simp only [Act.put, List.setIfInBounds_toArray, List.set_cons_succ, List.set_cons_zero]) | ((refine st (vs := k.cs) 1 30 (by rfl) rfl rfl rfl rfl (kcs_one k) szK (unhide LL) rfl (by simp [VV.cs, KK.cs, zeroV]) (Or.inr (unhide hB2)) ?_); intro X4 L4 hf4 hs4; replace LL := hide L4; clear L4 hf4 hs4; simp only [Act.put, List.setIfInBounds_toArray, List.set_cons_succ, List.set_cons_zero])))
  refine (unhide HC _).mono ?_
  rintro e w' ⟨rfl, hb⟩
  replace LL := hide ((unhide LL).on hb)
  clear hb
  go_wp2_with (first | go_skip | ((with_reducible show wpList _ _ _ _ _ _); first | ((refine bx 30 (k.cs) (by rfl) rfl rfl rfl (Nat.succ_pos _) (unhide LL) ?_); intro X1 B1 hE1 L1 hb1; have hB1 := hide (Nat.le_trans (unhide LL).fr.size (Nat.le_of_eq hE1.symm)); replace LL := hide L1; clear L1 hb1 hE1; simp only [Act.put, List.setIfInBounds_toArray, List.set_cons_succ, List.set_cons_zero]) | ((refine alG 30 (zeroK.cs) (by rfl) rfl (fun w => by kernel_rfl) (Nat.succ_pos _) (unhide LL) ?_); intro X2 B2 hE2 L2 hb2; have hB2 := hide (Nat.le_trans (unhide LL).fr.size (Nat.le_of_eq hE2.symm)); replace LL := hide L2; clear L2 hb2 hE2; simp only [Act.put, List.setIfInBounds_toArray, List.set_cons_succ, List.set_cons_zero]) | ((refine rd (by rfl) (ex_load1 9 Try.isAgg9 rfl rfl ((unhide LL).get 0 rfl) rfl) ?_); simp only [Act.put, List.setIfInBounds_toArray, List.set_cons_succ, List.set_cons_zero]) | ((refine rd (by rfl) (ex_loadN (vs := k.cs) 30 2 rwK szK rfl rfl ((unhide LL).get 0 rfl) rfl rfl) ?_); simp only [Act.put, List.setIfInBounds_toArray, List.set_cons_succ, List.set_cons_zero]) | ((refine st (vs := [.string k.s]) 0 9 (by rfl) rfl rfl rfl rfl (by simp [Value.oneCell']) szStr (unhide LL) rfl (by simp [VV.cs, KK.cs]) (Or.inr (unhide hB1)) ?_); intro X3 L3 hf3 hs3; replace LL := hide L3; clear L3 hf3 hs3; simp only [Act.put, List.setIfInBounds_toArray, List.set_cons_succ, List.set_cons_zero]) | ((refine st (vs := k.cs) 1 30 (by rfl) rfl rfl rfl rfl (kcs_one k) szK (unhide LL) rfl (by simp [VV.cs, KK.cs, zeroV]) (Or.inr (unhide hB2)) ?_); intro X4 L4 hf4 hs4; replace LL := hide L4; clear L4 hf4 hs4; simp only [Act.put, List.setIfInBounds_toArray, List.set_cons_succ, List.set_cons_zero])))
  refine ret_c (cs := k.cs) rwK szK rfl rfl rfl ((unhide LL).get 1 rfl) rfl ?_
  exact ⟨rfl, (unhide LL).fr.below⟩
set_option maxRecDepth 100000 in
theorem newValue_any (v : VV) (w : World) (h : v.s.size ≤ 281474976710656) : Calls Try.prog 20 #[v.agg] w fun e w' => e = .returned (v.agg) ∧ Below w.heap.size w w' := by
  have LL := hide (Hq.nil w [])
  have HC := hide (fun w => clone_big v.s w h)
  clear h
  simp only [vagg]
  go_enter Try.func20, Try.ntmps20
  go_wp2_with (first | go_skip | ((with_reducible show wpList _ _ _ _ _ _); first | ((refine bx 28 (v.cs) (by rfl) rfl rfl rfl (Nat.succ_pos _) (unhide LL) ?_); intro X1 B1 hE1 L1 hb1; have hB1 := hide (Nat.le_trans (unhide LL).fr.size (Nat.le_of_eq hE1.symm)); replace LL := hide L1; clear L1 hb1 hE1; simp only [Act.put, List.setIfInBounds_toArray, List.set_cons_succ, List.set_cons_zero]) | ((refine alG 28 (zeroV.cs) (by rfl) rfl (fun w => by kernel_rfl) (Nat.succ_pos _) (unhide LL) ?_); intro X2 B2 hE2 L2 hb2; have hB2 := hide (Nat.le_trans (unhide LL).fr.size (Nat.le_of_eq hE2.symm)); replace LL := hide L2; clear L2 hb2 hE2; simp only [Act.put, List.setIfInBounds_toArray, List.set_cons_succ, List.set_cons_zero]) | ((refine rd (by rfl) (ex_load1 9 Try.isAgg9 rfl rfl ((unhide LL).get 0 rfl) rfl) ?_); simp only [Act.put, List.setIfInBounds_toArray, List.set_cons_succ, List.set_cons_zero]) | ((refine rd (by rfl) (ex_loadN (vs := v.cs) 28 5 rwV szV rfl rfl ((unhide LL).get 0 rfl) rfl rfl) ?_); simp only [Act.put, List.setIfInBounds_toArray, List.set_cons_succ, List.set_cons_zero]) | ((refine st (vs := [.string v.s]) 0 9 (by rfl) rfl rfl rfl rfl (by simp [Value.oneCell']) szStr (unhide LL) rfl (by simp [VV.cs, KK.cs]) (Or.inr (unhide hB1)) ?_); intro X3 L3 hf3 hs3; replace LL := hide L3; clear L3 hf3 hs3; simp only [Act.put, List.setIfInBounds_toArray, List.set_cons_succ, List.set_cons_zero]) | ((refine st (vs := v.cs) 1 28 (by rfl) rfl rfl rfl rfl (vcs_one v) szV (unhide LL) rfl (by simp [VV.cs, KK.cs, zeroV]) (Or.inr (unhide hB2)) ?_); intro X4 L4 hf4 hs4; replace LL := hide L4; clear L4 hf4 hs4; simp only [Act.put, List.setIfInBounds_toArray, List.set_cons_succ, List.set_cons_zero])))
  refine (unhide HC _).mono ?_
  rintro e w' ⟨rfl, hb⟩
  replace LL := hide ((unhide LL).on hb)
  clear hb
  go_wp2_with (first | go_skip | ((with_reducible show wpList _ _ _ _ _ _); first | ((refine bx 28 (v.cs) (by rfl) rfl rfl rfl (Nat.succ_pos _) (unhide LL) ?_); intro X1 B1 hE1 L1 hb1; have hB1 := hide (Nat.le_trans (unhide LL).fr.size (Nat.le_of_eq hE1.symm)); replace LL := hide L1; clear L1 hb1 hE1; simp only [Act.put, List.setIfInBounds_toArray, List.set_cons_succ, List.set_cons_zero]) | ((refine alG 28 (zeroV.cs) (by rfl) rfl (fun w => by kernel_rfl) (Nat.succ_pos _) (unhide LL) ?_); intro X2 B2 hE2 L2 hb2; have hB2 := hide (Nat.le_trans (unhide LL).fr.size (Nat.le_of_eq hE2.symm)); replace LL := hide L2; clear L2 hb2 hE2; simp only [Act.put, List.setIfInBounds_toArray, List.set_cons_succ, List.set_cons_zero]) | ((refine rd (by rfl) (ex_load1 9 Try.isAgg9 rfl rfl ((unhide LL).get 0 rfl) rfl) ?_); simp only [Act.put, List.setIfInBounds_toArray, List.set_cons_succ, List.set_cons_zero]) | ((refine rd (by rfl) (ex_loadN (vs := v.cs) 28 5 rwV szV rfl rfl ((unhide LL).get 0 rfl) rfl rfl) ?_); simp only [Act.put, List.setIfInBounds_toArray, List.set_cons_succ, List.set_cons_zero]) | ((refine st (vs := [.string v.s]) 0 9 (by rfl) rfl rfl rfl rfl (by simp [Value.oneCell']) szStr (unhide LL) rfl (by simp [VV.cs, KK.cs]) (Or.inr (unhide hB1)) ?_); intro X3 L3 hf3 hs3; replace LL := hide L3; clear L3 hf3 hs3; simp only [Act.put, List.setIfInBounds_toArray, List.set_cons_succ, List.set_cons_zero]) | ((refine st (vs := v.cs) 1 28 (by rfl) rfl rfl rfl rfl (vcs_one v) szV (unhide LL) rfl (by simp [VV.cs, KK.cs, zeroV]) (Or.inr (unhide hB2)) ?_); intro X4 L4 hf4 hs4; replace LL := hide L4; clear L4 hf4 hs4; simp only [Act.put, List.setIfInBounds_toArray, List.set_cons_succ, List.set_cons_zero])))
  refine ret_c (cs := v.cs) rwV szV rfl rfl rfl ((unhide LL).get 1 rfl) rfl ?_
  exact ⟨rfl, (unhide LL).fr.below⟩
set_option maxHeartbeats 2000000 in
set_option maxRecDepth 100000 in
theorem newDesc_any (d : DD) (w : World) (h : SD d) : Calls Try.prog 32 #[d.agg] w fun e w' => e = .returned (d.agg) ∧ Below w.heap.size w w' := by
  have LL := hide (Hq.nil w [])
  have hv := fun w => newValue_any d.v w h.1
  have hg := fun w => newValue_any d.g w h.2.1
  have hs := fun w => newValue_any d.s w h.2.2
  simp only [vagg] at hv hg hs
  simp only [dagg]
  go_enter Try.func32, Try.ntmps32
  go_wp2_with (first | go_skip | ((with_reducible show wpList _ _ _ _ _ _); first | ((refine bx 33 (d.cs) (by rfl) rfl rfl rfl (Nat.succ_pos _) (unhide LL) ?_); intro X1 B1 hE1 L1 hb1; have hB1 := hide (Nat.le_trans (unhide LL).fr.size (Nat.le_of_eq hE1.symm)); replace LL := hide L1; clear L1 hb1 hE1; simp only [Act.put, List.setIfInBounds_toArray, List.set_cons_succ, List.set_cons_zero]) | ((refine alG 33 (zeroD.cs) (by rfl) rfl (fun w => by kernel_rfl) (Nat.succ_pos _) (unhide LL) ?_); intro X2 B2 hE2 L2 hb2; have hB2 := hide (Nat.le_trans (unhide LL).fr.size (Nat.le_of_eq hE2.symm)); replace LL := hide L2; clear L2 hb2 hE2; simp only [Act.put, List.setIfInBounds_toArray, List.set_cons_succ, List.set_cons_zero])))
  have hq0 : Hq w _ [] [(B1, d.cs), (B2, zeroD.cs)] := (unhide LL).drew
  refine wp_region_held_drew (P := Try.prog) (S := fun X => Hq w X [] [(B1, d.cs), (B2, zeroD.cs)]) (by kernel_rfl) hq0 (fun hS0 => ?_)
  refine gsem 0 (some 3) (.pointer (some ⟨B1, 0, none⟩)) rfl (by kernel_rfl) (by kernel_rfl) (by kernel_rfl) (fun _ _ _ h => h) (by kernel_rfl) (by kernel_rfl) (fun _ _ => by kernel_rfl) hq0 ?_
  simp only [Act.put, List.setIfInBounds_toArray, List.set_cons_succ, List.set_cons_zero]
  refine gsem 1 (some 4) (.agg d.v.cs.toArray) rfl (by kernel_rfl) (by kernel_rfl) (by kernel_rfl) (fun _ _ _ h => h) (by kernel_rfl) (by kernel_rfl) (fun X hX => ex_loadN (vs := d.v.cs) 28 5 rwV szV rfl rfl (hX.get 0 rfl) rfl rfl) hq0 ?_
  simp only [Act.put, List.setIfInBounds_toArray, List.set_cons_succ, List.set_cons_zero]
  refine gsem 3 (some 6) (.pointer (some ⟨B1, 5, none⟩)) rfl (by kernel_rfl) (by kernel_rfl) (by kernel_rfl) (fun _ _ _ h => h) (by kernel_rfl) (by kernel_rfl) (fun _ _ => by kernel_rfl) hq0 ?_
  simp only [Act.put, List.setIfInBounds_toArray, List.set_cons_succ, List.set_cons_zero]
  refine gsem 4 (some 7) (.agg d.g.cs.toArray) rfl (by kernel_rfl) (by kernel_rfl) (by kernel_rfl) (fun _ _ _ h => h) (by kernel_rfl) (by kernel_rfl) (fun X hX => ex_loadN (vs := d.g.cs) 28 5 rwV szV rfl rfl (hX.get 0 rfl) rfl rfl) hq0 ?_
  simp only [Act.put, List.setIfInBounds_toArray, List.set_cons_succ, List.set_cons_zero]
  refine gsem 6 (some 9) (.pointer (some ⟨B1, 10, none⟩)) rfl (by kernel_rfl) (by kernel_rfl) (by kernel_rfl) (fun _ _ _ h => h) (by kernel_rfl) (by kernel_rfl) (fun _ _ => by kernel_rfl) hq0 ?_
  simp only [Act.put, List.setIfInBounds_toArray, List.set_cons_succ, List.set_cons_zero]
  refine gsem 7 (some 10) (.agg d.s.cs.toArray) rfl (by kernel_rfl) (by kernel_rfl) (by kernel_rfl) (fun _ _ _ h => h) (by kernel_rfl) (by kernel_rfl) (fun X hX => ex_loadN (vs := d.s.cs) 28 5 rwV szV rfl rfl (hX.get 0 rfl) rfl rfl) hq0 ?_
  simp only [Act.put, List.setIfInBounds_toArray, List.set_cons_succ, List.set_cons_zero]
  refine wpAnyH_ready (rs := [2]) (by kernel_rfl) (by simp) (gcallR 2 (some 5) rfl (by kernel_rfl) (by kernel_rfl) (by kernel_rfl) (hv _) ?_ AllReadyH.nil)
  rintro e Y2 ⟨rfl, hY2⟩
  have hq02 := Hq.on hq0 hY2
  refine ⟨_, rfl, hq02, ?_⟩
  simp only [Act.put, List.setIfInBounds_toArray, List.set_cons_succ, List.set_cons_zero]
  refine gsem 9 (some 12) (.pointer (some ⟨B1, 0, none⟩)) rfl (by kernel_rfl) (by kernel_rfl) (by kernel_rfl) (fun _ _ _ h => h) (by kernel_rfl) (by kernel_rfl) (fun _ _ => by kernel_rfl) hq02 ?_
  simp only [Act.put, List.setIfInBounds_toArray, List.set_cons_succ, List.set_cons_zero]
  refine wpAnyH_ready (rs := [5]) (by kernel_rfl) (by simp) (gcallR 5 (some 8) rfl (by kernel_rfl) (by kernel_rfl) (by kernel_rfl) (hg _) ?_ AllReadyH.nil)
  rintro e Y5 ⟨rfl, hY5⟩
  have hq05 := Hq.on hq02 hY5
  refine ⟨_, rfl, hq05, ?_⟩
  simp only [Act.put, List.setIfInBounds_toArray, List.set_cons_succ, List.set_cons_zero]
  refine wpAnyH_ready (rs := [8]) (by kernel_rfl) (by simp) (gcallR 8 (some 11) rfl (by kernel_rfl) (by kernel_rfl) (by kernel_rfl) (hs _) ?_ AllReadyH.nil)
  rintro e Y8 ⟨rfl, hY8⟩
  have hq08 := Hq.on hq05 hY8
  refine ⟨_, rfl, hq08, ?_⟩
  simp only [Act.put, List.setIfInBounds_toArray, List.set_cons_succ, List.set_cons_zero]
  refine wpAnyH_ready (rs := [10]) (by kernel_rfl) (by simp) (gskp 10 none rfl (by kernel_rfl) (by kernel_rfl) (ex_store (t := 28) (vs := d.v.cs) rfl rfl rfl rfl (vcs_one _) szV (hq08.get 0 rfl) (by simp [DD.cs, VV.cs])) (hq08.put 0 rfl 0 d.v.cs (by simp [DD.cs, VV.cs]) (.inr (unhide hB1))) ?_ AllReadyH.nil)
  have hqa : Hq w _ [] [(B1, d.cs), (B2, zeroD.cs)] := hq08.put 0 rfl 0 d.v.cs (by simp [DD.cs, VV.cs]) (.inr (unhide hB1))
  simp only [Act.put, List.setIfInBounds_toArray, List.set_cons_succ, List.set_cons_zero]
  refine gsem 11 (some 13) (.pointer (some ⟨B1, 5, none⟩)) rfl (by kernel_rfl) (by kernel_rfl) (by kernel_rfl) (fun _ _ _ h => h) (by kernel_rfl) (by kernel_rfl) (fun _ _ => by kernel_rfl) hqa ?_
  simp only [Act.put, List.setIfInBounds_toArray, List.set_cons_succ, List.set_cons_zero]
  refine wpAnyH_ready (rs := [12]) (by kernel_rfl) (by simp) (gskp 12 none rfl (by kernel_rfl) (by kernel_rfl) (ex_store (t := 28) (vs := d.g.cs) rfl rfl rfl rfl (vcs_one _) szV (hqa.get 0 rfl) (by simp [DD.cs, VV.cs])) (hqa.put 0 rfl 5 d.g.cs (by simp [DD.cs, VV.cs]) (.inr (unhide hB1))) ?_ AllReadyH.nil)
  have hqb : Hq w _ [] [(B1, d.cs), (B2, zeroD.cs)] := hqa.put 0 rfl 5 d.g.cs (by simp [DD.cs, VV.cs]) (.inr (unhide hB1))
  simp only [Act.put, List.setIfInBounds_toArray, List.set_cons_succ, List.set_cons_zero]
  refine gsem 13 (some 14) (.pointer (some ⟨B1, 10, none⟩)) rfl (by kernel_rfl) (by kernel_rfl) (by kernel_rfl) (fun _ _ _ h => h) (by kernel_rfl) (by kernel_rfl) (fun _ _ => by kernel_rfl) hqb ?_
  simp only [Act.put, List.setIfInBounds_toArray, List.set_cons_succ, List.set_cons_zero]
  refine wpAnyH_ready (rs := [14]) (by kernel_rfl) (by simp) (gskp 14 none rfl (by kernel_rfl) (by kernel_rfl) (ex_store (t := 28) (vs := d.s.cs) rfl rfl rfl rfl (vcs_one _) szV (hqb.get 0 rfl) (by simp [DD.cs, VV.cs])) (hqb.put 0 rfl 10 d.s.cs (by simp [DD.cs, VV.cs]) (.inr (unhide hB1))) ?_ AllReadyH.nil)
  have hqc : Hq w _ [] [(B1, d.cs), (B2, zeroD.cs)] := hqb.put 0 rfl 10 d.s.cs (by simp [DD.cs, VV.cs]) (.inr (unhide hB1))
  simp only [Act.put, List.setIfInBounds_toArray, List.set_cons_succ, List.set_cons_zero]
  refine wpAnyH_done (by kernel_rfl) ?_ _
  try simp only [Act.put, List.setIfInBounds_toArray, List.set_cons_succ, List.set_cons_zero]
  replace LL := hide hqc
  clear hqa hqb hqc hq0 hq02 hq05 hq08 hS0 hv hg hs hY2 hY5 hY8 h
  go_wp2_with (first | go_skip | ((with_reducible show wpList _ _ _ _ _ _); first | ((refine rd (by rfl) (ex_loadN (vs := d.cs) 33 18 rwD szD rfl rfl ((unhide LL).get 0 rfl) rfl rfl) ?_); simp only [Act.put, List.setIfInBounds_toArray, List.set_cons_succ, List.set_cons_zero]) | ((refine st (vs := d.cs) 1 33 (by rfl) rfl rfl rfl rfl (dcs_one d) szD (unhide LL) rfl (by simp [DD.cs, zeroD]) (Or.inr (unhide hB2)) ?_); intro X4 L4 hf4 hs4; replace LL := hide L4; clear L4 hf4 hs4; simp only [Act.put, List.setIfInBounds_toArray, List.set_cons_succ, List.set_cons_zero])))
  refine ret_c (cs := d.cs) rwD szD rfl rfl rfl ((unhide LL).get 1 rfl) rfl ?_
  exact ⟨rfl, (unhide LL).fr.below⟩
end Go.Proofs.Ytcflglloopgieaa
