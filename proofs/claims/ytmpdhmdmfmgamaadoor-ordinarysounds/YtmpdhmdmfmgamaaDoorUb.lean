import Derived.Test.YtmpdhmdmfmgamaaDoorUa

/-! Of -/
namespace Go.Proofs.YtmpdhmdmfmgamaaDoor
open Go Go.Proofs Go.Maps Go.RowKit FM
set_option linter.unusedSimpArgs false
set_option linter.unusedVariables false
set_option maxHeartbeats 1000000
set_option maxRecDepth 100000 in
theorem object18 (A : Option Addr) (n cap : Nat) (M : Value) (v : VV) (w : World) (hT : Lib.Utf8Tabs 1 2 w) : Calls Tryd.prog 18 #[.agg #[.slice A n cap, M], v.agg] w fun e w' => e = .returned (.bool (obP v n)) ∧ Below w.heap.size w w' := by
  have LL := hide (Hq.nil w [])
  have HT := hide hT
  clear hT
  rw [vagg]
  unfold obP
  by_cases hk : v.k = 7
  · have hk2 : (v.k == 7) = true := by simp [hk]
    rw [hk2, Bool.true_and]
    clear hk
    by_cases h2 : v.i ≤ (n : Int)
    · have d2 := decide_eq_true h2
      rw [d2, Bool.true_and]
      have HC := hide (fun w hT => check_any v w hT)
      rw [vagg] at HC
      generalize hg : v.good = g at *
      go_enter Tryd.func18, Tryd.ntmps18
      go_wp2_with (first | go_skip | ((with_reducible show wpList _ _ _ _ _ _); first | ((refine bx 34 ([.slice A n cap, M]) (by rfl) rfl rfl rfl (Nat.succ_pos _) (unhide LL) ?_); intro X1 B1 hE1 L1 hb1; have hB1 := hide (Nat.le_trans (unhide LL).fr.size (Nat.le_of_eq hE1.symm)); replace LL := hide L1; clear L1 hb1 hE1; simp only [Act.put, List.setIfInBounds_toArray, List.set_cons_succ, List.set_cons_zero]) | ((refine bx 25 (v.cs) (by rfl) rfl rfl rfl (Nat.succ_pos _) (unhide LL) ?_); intro X2 B2 hE2 L2 hb2; have hB2 := hide (Nat.le_trans (unhide LL).fr.size (Nat.le_of_eq hE2.symm)); replace LL := hide L2; clear L2 hb2 hE2; simp only [Act.put, List.setIfInBounds_toArray, List.set_cons_succ, List.set_cons_zero]) | ((refine rd (by rfl) (ex_load1 3 Tryd.isAgg3 rfl rfl ((unhide LL).get 1 rfl) rfl) ?_); simp only [Act.put, List.setIfInBounds_toArray, List.set_cons_succ, List.set_cons_zero]) | ((refine rd (by rfl) (ex_load1 22 Tryd.isAgg22 rfl rfl ((unhide LL).get 0 rfl) rfl) ?_); simp only [Act.put, List.setIfInBounds_toArray, List.set_cons_succ, List.set_cons_zero]) | ((refine rd (by rfl) (ex_lenG 22 28 Tryd.underlying22 rfl rfl) ?_); simp only [Act.put, List.setIfInBounds_toArray, List.set_cons_succ, List.set_cons_zero]) | ((refine rd (by rfl) (ex_loadN (vs := v.cs) 25 5 row25 siz25 rfl rfl ((unhide LL).get 1 rfl) rfl rfl) ?_); simp only [Act.put, List.setIfInBounds_toArray, List.set_cons_succ, List.set_cons_zero])))
      refine (unhide HC _ (tabs_below (unhide HT) (unhide LL).fr.below)).mono ?_
      rintro e X3 ⟨rfl, hb⟩
      replace LL := hide ((unhide LL).on hb)
      clear hb hg
      cases g
      · go_wp2_with (first | go_skip | ((with_reducible show wpList _ _ _ _ _ _); first | ((refine bx 34 ([.slice A n cap, M]) (by rfl) rfl rfl rfl (Nat.succ_pos _) (unhide LL) ?_); intro X1 B1 hE1 L1 hb1; have hB1 := hide (Nat.le_trans (unhide LL).fr.size (Nat.le_of_eq hE1.symm)); replace LL := hide L1; clear L1 hb1 hE1; simp only [Act.put, List.setIfInBounds_toArray, List.set_cons_succ, List.set_cons_zero]) | ((refine bx 25 (v.cs) (by rfl) rfl rfl rfl (Nat.succ_pos _) (unhide LL) ?_); intro X2 B2 hE2 L2 hb2; have hB2 := hide (Nat.le_trans (unhide LL).fr.size (Nat.le_of_eq hE2.symm)); replace LL := hide L2; clear L2 hb2 hE2; simp only [Act.put, List.setIfInBounds_toArray, List.set_cons_succ, List.set_cons_zero]) | ((refine rd (by rfl) (ex_load1 3 Tryd.isAgg3 rfl rfl ((unhide LL).get 1 rfl) rfl) ?_); simp only [Act.put, List.setIfInBounds_toArray, List.set_cons_succ, List.set_cons_zero]) | ((refine rd (by rfl) (ex_load1 22 Tryd.isAgg22 rfl rfl ((unhide LL).get 0 rfl) rfl) ?_); simp only [Act.put, List.setIfInBounds_toArray, List.set_cons_succ, List.set_cons_zero]) | ((refine rd (by rfl) (ex_lenG 22 28 Tryd.underlying22 rfl rfl) ?_); simp only [Act.put, List.setIfInBounds_toArray, List.set_cons_succ, List.set_cons_zero]) | ((refine rd (by rfl) (ex_loadN (vs := v.cs) 25 5 row25 siz25 rfl rfl ((unhide LL).get 1 rfl) rfl rfl) ?_); simp only [Act.put, List.setIfInBounds_toArray, List.set_cons_succ, List.set_cons_zero])))
        go_ret
        exact ⟨rfl, (unhide LL).fr.below⟩
      · go_wp2_with (first | go_skip | ((with_reducible show wpList _ _ _ _ _ _); first | ((refine bx 34 ([.slice A n cap, M]) (by rfl) rfl rfl rfl (Nat.succ_pos _) (unhide LL) ?_); intro X1 B1 hE1 L1 hb1; have hB1 := hide (Nat.le_trans (unhide LL).fr.size (Nat.le_of_eq hE1.symm)); replace LL := hide L1; clear L1 hb1 hE1; simp only [Act.put, List.setIfInBounds_toArray, List.set_cons_succ, List.set_cons_zero]) | ((refine bx 25 (v.cs) (by rfl) rfl rfl rfl (Nat.succ_pos _) (unhide LL) ?_); intro X2 B2 hE2 L2 hb2; have hB2 := hide (Nat.le_trans (unhide LL).fr.size (Nat.le_of_eq hE2.symm)); replace LL := hide L2; clear L2 hb2 hE2; simp only [Act.put, List.setIfInBounds_toArray, List.set_cons_succ, List.set_cons_zero]) | ((refine rd (by rfl) (ex_load1 3 Tryd.isAgg3 rfl rfl ((unhide LL).get 1 rfl) rfl) ?_); simp only [Act.put, List.setIfInBounds_toArray, List.set_cons_succ, List.set_cons_zero]) | ((refine rd (by rfl) (ex_load1 22 Tryd.isAgg22 rfl rfl ((unhide LL).get 0 rfl) rfl) ?_); simp only [Act.put, List.setIfInBounds_toArray, List.set_cons_succ, List.set_cons_zero]) | ((refine rd (by rfl) (ex_lenG 22 28 Tryd.underlying22 rfl rfl) ?_); simp only [Act.put, List.setIfInBounds_toArray, List.set_cons_succ, List.set_cons_zero]) | ((refine rd (by rfl) (ex_loadN (vs := v.cs) 25 5 row25 siz25 rfl rfl ((unhide LL).get 1 rfl) rfl rfl) ?_); simp only [Act.put, List.setIfInBounds_toArray, List.set_cons_succ, List.set_cons_zero])))
        go_ret
        exact ⟨rfl, (unhide LL).fr.below⟩
    · have d2 := decide_eq_false h2
      rw [d2, Bool.false_and]
      go_enter Tryd.func18, Tryd.ntmps18
      go_wp2_with (first | go_skip | ((with_reducible show wpList _ _ _ _ _ _); first | ((refine bx 34 ([.slice A n cap, M]) (by rfl) rfl rfl rfl (Nat.succ_pos _) (unhide LL) ?_); intro X1 B1 hE1 L1 hb1; have hB1 := hide (Nat.le_trans (unhide LL).fr.size (Nat.le_of_eq hE1.symm)); replace LL := hide L1; clear L1 hb1 hE1; simp only [Act.put, List.setIfInBounds_toArray, List.set_cons_succ, List.set_cons_zero]) | ((refine bx 25 (v.cs) (by rfl) rfl rfl rfl (Nat.succ_pos _) (unhide LL) ?_); intro X2 B2 hE2 L2 hb2; have hB2 := hide (Nat.le_trans (unhide LL).fr.size (Nat.le_of_eq hE2.symm)); replace LL := hide L2; clear L2 hb2 hE2; simp only [Act.put, List.setIfInBounds_toArray, List.set_cons_succ, List.set_cons_zero]) | ((refine rd (by rfl) (ex_load1 3 Tryd.isAgg3 rfl rfl ((unhide LL).get 1 rfl) rfl) ?_); simp only [Act.put, List.setIfInBounds_toArray, List.set_cons_succ, List.set_cons_zero]) | ((refine rd (by rfl) (ex_load1 22 Tryd.isAgg22 rfl rfl ((unhide LL).get 0 rfl) rfl) ?_); simp only [Act.put, List.setIfInBounds_toArray, List.set_cons_succ, List.set_cons_zero]) | ((refine rd (by rfl) (ex_lenG 22 28 Tryd.underlying22 rfl rfl) ?_); simp only [Act.put, List.setIfInBounds_toArray, List.set_cons_succ, List.set_cons_zero]) | ((refine rd (by rfl) (ex_loadN (vs := v.cs) 25 5 row25 siz25 rfl rfl ((unhide LL).get 1 rfl) rfl rfl) ?_); simp only [Act.put, List.setIfInBounds_toArray, List.set_cons_succ, List.set_cons_zero])))
      go_ret
      exact ⟨rfl, (unhide LL).fr.below⟩
  · have hk2 : (v.k == 7) = false := by simp [hk]
    rw [hk2, Bool.false_and, Bool.false_and]
    go_enter Tryd.func18, Tryd.ntmps18
    go_wp2_with (first | go_skip | ((with_reducible show wpList _ _ _ _ _ _); first | ((refine bx 34 ([.slice A n cap, M]) (by rfl) rfl rfl rfl (Nat.succ_pos _) (unhide LL) ?_); intro X1 B1 hE1 L1 hb1; have hB1 := hide (Nat.le_trans (unhide LL).fr.size (Nat.le_of_eq hE1.symm)); replace LL := hide L1; clear L1 hb1 hE1; simp only [Act.put, List.setIfInBounds_toArray, List.set_cons_succ, List.set_cons_zero]) | ((refine bx 25 (v.cs) (by rfl) rfl rfl rfl (Nat.succ_pos _) (unhide LL) ?_); intro X2 B2 hE2 L2 hb2; have hB2 := hide (Nat.le_trans (unhide LL).fr.size (Nat.le_of_eq hE2.symm)); replace LL := hide L2; clear L2 hb2 hE2; simp only [Act.put, List.setIfInBounds_toArray, List.set_cons_succ, List.set_cons_zero]) | ((refine rd (by rfl) (ex_load1 3 Tryd.isAgg3 rfl rfl ((unhide LL).get 1 rfl) rfl) ?_); simp only [Act.put, List.setIfInBounds_toArray, List.set_cons_succ, List.set_cons_zero]) | ((refine rd (by rfl) (ex_load1 22 Tryd.isAgg22 rfl rfl ((unhide LL).get 0 rfl) rfl) ?_); simp only [Act.put, List.setIfInBounds_toArray, List.set_cons_succ, List.set_cons_zero]) | ((refine rd (by rfl) (ex_lenG 22 28 Tryd.underlying22 rfl rfl) ?_); simp only [Act.put, List.setIfInBounds_toArray, List.set_cons_succ, List.set_cons_zero]) | ((refine rd (by rfl) (ex_loadN (vs := v.cs) 25 5 row25 siz25 rfl rfl ((unhide LL).get 1 rfl) rfl rfl) ?_); simp only [Act.put, List.setIfInBounds_toArray, List.set_cons_succ, List.set_cons_zero])))
    go_ret
    exact ⟨rfl, (unhide LL).fr.below⟩
set_option maxRecDepth 100000 in
theorem prototype8 (A : Option Addr) (n cap : Nat) (M : Value) (v : VV) (w : World) (hT : Lib.Utf8Tabs 1 2 w) : Calls Tryd.prog 8 #[.agg #[.slice A n cap, M], v.agg] w fun e w' => e = .returned (.bool (prP v n)) ∧ Below w.heap.size w w' := by
  have LL := hide (Hq.nil w [])
  have HT := hide hT
  clear hT
  rw [vagg]
  unfold prP
  have HO := hide (fun w hT => object18 A n cap M v w hT)
  have HC := hide (fun w hT => check_any v w hT)
  rw [vagg] at HC HO
  generalize hob : obP v n = ob at *
  generalize hg : v.good = g at *
  clear hob hg
  by_cases hk : v.k = 2
  · have hk2 : (v.k == 2) = true := by simp [hk]
    rw [hk2]
    clear hk
    cases ob
    · go_enter Tryd.func8, Tryd.ntmps8
      go_wp2_with (first | go_skip | ((with_reducible show wpList _ _ _ _ _ _); first | ((refine bx 34 ([.slice A n cap, M]) (by rfl) rfl rfl rfl (Nat.succ_pos _) (unhide LL) ?_); intro X1 B1 hE1 L1 hb1; have hB1 := hide (Nat.le_trans (unhide LL).fr.size (Nat.le_of_eq hE1.symm)); replace LL := hide L1; clear L1 hb1 hE1; simp only [Act.put, List.setIfInBounds_toArray, List.set_cons_succ, List.set_cons_zero]) | ((refine bx 25 (v.cs) (by rfl) rfl rfl rfl (Nat.succ_pos _) (unhide LL) ?_); intro X2 B2 hE2 L2 hb2; have hB2 := hide (Nat.le_trans (unhide LL).fr.size (Nat.le_of_eq hE2.symm)); replace LL := hide L2; clear L2 hb2 hE2; simp only [Act.put, List.setIfInBounds_toArray, List.set_cons_succ, List.set_cons_zero]) | ((refine rd (by rfl) (ex_load1 3 Tryd.isAgg3 rfl rfl ((unhide LL).get 1 rfl) rfl) ?_); simp only [Act.put, List.setIfInBounds_toArray, List.set_cons_succ, List.set_cons_zero]) | ((refine rd (by rfl) (ex_loadN (vs := [.slice A n cap, M]) 34 2 row34 siz34 rfl rfl ((unhide LL).get 0 rfl) rfl rfl) ?_); simp only [Act.put, List.setIfInBounds_toArray, List.set_cons_succ, List.set_cons_zero]) | ((refine rd (by rfl) (ex_loadN (vs := v.cs) 25 5 row25 siz25 rfl rfl ((unhide LL).get 1 rfl) rfl rfl) ?_); simp only [Act.put, List.setIfInBounds_toArray, List.set_cons_succ, List.set_cons_zero])))
      refine (unhide HO _ (tabs_below (unhide HT) (unhide LL).fr.below)).mono ?_
      rintro e X3 ⟨rfl, hb⟩
      replace LL := hide ((unhide LL).on hb)
      clear hb
      go_wp2_with (first | go_skip | ((with_reducible show wpList _ _ _ _ _ _); first | ((refine bx 34 ([.slice A n cap, M]) (by rfl) rfl rfl rfl (Nat.succ_pos _) (unhide LL) ?_); intro X1 B1 hE1 L1 hb1; have hB1 := hide (Nat.le_trans (unhide LL).fr.size (Nat.le_of_eq hE1.symm)); replace LL := hide L1; clear L1 hb1 hE1; simp only [Act.put, List.setIfInBounds_toArray, List.set_cons_succ, List.set_cons_zero]) | ((refine bx 25 (v.cs) (by rfl) rfl rfl rfl (Nat.succ_pos _) (unhide LL) ?_); intro X2 B2 hE2 L2 hb2; have hB2 := hide (Nat.le_trans (unhide LL).fr.size (Nat.le_of_eq hE2.symm)); replace LL := hide L2; clear L2 hb2 hE2; simp only [Act.put, List.setIfInBounds_toArray, List.set_cons_succ, List.set_cons_zero]) | ((refine rd (by rfl) (ex_load1 3 Tryd.isAgg3 rfl rfl ((unhide LL).get 1 rfl) rfl) ?_); simp only [Act.put, List.setIfInBounds_toArray, List.set_cons_succ, List.set_cons_zero]) | ((refine rd (by rfl) (ex_loadN (vs := [.slice A n cap, M]) 34 2 row34 siz34 rfl rfl ((unhide LL).get 0 rfl) rfl rfl) ?_); simp only [Act.put, List.setIfInBounds_toArray, List.set_cons_succ, List.set_cons_zero]) | ((refine rd (by rfl) (ex_loadN (vs := v.cs) 25 5 row25 siz25 rfl rfl ((unhide LL).get 1 rfl) rfl rfl) ?_); simp only [Act.put, List.setIfInBounds_toArray, List.set_cons_succ, List.set_cons_zero])))
      refine (unhide HC _ (tabs_below (unhide HT) (unhide LL).fr.below)).mono ?_
      rintro e X4 ⟨rfl, hb⟩
      replace LL := hide ((unhide LL).on hb)
      clear hb
      cases g
      · go_wp2_with (first | go_skip | ((with_reducible show wpList _ _ _ _ _ _); first | ((refine bx 34 ([.slice A n cap, M]) (by rfl) rfl rfl rfl (Nat.succ_pos _) (unhide LL) ?_); intro X1 B1 hE1 L1 hb1; have hB1 := hide (Nat.le_trans (unhide LL).fr.size (Nat.le_of_eq hE1.symm)); replace LL := hide L1; clear L1 hb1 hE1; simp only [Act.put, List.setIfInBounds_toArray, List.set_cons_succ, List.set_cons_zero]) | ((refine bx 25 (v.cs) (by rfl) rfl rfl rfl (Nat.succ_pos _) (unhide LL) ?_); intro X2 B2 hE2 L2 hb2; have hB2 := hide (Nat.le_trans (unhide LL).fr.size (Nat.le_of_eq hE2.symm)); replace LL := hide L2; clear L2 hb2 hE2; simp only [Act.put, List.setIfInBounds_toArray, List.set_cons_succ, List.set_cons_zero]) | ((refine rd (by rfl) (ex_load1 3 Tryd.isAgg3 rfl rfl ((unhide LL).get 1 rfl) rfl) ?_); simp only [Act.put, List.setIfInBounds_toArray, List.set_cons_succ, List.set_cons_zero]) | ((refine rd (by rfl) (ex_loadN (vs := [.slice A n cap, M]) 34 2 row34 siz34 rfl rfl ((unhide LL).get 0 rfl) rfl rfl) ?_); simp only [Act.put, List.setIfInBounds_toArray, List.set_cons_succ, List.set_cons_zero]) | ((refine rd (by rfl) (ex_loadN (vs := v.cs) 25 5 row25 siz25 rfl rfl ((unhide LL).get 1 rfl) rfl rfl) ?_); simp only [Act.put, List.setIfInBounds_toArray, List.set_cons_succ, List.set_cons_zero])))
        go_ret
        exact ⟨rfl, (unhide LL).fr.below⟩
      · go_wp2_with (first | go_skip | ((with_reducible show wpList _ _ _ _ _ _); first | ((refine bx 34 ([.slice A n cap, M]) (by rfl) rfl rfl rfl (Nat.succ_pos _) (unhide LL) ?_); intro X1 B1 hE1 L1 hb1; have hB1 := hide (Nat.le_trans (unhide LL).fr.size (Nat.le_of_eq hE1.symm)); replace LL := hide L1; clear L1 hb1 hE1; simp only [Act.put, List.setIfInBounds_toArray, List.set_cons_succ, List.set_cons_zero]) | ((refine bx 25 (v.cs) (by rfl) rfl rfl rfl (Nat.succ_pos _) (unhide LL) ?_); intro X2 B2 hE2 L2 hb2; have hB2 := hide (Nat.le_trans (unhide LL).fr.size (Nat.le_of_eq hE2.symm)); replace LL := hide L2; clear L2 hb2 hE2; simp only [Act.put, List.setIfInBounds_toArray, List.set_cons_succ, List.set_cons_zero]) | ((refine rd (by rfl) (ex_load1 3 Tryd.isAgg3 rfl rfl ((unhide LL).get 1 rfl) rfl) ?_); simp only [Act.put, List.setIfInBounds_toArray, List.set_cons_succ, List.set_cons_zero]) | ((refine rd (by rfl) (ex_loadN (vs := [.slice A n cap, M]) 34 2 row34 siz34 rfl rfl ((unhide LL).get 0 rfl) rfl rfl) ?_); simp only [Act.put, List.setIfInBounds_toArray, List.set_cons_succ, List.set_cons_zero]) | ((refine rd (by rfl) (ex_loadN (vs := v.cs) 25 5 row25 siz25 rfl rfl ((unhide LL).get 1 rfl) rfl rfl) ?_); simp only [Act.put, List.setIfInBounds_toArray, List.set_cons_succ, List.set_cons_zero])))
        go_ret
        exact ⟨rfl, (unhide LL).fr.below⟩
    · go_enter Tryd.func8, Tryd.ntmps8
      go_wp2_with (first | go_skip | ((with_reducible show wpList _ _ _ _ _ _); first | ((refine bx 34 ([.slice A n cap, M]) (by rfl) rfl rfl rfl (Nat.succ_pos _) (unhide LL) ?_); intro X1 B1 hE1 L1 hb1; have hB1 := hide (Nat.le_trans (unhide LL).fr.size (Nat.le_of_eq hE1.symm)); replace LL := hide L1; clear L1 hb1 hE1; simp only [Act.put, List.setIfInBounds_toArray, List.set_cons_succ, List.set_cons_zero]) | ((refine bx 25 (v.cs) (by rfl) rfl rfl rfl (Nat.succ_pos _) (unhide LL) ?_); intro X2 B2 hE2 L2 hb2; have hB2 := hide (Nat.le_trans (unhide LL).fr.size (Nat.le_of_eq hE2.symm)); replace LL := hide L2; clear L2 hb2 hE2; simp only [Act.put, List.setIfInBounds_toArray, List.set_cons_succ, List.set_cons_zero]) | ((refine rd (by rfl) (ex_load1 3 Tryd.isAgg3 rfl rfl ((unhide LL).get 1 rfl) rfl) ?_); simp only [Act.put, List.setIfInBounds_toArray, List.set_cons_succ, List.set_cons_zero]) | ((refine rd (by rfl) (ex_loadN (vs := [.slice A n cap, M]) 34 2 row34 siz34 rfl rfl ((unhide LL).get 0 rfl) rfl rfl) ?_); simp only [Act.put, List.setIfInBounds_toArray, List.set_cons_succ, List.set_cons_zero]) | ((refine rd (by rfl) (ex_loadN (vs := v.cs) 25 5 row25 siz25 rfl rfl ((unhide LL).get 1 rfl) rfl rfl) ?_); simp only [Act.put, List.setIfInBounds_toArray, List.set_cons_succ, List.set_cons_zero])))
      refine (unhide HO _ (tabs_below (unhide HT) (unhide LL).fr.below)).mono ?_
      rintro e X3 ⟨rfl, hb⟩
      replace LL := hide ((unhide LL).on hb)
      clear hb
      go_wp2_with (first | go_skip | ((with_reducible show wpList _ _ _ _ _ _); first | ((refine bx 34 ([.slice A n cap, M]) (by rfl) rfl rfl rfl (Nat.succ_pos _) (unhide LL) ?_); intro X1 B1 hE1 L1 hb1; have hB1 := hide (Nat.le_trans (unhide LL).fr.size (Nat.le_of_eq hE1.symm)); replace LL := hide L1; clear L1 hb1 hE1; simp only [Act.put, List.setIfInBounds_toArray, List.set_cons_succ, List.set_cons_zero]) | ((refine bx 25 (v.cs) (by rfl) rfl rfl rfl (Nat.succ_pos _) (unhide LL) ?_); intro X2 B2 hE2 L2 hb2; have hB2 := hide (Nat.le_trans (unhide LL).fr.size (Nat.le_of_eq hE2.symm)); replace LL := hide L2; clear L2 hb2 hE2; simp only [Act.put, List.setIfInBounds_toArray, List.set_cons_succ, List.set_cons_zero]) | ((refine rd (by rfl) (ex_load1 3 Tryd.isAgg3 rfl rfl ((unhide LL).get 1 rfl) rfl) ?_); simp only [Act.put, List.setIfInBounds_toArray, List.set_cons_succ, List.set_cons_zero]) | ((refine rd (by rfl) (ex_loadN (vs := [.slice A n cap, M]) 34 2 row34 siz34 rfl rfl ((unhide LL).get 0 rfl) rfl rfl) ?_); simp only [Act.put, List.setIfInBounds_toArray, List.set_cons_succ, List.set_cons_zero]) | ((refine rd (by rfl) (ex_loadN (vs := v.cs) 25 5 row25 siz25 rfl rfl ((unhide LL).get 1 rfl) rfl rfl) ?_); simp only [Act.put, List.setIfInBounds_toArray, List.set_cons_succ, List.set_cons_zero])))
      go_ret
      exact ⟨rfl, (unhide LL).fr.below⟩
  · have hk2 : (v.k == 2) = false := by simp [hk]
    rw [hk2]
    clear hk
    cases ob
    · go_enter Tryd.func8, Tryd.ntmps8
      go_wp2_with (first | go_skip | ((with_reducible show wpList _ _ _ _ _ _); first | ((refine bx 34 ([.slice A n cap, M]) (by rfl) rfl rfl rfl (Nat.succ_pos _) (unhide LL) ?_); intro X1 B1 hE1 L1 hb1; have hB1 := hide (Nat.le_trans (unhide LL).fr.size (Nat.le_of_eq hE1.symm)); replace LL := hide L1; clear L1 hb1 hE1; simp only [Act.put, List.setIfInBounds_toArray, List.set_cons_succ, List.set_cons_zero]) | ((refine bx 25 (v.cs) (by rfl) rfl rfl rfl (Nat.succ_pos _) (unhide LL) ?_); intro X2 B2 hE2 L2 hb2; have hB2 := hide (Nat.le_trans (unhide LL).fr.size (Nat.le_of_eq hE2.symm)); replace LL := hide L2; clear L2 hb2 hE2; simp only [Act.put, List.setIfInBounds_toArray, List.set_cons_succ, List.set_cons_zero]) | ((refine rd (by rfl) (ex_load1 3 Tryd.isAgg3 rfl rfl ((unhide LL).get 1 rfl) rfl) ?_); simp only [Act.put, List.setIfInBounds_toArray, List.set_cons_succ, List.set_cons_zero]) | ((refine rd (by rfl) (ex_loadN (vs := [.slice A n cap, M]) 34 2 row34 siz34 rfl rfl ((unhide LL).get 0 rfl) rfl rfl) ?_); simp only [Act.put, List.setIfInBounds_toArray, List.set_cons_succ, List.set_cons_zero]) | ((refine rd (by rfl) (ex_loadN (vs := v.cs) 25 5 row25 siz25 rfl rfl ((unhide LL).get 1 rfl) rfl rfl) ?_); simp only [Act.put, List.setIfInBounds_toArray, List.set_cons_succ, List.set_cons_zero])))
      refine (unhide HO _ (tabs_below (unhide HT) (unhide LL).fr.below)).mono ?_
      rintro e X3 ⟨rfl, hb⟩
      replace LL := hide ((unhide LL).on hb)
      clear hb
      go_wp2_with (first | go_skip | ((with_reducible show wpList _ _ _ _ _ _); first | ((refine bx 34 ([.slice A n cap, M]) (by rfl) rfl rfl rfl (Nat.succ_pos _) (unhide LL) ?_); intro X1 B1 hE1 L1 hb1; have hB1 := hide (Nat.le_trans (unhide LL).fr.size (Nat.le_of_eq hE1.symm)); replace LL := hide L1; clear L1 hb1 hE1; simp only [Act.put, List.setIfInBounds_toArray, List.set_cons_succ, List.set_cons_zero]) | ((refine bx 25 (v.cs) (by rfl) rfl rfl rfl (Nat.succ_pos _) (unhide LL) ?_); intro X2 B2 hE2 L2 hb2; have hB2 := hide (Nat.le_trans (unhide LL).fr.size (Nat.le_of_eq hE2.symm)); replace LL := hide L2; clear L2 hb2 hE2; simp only [Act.put, List.setIfInBounds_toArray, List.set_cons_succ, List.set_cons_zero]) | ((refine rd (by rfl) (ex_load1 3 Tryd.isAgg3 rfl rfl ((unhide LL).get 1 rfl) rfl) ?_); simp only [Act.put, List.setIfInBounds_toArray, List.set_cons_succ, List.set_cons_zero]) | ((refine rd (by rfl) (ex_loadN (vs := [.slice A n cap, M]) 34 2 row34 siz34 rfl rfl ((unhide LL).get 0 rfl) rfl rfl) ?_); simp only [Act.put, List.setIfInBounds_toArray, List.set_cons_succ, List.set_cons_zero]) | ((refine rd (by rfl) (ex_loadN (vs := v.cs) 25 5 row25 siz25 rfl rfl ((unhide LL).get 1 rfl) rfl rfl) ?_); simp only [Act.put, List.setIfInBounds_toArray, List.set_cons_succ, List.set_cons_zero])))
      go_ret
      exact ⟨rfl, (unhide LL).fr.below⟩
    · go_enter Tryd.func8, Tryd.ntmps8
      go_wp2_with (first | go_skip | ((with_reducible show wpList _ _ _ _ _ _); first | ((refine bx 34 ([.slice A n cap, M]) (by rfl) rfl rfl rfl (Nat.succ_pos _) (unhide LL) ?_); intro X1 B1 hE1 L1 hb1; have hB1 := hide (Nat.le_trans (unhide LL).fr.size (Nat.le_of_eq hE1.symm)); replace LL := hide L1; clear L1 hb1 hE1; simp only [Act.put, List.setIfInBounds_toArray, List.set_cons_succ, List.set_cons_zero]) | ((refine bx 25 (v.cs) (by rfl) rfl rfl rfl (Nat.succ_pos _) (unhide LL) ?_); intro X2 B2 hE2 L2 hb2; have hB2 := hide (Nat.le_trans (unhide LL).fr.size (Nat.le_of_eq hE2.symm)); replace LL := hide L2; clear L2 hb2 hE2; simp only [Act.put, List.setIfInBounds_toArray, List.set_cons_succ, List.set_cons_zero]) | ((refine rd (by rfl) (ex_load1 3 Tryd.isAgg3 rfl rfl ((unhide LL).get 1 rfl) rfl) ?_); simp only [Act.put, List.setIfInBounds_toArray, List.set_cons_succ, List.set_cons_zero]) | ((refine rd (by rfl) (ex_loadN (vs := [.slice A n cap, M]) 34 2 row34 siz34 rfl rfl ((unhide LL).get 0 rfl) rfl rfl) ?_); simp only [Act.put, List.setIfInBounds_toArray, List.set_cons_succ, List.set_cons_zero]) | ((refine rd (by rfl) (ex_loadN (vs := v.cs) 25 5 row25 siz25 rfl rfl ((unhide LL).get 1 rfl) rfl rfl) ?_); simp only [Act.put, List.setIfInBounds_toArray, List.set_cons_succ, List.set_cons_zero])))
      refine (unhide HO _ (tabs_below (unhide HT) (unhide LL).fr.below)).mono ?_
      rintro e X3 ⟨rfl, hb⟩
      replace LL := hide ((unhide LL).on hb)
      clear hb
      go_wp2_with (first | go_skip | ((with_reducible show wpList _ _ _ _ _ _); first | ((refine bx 34 ([.slice A n cap, M]) (by rfl) rfl rfl rfl (Nat.succ_pos _) (unhide LL) ?_); intro X1 B1 hE1 L1 hb1; have hB1 := hide (Nat.le_trans (unhide LL).fr.size (Nat.le_of_eq hE1.symm)); replace LL := hide L1; clear L1 hb1 hE1; simp only [Act.put, List.setIfInBounds_toArray, List.set_cons_succ, List.set_cons_zero]) | ((refine bx 25 (v.cs) (by rfl) rfl rfl rfl (Nat.succ_pos _) (unhide LL) ?_); intro X2 B2 hE2 L2 hb2; have hB2 := hide (Nat.le_trans (unhide LL).fr.size (Nat.le_of_eq hE2.symm)); replace LL := hide L2; clear L2 hb2 hE2; simp only [Act.put, List.setIfInBounds_toArray, List.set_cons_succ, List.set_cons_zero]) | ((refine rd (by rfl) (ex_load1 3 Tryd.isAgg3 rfl rfl ((unhide LL).get 1 rfl) rfl) ?_); simp only [Act.put, List.setIfInBounds_toArray, List.set_cons_succ, List.set_cons_zero]) | ((refine rd (by rfl) (ex_loadN (vs := [.slice A n cap, M]) 34 2 row34 siz34 rfl rfl ((unhide LL).get 0 rfl) rfl rfl) ?_); simp only [Act.put, List.setIfInBounds_toArray, List.set_cons_succ, List.set_cons_zero]) | ((refine rd (by rfl) (ex_loadN (vs := v.cs) 25 5 row25 siz25 rfl rfl ((unhide LL).get 1 rfl) rfl rfl) ?_); simp only [Act.put, List.setIfInBounds_toArray, List.set_cons_succ, List.set_cons_zero])))
      go_ret
      exact ⟨rfl, (unhide LL).fr.below⟩
end Go.Proofs.YtmpdhmdmfmgamaaDoor

/-! Og -/
namespace Go.Proofs.YtmpdhmdmfmgamaaDoor
open Go Go.Proofs Go.Maps Go.RowKit FM
set_option linter.unusedSimpArgs false
set_option linter.unusedVariables false
set_option maxHeartbeats 1000000
/-- How many were not met. -/
def zer : List Nat → Nat
  | [] => 0
  | m :: r => (if m = 0 then 1 else 0) + zer r
theorem zer_set : ∀ (l : List Nat) (a m : Nat), l[a]? = some 0 → 0 < m → zer (l.set a m) + 1 = zer l
  | [], a, m, h, _ => by simp at h
  | x :: l, 0, m, h, hm => by
    simp at h
    subst h
    have : ¬ m = 0 := by omega
    simp [zer, this]
    omega
  | x :: l, a + 1, m, h, hm => by
    have := zer_set l a m (by simpa using h) hm
    simp only [List.set_cons_succ, zer]
    omega
def mc (l : List Nat) : List Value := l.map fun m => .int .i64 (m : Nat)
theorem mc_get {l : List Nat} {a m : Nat} (h : l[a]? = some m) : (mc l)[0 + a * 1]? = some (.int .i64 (m : Nat)) := by
  rw [Nat.zero_add, Nat.mul_one]
  simp [mc, h]
theorem mc_length (l : List Nat) : (mc l).length = l.length := by simp [mc]
theorem mc_set {l : List Nat} {a i : Nat} (h : a < l.length) : cput (mc l) (0 + a * 1) [.int .i64 ((i : Int) + 1)] = mc (l.set a (i + 1)) := by
  rw [Nat.zero_add, Nat.mul_one]
  unfold cput mc
  rw [List.map_set]
  have e : Value.int .i64 (((i + 1 : Nat)) : Int) = .int .i64 ((i : Int) + 1) := by simp
  rw [e, List.set_eq_take_append_cons_drop, if_pos (by simpa using h)]
  simp
def GoodM (l : List SH) (met : List Nat) (i : Nat) : Prop := ∀ j m, met[j]? = some m → m ≠ 0 → 1 ≤ m ∧ m ≤ i ∧ tL l j = true
/-- In the midst of a walk from i on. -/
structure RInv (l : List SH) (i : Nat) (met : List Nat) (a : Nat) (on : Bool) : Prop where
  len : met.length = l.length
  hi : i < l.length
  all : ∀ j m, met[j]? = some m → m ≠ 0 → (m = i + 1 ∧ (∃ k, runN (nxR l) k i = some j) ∧ (on = true → ∃ q, 1 ≤ q ∧ runN (nxR l) q j = some a)) ∨ (1 ≤ m ∧ m ≤ i ∧ tL l j = true)
  yes : on = true → a < l.length ∧ ∃ k, runN (nxR l) k i = some a
  no : on = false → tL l i = true
theorem RInv.start {l : List SH} {i : Nat} {met : List Nat} (h : GoodM l met i) (hl : met.length = l.length) (hi : i < l.length) : RInv l i met i true :=
  ⟨hl, hi, fun j m hj hm => .inr (h j m hj hm), fun _ => ⟨hi, 0, rfl⟩, fun h => by cases h⟩
theorem RInv.step {l : List SH} {i : Nat} {met : List Nat} {a z : Nat} (h : RInv l i met a true) (hz : nxR l a = some z) : RInv l i (met.set a (i + 1)) z true := by
  obtain ⟨ha, k, hk⟩ := h.yes rfl
  have hz1 : runN (nxR l) 1 a = some z := by
    rw [runN, hz]
    rfl
  refine ⟨by simp [h.len], h.hi, fun j m hj hm => ?_, fun _ => ⟨nx_lt a z ha hz, k + 1, run_snoc hk hz⟩, fun h => by cases h⟩
  rw [List.getElem?_set] at hj
  split at hj
  · rename_i e
    subst e
    split at hj
    · have e2 : i + 1 = m := Option.some.inj hj
      exact .inl ⟨e2.symm, ⟨k, hk⟩, fun _ => ⟨1, Nat.le_refl _, hz1⟩⟩
    · cases hj
  · rcases h.all j m hj hm with ⟨h1, h2, h3⟩ | h1
    · obtain ⟨q, hq, hq2⟩ := h3 rfl
      exact .inl ⟨h1, h2, fun _ => ⟨q + 1, by omega, run_snoc hq2 hz⟩⟩
    · exact .inr h1
theorem RInv.stop {l : List SH} {i : Nat} {met : List Nat} {a z : Nat} (h : RInv l i met a true) (hz : nxR l a = none) : RInv l i (met.set a (i + 1)) z false := by
  obtain ⟨ha, k, hk⟩ := h.yes rfl
  have ht : tL l i = true := (tB_run nx_lt h.hi hk).trans (tB_none hz)
  refine ⟨by simp [h.len], h.hi, fun j m hj hm => ?_, (fun h => by cases h), fun _ => ht⟩
  rw [List.getElem?_set] at hj
  split at hj
  · rename_i e
    subst e
    split at hj
    · have e2 : i + 1 = m := Option.some.inj hj
      exact .inl ⟨e2.symm, ⟨k, hk⟩, (fun h => by cases h)⟩
    · cases hj
  · rcases h.all j m hj hm with ⟨h1, h2, h3⟩ | h1
    · exact .inl ⟨h1, h2, (fun h => by cases h)⟩
    · exact .inr h1
theorem RInv.good {l : List SH} {i : Nat} {met : List Nat} {a : Nat} {on : Bool} (h : RInv l i met a on) (ht : tL l i = true) : GoodM l met (i + 1) := by
  intro j m hj hm
  rcases h.all j m hj hm with ⟨h1, ⟨k, hk⟩, _⟩ | ⟨h1, h2, h3⟩
  · exact ⟨by omega, by omega, (tB_run nx_lt h.hi hk).symm.trans ht⟩
  · exact ⟨h1, by omega, h3⟩
theorem RInv.last {l : List SH} {i : Nat} {met : List Nat} {a m : Nat} (h : RInv l i met a true) (hm : met[a]? = some m) (h0 : m ≠ 0) : decide (m = i + 1) = !tL l i := by
  obtain ⟨ha, k, hk⟩ := h.yes rfl
  have ht : tL l i = tL l a := tB_run nx_lt h.hi hk
  rcases h.all a m hm h0 with ⟨h1, _, h3⟩ | ⟨h1, h2, h3⟩
  · obtain ⟨q, hq, hq2⟩ := h3 rfl
    have : tL l a = false := tB_round nx_lt ha hq hq2
    rw [ht, this, decide_eq_true h1]
    rfl
  · rw [ht, h3, decide_eq_false (by omega)]
    rfl
def zeroS : SH := ⟨0, zeroV, false, []⟩
def nxT : Option Nat → Value
  | none => .tuple #[.int .i64 0, .bool false]
  | some j => .tuple #[.int .i64 (j : Nat), .bool true]
set_option maxRecDepth 100000 in
theorem next20 (A : Option Addr) (cap : Nat) (M : Value) (l : List SH) (a : Nat) (w : World) (hR : ReadsS w A l) (hn : l.length ≤ 65536) (ha : a < l.length) (hT : Lib.Utf8Tabs 1 2 w) : Calls Tryd.prog 20 #[.agg #[.slice A l.length cap, M], .int .i64 (a : Nat)] w fun e w' => e = .returned (nxT (nxR l a)) ∧ Below w.heap.size w w' := by
  obtain ⟨s, hs⟩ : ∃ s, l[a]? = some s := ⟨_, List.getElem?_eq_getElem ha⟩
  obtain ⟨_, _, b, off, SA, sc, hA, hb, _, hrg⟩ := hR a s hs
  have HA2 : Hid (∀ X, Fr w X [] → X.rangeAt b (off + a * 8) (s.cs SA sc)) := hide (fun X hX => rangeAt_fr hrg hb hX)
  have HLT := hide ha
  have LL := hide (Hq.nil w [])
  have HT := hide hT
  have HO := hide (fun w hT => object18 A l.length cap M s.p w hT)
  rw [vagg] at HO
  have hnx : nxR l a = if s.c == 9 || !obP s.p l.length then none else some (s.p.i - 1).toNat := by
    unfold nxR
    rw [hs, ob_same _ _ hn]
  rw [hnx]
  have hid : obP s.p l.length = true → 1 ≤ s.p.i ∧ s.p.i ≤ (l.length : Int) := fun h => ob_id (by rw [← ob_same _ _ hn]; exact h)
  subst hA
  clear hT hR hb hrg ha hs hnx
  by_cases hc : s.c = 9
  · have hc2 : (s.c == 9) = true := by simp [hc]
    rw [hc2, Bool.true_or, if_pos rfl]
    clear hc hid
    unfold nxT
    go_enter Tryd.func20, Tryd.ntmps20
    go_wp2_with (first | go_skip | ((with_reducible show wpList _ _ _ _ _ _); first | ((refine bx 34 ([.slice (some ⟨b, off, none⟩) l.length cap, M]) (by rfl) rfl rfl rfl (Nat.succ_pos _) (unhide LL) ?_); intro X1 B1 hE1 L1 hb1; have hB1 := hide (Nat.le_trans (unhide LL).fr.size (Nat.le_of_eq hE1.symm)); replace LL := hide L1; clear L1 hb1 hE1; simp only [Act.put, List.setIfInBounds_toArray, List.set_cons_succ, List.set_cons_zero]) | ((refine rd (by rfl) (ex_load1 22 Tryd.isAgg22 rfl rfl ((unhide LL).get 0 rfl) rfl) ?_); simp only [Act.put, List.setIfInBounds_toArray, List.set_cons_succ, List.set_cons_zero]) | ((refine rd (by rfl) (ex_indexG 22 8 a und22 idx22 rfl rfl rfl (unhide HLT)) ?_); simp only [Act.put, List.setIfInBounds_toArray, List.set_cons_succ, List.set_cons_zero]) | ((refine rd (by rfl) (ex_loadR (vs := s.cs SA sc) 28 8 row28 siz28 rfl rfl (unhide HA2 _ (unhide LL).fr) rfl) ?_); simp only [Act.put, List.setIfInBounds_toArray, List.set_cons_succ, List.set_cons_zero]) | ((refine alG 28 (zeroS.cs none 0) (by rfl) rfl (fun w => by kernel_rfl) (Nat.succ_pos _) (unhide LL) ?_); intro X3 B3 hE3 L3 hb3; have hB3 := hide (Nat.le_trans (unhide LL).fr.size (Nat.le_of_eq hE3.symm)); replace LL := hide L3; clear L3 hb3 hE3; simp only [Act.put, List.setIfInBounds_toArray, List.set_cons_succ, List.set_cons_zero]) | ((refine st (vs := s.cs SA sc) 1 28 (by rfl) rfl rfl rfl rfl (shcs_one s SA sc) (siz28) (unhide LL) rfl (by simp [cput, PR.cs, SH.cs, VV.cs, KK.cs, DD.cs]) (Or.inr (unhide hB3)) ?_); intro X4 L4 hf4 hs4; replace LL := hide L4; clear L4 hf4 hs4; simp only [Act.put, List.setIfInBounds_toArray, List.set_cons_succ, List.set_cons_zero]) | ((refine rd (by rfl) (ex_load1 3 Tryd.isAgg3 rfl rfl ((unhide LL).get 1 rfl) rfl) ?_); simp only [Act.put, List.setIfInBounds_toArray, List.set_cons_succ, List.set_cons_zero]) | ((refine rd (by rfl) (ex_loadN (vs := [.slice (some ⟨b, off, none⟩) l.length cap, M]) 34 2 row34 siz34 rfl rfl ((unhide LL).get 0 rfl) rfl rfl) ?_); simp only [Act.put, List.setIfInBounds_toArray, List.set_cons_succ, List.set_cons_zero]) | ((refine rd (by rfl) (ex_loadN (vs := s.p.cs) 25 5 row25 siz25 rfl rfl ((unhide LL).get 1 rfl) rfl rfl) ?_); simp only [Act.put, List.setIfInBounds_toArray, List.set_cons_succ, List.set_cons_zero])))
    simp [bodyPost, results, Tryd.results20, go_sem]
    exact (unhide LL).fr.below
  · have hc2 : (s.c == 9) = false := by simp [hc]
    rw [hc2, Bool.false_or]
    clear hc
    generalize obP s.p l.length = ob at *
    cases ob
    · rw [Bool.not_false, if_pos rfl]
      clear hid
      unfold nxT
      go_enter Tryd.func20, Tryd.ntmps20
      go_wp2_with (first | go_skip | ((with_reducible show wpList _ _ _ _ _ _); first | ((refine bx 34 ([.slice (some ⟨b, off, none⟩) l.length cap, M]) (by rfl) rfl rfl rfl (Nat.succ_pos _) (unhide LL) ?_); intro X1 B1 hE1 L1 hb1; have hB1 := hide (Nat.le_trans (unhide LL).fr.size (Nat.le_of_eq hE1.symm)); replace LL := hide L1; clear L1 hb1 hE1; simp only [Act.put, List.setIfInBounds_toArray, List.set_cons_succ, List.set_cons_zero]) | ((refine rd (by rfl) (ex_load1 22 Tryd.isAgg22 rfl rfl ((unhide LL).get 0 rfl) rfl) ?_); simp only [Act.put, List.setIfInBounds_toArray, List.set_cons_succ, List.set_cons_zero]) | ((refine rd (by rfl) (ex_indexG 22 8 a und22 idx22 rfl rfl rfl (unhide HLT)) ?_); simp only [Act.put, List.setIfInBounds_toArray, List.set_cons_succ, List.set_cons_zero]) | ((refine rd (by rfl) (ex_loadR (vs := s.cs SA sc) 28 8 row28 siz28 rfl rfl (unhide HA2 _ (unhide LL).fr) rfl) ?_); simp only [Act.put, List.setIfInBounds_toArray, List.set_cons_succ, List.set_cons_zero]) | ((refine alG 28 (zeroS.cs none 0) (by rfl) rfl (fun w => by kernel_rfl) (Nat.succ_pos _) (unhide LL) ?_); intro X3 B3 hE3 L3 hb3; have hB3 := hide (Nat.le_trans (unhide LL).fr.size (Nat.le_of_eq hE3.symm)); replace LL := hide L3; clear L3 hb3 hE3; simp only [Act.put, List.setIfInBounds_toArray, List.set_cons_succ, List.set_cons_zero]) | ((refine st (vs := s.cs SA sc) 1 28 (by rfl) rfl rfl rfl rfl (shcs_one s SA sc) (siz28) (unhide LL) rfl (by simp [cput, PR.cs, SH.cs, VV.cs, KK.cs, DD.cs]) (Or.inr (unhide hB3)) ?_); intro X4 L4 hf4 hs4; replace LL := hide L4; clear L4 hf4 hs4; simp only [Act.put, List.setIfInBounds_toArray, List.set_cons_succ, List.set_cons_zero]) | ((refine rd (by rfl) (ex_load1 3 Tryd.isAgg3 rfl rfl ((unhide LL).get 1 rfl) rfl) ?_); simp only [Act.put, List.setIfInBounds_toArray, List.set_cons_succ, List.set_cons_zero]) | ((refine rd (by rfl) (ex_loadN (vs := [.slice (some ⟨b, off, none⟩) l.length cap, M]) 34 2 row34 siz34 rfl rfl ((unhide LL).get 0 rfl) rfl rfl) ?_); simp only [Act.put, List.setIfInBounds_toArray, List.set_cons_succ, List.set_cons_zero]) | ((refine rd (by rfl) (ex_loadN (vs := s.p.cs) 25 5 row25 siz25 rfl rfl ((unhide LL).get 1 rfl) rfl rfl) ?_); simp only [Act.put, List.setIfInBounds_toArray, List.set_cons_succ, List.set_cons_zero])))
      refine (unhide HO _ (tabs_below (unhide HT) (unhide LL).fr.below)).mono ?_
      rintro e X5 ⟨rfl, hb⟩
      replace LL := hide ((unhide LL).on hb)
      clear hb
      go_wp2_with (first | go_skip | ((with_reducible show wpList _ _ _ _ _ _); first | ((refine bx 34 ([.slice (some ⟨b, off, none⟩) l.length cap, M]) (by rfl) rfl rfl rfl (Nat.succ_pos _) (unhide LL) ?_); intro X1 B1 hE1 L1 hb1; have hB1 := hide (Nat.le_trans (unhide LL).fr.size (Nat.le_of_eq hE1.symm)); replace LL := hide L1; clear L1 hb1 hE1; simp only [Act.put, List.setIfInBounds_toArray, List.set_cons_succ, List.set_cons_zero]) | ((refine rd (by rfl) (ex_load1 22 Tryd.isAgg22 rfl rfl ((unhide LL).get 0 rfl) rfl) ?_); simp only [Act.put, List.setIfInBounds_toArray, List.set_cons_succ, List.set_cons_zero]) | ((refine rd (by rfl) (ex_indexG 22 8 a und22 idx22 rfl rfl rfl (unhide HLT)) ?_); simp only [Act.put, List.setIfInBounds_toArray, List.set_cons_succ, List.set_cons_zero]) | ((refine rd (by rfl) (ex_loadR (vs := s.cs SA sc) 28 8 row28 siz28 rfl rfl (unhide HA2 _ (unhide LL).fr) rfl) ?_); simp only [Act.put, List.setIfInBounds_toArray, List.set_cons_succ, List.set_cons_zero]) | ((refine alG 28 (zeroS.cs none 0) (by rfl) rfl (fun w => by kernel_rfl) (Nat.succ_pos _) (unhide LL) ?_); intro X3 B3 hE3 L3 hb3; have hB3 := hide (Nat.le_trans (unhide LL).fr.size (Nat.le_of_eq hE3.symm)); replace LL := hide L3; clear L3 hb3 hE3; simp only [Act.put, List.setIfInBounds_toArray, List.set_cons_succ, List.set_cons_zero]) | ((refine st (vs := s.cs SA sc) 1 28 (by rfl) rfl rfl rfl rfl (shcs_one s SA sc) (siz28) (unhide LL) rfl (by simp [cput, PR.cs, SH.cs, VV.cs, KK.cs, DD.cs]) (Or.inr (unhide hB3)) ?_); intro X4 L4 hf4 hs4; replace LL := hide L4; clear L4 hf4 hs4; simp only [Act.put, List.setIfInBounds_toArray, List.set_cons_succ, List.set_cons_zero]) | ((refine rd (by rfl) (ex_load1 3 Tryd.isAgg3 rfl rfl ((unhide LL).get 1 rfl) rfl) ?_); simp only [Act.put, List.setIfInBounds_toArray, List.set_cons_succ, List.set_cons_zero]) | ((refine rd (by rfl) (ex_loadN (vs := [.slice (some ⟨b, off, none⟩) l.length cap, M]) 34 2 row34 siz34 rfl rfl ((unhide LL).get 0 rfl) rfl rfl) ?_); simp only [Act.put, List.setIfInBounds_toArray, List.set_cons_succ, List.set_cons_zero]) | ((refine rd (by rfl) (ex_loadN (vs := s.p.cs) 25 5 row25 siz25 rfl rfl ((unhide LL).get 1 rfl) rfl rfl) ?_); simp only [Act.put, List.setIfInBounds_toArray, List.set_cons_succ, List.set_cons_zero])))
      simp [bodyPost, results, Tryd.results20, go_sem]
      exact (unhide LL).fr.below
    · rw [Bool.not_true, if_neg (by decide)]
      obtain ⟨h1, h2⟩ := hid rfl
      obtain ⟨j, hj⟩ : ∃ j : Nat, s.p.i - 1 = (j : Int) := ⟨(s.p.i - 1).toNat, by omega⟩
      have ej : (s.p.i - 1).toNat = j := by omega
      rw [ej]
      have hwr : IntKind.i64.wrap (s.p.i - 1) = (j : Int) := by rw [hj, IntKind.wrap_i64]; omega
      clear hid h1 h2 ej hj
      unfold nxT
      go_enter Tryd.func20, Tryd.ntmps20
      go_wp2_with (first | go_skip | ((with_reducible show wpList _ _ _ _ _ _); first | ((refine bx 34 ([.slice (some ⟨b, off, none⟩) l.length cap, M]) (by rfl) rfl rfl rfl (Nat.succ_pos _) (unhide LL) ?_); intro X1 B1 hE1 L1 hb1; have hB1 := hide (Nat.le_trans (unhide LL).fr.size (Nat.le_of_eq hE1.symm)); replace LL := hide L1; clear L1 hb1 hE1; simp only [Act.put, List.setIfInBounds_toArray, List.set_cons_succ, List.set_cons_zero]) | ((refine rd (by rfl) (ex_load1 22 Tryd.isAgg22 rfl rfl ((unhide LL).get 0 rfl) rfl) ?_); simp only [Act.put, List.setIfInBounds_toArray, List.set_cons_succ, List.set_cons_zero]) | ((refine rd (by rfl) (ex_indexG 22 8 a und22 idx22 rfl rfl rfl (unhide HLT)) ?_); simp only [Act.put, List.setIfInBounds_toArray, List.set_cons_succ, List.set_cons_zero]) | ((refine rd (by rfl) (ex_loadR (vs := s.cs SA sc) 28 8 row28 siz28 rfl rfl (unhide HA2 _ (unhide LL).fr) rfl) ?_); simp only [Act.put, List.setIfInBounds_toArray, List.set_cons_succ, List.set_cons_zero]) | ((refine alG 28 (zeroS.cs none 0) (by rfl) rfl (fun w => by kernel_rfl) (Nat.succ_pos _) (unhide LL) ?_); intro X3 B3 hE3 L3 hb3; have hB3 := hide (Nat.le_trans (unhide LL).fr.size (Nat.le_of_eq hE3.symm)); replace LL := hide L3; clear L3 hb3 hE3; simp only [Act.put, List.setIfInBounds_toArray, List.set_cons_succ, List.set_cons_zero]) | ((refine st (vs := s.cs SA sc) 1 28 (by rfl) rfl rfl rfl rfl (shcs_one s SA sc) (siz28) (unhide LL) rfl (by simp [cput, PR.cs, SH.cs, VV.cs, KK.cs, DD.cs]) (Or.inr (unhide hB3)) ?_); intro X4 L4 hf4 hs4; replace LL := hide L4; clear L4 hf4 hs4; simp only [Act.put, List.setIfInBounds_toArray, List.set_cons_succ, List.set_cons_zero]) | ((refine rd (by rfl) (ex_load1 3 Tryd.isAgg3 rfl rfl ((unhide LL).get 1 rfl) rfl) ?_); simp only [Act.put, List.setIfInBounds_toArray, List.set_cons_succ, List.set_cons_zero]) | ((refine rd (by rfl) (ex_loadN (vs := [.slice (some ⟨b, off, none⟩) l.length cap, M]) 34 2 row34 siz34 rfl rfl ((unhide LL).get 0 rfl) rfl rfl) ?_); simp only [Act.put, List.setIfInBounds_toArray, List.set_cons_succ, List.set_cons_zero]) | ((refine rd (by rfl) (ex_loadN (vs := s.p.cs) 25 5 row25 siz25 rfl rfl ((unhide LL).get 1 rfl) rfl rfl) ?_); simp only [Act.put, List.setIfInBounds_toArray, List.set_cons_succ, List.set_cons_zero])))
      refine (unhide HO _ (tabs_below (unhide HT) (unhide LL).fr.below)).mono ?_
      rintro e X5 ⟨rfl, hb⟩
      replace LL := hide ((unhide LL).on hb)
      clear hb
      go_wp2_with (first | go_skip | ((with_reducible show wpList _ _ _ _ _ _); first | ((refine bx 34 ([.slice (some ⟨b, off, none⟩) l.length cap, M]) (by rfl) rfl rfl rfl (Nat.succ_pos _) (unhide LL) ?_); intro X1 B1 hE1 L1 hb1; have hB1 := hide (Nat.le_trans (unhide LL).fr.size (Nat.le_of_eq hE1.symm)); replace LL := hide L1; clear L1 hb1 hE1; simp only [Act.put, List.setIfInBounds_toArray, List.set_cons_succ, List.set_cons_zero]) | ((refine rd (by rfl) (ex_load1 22 Tryd.isAgg22 rfl rfl ((unhide LL).get 0 rfl) rfl) ?_); simp only [Act.put, List.setIfInBounds_toArray, List.set_cons_succ, List.set_cons_zero]) | ((refine rd (by rfl) (ex_indexG 22 8 a und22 idx22 rfl rfl rfl (unhide HLT)) ?_); simp only [Act.put, List.setIfInBounds_toArray, List.set_cons_succ, List.set_cons_zero]) | ((refine rd (by rfl) (ex_loadR (vs := s.cs SA sc) 28 8 row28 siz28 rfl rfl (unhide HA2 _ (unhide LL).fr) rfl) ?_); simp only [Act.put, List.setIfInBounds_toArray, List.set_cons_succ, List.set_cons_zero]) | ((refine alG 28 (zeroS.cs none 0) (by rfl) rfl (fun w => by kernel_rfl) (Nat.succ_pos _) (unhide LL) ?_); intro X3 B3 hE3 L3 hb3; have hB3 := hide (Nat.le_trans (unhide LL).fr.size (Nat.le_of_eq hE3.symm)); replace LL := hide L3; clear L3 hb3 hE3; simp only [Act.put, List.setIfInBounds_toArray, List.set_cons_succ, List.set_cons_zero]) | ((refine st (vs := s.cs SA sc) 1 28 (by rfl) rfl rfl rfl rfl (shcs_one s SA sc) (siz28) (unhide LL) rfl (by simp [cput, PR.cs, SH.cs, VV.cs, KK.cs, DD.cs]) (Or.inr (unhide hB3)) ?_); intro X4 L4 hf4 hs4; replace LL := hide L4; clear L4 hf4 hs4; simp only [Act.put, List.setIfInBounds_toArray, List.set_cons_succ, List.set_cons_zero]) | ((refine rd (by rfl) (ex_load1 3 Tryd.isAgg3 rfl rfl ((unhide LL).get 1 rfl) rfl) ?_); simp only [Act.put, List.setIfInBounds_toArray, List.set_cons_succ, List.set_cons_zero]) | ((refine rd (by rfl) (ex_loadN (vs := [.slice (some ⟨b, off, none⟩) l.length cap, M]) 34 2 row34 siz34 rfl rfl ((unhide LL).get 0 rfl) rfl rfl) ?_); simp only [Act.put, List.setIfInBounds_toArray, List.set_cons_succ, List.set_cons_zero]) | ((refine rd (by rfl) (ex_loadN (vs := s.p.cs) 25 5 row25 siz25 rfl rfl ((unhide LL).get 1 rfl) rfl rfl) ?_); simp only [Act.put, List.setIfInBounds_toArray, List.set_cons_succ, List.set_cons_zero])))
      simp [bodyPost, results, Tryd.results20, go_sem]
      exact (unhide LL).fr.below
end Go.Proofs.YtmpdhmdmfmgamaaDoor

/-! Oh -/
namespace Go.Proofs.YtmpdhmdmfmgamaaDoor
open Go Go.Proofs Go.Maps Go.RowKit FM
set_option linter.unusedSimpArgs false
set_option linter.unusedVariables false
set_option maxHeartbeats 1000000
/-- What a walk leaves. -/
def RPost (w : World) (g : Nat) (l : List SH) (i : Nat) (e : Ending) (w' : World) : Prop := ∃ met : List Nat, e = .returned (.bool (!tL l i)) ∧ Fr w w' [g] ∧ Holds w' g (mc met) ∧ met.length = l.length ∧ (tL l i = true → GoodM l met (i + 1))
set_option maxHeartbeats 2000000 in
set_option maxRecDepth 100000 in
theorem round9 (A : Option Addr) (cap c g : Nat) (l : List SH) (met : List Nat) (i : Nat) (w0 w : World) (hR : ReadsS w0 A l) (h0 : Fr w0 w []) (hg : w0.heap.size ≤ g) (hn : l.length ≤ 65536) (hi : i < l.length) (hM : Holds w g (mc met)) (hml : met.length = l.length) (hG : GoodM l met i) (hT : Lib.Utf8Tabs 1 2 w0) : Calls Tryd.prog 9 #[.agg #[.slice A l.length cap, .slice (some ⟨g, 0, none⟩) l.length c], .int .i64 (i : Nat)] w (RPost w g l i) := by
  have H0 := hide h0
  have HG := hide hg
  have HR := hide hR
  have HT := hide hT
  have HN := hide hn
  have HS := hide (RInv.start hG hml hi)
  have LL : Hid (Hq w w [g] [(g, mc met)]) := hide ((Hq.nil w [g]).add hM (by rw [mc_length]; omega) (by simp))
  have hw1 : IntKind.i64.wrap ((i : Int) + 1) = (i : Int) + 1 := by rw [IntKind.wrap_i64]; omega
  clear h0 hg hR hT hn hG hi hM hml
  go_enter Tryd.func9, Tryd.ntmps9
  go_wp2_with (first | go_skip | ((with_reducible show wpList _ _ _ _ _ _); first | ((refine bx 34 ([.slice A l.length cap, .slice (some ⟨g, 0, none⟩) l.length c]) (by rfl) rfl rfl rfl (Nat.succ_pos _) (unhide LL) ?_); intro X1 B1 hE1 L1 hb1; have hB1 := hide (Nat.le_trans (unhide LL).fr.size (Nat.le_of_eq hE1.symm)); replace LL := hide L1; clear L1 hb1 hE1; simp only [Act.put, List.setIfInBounds_toArray, List.set_cons_succ, List.set_cons_zero]) | ((refine rd (by rfl) (ex_load1 32 Tryd.isAgg32 rfl rfl ((unhide LL).get 1 rfl) rfl) ?_); simp only [Act.put, List.setIfInBounds_toArray, List.set_cons_succ, List.set_cons_zero]) | ((refine rd (by rfl) (ex_indexG 32 1 a und32 idx32 rfl rfl rfl (unhide HLT)) ?_); simp only [Act.put, List.setIfInBounds_toArray, List.set_cons_succ, List.set_cons_zero]) | ((refine rd (by rfl) (ex_load1 3 Tryd.isAgg3 rfl rfl ((unhide LL).get 0 rfl) (unhide HME)) ?_); simp only [Act.put, List.setIfInBounds_toArray, List.set_cons_succ, List.set_cons_zero]) | ((refine rd (by rfl) (ex_loadN (vs := [.slice A l.length cap, .slice (some ⟨g, 0, none⟩) l.length c]) 34 2 row34 siz34 rfl rfl ((unhide LL).get 1 rfl) rfl rfl) ?_); simp only [Act.put, List.setIfInBounds_toArray, List.set_cons_succ, List.set_cons_zero])))
  go_loopg [5, 6] (zer met) (fun gm s5 s6 wr => ∃ (a : Nat) (met1 : List Nat), s5 = .int .i64 (a : Nat) ∧ zer met1 ≤ gm ∧ Hid (Hq w wr [g] [(g, mc met1), (B1, [.slice A l.length cap, .slice (some ⟨g, 0, none⟩) l.length c])]) ∧ ((s6 = .bool true ∧ Hid (RInv l i met1 a true)) ∨ (s6 = .bool false ∧ Hid (RInv l i met1 a false))))
  case atStart => exact ⟨i, met, rfl, Nat.le_refl _, LL, .inl ⟨rfl, HS⟩⟩
  case round =>
    clear LL HS
    obtain ⟨a, met1, rfl, hgm, LL, ⟨rfl, HI⟩ | ⟨rfl, HI⟩⟩ := hrel
    · have ha := ((unhide HI).yes rfl).1
      have HLT := hide ha
      obtain ⟨m, hm⟩ : ∃ m, met1[a]? = some m := ⟨_, List.getElem?_eq_getElem (by rw [(unhide HI).len]; exact ha)⟩
      have HME := hide (mc_get hm)
      by_cases h0 : m = 0
      · subst h0
        have HPUT : Hid (0 + a * 1 + [Value.int .i64 ((i : Int) + 1)].length ≤ (mc met1).length) := hide (by rw [mc_length, (unhide HI).len]; simp; omega)
        have HSET := hide (mc_set (l := met1) (i := i) (by rw [(unhide HI).len]; exact ha))
        have HZ := hide (zer_set met1 a (i + 1) hm (by omega))
        clear hm ha
        go_wp2_with (first | go_skip | ((with_reducible show wpList _ _ _ _ _ _); first | ((refine st (vs := [.int .i64 ((i : Int) + 1)]) 0 3 (by rfl) rfl rfl rfl rfl (by simp [Value.oneCell']) siz3 (unhide LL) rfl (unhide HPUT) (Or.inl (by simp)) ?_); intro X4 L4 hf4 hs4; replace LL := hide L4; clear L4 hf4 hs4; simp only [Act.put, List.setIfInBounds_toArray, List.set_cons_succ, List.set_cons_zero]) | ((refine bx 34 ([.slice A l.length cap, .slice (some ⟨g, 0, none⟩) l.length c]) (by rfl) rfl rfl rfl (Nat.succ_pos _) (unhide LL) ?_); intro X1 B1 hE1 L1 hb1; have hB1 := hide (Nat.le_trans (unhide LL).fr.size (Nat.le_of_eq hE1.symm)); replace LL := hide L1; clear L1 hb1 hE1; simp only [Act.put, List.setIfInBounds_toArray, List.set_cons_succ, List.set_cons_zero]) | ((refine rd (by rfl) (ex_load1 32 Tryd.isAgg32 rfl rfl ((unhide LL).get 1 rfl) rfl) ?_); simp only [Act.put, List.setIfInBounds_toArray, List.set_cons_succ, List.set_cons_zero]) | ((refine rd (by rfl) (ex_indexG 32 1 a und32 idx32 rfl rfl rfl (unhide HLT)) ?_); simp only [Act.put, List.setIfInBounds_toArray, List.set_cons_succ, List.set_cons_zero]) | ((refine rd (by rfl) (ex_load1 3 Tryd.isAgg3 rfl rfl ((unhide LL).get 0 rfl) (unhide HME)) ?_); simp only [Act.put, List.setIfInBounds_toArray, List.set_cons_succ, List.set_cons_zero]) | ((refine rd (by rfl) (ex_loadN (vs := [.slice A l.length cap, .slice (some ⟨g, 0, none⟩) l.length c]) 34 2 row34 siz34 rfl rfl ((unhide LL).get 1 rfl) rfl rfl) ?_); simp only [Act.put, List.setIfInBounds_toArray, List.set_cons_succ, List.set_cons_zero])))
        replace LL : Hid (Hq w X4 [g] [(g, mc (met1.set a (i + 1))), (B1, [.slice A l.length cap, .slice (some ⟨g, 0, none⟩) l.length c])]) := hide (by have h := unhide LL; rw [← unhide HSET]; exact h)
        have HF : Hid (Fr w0 X4 []) := hide ((unhide H0).trans (unhide LL).fr (fun b hb => .inr (by obtain rfl : b = g := (by simpa using hb); exact unhide HG)))
        refine (next20 A cap _ l a X4 ((unhide HR).fr (unhide HF)) (unhide HN) (unhide HLT) (tabs_below (unhide HT) (unhide HF).below)).mono ?_
        rintro e X5 ⟨rfl, hb⟩
        replace LL := hide ((unhide LL).on hb)
        clear hb HF HME HPUT
        cases hz : nxR l a with
        | none =>
          have HI2 := hide ((unhide HI).stop (z := 0) hz)
          clear hz
          unfold nxT
          go_wp2
          go_roundg (zer (met1.set a (i + 1)))
          case measure => have := unhide HZ; omega
          case rel => exact ⟨0, met1.set a (i + 1), rfl, Nat.le_refl _, LL, .inr ⟨rfl, HI2⟩⟩
        | some z =>
          have HI2 := hide ((unhide HI).step hz)
          clear hz
          unfold nxT
          go_wp2
          go_roundg (zer (met1.set a (i + 1)))
          case measure => have := unhide HZ; omega
          case rel => exact ⟨z, met1.set a (i + 1), rfl, Nat.le_refl _, LL, .inl ⟨rfl, HI2⟩⟩
      · have hm0 : ((m : Int) == 0) = false := by simp; omega
        have HL := hide ((unhide HI).last hm h0)
        clear hm ha h0
        by_cases he : m = i + 1
        · have he2 : ((m : Int) == (i : Int) + 1) = true := by simp; omega
          have he3 : (m : Int) = (i : Int) + 1 := by omega
          have HTL : Hid ((!tL l i) = true) := hide (by rw [← unhide HL]; exact decide_eq_true he)
          clear he HL
          go_wp2_with (first | go_skip | ((with_reducible show wpList _ _ _ _ _ _); first | ((refine bx 34 ([.slice A l.length cap, .slice (some ⟨g, 0, none⟩) l.length c]) (by rfl) rfl rfl rfl (Nat.succ_pos _) (unhide LL) ?_); intro X1 B1 hE1 L1 hb1; have hB1 := hide (Nat.le_trans (unhide LL).fr.size (Nat.le_of_eq hE1.symm)); replace LL := hide L1; clear L1 hb1 hE1; simp only [Act.put, List.setIfInBounds_toArray, List.set_cons_succ, List.set_cons_zero]) | ((refine rd (by rfl) (ex_load1 32 Tryd.isAgg32 rfl rfl ((unhide LL).get 1 rfl) rfl) ?_); simp only [Act.put, List.setIfInBounds_toArray, List.set_cons_succ, List.set_cons_zero]) | ((refine rd (by rfl) (ex_indexG 32 1 a und32 idx32 rfl rfl rfl (unhide HLT)) ?_); simp only [Act.put, List.setIfInBounds_toArray, List.set_cons_succ, List.set_cons_zero]) | ((refine rd (by rfl) (ex_load1 3 Tryd.isAgg3 rfl rfl ((unhide LL).get 0 rfl) (unhide HME)) ?_); simp only [Act.put, List.setIfInBounds_toArray, List.set_cons_succ, List.set_cons_zero]) | ((refine rd (by rfl) (ex_loadN (vs := [.slice A l.length cap, .slice (some ⟨g, 0, none⟩) l.length c]) 34 2 row34 siz34 rfl rfl ((unhide LL).get 1 rfl) rfl rfl) ?_); simp only [Act.put, List.setIfInBounds_toArray, List.set_cons_succ, List.set_cons_zero])))
          go_ret
          exact ⟨met1, (by rw [unhide HTL]; rfl), (unhide LL).fr, (unhide LL).get 0 rfl, (unhide HI).len, fun ht => (unhide HI).good ht⟩
        · have he2 : ((m : Int) == (i : Int) + 1) = false := by simp; omega
          have he3 : ¬ (m : Int) = (i : Int) + 1 := by omega
          have HTL : Hid ((!tL l i) = false) := hide (by rw [← unhide HL]; exact decide_eq_false he)
          clear he HL
          go_wp2_with (first | go_skip | ((with_reducible show wpList _ _ _ _ _ _); first | ((refine bx 34 ([.slice A l.length cap, .slice (some ⟨g, 0, none⟩) l.length c]) (by rfl) rfl rfl rfl (Nat.succ_pos _) (unhide LL) ?_); intro X1 B1 hE1 L1 hb1; have hB1 := hide (Nat.le_trans (unhide LL).fr.size (Nat.le_of_eq hE1.symm)); replace LL := hide L1; clear L1 hb1 hE1; simp only [Act.put, List.setIfInBounds_toArray, List.set_cons_succ, List.set_cons_zero]) | ((refine rd (by rfl) (ex_load1 32 Tryd.isAgg32 rfl rfl ((unhide LL).get 1 rfl) rfl) ?_); simp only [Act.put, List.setIfInBounds_toArray, List.set_cons_succ, List.set_cons_zero]) | ((refine rd (by rfl) (ex_indexG 32 1 a und32 idx32 rfl rfl rfl (unhide HLT)) ?_); simp only [Act.put, List.setIfInBounds_toArray, List.set_cons_succ, List.set_cons_zero]) | ((refine rd (by rfl) (ex_load1 3 Tryd.isAgg3 rfl rfl ((unhide LL).get 0 rfl) (unhide HME)) ?_); simp only [Act.put, List.setIfInBounds_toArray, List.set_cons_succ, List.set_cons_zero]) | ((refine rd (by rfl) (ex_loadN (vs := [.slice A l.length cap, .slice (some ⟨g, 0, none⟩) l.length c]) 34 2 row34 siz34 rfl rfl ((unhide LL).get 1 rfl) rfl rfl) ?_); simp only [Act.put, List.setIfInBounds_toArray, List.set_cons_succ, List.set_cons_zero])))
          go_ret
          exact ⟨met1, (by rw [unhide HTL]; rfl), (unhide LL).fr, (unhide LL).get 0 rfl, (unhide HI).len, fun ht => (unhide HI).good ht⟩
    · have HTL : Hid ((!tL l i) = false) := hide (by rw [(unhide HI).no rfl]; rfl)
      go_wp2
      go_ret
      exact ⟨met1, (by rw [unhide HTL]; rfl), (unhide LL).fr, (unhide LL).get 0 rfl, (unhide HI).len, fun ht => (unhide HI).good ht⟩
end Go.Proofs.YtmpdhmdmfmgamaaDoor

/-! Oi -/
namespace Go.Proofs.YtmpdhmdmfmgamaaDoor
open Go Go.Proofs Go.Maps Go.RowKit FM
set_option linter.unusedSimpArgs false
set_option linter.unusedVariables false
set_option maxHeartbeats 1000000
theorem Hq.left {w X : World} {E : List Nat} {L M : List (Nat × List Value)} (h : Hq w X E (L ++ M)) : Hq w X E L := ⟨h.fr, fun q hq => h.all q (List.mem_append_left _ hq), by
  have := h.nd
  rw [List.map_append] at this
  exact (List.nodup_append.1 this).1⟩
/-- A slice whose elements are these values. -/
def ReadsV (w : World) (A : Option Addr) (l : List VV) : Prop := ∀ j v, l[j]? = some v → ∃ b off, A = some ⟨b, off, none⟩ ∧ b < w.heap.size ∧ w.rangeAt b (off + j * 5) v.cs
def allV (f : VV → Bool) (l : List VV) : Bool := l.all f
theorem allV_false {f : VV → Bool} {l : List VV} {i : Nat} {v : VV} (hv : l[i]? = some v) (hf : f v = false) : l.all f = false := by
  rw [List.all_eq_false]
  exact ⟨v, List.mem_of_getElem? hv, by simp [hf]⟩
theorem allV_true {f : VV → Bool} {l : List VV} (h : ∀ j v, j < l.length → l[j]? = some v → f v = true) : l.all f = true := by
  rw [List.all_eq_true]
  intro v hv
  obtain ⟨j, hj⟩ := List.getElem?_of_mem hv
  exact h j v (List.getElem?_eq_some_iff.1 hj).1 hj
set_option maxHeartbeats 2000000 in
set_option maxRecDepth 100000 in
theorem known23 (A : Option Addr) (n cap : Nat) (M : Value) (B : Option Addr) (vcap : Nat) (vs : List VV) (w : World) (hR : ReadsV w B vs) (hz : vs.length ≤ 100) (hT : Lib.Utf8Tabs 1 2 w) : Calls Tryd.prog 23 #[.agg #[.slice A n cap, M], .slice B vs.length vcap] w fun e w' => e = .returned (.bool (vs.all (fun v => okV v n))) ∧ Below w.heap.size w w' := by
  have LL := hide (Hq.nil w [])
  have HT := hide hT
  have HR := hide hR
  have HZ := hide hz
  clear hT hR hz
  go_enter Tryd.func23, Tryd.ntmps23
  go_wp2_with (first | go_skip | ((with_reducible show wpList _ _ _ _ _ _); first | ((refine bx 34 ([.slice A n cap, M]) (by rfl) rfl rfl rfl (Nat.succ_pos _) (unhide LL) ?_); intro X1 B1 hE1 L1 hb1; have hB1 := hide (Nat.le_trans (unhide LL).fr.size (Nat.le_of_eq hE1.symm)); replace LL := hide L1; clear L1 hb1 hE1; simp only [Act.put, List.setIfInBounds_toArray, List.set_cons_succ, List.set_cons_zero]) | ((refine rd (by rfl) (ex_lenG 70 25 Tryd.underlying70 rfl rfl) ?_); simp only [Act.put, List.setIfInBounds_toArray, List.set_cons_succ, List.set_cons_zero]) | ((refine rd (by rfl) (ex_indexG 70 5 i und70 idx70 rfl rfl rfl (unhide HLT)) ?_); simp only [Act.put, List.setIfInBounds_toArray, List.set_cons_succ, List.set_cons_zero]) | ((refine rd (by rfl) (ex_loadR (vs := v.cs) 25 5 row25 siz25 rfl rfl (unhide HA2 _ (unhide LL).fr) rfl) ?_); simp only [Act.put, List.setIfInBounds_toArray, List.set_cons_succ, List.set_cons_zero]) | ((refine alG 25 (zeroV.cs) (by rfl) rfl (fun w => by kernel_rfl) (Nat.succ_pos _) (unhide LL) ?_); intro X3 B3 hE3 L3 hb3; have hB3 := hide (Nat.le_trans (unhide LL).fr.size (Nat.le_of_eq hE3.symm)); replace LL := hide L3; clear L3 hb3 hE3; simp only [Act.put, List.setIfInBounds_toArray, List.set_cons_succ, List.set_cons_zero]) | ((refine st (vs := v.cs) 1 25 (by rfl) rfl rfl rfl rfl (vcs_one v) (siz25) (unhide LL) rfl (by simp [cput, PR.cs, SH.cs, VV.cs, KK.cs, DD.cs]) (Or.inr (unhide hB3)) ?_); intro X4 L4 hf4 hs4; replace LL := hide L4; clear L4 hf4 hs4; simp only [Act.put, List.setIfInBounds_toArray, List.set_cons_succ, List.set_cons_zero]) | ((refine rd (by rfl) (ex_load1 3 Tryd.isAgg3 rfl rfl ((unhide LL).get 1 rfl) rfl) ?_); simp only [Act.put, List.setIfInBounds_toArray, List.set_cons_succ, List.set_cons_zero]) | ((refine rd (by rfl) (ex_loadN (vs := [.slice A n cap, M]) 34 2 row34 siz34 rfl rfl ((unhide LL).get 0 rfl) rfl rfl) ?_); simp only [Act.put, List.setIfInBounds_toArray, List.set_cons_succ, List.set_cons_zero]) | ((refine rd (by rfl) (ex_loadN (vs := v.cs) 25 5 row25 siz25 rfl rfl ((unhide LL).get 1 rfl) rfl rfl) ?_); simp only [Act.put, List.setIfInBounds_toArray, List.set_cons_succ, List.set_cons_zero])))
  go_loopg [9] vs.length (fun gm s9 wr => ∃ i : Nat, s9 = .int .i64 (i : Nat) ∧ i ≤ vs.length ∧ vs.length - i ≤ gm ∧ Hid (∀ j v, j < i → vs[j]? = some v → okV v n = true) ∧ Hid (Hq w wr [] [(B1, [.slice A n cap, M])]))
  case atStart => exact ⟨0, rfl, by omega, by omega, hide (fun j v hj => by omega), LL⟩
  case round =>
    clear LL
    obtain ⟨i, rfl, hil, hgm, HD, LL⟩ := hrel
    by_cases hlt : i < vs.length
    · have dlt : decide ((i : Int) < (vs.length : Int)) = true := decide_eq_true (by omega)
      have hw1 : IntKind.i64.wrap ((i : Int) + 1) = (i : Int) + 1 := by have := unhide HZ; rw [IntKind.wrap_i64]; omega
      obtain ⟨v, hv⟩ : ∃ v, vs[i]? = some v := ⟨_, List.getElem?_eq_getElem hlt⟩
      obtain ⟨b, off, hA, hb, hrg⟩ := (unhide HR) i v hv
      subst hA
      have HA2 : Hid (∀ X, Fr w X [] → X.rangeAt b (off + i * 5) v.cs) := hide (fun X hX => rangeAt_fr hrg hb hX)
      have HLT := hide hlt
      clear hb hrg hlt hil
      have HO := hide (fun w hT => object18 A n cap M v w hT)
      rw [vagg] at HO
      have hokv : okV v n = (!(v.k == 7) || obP v n) := rfl
      by_cases hk : v.k = 7
      · have hk2 : (v.k == 7) = true := by simp [hk]
        rw [hk2] at hokv
        clear hk
        generalize obP v n = ob at *
        cases ob
        · have HFA : Hid (vs.all (fun v => okV v n) = false) := hide (allV_false hv hokv)
          clear hv hokv
          go_wp2_with (first | go_skip | ((with_reducible show wpList _ _ _ _ _ _); first | ((refine bx 34 ([.slice A n cap, M]) (by rfl) rfl rfl rfl (Nat.succ_pos _) (unhide LL) ?_); intro X1 B1 hE1 L1 hb1; have hB1 := hide (Nat.le_trans (unhide LL).fr.size (Nat.le_of_eq hE1.symm)); replace LL := hide L1; clear L1 hb1 hE1; simp only [Act.put, List.setIfInBounds_toArray, List.set_cons_succ, List.set_cons_zero]) | ((refine rd (by rfl) (ex_lenG 70 25 Tryd.underlying70 rfl rfl) ?_); simp only [Act.put, List.setIfInBounds_toArray, List.set_cons_succ, List.set_cons_zero]) | ((refine rd (by rfl) (ex_indexG 70 5 i und70 idx70 rfl rfl rfl (unhide HLT)) ?_); simp only [Act.put, List.setIfInBounds_toArray, List.set_cons_succ, List.set_cons_zero]) | ((refine rd (by rfl) (ex_loadR (vs := v.cs) 25 5 row25 siz25 rfl rfl (unhide HA2 _ (unhide LL).fr) rfl) ?_); simp only [Act.put, List.setIfInBounds_toArray, List.set_cons_succ, List.set_cons_zero]) | ((refine alG 25 (zeroV.cs) (by rfl) rfl (fun w => by kernel_rfl) (Nat.succ_pos _) (unhide LL) ?_); intro X3 B3 hE3 L3 hb3; have hB3 := hide (Nat.le_trans (unhide LL).fr.size (Nat.le_of_eq hE3.symm)); replace LL := hide L3; clear L3 hb3 hE3; simp only [Act.put, List.setIfInBounds_toArray, List.set_cons_succ, List.set_cons_zero]) | ((refine st (vs := v.cs) 1 25 (by rfl) rfl rfl rfl rfl (vcs_one v) (siz25) (unhide LL) rfl (by simp [cput, PR.cs, SH.cs, VV.cs, KK.cs, DD.cs]) (Or.inr (unhide hB3)) ?_); intro X4 L4 hf4 hs4; replace LL := hide L4; clear L4 hf4 hs4; simp only [Act.put, List.setIfInBounds_toArray, List.set_cons_succ, List.set_cons_zero]) | ((refine rd (by rfl) (ex_load1 3 Tryd.isAgg3 rfl rfl ((unhide LL).get 1 rfl) rfl) ?_); simp only [Act.put, List.setIfInBounds_toArray, List.set_cons_succ, List.set_cons_zero]) | ((refine rd (by rfl) (ex_loadN (vs := [.slice A n cap, M]) 34 2 row34 siz34 rfl rfl ((unhide LL).get 0 rfl) rfl rfl) ?_); simp only [Act.put, List.setIfInBounds_toArray, List.set_cons_succ, List.set_cons_zero]) | ((refine rd (by rfl) (ex_loadN (vs := v.cs) 25 5 row25 siz25 rfl rfl ((unhide LL).get 1 rfl) rfl rfl) ?_); simp only [Act.put, List.setIfInBounds_toArray, List.set_cons_succ, List.set_cons_zero])))
          refine (unhide HO _ (tabs_below (unhide HT) (unhide LL).fr.below)).mono ?_
          rintro e X5 ⟨rfl, hb⟩
          replace LL := hide ((unhide LL).on hb)
          clear hb
          go_wp2
          go_ret
          exact ⟨by rw [unhide HFA]; rfl, (unhide LL).fr.below⟩
        · have HD2 : Hid (∀ j u, j < i + 1 → vs[j]? = some u → okV u n = true) := hide (fun j u hj hu => by
            rcases Nat.lt_or_ge j i with h | h
            · exact unhide HD j u h hu
            · obtain rfl : j = i := by omega
              obtain rfl : v = u := Option.some.inj (hv.symm.trans hu)
              exact hokv)
          clear hv hokv HD
          go_wp2_with (first | go_skip | ((with_reducible show wpList _ _ _ _ _ _); first | ((refine bx 34 ([.slice A n cap, M]) (by rfl) rfl rfl rfl (Nat.succ_pos _) (unhide LL) ?_); intro X1 B1 hE1 L1 hb1; have hB1 := hide (Nat.le_trans (unhide LL).fr.size (Nat.le_of_eq hE1.symm)); replace LL := hide L1; clear L1 hb1 hE1; simp only [Act.put, List.setIfInBounds_toArray, List.set_cons_succ, List.set_cons_zero]) | ((refine rd (by rfl) (ex_lenG 70 25 Tryd.underlying70 rfl rfl) ?_); simp only [Act.put, List.setIfInBounds_toArray, List.set_cons_succ, List.set_cons_zero]) | ((refine rd (by rfl) (ex_indexG 70 5 i und70 idx70 rfl rfl rfl (unhide HLT)) ?_); simp only [Act.put, List.setIfInBounds_toArray, List.set_cons_succ, List.set_cons_zero]) | ((refine rd (by rfl) (ex_loadR (vs := v.cs) 25 5 row25 siz25 rfl rfl (unhide HA2 _ (unhide LL).fr) rfl) ?_); simp only [Act.put, List.setIfInBounds_toArray, List.set_cons_succ, List.set_cons_zero]) | ((refine alG 25 (zeroV.cs) (by rfl) rfl (fun w => by kernel_rfl) (Nat.succ_pos _) (unhide LL) ?_); intro X3 B3 hE3 L3 hb3; have hB3 := hide (Nat.le_trans (unhide LL).fr.size (Nat.le_of_eq hE3.symm)); replace LL := hide L3; clear L3 hb3 hE3; simp only [Act.put, List.setIfInBounds_toArray, List.set_cons_succ, List.set_cons_zero]) | ((refine st (vs := v.cs) 1 25 (by rfl) rfl rfl rfl rfl (vcs_one v) (siz25) (unhide LL) rfl (by simp [cput, PR.cs, SH.cs, VV.cs, KK.cs, DD.cs]) (Or.inr (unhide hB3)) ?_); intro X4 L4 hf4 hs4; replace LL := hide L4; clear L4 hf4 hs4; simp only [Act.put, List.setIfInBounds_toArray, List.set_cons_succ, List.set_cons_zero]) | ((refine rd (by rfl) (ex_load1 3 Tryd.isAgg3 rfl rfl ((unhide LL).get 1 rfl) rfl) ?_); simp only [Act.put, List.setIfInBounds_toArray, List.set_cons_succ, List.set_cons_zero]) | ((refine rd (by rfl) (ex_loadN (vs := [.slice A n cap, M]) 34 2 row34 siz34 rfl rfl ((unhide LL).get 0 rfl) rfl rfl) ?_); simp only [Act.put, List.setIfInBounds_toArray, List.set_cons_succ, List.set_cons_zero]) | ((refine rd (by rfl) (ex_loadN (vs := v.cs) 25 5 row25 siz25 rfl rfl ((unhide LL).get 1 rfl) rfl rfl) ?_); simp only [Act.put, List.setIfInBounds_toArray, List.set_cons_succ, List.set_cons_zero])))
          refine (unhide HO _ (tabs_below (unhide HT) (unhide LL).fr.below)).mono ?_
          rintro e X5 ⟨rfl, hb⟩
          replace LL := hide ((unhide LL).on hb)
          clear hb
          go_wp2_with fail
          replace LL := hide (Hq.left (L := [(B1, [.slice A n cap, M])]) (M := [_]) (unhide LL))
          go_wp2
          go_roundg (vs.length - (i + 1))
          case measure => have := unhide HLT; omega
          case rel => exact ⟨i + 1, by go_num, by have := unhide HLT; omega, by omega, HD2, LL⟩
      · have hk2 : (v.k == 7) = false := by simp [hk]
        rw [hk2] at hokv
        clear hk
        have HD2 : Hid (∀ j u, j < i + 1 → vs[j]? = some u → okV u n = true) := hide (fun j u hj hu => by
          rcases Nat.lt_or_ge j i with h | h
          · exact unhide HD j u h hu
          · obtain rfl : j = i := by omega
            obtain rfl : v = u := Option.some.inj (hv.symm.trans hu)
            exact hokv)
        clear hv hokv HD
        go_wp2_with (first | go_skip | ((with_reducible show wpList _ _ _ _ _ _); first | ((refine bx 34 ([.slice A n cap, M]) (by rfl) rfl rfl rfl (Nat.succ_pos _) (unhide LL) ?_); intro X1 B1 hE1 L1 hb1; have hB1 := hide (Nat.le_trans (unhide LL).fr.size (Nat.le_of_eq hE1.symm)); replace LL := hide L1; clear L1 hb1 hE1; simp only [Act.put, List.setIfInBounds_toArray, List.set_cons_succ, List.set_cons_zero]) | ((refine rd (by rfl) (ex_lenG 70 25 Tryd.underlying70 rfl rfl) ?_); simp only [Act.put, List.setIfInBounds_toArray, List.set_cons_succ, List.set_cons_zero]) | ((refine rd (by rfl) (ex_indexG 70 5 i und70 idx70 rfl rfl rfl (unhide HLT)) ?_); simp only [Act.put, List.setIfInBounds_toArray, List.set_cons_succ, List.set_cons_zero]) | ((refine rd (by rfl) (ex_loadR (vs := v.cs) 25 5 row25 siz25 rfl rfl (unhide HA2 _ (unhide LL).fr) rfl) ?_); simp only [Act.put, List.setIfInBounds_toArray, List.set_cons_succ, List.set_cons_zero]) | ((refine alG 25 (zeroV.cs) (by rfl) rfl (fun w => by kernel_rfl) (Nat.succ_pos _) (unhide LL) ?_); intro X3 B3 hE3 L3 hb3; have hB3 := hide (Nat.le_trans (unhide LL).fr.size (Nat.le_of_eq hE3.symm)); replace LL := hide L3; clear L3 hb3 hE3; simp only [Act.put, List.setIfInBounds_toArray, List.set_cons_succ, List.set_cons_zero]) | ((refine st (vs := v.cs) 1 25 (by rfl) rfl rfl rfl rfl (vcs_one v) (siz25) (unhide LL) rfl (by simp [cput, PR.cs, SH.cs, VV.cs, KK.cs, DD.cs]) (Or.inr (unhide hB3)) ?_); intro X4 L4 hf4 hs4; replace LL := hide L4; clear L4 hf4 hs4; simp only [Act.put, List.setIfInBounds_toArray, List.set_cons_succ, List.set_cons_zero]) | ((refine rd (by rfl) (ex_load1 3 Tryd.isAgg3 rfl rfl ((unhide LL).get 1 rfl) rfl) ?_); simp only [Act.put, List.setIfInBounds_toArray, List.set_cons_succ, List.set_cons_zero]) | ((refine rd (by rfl) (ex_loadN (vs := [.slice A n cap, M]) 34 2 row34 siz34 rfl rfl ((unhide LL).get 0 rfl) rfl rfl) ?_); simp only [Act.put, List.setIfInBounds_toArray, List.set_cons_succ, List.set_cons_zero]) | ((refine rd (by rfl) (ex_loadN (vs := v.cs) 25 5 row25 siz25 rfl rfl ((unhide LL).get 1 rfl) rfl rfl) ?_); simp only [Act.put, List.setIfInBounds_toArray, List.set_cons_succ, List.set_cons_zero])))
        replace LL := hide (Hq.left (L := [(B1, [.slice A n cap, M])]) (M := [_]) (unhide LL))
        go_wp2
        go_roundg (vs.length - (i + 1))
        case measure => have := unhide HLT; omega
        case rel => exact ⟨i + 1, by go_num, by have := unhide HLT; omega, by omega, HD2, LL⟩
    · obtain rfl : i = vs.length := by omega
      have HTA : Hid (vs.all (fun v => okV v n) = true) := hide (allV_true (fun j v hj hv => unhide HD j v hj hv))
      clear hlt hil HD
      go_wp2_with (first | go_skip | ((with_reducible show wpList _ _ _ _ _ _); first | ((refine rd (by rfl) (ex_lenG 70 25 Tryd.underlying70 rfl rfl) ?_); simp only [Act.put, List.setIfInBounds_toArray, List.set_cons_succ, List.set_cons_zero])))
      go_ret
      exact ⟨by rw [unhide HTA]; rfl, (unhide LL).fr.below⟩
end Go.Proofs.YtmpdhmdmfmgamaaDoor

/-! Oj -/
namespace Go.Proofs.YtmpdhmdmfmgamaaDoor
open Go Go.Proofs Go.Maps Go.RowKit FM
set_option linter.unusedSimpArgs false
set_option linter.unusedVariables false
set_option maxHeartbeats 1000000
def zeroP : PR := ⟨⟨⟨#[]⟩, 0⟩, zeroD⟩
theorem fill3 (u v q : VV) : Instr.fill (fun i => some (i * 5, 5)) ((Array.range (3 * 5)).map (zeroV.agg.cells[· % zeroV.agg.cells.size]!)) [(0, u.agg), (1, v.agg), (2, q.agg)] = some (u.cs ++ v.cs ++ q.cs).toArray := by kernel_rfl
theorem inf25 : (Tryd.prog.info? 25).map (fun i => (i.zero, i.size, i.bytes)) = some (some zeroV.agg, 5, 48) := by kernel_rfl
/-- A slice of three values. -/
theorem build3 {ops : Array Oper} {rest : List Oper} {Q : Exit → Act → World → Prop} {w w0 : World} {a : Act} {o : Oper} {x y z : Operand} {E : List Nat} {L : List (Nat × List Value)} (u v q : VV) (hw : Region.wanted o (yielded ops a.tmps) = true) (ho : o.op = .buildSlice 70 3 #[(0, x), (1, y), (2, z)]) (hx : a.eval x = u.agg) (hy : a.eval y = v.agg) (hz : a.eval z = q.agg) (hL : Hq w0 w E L)
    (h : ∀ X B, B = w.heap.size → Hq w0 X E (L ++ [(B, u.cs ++ v.cs ++ q.cs)]) → Below w.heap.size w X → wpList Tryd.prog ops Q rest (a.put o.dst (.slice (some ⟨B, 0, none⟩) 3 3)) X) : wpList Tryd.prog ops Q (o :: rest) a w := by
  refine BigFrame.wpList_want hw fun K hK => ?_
  obtain ⟨i0, hi, hz0, hz1, hz2⟩ := info_parts inf25
  refine wp_buildSlice 70 25 3 _ ho (u.cs ++ v.cs ++ q.cs).toArray i0 _ Tryd.underlying70 hi hz0 (by rw [hz1]; omega) (by rw [hz1]; omega) ?_ (hK _ _ (h _ _ rfl (hL.new _ 25 (by simp [VV.cs])) ((Below.refl _ _).alloc (Nat.le_refl _) _)))
  rw [hz1]
  simp only [List.map_toArray, List.map_cons, List.map_nil, hx, hy, hz]
  exact fill3 u v q
theorem reads3 {w : World} {B : Nat} {u v q : VV} (h : Holds w B (u.cs ++ v.cs ++ q.cs)) : ReadsV w (some ⟨B, 0, none⟩) [u, v, q] := by
  have hl : B < w.heap.size := h.lt (by simp [VV.cs])
  intro j x hx
  refine ⟨B, 0, rfl, hl, ?_⟩
  match j, hx with
  | 0, hx => obtain rfl : u = x := by simpa using hx
             exact h.mid 0 5
  | 1, hx => obtain rfl : v = x := by simpa using hx
             exact h.mid 5 5
  | 2, hx => obtain rfl : q = x := by simpa using hx
             exact h.mid 10 5
  | _ + 3, hx => simp at hx
theorem allT_step {f : PR → Bool} {l : List PR} {i : Nat} {p : PR} (h : allT f l i = true) (hp : l[i]? = some p) (hf : f p = true) : allT f l (i + 1) = true := by
  unfold allT
  rw [h, hp]
  simp [hf]
set_option maxHeartbeats 2000000 in
set_option maxRecDepth 100000 in
theorem whole11 (A : Option Addr) (n cap : Nat) (M : Value) (B : Option Addr) (pcap : Nat) (ps : List PR) (w : World) (hR : ReadsP w B ps) (hz : ps.length ≤ 733007751850) (hT : Lib.Utf8Tabs 1 2 w) : Calls Tryd.prog 11 #[.agg #[.slice A n cap, M], .slice B ps.length pcap] w fun e w' => e = .returned (.bool (whV n ps)) ∧ Below w.heap.size w w' := by
  have LL := hide (Hq.nil w [])
  have HT := hide hT
  have HR := hide hR
  have HZ := hide hz
  unfold whV
  clear hT hR hz
  go_enter Tryd.func11, Tryd.ntmps11
  go_wp2_with (first | go_skip | ((with_reducible show wpList _ _ _ _ _ _); first | ((refine bx 34 ([.slice A n cap, M]) (by rfl) rfl rfl rfl (Nat.succ_pos _) (unhide LL) ?_); intro X1 B1 hE1 L1 hb1; have hB1 := hide (Nat.le_trans (unhide LL).fr.size (Nat.le_of_eq hE1.symm)); replace LL := hide L1; clear L1 hb1 hE1; simp only [Act.put, List.setIfInBounds_toArray, List.set_cons_succ, List.set_cons_zero]) | ((refine rd (by rfl) (ex_lenG 26 46 Tryd.underlying26 rfl rfl) ?_); simp only [Act.put, List.setIfInBounds_toArray, List.set_cons_succ, List.set_cons_zero]) | ((refine rd (by rfl) (ex_indexG 26 20 i und26 idx26 rfl rfl rfl (unhide HLT)) ?_); simp only [Act.put, List.setIfInBounds_toArray, List.set_cons_succ, List.set_cons_zero]) | ((refine rd (by rfl) (ex_loadR (vs := p.cs) 46 20 row46 siz46 rfl rfl (unhide HA2 _ (unhide LL).fr) rfl) ?_); simp only [Act.put, List.setIfInBounds_toArray, List.set_cons_succ, List.set_cons_zero]) | ((refine alG 46 (zeroP.cs) (by rfl) rfl (fun w => by kernel_rfl) (Nat.succ_pos _) (unhide LL) ?_); intro X3 B3 hE3 L3 hb3; have hB3 := hide (Nat.le_trans (unhide LL).fr.size (Nat.le_of_eq hE3.symm)); replace LL := hide L3; clear L3 hb3 hE3; simp only [Act.put, List.setIfInBounds_toArray, List.set_cons_succ, List.set_cons_zero]) | ((refine st (vs := p.cs) 1 46 (by rfl) rfl rfl rfl rfl (pcs_one p) (siz46) (unhide LL) rfl (by simp [cput, PR.cs, SH.cs, VV.cs, KK.cs, DD.cs]) (Or.inr (unhide hB3)) ?_); intro X4 L4 hf4 hs4; replace LL := hide L4; clear L4 hf4 hs4; simp only [Act.put, List.setIfInBounds_toArray, List.set_cons_succ, List.set_cons_zero]) | ((refine rd (by rfl) (ex_loadN (vs := [.slice A n cap, M]) 34 2 row34 siz34 rfl rfl ((unhide LL).get 0 rfl) rfl rfl) ?_); simp only [Act.put, List.setIfInBounds_toArray, List.set_cons_succ, List.set_cons_zero]) | ((refine rd (by rfl) (ex_loadN (vs := p.d.cs) 44 18 row44 siz44 rfl rfl ((unhide LL).get 1 rfl) rfl rfl) ?_); simp only [Act.put, List.setIfInBounds_toArray, List.set_cons_succ, List.set_cons_zero]) | ((refine rd (by rfl) (ex_loadN (vs := p.d.v.cs) 25 5 row25 siz25 rfl rfl ((unhide LL).get 1 rfl) rfl rfl) ?_); simp only [Act.put, List.setIfInBounds_toArray, List.set_cons_succ, List.set_cons_zero]) | ((refine rd (by rfl) (ex_loadN (vs := p.d.g.cs) 25 5 row25 siz25 rfl rfl ((unhide LL).get 1 rfl) rfl rfl) ?_); simp only [Act.put, List.setIfInBounds_toArray, List.set_cons_succ, List.set_cons_zero]) | ((refine rd (by rfl) (ex_loadN (vs := p.d.s.cs) 25 5 row25 siz25 rfl rfl ((unhide LL).get 1 rfl) rfl rfl) ?_); simp only [Act.put, List.setIfInBounds_toArray, List.set_cons_succ, List.set_cons_zero]) | ((refine build3 p.d.v p.d.g p.d.s (by rfl) rfl rfl rfl rfl (unhide LL) ?_); intro X6 B6 hE6 L6 hb6; replace LL := hide L6; clear L6 hb6 hE6; simp only [Act.put, List.setIfInBounds_toArray, List.set_cons_succ, List.set_cons_zero])))
  go_loopg [9] ps.length (fun gm s9 wr => ∃ i : Nat, s9 = .int .i64 (i : Nat) ∧ i ≤ ps.length ∧ ps.length - i ≤ gm ∧ Hid (allT (okW n) ps i = true) ∧ Hid (Hq w wr [] [(B1, [.slice A n cap, M])]))
  case atStart => exact ⟨0, rfl, by omega, by omega, hide rfl, LL⟩
  case round =>
    clear LL
    obtain ⟨i, rfl, hil, hgm, HD, LL⟩ := hrel
    by_cases hlt : i < ps.length
    · have dlt : decide ((i : Int) < (ps.length : Int)) = true := decide_eq_true (by omega)
      have hw1 : IntKind.i64.wrap ((i : Int) + 1) = (i : Int) + 1 := by have := unhide HZ; rw [IntKind.wrap_i64]; omega
      obtain ⟨p, hp⟩ : ∃ p, ps[i]? = some p := ⟨_, List.getElem?_eq_getElem hlt⟩
      obtain ⟨hok, b, off, hA, hb, hrg⟩ := (unhide HR) i p hp
      subst hA
      have HA2 : Hid (∀ X, Fr w X [] → X.rangeAt b (off + i * 20) p.cs) := hide (fun X hX => rangeAt_fr hrg hb hX)
      have HLT := hide hlt
      clear hb hrg hlt hil
      have HW := hide (fun w hT => whole_any p.d hok.1 w hT)
      rw [dagg] at HW
      have HK : Hid (∀ w B, ReadsV w (some ⟨B, 0, none⟩) [p.d.v, p.d.g, p.d.s] → Lib.Utf8Tabs 1 2 w → Calls Tryd.prog 23 #[.agg #[.slice A n cap, M], .slice (some ⟨B, 0, none⟩) 3 3] w fun e w' => e = .returned (.bool (okV p.d.v n && okV p.d.g n && okV p.d.s n)) ∧ Below w.heap.size w w') := hide (fun w B hr hT => by
        have h := known23 A n cap M (some ⟨B, 0, none⟩) 3 [p.d.v, p.d.g, p.d.s] w hr (by simp) hT
        simpa [Bool.and_assoc] using h)
      have hokw : okW n p = (wholeV p.d && (okV p.d.v n && okV p.d.g n && okV p.d.s n)) := rfl
      generalize (okV p.d.v n && okV p.d.g n && okV p.d.s n) = kn at *
      generalize wholeV p.d = wh at *
      clear hok
      cases wh
      · rw [Bool.false_and] at hokw
        have HFA : Hid (allT (okW n) ps ps.length = false) := hide (allT_false hp hokw)
        clear hp hokw
        go_wp2_with (first | go_skip | ((with_reducible show wpList _ _ _ _ _ _); first | ((refine bx 34 ([.slice A n cap, M]) (by rfl) rfl rfl rfl (Nat.succ_pos _) (unhide LL) ?_); intro X1 B1 hE1 L1 hb1; have hB1 := hide (Nat.le_trans (unhide LL).fr.size (Nat.le_of_eq hE1.symm)); replace LL := hide L1; clear L1 hb1 hE1; simp only [Act.put, List.setIfInBounds_toArray, List.set_cons_succ, List.set_cons_zero]) | ((refine rd (by rfl) (ex_lenG 26 46 Tryd.underlying26 rfl rfl) ?_); simp only [Act.put, List.setIfInBounds_toArray, List.set_cons_succ, List.set_cons_zero]) | ((refine rd (by rfl) (ex_indexG 26 20 i und26 idx26 rfl rfl rfl (unhide HLT)) ?_); simp only [Act.put, List.setIfInBounds_toArray, List.set_cons_succ, List.set_cons_zero]) | ((refine rd (by rfl) (ex_loadR (vs := p.cs) 46 20 row46 siz46 rfl rfl (unhide HA2 _ (unhide LL).fr) rfl) ?_); simp only [Act.put, List.setIfInBounds_toArray, List.set_cons_succ, List.set_cons_zero]) | ((refine alG 46 (zeroP.cs) (by rfl) rfl (fun w => by kernel_rfl) (Nat.succ_pos _) (unhide LL) ?_); intro X3 B3 hE3 L3 hb3; have hB3 := hide (Nat.le_trans (unhide LL).fr.size (Nat.le_of_eq hE3.symm)); replace LL := hide L3; clear L3 hb3 hE3; simp only [Act.put, List.setIfInBounds_toArray, List.set_cons_succ, List.set_cons_zero]) | ((refine st (vs := p.cs) 1 46 (by rfl) rfl rfl rfl rfl (pcs_one p) (siz46) (unhide LL) rfl (by simp [cput, PR.cs, SH.cs, VV.cs, KK.cs, DD.cs]) (Or.inr (unhide hB3)) ?_); intro X4 L4 hf4 hs4; replace LL := hide L4; clear L4 hf4 hs4; simp only [Act.put, List.setIfInBounds_toArray, List.set_cons_succ, List.set_cons_zero]) | ((refine rd (by rfl) (ex_loadN (vs := [.slice A n cap, M]) 34 2 row34 siz34 rfl rfl ((unhide LL).get 0 rfl) rfl rfl) ?_); simp only [Act.put, List.setIfInBounds_toArray, List.set_cons_succ, List.set_cons_zero]) | ((refine rd (by rfl) (ex_loadN (vs := p.d.cs) 44 18 row44 siz44 rfl rfl ((unhide LL).get 1 rfl) rfl rfl) ?_); simp only [Act.put, List.setIfInBounds_toArray, List.set_cons_succ, List.set_cons_zero]) | ((refine rd (by rfl) (ex_loadN (vs := p.d.v.cs) 25 5 row25 siz25 rfl rfl ((unhide LL).get 1 rfl) rfl rfl) ?_); simp only [Act.put, List.setIfInBounds_toArray, List.set_cons_succ, List.set_cons_zero]) | ((refine rd (by rfl) (ex_loadN (vs := p.d.g.cs) 25 5 row25 siz25 rfl rfl ((unhide LL).get 1 rfl) rfl rfl) ?_); simp only [Act.put, List.setIfInBounds_toArray, List.set_cons_succ, List.set_cons_zero]) | ((refine rd (by rfl) (ex_loadN (vs := p.d.s.cs) 25 5 row25 siz25 rfl rfl ((unhide LL).get 1 rfl) rfl rfl) ?_); simp only [Act.put, List.setIfInBounds_toArray, List.set_cons_succ, List.set_cons_zero]) | ((refine build3 p.d.v p.d.g p.d.s (by rfl) rfl rfl rfl rfl (unhide LL) ?_); intro X6 B6 hE6 L6 hb6; replace LL := hide L6; clear L6 hb6 hE6; simp only [Act.put, List.setIfInBounds_toArray, List.set_cons_succ, List.set_cons_zero])))
        refine (unhide HW _ (tabs_below (unhide HT) (unhide LL).fr.below)).mono ?_
        rintro e X5 ⟨rfl, hb⟩
        replace LL := hide ((unhide LL).on hb)
        clear hb
        go_wp2
        go_ret
        exact ⟨by rw [unhide HFA]; rfl, (unhide LL).fr.below⟩
      · rw [Bool.true_and] at hokw
        cases kn
        · have HFA : Hid (allT (okW n) ps ps.length = false) := hide (allT_false hp hokw)
          clear hp hokw
          go_wp2_with (first | go_skip | ((with_reducible show wpList _ _ _ _ _ _); first | ((refine bx 34 ([.slice A n cap, M]) (by rfl) rfl rfl rfl (Nat.succ_pos _) (unhide LL) ?_); intro X1 B1 hE1 L1 hb1; have hB1 := hide (Nat.le_trans (unhide LL).fr.size (Nat.le_of_eq hE1.symm)); replace LL := hide L1; clear L1 hb1 hE1; simp only [Act.put, List.setIfInBounds_toArray, List.set_cons_succ, List.set_cons_zero]) | ((refine rd (by rfl) (ex_lenG 26 46 Tryd.underlying26 rfl rfl) ?_); simp only [Act.put, List.setIfInBounds_toArray, List.set_cons_succ, List.set_cons_zero]) | ((refine rd (by rfl) (ex_indexG 26 20 i und26 idx26 rfl rfl rfl (unhide HLT)) ?_); simp only [Act.put, List.setIfInBounds_toArray, List.set_cons_succ, List.set_cons_zero]) | ((refine rd (by rfl) (ex_loadR (vs := p.cs) 46 20 row46 siz46 rfl rfl (unhide HA2 _ (unhide LL).fr) rfl) ?_); simp only [Act.put, List.setIfInBounds_toArray, List.set_cons_succ, List.set_cons_zero]) | ((refine alG 46 (zeroP.cs) (by rfl) rfl (fun w => by kernel_rfl) (Nat.succ_pos _) (unhide LL) ?_); intro X3 B3 hE3 L3 hb3; have hB3 := hide (Nat.le_trans (unhide LL).fr.size (Nat.le_of_eq hE3.symm)); replace LL := hide L3; clear L3 hb3 hE3; simp only [Act.put, List.setIfInBounds_toArray, List.set_cons_succ, List.set_cons_zero]) | ((refine st (vs := p.cs) 1 46 (by rfl) rfl rfl rfl rfl (pcs_one p) (siz46) (unhide LL) rfl (by simp [cput, PR.cs, SH.cs, VV.cs, KK.cs, DD.cs]) (Or.inr (unhide hB3)) ?_); intro X4 L4 hf4 hs4; replace LL := hide L4; clear L4 hf4 hs4; simp only [Act.put, List.setIfInBounds_toArray, List.set_cons_succ, List.set_cons_zero]) | ((refine rd (by rfl) (ex_loadN (vs := [.slice A n cap, M]) 34 2 row34 siz34 rfl rfl ((unhide LL).get 0 rfl) rfl rfl) ?_); simp only [Act.put, List.setIfInBounds_toArray, List.set_cons_succ, List.set_cons_zero]) | ((refine rd (by rfl) (ex_loadN (vs := p.d.cs) 44 18 row44 siz44 rfl rfl ((unhide LL).get 1 rfl) rfl rfl) ?_); simp only [Act.put, List.setIfInBounds_toArray, List.set_cons_succ, List.set_cons_zero]) | ((refine rd (by rfl) (ex_loadN (vs := p.d.v.cs) 25 5 row25 siz25 rfl rfl ((unhide LL).get 1 rfl) rfl rfl) ?_); simp only [Act.put, List.setIfInBounds_toArray, List.set_cons_succ, List.set_cons_zero]) | ((refine rd (by rfl) (ex_loadN (vs := p.d.g.cs) 25 5 row25 siz25 rfl rfl ((unhide LL).get 1 rfl) rfl rfl) ?_); simp only [Act.put, List.setIfInBounds_toArray, List.set_cons_succ, List.set_cons_zero]) | ((refine rd (by rfl) (ex_loadN (vs := p.d.s.cs) 25 5 row25 siz25 rfl rfl ((unhide LL).get 1 rfl) rfl rfl) ?_); simp only [Act.put, List.setIfInBounds_toArray, List.set_cons_succ, List.set_cons_zero]) | ((refine build3 p.d.v p.d.g p.d.s (by rfl) rfl rfl rfl rfl (unhide LL) ?_); intro X6 B6 hE6 L6 hb6; replace LL := hide L6; clear L6 hb6 hE6; simp only [Act.put, List.setIfInBounds_toArray, List.set_cons_succ, List.set_cons_zero])))
          refine (unhide HW _ (tabs_below (unhide HT) (unhide LL).fr.below)).mono ?_
          rintro e X5 ⟨rfl, hb⟩
          replace LL := hide ((unhide LL).on hb)
          clear hb
          go_wp2_with (first | go_skip | ((with_reducible show wpList _ _ _ _ _ _); first | ((refine bx 34 ([.slice A n cap, M]) (by rfl) rfl rfl rfl (Nat.succ_pos _) (unhide LL) ?_); intro X1 B1 hE1 L1 hb1; have hB1 := hide (Nat.le_trans (unhide LL).fr.size (Nat.le_of_eq hE1.symm)); replace LL := hide L1; clear L1 hb1 hE1; simp only [Act.put, List.setIfInBounds_toArray, List.set_cons_succ, List.set_cons_zero]) | ((refine rd (by rfl) (ex_lenG 26 46 Tryd.underlying26 rfl rfl) ?_); simp only [Act.put, List.setIfInBounds_toArray, List.set_cons_succ, List.set_cons_zero]) | ((refine rd (by rfl) (ex_indexG 26 20 i und26 idx26 rfl rfl rfl (unhide HLT)) ?_); simp only [Act.put, List.setIfInBounds_toArray, List.set_cons_succ, List.set_cons_zero]) | ((refine rd (by rfl) (ex_loadR (vs := p.cs) 46 20 row46 siz46 rfl rfl (unhide HA2 _ (unhide LL).fr) rfl) ?_); simp only [Act.put, List.setIfInBounds_toArray, List.set_cons_succ, List.set_cons_zero]) | ((refine alG 46 (zeroP.cs) (by rfl) rfl (fun w => by kernel_rfl) (Nat.succ_pos _) (unhide LL) ?_); intro X3 B3 hE3 L3 hb3; have hB3 := hide (Nat.le_trans (unhide LL).fr.size (Nat.le_of_eq hE3.symm)); replace LL := hide L3; clear L3 hb3 hE3; simp only [Act.put, List.setIfInBounds_toArray, List.set_cons_succ, List.set_cons_zero]) | ((refine st (vs := p.cs) 1 46 (by rfl) rfl rfl rfl rfl (pcs_one p) (siz46) (unhide LL) rfl (by simp [cput, PR.cs, SH.cs, VV.cs, KK.cs, DD.cs]) (Or.inr (unhide hB3)) ?_); intro X4 L4 hf4 hs4; replace LL := hide L4; clear L4 hf4 hs4; simp only [Act.put, List.setIfInBounds_toArray, List.set_cons_succ, List.set_cons_zero]) | ((refine rd (by rfl) (ex_loadN (vs := [.slice A n cap, M]) 34 2 row34 siz34 rfl rfl ((unhide LL).get 0 rfl) rfl rfl) ?_); simp only [Act.put, List.setIfInBounds_toArray, List.set_cons_succ, List.set_cons_zero]) | ((refine rd (by rfl) (ex_loadN (vs := p.d.cs) 44 18 row44 siz44 rfl rfl ((unhide LL).get 1 rfl) rfl rfl) ?_); simp only [Act.put, List.setIfInBounds_toArray, List.set_cons_succ, List.set_cons_zero]) | ((refine rd (by rfl) (ex_loadN (vs := p.d.v.cs) 25 5 row25 siz25 rfl rfl ((unhide LL).get 1 rfl) rfl rfl) ?_); simp only [Act.put, List.setIfInBounds_toArray, List.set_cons_succ, List.set_cons_zero]) | ((refine rd (by rfl) (ex_loadN (vs := p.d.g.cs) 25 5 row25 siz25 rfl rfl ((unhide LL).get 1 rfl) rfl rfl) ?_); simp only [Act.put, List.setIfInBounds_toArray, List.set_cons_succ, List.set_cons_zero]) | ((refine rd (by rfl) (ex_loadN (vs := p.d.s.cs) 25 5 row25 siz25 rfl rfl ((unhide LL).get 1 rfl) rfl rfl) ?_); simp only [Act.put, List.setIfInBounds_toArray, List.set_cons_succ, List.set_cons_zero]) | ((refine build3 p.d.v p.d.g p.d.s (by rfl) rfl rfl rfl rfl (unhide LL) ?_); intro X6 B6 hE6 L6 hb6; replace LL := hide L6; clear L6 hb6 hE6; simp only [Act.put, List.setIfInBounds_toArray, List.set_cons_succ, List.set_cons_zero])))
          refine (unhide HK _ _ (reads3 ((unhide LL).get 2 rfl)) (tabs_below (unhide HT) (unhide LL).fr.below)).mono ?_
          rintro e X7 ⟨rfl, hb⟩
          replace LL := hide ((unhide LL).on hb)
          clear hb
          go_wp2
          go_ret
          exact ⟨by rw [unhide HFA]; rfl, (unhide LL).fr.below⟩
        · have HD2 := hide (allT_step (unhide HD) hp hokw)
          clear hp hokw HD
          go_wp2_with (first | go_skip | ((with_reducible show wpList _ _ _ _ _ _); first | ((refine bx 34 ([.slice A n cap, M]) (by rfl) rfl rfl rfl (Nat.succ_pos _) (unhide LL) ?_); intro X1 B1 hE1 L1 hb1; have hB1 := hide (Nat.le_trans (unhide LL).fr.size (Nat.le_of_eq hE1.symm)); replace LL := hide L1; clear L1 hb1 hE1; simp only [Act.put, List.setIfInBounds_toArray, List.set_cons_succ, List.set_cons_zero]) | ((refine rd (by rfl) (ex_lenG 26 46 Tryd.underlying26 rfl rfl) ?_); simp only [Act.put, List.setIfInBounds_toArray, List.set_cons_succ, List.set_cons_zero]) | ((refine rd (by rfl) (ex_indexG 26 20 i und26 idx26 rfl rfl rfl (unhide HLT)) ?_); simp only [Act.put, List.setIfInBounds_toArray, List.set_cons_succ, List.set_cons_zero]) | ((refine rd (by rfl) (ex_loadR (vs := p.cs) 46 20 row46 siz46 rfl rfl (unhide HA2 _ (unhide LL).fr) rfl) ?_); simp only [Act.put, List.setIfInBounds_toArray, List.set_cons_succ, List.set_cons_zero]) | ((refine alG 46 (zeroP.cs) (by rfl) rfl (fun w => by kernel_rfl) (Nat.succ_pos _) (unhide LL) ?_); intro X3 B3 hE3 L3 hb3; have hB3 := hide (Nat.le_trans (unhide LL).fr.size (Nat.le_of_eq hE3.symm)); replace LL := hide L3; clear L3 hb3 hE3; simp only [Act.put, List.setIfInBounds_toArray, List.set_cons_succ, List.set_cons_zero]) | ((refine st (vs := p.cs) 1 46 (by rfl) rfl rfl rfl rfl (pcs_one p) (siz46) (unhide LL) rfl (by simp [cput, PR.cs, SH.cs, VV.cs, KK.cs, DD.cs]) (Or.inr (unhide hB3)) ?_); intro X4 L4 hf4 hs4; replace LL := hide L4; clear L4 hf4 hs4; simp only [Act.put, List.setIfInBounds_toArray, List.set_cons_succ, List.set_cons_zero]) | ((refine rd (by rfl) (ex_loadN (vs := [.slice A n cap, M]) 34 2 row34 siz34 rfl rfl ((unhide LL).get 0 rfl) rfl rfl) ?_); simp only [Act.put, List.setIfInBounds_toArray, List.set_cons_succ, List.set_cons_zero]) | ((refine rd (by rfl) (ex_loadN (vs := p.d.cs) 44 18 row44 siz44 rfl rfl ((unhide LL).get 1 rfl) rfl rfl) ?_); simp only [Act.put, List.setIfInBounds_toArray, List.set_cons_succ, List.set_cons_zero]) | ((refine rd (by rfl) (ex_loadN (vs := p.d.v.cs) 25 5 row25 siz25 rfl rfl ((unhide LL).get 1 rfl) rfl rfl) ?_); simp only [Act.put, List.setIfInBounds_toArray, List.set_cons_succ, List.set_cons_zero]) | ((refine rd (by rfl) (ex_loadN (vs := p.d.g.cs) 25 5 row25 siz25 rfl rfl ((unhide LL).get 1 rfl) rfl rfl) ?_); simp only [Act.put, List.setIfInBounds_toArray, List.set_cons_succ, List.set_cons_zero]) | ((refine rd (by rfl) (ex_loadN (vs := p.d.s.cs) 25 5 row25 siz25 rfl rfl ((unhide LL).get 1 rfl) rfl rfl) ?_); simp only [Act.put, List.setIfInBounds_toArray, List.set_cons_succ, List.set_cons_zero]) | ((refine build3 p.d.v p.d.g p.d.s (by rfl) rfl rfl rfl rfl (unhide LL) ?_); intro X6 B6 hE6 L6 hb6; replace LL := hide L6; clear L6 hb6 hE6; simp only [Act.put, List.setIfInBounds_toArray, List.set_cons_succ, List.set_cons_zero])))
          refine (unhide HW _ (tabs_below (unhide HT) (unhide LL).fr.below)).mono ?_
          rintro e X5 ⟨rfl, hb⟩
          replace LL := hide ((unhide LL).on hb)
          clear hb
          go_wp2_with (first | go_skip | ((with_reducible show wpList _ _ _ _ _ _); first | ((refine bx 34 ([.slice A n cap, M]) (by rfl) rfl rfl rfl (Nat.succ_pos _) (unhide LL) ?_); intro X1 B1 hE1 L1 hb1; have hB1 := hide (Nat.le_trans (unhide LL).fr.size (Nat.le_of_eq hE1.symm)); replace LL := hide L1; clear L1 hb1 hE1; simp only [Act.put, List.setIfInBounds_toArray, List.set_cons_succ, List.set_cons_zero]) | ((refine rd (by rfl) (ex_lenG 26 46 Tryd.underlying26 rfl rfl) ?_); simp only [Act.put, List.setIfInBounds_toArray, List.set_cons_succ, List.set_cons_zero]) | ((refine rd (by rfl) (ex_indexG 26 20 i und26 idx26 rfl rfl rfl (unhide HLT)) ?_); simp only [Act.put, List.setIfInBounds_toArray, List.set_cons_succ, List.set_cons_zero]) | ((refine rd (by rfl) (ex_loadR (vs := p.cs) 46 20 row46 siz46 rfl rfl (unhide HA2 _ (unhide LL).fr) rfl) ?_); simp only [Act.put, List.setIfInBounds_toArray, List.set_cons_succ, List.set_cons_zero]) | ((refine alG 46 (zeroP.cs) (by rfl) rfl (fun w => by kernel_rfl) (Nat.succ_pos _) (unhide LL) ?_); intro X3 B3 hE3 L3 hb3; have hB3 := hide (Nat.le_trans (unhide LL).fr.size (Nat.le_of_eq hE3.symm)); replace LL := hide L3; clear L3 hb3 hE3; simp only [Act.put, List.setIfInBounds_toArray, List.set_cons_succ, List.set_cons_zero]) | ((refine st (vs := p.cs) 1 46 (by rfl) rfl rfl rfl rfl (pcs_one p) (siz46) (unhide LL) rfl (by simp [cput, PR.cs, SH.cs, VV.cs, KK.cs, DD.cs]) (Or.inr (unhide hB3)) ?_); intro X4 L4 hf4 hs4; replace LL := hide L4; clear L4 hf4 hs4; simp only [Act.put, List.setIfInBounds_toArray, List.set_cons_succ, List.set_cons_zero]) | ((refine rd (by rfl) (ex_loadN (vs := [.slice A n cap, M]) 34 2 row34 siz34 rfl rfl ((unhide LL).get 0 rfl) rfl rfl) ?_); simp only [Act.put, List.setIfInBounds_toArray, List.set_cons_succ, List.set_cons_zero]) | ((refine rd (by rfl) (ex_loadN (vs := p.d.cs) 44 18 row44 siz44 rfl rfl ((unhide LL).get 1 rfl) rfl rfl) ?_); simp only [Act.put, List.setIfInBounds_toArray, List.set_cons_succ, List.set_cons_zero]) | ((refine rd (by rfl) (ex_loadN (vs := p.d.v.cs) 25 5 row25 siz25 rfl rfl ((unhide LL).get 1 rfl) rfl rfl) ?_); simp only [Act.put, List.setIfInBounds_toArray, List.set_cons_succ, List.set_cons_zero]) | ((refine rd (by rfl) (ex_loadN (vs := p.d.g.cs) 25 5 row25 siz25 rfl rfl ((unhide LL).get 1 rfl) rfl rfl) ?_); simp only [Act.put, List.setIfInBounds_toArray, List.set_cons_succ, List.set_cons_zero]) | ((refine rd (by rfl) (ex_loadN (vs := p.d.s.cs) 25 5 row25 siz25 rfl rfl ((unhide LL).get 1 rfl) rfl rfl) ?_); simp only [Act.put, List.setIfInBounds_toArray, List.set_cons_succ, List.set_cons_zero]) | ((refine build3 p.d.v p.d.g p.d.s (by rfl) rfl rfl rfl rfl (unhide LL) ?_); intro X6 B6 hE6 L6 hb6; replace LL := hide L6; clear L6 hb6 hE6; simp only [Act.put, List.setIfInBounds_toArray, List.set_cons_succ, List.set_cons_zero])))
          refine (unhide HK _ _ (reads3 ((unhide LL).get 2 rfl)) (tabs_below (unhide HT) (unhide LL).fr.below)).mono ?_
          rintro e X7 ⟨rfl, hb⟩
          replace LL := hide ((unhide LL).on hb)
          clear hb
          go_wp2_with fail
          replace LL := hide (Hq.left (L := [(B1, [.slice A n cap, M])]) (M := [_, _]) (unhide LL))
          go_wp2
          go_roundg (ps.length - (i + 1))
          case measure => have := unhide HLT; omega
          case rel => exact ⟨i + 1, by go_num, by have := unhide HLT; omega, by omega, HD2, LL⟩
    · obtain rfl : i = ps.length := by omega
      clear hlt hil
      go_wp2_with (first | go_skip | ((with_reducible show wpList _ _ _ _ _ _); first | ((refine rd (by rfl) (ex_lenG 26 46 Tryd.underlying26 rfl rfl) ?_); simp only [Act.put, List.setIfInBounds_toArray, List.set_cons_succ, List.set_cons_zero])))
      go_ret
      exact ⟨by rw [unhide HD]; rfl, (unhide LL).fr.below⟩
end Go.Proofs.YtmpdhmdmfmgamaaDoor

/-! Ok -/
namespace Go.Proofs.YtmpdhmdmfmgamaaDoor
open Go Go.Proofs Go.Maps Go.RowKit FM
set_option linter.unusedSimpArgs false
set_option linter.unusedVariables false
set_option maxHeartbeats 1000000
/-! A set of keys. -/
def emR : Value → Option (DataW Unit × List MemPlace)
  | .agg ⟨[]⟩ => some (.agg [], [])
  | _ => none
def SetIs (w : World) (b n sz : Nat) (K : KK → Bool) : Prop :=
  ∃ D : DataW Unit, w.ownsMap Tryd.prog 41 emR b n D ∧ Maps.size D = sz ∧ ∀ k, OkK k → Maps.has D (kl k) = K k
theorem SetIs.made (w : World) : SetIs (w.alloc (.map #[] 0)) w.heap.size 0 0 (fun _ => false) := ⟨_, World.ownsMap_made w _ _ _, rfl, fun k _ => rfl⟩
theorem SetIs.lt {w : World} {b n sz : Nat} {K : KK → Bool} (h : SetIs w b n sz K) : b < w.heap.size := by
  obtain ⟨D, h, -⟩ := h
  exact h.lt
theorem SetIs.block {w w' : World} {b n sz : Nat} {K : KK → Bool} (h : SetIs w b n sz K) (he : w'.heap[b]? = w.heap[b]?) : SetIs w' b n sz K := by
  obtain ⟨D, ⟨es, clock, hb, Ft, hs, hD⟩, h2, h3⟩ := h
  exact ⟨D, ⟨es, clock, he.trans hb, Ft, hs, hD⟩, h2, h3⟩
theorem SetIs.on {w w' : World} {b n sz : Nat} {K : KK → Bool} (h : SetIs w b n sz K) (he : Below w.heap.size w w') : SetIs w' b n sz K := h.block (he.block b h.lt)
theorem SetIs.far {w w' : World} {b n sz g : Nat} {K : KK → Bool} (h : SetIs w b n sz K) (he : Fr w w' [g]) (hg : b ≠ g) : SetIs w' b n sz K := h.block (he.block b h.lt (by simpa using hg))
theorem SetIs.congr {w : World} {b n sz sz' : Nat} {K K' : KK → Bool} (h : SetIs w b n sz K) (hs : sz = sz') (hK : ∀ k, K k = K' k) : SetIs w b n sz' K' := by
  obtain ⟨D, h1, h2, h3⟩ := h
  exact ⟨D, h1, h2.trans hs, fun k hk => (h3 k hk).trans (hK k)⟩
theorem SetIs.len {w : World} {b n sz : Nat} {K : KK → Bool} (h : SetIs w b n sz K) (ty : TypeId) : (Builtin.len_ #[55] ty #[.map (some b)]).run Tryd.prog w = .ok (.int .i64 sz) w := by
  obtain ⟨D, h, h2, h3⟩ := h
  rw [h.len Tryd.underlying55 ty, h2]
theorem SetIs.store {w : World} {b n sz : Nat} {K : KK → Bool} (h : SetIs w b n sz K) {k : KK} (hk : OkK k) (hn : n < maxLen) :
    ∃ w', (Instr.mapUpdate 55 (.map (some b)) k.agg (.agg #[])).run Tryd.prog w = .ok () w' ∧ SetIs w' b (n + 1) (if K k then sz else sz + 1) (fun q => decide (k = q) || K q) ∧ w.mapTurned w' b := by
  obtain ⟨D, h, h2, h3⟩ := h
  obtain ⟨w', hrun, ho, ht⟩ := h.store law41 Tryd.underlying55 hn (keyOfK hk) (show emR (.agg #[]) = some (.agg [], []) from rfl)
  have ti := h.tidy law41
  refine ⟨w', hrun, ⟨_, ho, ?_, fun q hq => ?_⟩, ht⟩
  · rw [size_put ti, h3 k hk, h2]
  · by_cases e : k = q
    · subst e
      rw [has_put_same ti.isMap (kl_key hk)]
      simp
    · have ne : kl q ≠ kl k := fun e' => e (kl_inj hq hk e').symm
      rw [has_put_other ne, h3 q hq]
      show K q = (decide (k = q) || K q)
      rw [decide_eq_false e, Bool.false_or]
section
variable {ops : Array Oper} {rest : List Oper} {Q : Exit → Act → World → Prop} {w w0 : World} {a : Act} {o : Oper} {E : List Nat} {L : List (Nat × List Value)}
theorem mmK {x : Operand} {n : Int} (hw : Region.wanted o (yielded ops a.tmps) = true) (ho : o.op = .makeMap 55 (some x)) (hx : a.eval x = .int .i64 n) (hL : Hq w0 w E L)
    (h : ∀ X B, B = w.heap.size → Hq w0 X E L → SetIs X B 0 0 (fun _ => false) → Below w.heap.size w X → wpList Tryd.prog ops Q rest (a.put o.dst (.map (some B))) X) : wpList Tryd.prog ops Q (o :: rest) a w := by
  refine BigFrame.wpList_want hw fun K hK => ?_
  have bl : Below w.heap.size w (w.alloc (Obj.map #[] 0)) := (Below.refl _ _).alloc (Nat.le_refl _) _
  have hP := hK _ _ (h _ _ rfl (hL.on bl) (SetIs.made w) bl)
  have e : (Instr.makeMap 55 (some (.int .i64 n))).run Tryd.prog w = .ok (.map (some w.heap.size)) (w.alloc (.map #[] 0)) := by
    simp [Instr.makeMap, run_underlying Tryd.underlying55, asInt, asIntOf, Result.andThen]
  unfold Oper.wp execOp
  simp only [ho, Option.map_some, hx]
  simp [e]
  exact hP
theorem updK {m x y : Operand} {b n sz : Nat} {K : KK → Bool} {k : KK} (hw : Region.wanted o (yielded ops a.tmps) = true) (ho : o.op = .mapUpdate 55 m x y) (hm : a.eval m = .map (some b)) (hx : a.eval x = k.agg) (hy : a.eval y = .agg #[]) (h : SetIs w b n sz K) (hk : OkK k) (hn : n < maxLen)
    (hh : ∀ X, SetIs X b (n + 1) (if K k then sz else sz + 1) (fun q => decide (k = q) || K q) → Fr w X [b] → wpList Tryd.prog ops Q rest (a.put o.dst undef) X) : wpList Tryd.prog ops Q (o :: rest) a w := by
  obtain ⟨X, h1, h2, h3⟩ := h.store hk hn
  refine BigFrame.wpList_want hw fun K hK => ?_
  have hP := hK _ _ (hh X h2 (Fr.grown h3.grown))
  unfold Oper.wp
  have e : (execOp a.eval o).run Tryd.prog w = .ok .skip X := by
    unfold execOp
    simp only [ho, hm, hx, hy]
    simp [h1]
  rw [e]
  exact hP
theorem ex_lenM {m : Operand} {b n sz : Nat} {K : KK → Bool} (ho : o.op = .call { callee := .builtin .len, args := #[m], argTypes := #[55] }) (hm : a.eval m = .map (some b)) (h : SetIs w b n sz K) : (execOp a.eval o).run Tryd.prog w = .ok (.value (.int .i64 (sz : Nat))) w := by
  have e := h.len o.type
  simp [execOp, ho, resolve, invoke, builtin, hm, e, Result.andThen]
end
theorem take_any (l : List PR) (i : Nat) (p : PR) (hp : l[i]? = some p) (k : KK) : (l.take (i + 1)).any (fun q => decide (q.k = k)) = (decide (p.k = k) || (l.take i).any (fun q => decide (q.k = k))) := by
  obtain ⟨hi, rfl⟩ := List.getElem?_eq_some_iff.1 hp
  rw [List.take_succ_eq_append_getElem hi, List.any_append]
  simp [Bool.or_comm]
set_option maxHeartbeats 2000000 in
set_option maxRecDepth 100000 in
theorem distinct10 (B : Option Addr) (pcap : Nat) (ps : List PR) (w : World) (hR : ReadsP w B ps) (hz : ps.length ≤ 733007751850) (hT : Lib.Utf8Tabs 1 2 w) : Calls Tryd.prog 10 #[.slice B ps.length pcap] w fun e w' => e = .returned (.bool (dstV ps)) ∧ Below w.heap.size w w' := by
  have LL := hide (Hq.nil w [])
  have HT := hide hT
  have HR := hide hR
  have HZ := hide hz
  clear hT hR hz
  go_enter Tryd.func10, Tryd.ntmps10
  go_wp2_with (first | go_skip | ((with_reducible show wpList _ _ _ _ _ _); first | ((refine rd (by rfl) (ex_lenG 26 46 Tryd.underlying26 rfl rfl) ?_); simp only [Act.put, List.setIfInBounds_toArray, List.set_cons_succ, List.set_cons_zero]) | ((refine mmK (by rfl) rfl rfl (unhide LL) ?_); intro X1 M1 hE1 L1 hM1 hb1; have HM := hide (And.intro hM1 (Nat.le_trans (unhide LL).fr.size (Nat.le_of_eq hE1.symm))); replace LL := hide L1; clear L1 hM1 hb1 hE1; simp only [Act.put, List.setIfInBounds_toArray, List.set_cons_succ, List.set_cons_zero]) | ((refine rd (by rfl) (ex_indexG 26 20 i und26 idx26 rfl rfl rfl (unhide HLT)) ?_); simp only [Act.put, List.setIfInBounds_toArray, List.set_cons_succ, List.set_cons_zero]) | ((refine rd (by rfl) (ex_loadR (vs := p.cs) 46 20 row46 siz46 rfl rfl (unhide HA2 _ (unhide LL).fr) rfl) ?_); simp only [Act.put, List.setIfInBounds_toArray, List.set_cons_succ, List.set_cons_zero]) | ((refine alG 46 (zeroP.cs) (by rfl) rfl (fun w => by kernel_rfl) (Nat.succ_pos _) (unhide LL) ?_); intro X3 B3 hE3 L3 hb3; have hB3 := hide (Nat.le_trans (unhide LL).fr.size (Nat.le_of_eq hE3.symm)); have hNE : Hid (M1 ≠ B3) := hide (Nat.ne_of_lt (Nat.lt_of_lt_of_le (unhide HM).1.lt (Nat.le_of_eq hE3.symm))); replace HM := hide (And.intro ((unhide HM).1.on hb3) (unhide HM).2); replace LL := hide L3; clear L3 hb3 hE3; simp only [Act.put, List.setIfInBounds_toArray, List.set_cons_succ, List.set_cons_zero]) | ((refine st (vs := p.cs) 0 46 (by rfl) rfl rfl rfl rfl (pcs_one p) siz46 (unhide LL) rfl (by simp [cput, PR.cs, KK.cs, DD.cs, zeroP]) (Or.inr (unhide hB3)) ?_); intro X4 L4 hf4 hs4; replace HM := hide (And.intro ((unhide HM).1.far hf4 (unhide hNE)) (unhide HM).2); replace LL := hide L4; clear L4 hf4 hs4; simp only [Act.put, List.setIfInBounds_toArray, List.set_cons_succ, List.set_cons_zero]) | ((refine rd (by rfl) (ex_loadN (vs := p.k.cs) 41 2 row41 siz41 rfl rfl ((unhide LL).get 0 rfl) rfl rfl) ?_); simp only [Act.put, List.setIfInBounds_toArray, List.set_cons_succ, List.set_cons_zero])))
  go_loopg [11] ps.length (fun gm s11 wr => ∃ i : Nat, s11 = .int .i64 (i : Nat) ∧ i ≤ ps.length ∧ ps.length - i ≤ gm ∧ Hid (allT (fun p => goodK p.k) ps i = true) ∧ Hid (SetIs wr M1 i (szT ps i) (fun k => (ps.take i).any (fun q => decide (q.k = k))) ∧ w.heap.size ≤ M1) ∧ Hid (Hq w wr [] []))
  case atStart => exact ⟨0, rfl, by omega, by omega, hide rfl, hide ⟨(unhide HM).1.congr rfl (fun k => by simp), (unhide HM).2⟩, LL⟩
  case round =>
    clear LL HM
    obtain ⟨i, rfl, hil, hgm, HD, HM, LL⟩ := hrel
    by_cases hlt : i < ps.length
    · have dlt : decide ((i : Int) < (ps.length : Int)) = true := decide_eq_true (by omega)
      have hw1 : IntKind.i64.wrap ((i : Int) + 1) = (i : Int) + 1 := by have := unhide HZ; rw [IntKind.wrap_i64]; omega
      obtain ⟨p, hp⟩ : ∃ p, ps[i]? = some p := ⟨_, List.getElem?_eq_getElem hlt⟩
      obtain ⟨hok, b, off, hA, hb, hrg⟩ := (unhide HR) i p hp
      subst hA
      have HA2 : Hid (∀ X, Fr w X [] → X.rangeAt b (off + i * 20) p.cs) := hide (fun X hX => rangeAt_fr hrg hb hX)
      have HLT := hide hlt
      have HMX : Hid (i < maxLen) := hide (by have := unhide HZ; unfold maxLen; omega)
      have HOK := hide hok.2
      clear hb hrg hlt hil hok
      have HC := hide (fun w hT => check12 p.k.s p.k.n w hT)
      rw [agg_key, kagg] at HC
      have hgk : goodK p.k = (kVal p.k.s p.k.n).good := rfl
      generalize (kVal p.k.s p.k.n).good = g at *
      cases g
      · have HFA : Hid (dstV ps = false) := hide (by unfold dstV; rw [allT_false hp hgk]; rfl)
        clear hp hgk
        go_wp2_with (first | go_skip | ((with_reducible show wpList _ _ _ _ _ _); first | ((refine rd (by rfl) (ex_lenG 26 46 Tryd.underlying26 rfl rfl) ?_); simp only [Act.put, List.setIfInBounds_toArray, List.set_cons_succ, List.set_cons_zero]) | ((refine mmK (by rfl) rfl rfl (unhide LL) ?_); intro X1 M1 hE1 L1 hM1 hb1; have HM := hide (And.intro hM1 (Nat.le_trans (unhide LL).fr.size (Nat.le_of_eq hE1.symm))); replace LL := hide L1; clear L1 hM1 hb1 hE1; simp only [Act.put, List.setIfInBounds_toArray, List.set_cons_succ, List.set_cons_zero]) | ((refine rd (by rfl) (ex_indexG 26 20 i und26 idx26 rfl rfl rfl (unhide HLT)) ?_); simp only [Act.put, List.setIfInBounds_toArray, List.set_cons_succ, List.set_cons_zero]) | ((refine rd (by rfl) (ex_loadR (vs := p.cs) 46 20 row46 siz46 rfl rfl (unhide HA2 _ (unhide LL).fr) rfl) ?_); simp only [Act.put, List.setIfInBounds_toArray, List.set_cons_succ, List.set_cons_zero]) | ((refine alG 46 (zeroP.cs) (by rfl) rfl (fun w => by kernel_rfl) (Nat.succ_pos _) (unhide LL) ?_); intro X3 B3 hE3 L3 hb3; have hB3 := hide (Nat.le_trans (unhide LL).fr.size (Nat.le_of_eq hE3.symm)); have hNE : Hid (M1 ≠ B3) := hide (Nat.ne_of_lt (Nat.lt_of_lt_of_le (unhide HM).1.lt (Nat.le_of_eq hE3.symm))); replace HM := hide (And.intro ((unhide HM).1.on hb3) (unhide HM).2); replace LL := hide L3; clear L3 hb3 hE3; simp only [Act.put, List.setIfInBounds_toArray, List.set_cons_succ, List.set_cons_zero]) | ((refine st (vs := p.cs) 0 46 (by rfl) rfl rfl rfl rfl (pcs_one p) siz46 (unhide LL) rfl (by simp [cput, PR.cs, KK.cs, DD.cs, zeroP]) (Or.inr (unhide hB3)) ?_); intro X4 L4 hf4 hs4; replace HM := hide (And.intro ((unhide HM).1.far hf4 (unhide hNE)) (unhide HM).2); replace LL := hide L4; clear L4 hf4 hs4; simp only [Act.put, List.setIfInBounds_toArray, List.set_cons_succ, List.set_cons_zero]) | ((refine rd (by rfl) (ex_loadN (vs := p.k.cs) 41 2 row41 siz41 rfl rfl ((unhide LL).get 0 rfl) rfl rfl) ?_); simp only [Act.put, List.setIfInBounds_toArray, List.set_cons_succ, List.set_cons_zero])))
        refine (unhide HC _ (tabs_below (unhide HT) (unhide LL).fr.below)).mono ?_
        rintro e X5 ⟨rfl, hb⟩
        replace HM := hide (And.intro ((unhide HM).1.on hb) (unhide HM).2)
        replace LL := hide ((unhide LL).on hb)
        clear hb
        unfold errB
        go_wp2
        go_ret
        exact ⟨by rw [unhide HFA]; rfl, (unhide LL).fr.below⟩
      · have HD2 := hide (allT_step (unhide HD) hp hgk)
        have HTK := hide (take_any ps i p hp)
        have hea : earlier ps i = (ps.take i).any (fun q => decide (q.k = p.k)) := by unfold earlier; rw [hp]
        have HSZ : Hid (szT ps (i + 1) = if (ps.take i).any (fun q => decide (q.k = p.k)) then szT ps i else szT ps i + 1) := hide (by rw [← hea]; rfl)
        clear hp hgk HD hea
        go_wp2_with (first | go_skip | ((with_reducible show wpList _ _ _ _ _ _); first | ((refine rd (by rfl) (ex_lenG 26 46 Tryd.underlying26 rfl rfl) ?_); simp only [Act.put, List.setIfInBounds_toArray, List.set_cons_succ, List.set_cons_zero]) | ((refine mmK (by rfl) rfl rfl (unhide LL) ?_); intro X1 M1 hE1 L1 hM1 hb1; have HM := hide (And.intro hM1 (Nat.le_trans (unhide LL).fr.size (Nat.le_of_eq hE1.symm))); replace LL := hide L1; clear L1 hM1 hb1 hE1; simp only [Act.put, List.setIfInBounds_toArray, List.set_cons_succ, List.set_cons_zero]) | ((refine rd (by rfl) (ex_indexG 26 20 i und26 idx26 rfl rfl rfl (unhide HLT)) ?_); simp only [Act.put, List.setIfInBounds_toArray, List.set_cons_succ, List.set_cons_zero]) | ((refine rd (by rfl) (ex_loadR (vs := p.cs) 46 20 row46 siz46 rfl rfl (unhide HA2 _ (unhide LL).fr) rfl) ?_); simp only [Act.put, List.setIfInBounds_toArray, List.set_cons_succ, List.set_cons_zero]) | ((refine alG 46 (zeroP.cs) (by rfl) rfl (fun w => by kernel_rfl) (Nat.succ_pos _) (unhide LL) ?_); intro X3 B3 hE3 L3 hb3; have hB3 := hide (Nat.le_trans (unhide LL).fr.size (Nat.le_of_eq hE3.symm)); have hNE : Hid (M1 ≠ B3) := hide (Nat.ne_of_lt (Nat.lt_of_lt_of_le (unhide HM).1.lt (Nat.le_of_eq hE3.symm))); replace HM := hide (And.intro ((unhide HM).1.on hb3) (unhide HM).2); replace LL := hide L3; clear L3 hb3 hE3; simp only [Act.put, List.setIfInBounds_toArray, List.set_cons_succ, List.set_cons_zero]) | ((refine st (vs := p.cs) 0 46 (by rfl) rfl rfl rfl rfl (pcs_one p) siz46 (unhide LL) rfl (by simp [cput, PR.cs, KK.cs, DD.cs, zeroP]) (Or.inr (unhide hB3)) ?_); intro X4 L4 hf4 hs4; replace HM := hide (And.intro ((unhide HM).1.far hf4 (unhide hNE)) (unhide HM).2); replace LL := hide L4; clear L4 hf4 hs4; simp only [Act.put, List.setIfInBounds_toArray, List.set_cons_succ, List.set_cons_zero]) | ((refine rd (by rfl) (ex_loadN (vs := p.k.cs) 41 2 row41 siz41 rfl rfl ((unhide LL).get 0 rfl) rfl rfl) ?_); simp only [Act.put, List.setIfInBounds_toArray, List.set_cons_succ, List.set_cons_zero])))
        refine (unhide HC _ (tabs_below (unhide HT) (unhide LL).fr.below)).mono ?_
        rintro e X5 ⟨rfl, hb⟩
        replace HM := hide (And.intro ((unhide HM).1.on hb) (unhide HM).2)
        replace LL := hide ((unhide LL).on hb)
        clear hb
        unfold errB
        go_wp2_with (first | go_skip | ((with_reducible show wpList _ _ _ _ _ _); first | ((refine updK (k := p.k) (by rfl) rfl rfl rfl rfl (unhide HM).1 (unhide HOK) (unhide HMX) ?_); intro X6 hm6 hf6; have HM6 := hide (And.intro hm6 (And.intro (unhide HM).2 ((unhide LL).fr.trans hf6 (fun b hb => .inr (by obtain rfl : b = M1 := (by simpa using hb); exact (unhide HM).2))))); clear hm6 hf6 HM LL; simp only [Act.put, List.setIfInBounds_toArray, List.set_cons_succ, List.set_cons_zero]) | ((refine rd (by rfl) (ex_lenG 26 46 Tryd.underlying26 rfl rfl) ?_); simp only [Act.put, List.setIfInBounds_toArray, List.set_cons_succ, List.set_cons_zero]) | ((refine mmK (by rfl) rfl rfl (unhide LL) ?_); intro X1 M1 hE1 L1 hM1 hb1; have HM := hide (And.intro hM1 (Nat.le_trans (unhide LL).fr.size (Nat.le_of_eq hE1.symm))); replace LL := hide L1; clear L1 hM1 hb1 hE1; simp only [Act.put, List.setIfInBounds_toArray, List.set_cons_succ, List.set_cons_zero]) | ((refine rd (by rfl) (ex_indexG 26 20 i und26 idx26 rfl rfl rfl (unhide HLT)) ?_); simp only [Act.put, List.setIfInBounds_toArray, List.set_cons_succ, List.set_cons_zero]) | ((refine rd (by rfl) (ex_loadR (vs := p.cs) 46 20 row46 siz46 rfl rfl (unhide HA2 _ (unhide LL).fr) rfl) ?_); simp only [Act.put, List.setIfInBounds_toArray, List.set_cons_succ, List.set_cons_zero]) | ((refine alG 46 (zeroP.cs) (by rfl) rfl (fun w => by kernel_rfl) (Nat.succ_pos _) (unhide LL) ?_); intro X3 B3 hE3 L3 hb3; have hB3 := hide (Nat.le_trans (unhide LL).fr.size (Nat.le_of_eq hE3.symm)); have hNE : Hid (M1 ≠ B3) := hide (Nat.ne_of_lt (Nat.lt_of_lt_of_le (unhide HM).1.lt (Nat.le_of_eq hE3.symm))); replace HM := hide (And.intro ((unhide HM).1.on hb3) (unhide HM).2); replace LL := hide L3; clear L3 hb3 hE3; simp only [Act.put, List.setIfInBounds_toArray, List.set_cons_succ, List.set_cons_zero]) | ((refine st (vs := p.cs) 0 46 (by rfl) rfl rfl rfl rfl (pcs_one p) siz46 (unhide LL) rfl (by simp [cput, PR.cs, KK.cs, DD.cs, zeroP]) (Or.inr (unhide hB3)) ?_); intro X4 L4 hf4 hs4; replace HM := hide (And.intro ((unhide HM).1.far hf4 (unhide hNE)) (unhide HM).2); replace LL := hide L4; clear L4 hf4 hs4; simp only [Act.put, List.setIfInBounds_toArray, List.set_cons_succ, List.set_cons_zero]) | ((refine rd (by rfl) (ex_loadN (vs := p.k.cs) 41 2 row41 siz41 rfl rfl ((unhide LL).get 0 rfl) rfl rfl) ?_); simp only [Act.put, List.setIfInBounds_toArray, List.set_cons_succ, List.set_cons_zero])))
        go_roundg (ps.length - (i + 1))
        case measure => have := unhide HLT; omega
        case rel => exact ⟨i + 1, by go_num, by have := unhide HLT; omega, by omega, HD2, hide ⟨(unhide HM6).1.congr (unhide HSZ).symm (fun k => (unhide HTK k).symm), (unhide HM6).2.1⟩, hide ⟨(unhide HM6).2.2, (fun q hq => by cases hq), by simp⟩⟩
    · obtain rfl : i = ps.length := by omega
      have hds : dstV ps = decide (szT ps ps.length = ps.length) := by unfold dstV; rw [unhide HD, Bool.true_and]
      clear hlt hil HD
      generalize szT ps ps.length = sz at *
      by_cases he : sz = ps.length
      · have HV : Hid (dstV ps = true) := hide (by rw [hds]; exact decide_eq_true he)
        have he2 : ((sz : Int) == (ps.length : Int)) = true := by simp [he]
        have he3 : (sz : Int) = (ps.length : Int) := by omega
        clear hds he
        go_wp2_with (first | go_skip | ((with_reducible show wpList _ _ _ _ _ _); first | ((refine rd (by rfl) (ex_lenG 26 46 Tryd.underlying26 rfl rfl) ?_); simp only [Act.put, List.setIfInBounds_toArray, List.set_cons_succ, List.set_cons_zero]) | ((refine rd (by rfl) (ex_lenM rfl rfl (unhide HM).1) ?_); simp only [Act.put, List.setIfInBounds_toArray, List.set_cons_succ, List.set_cons_zero]) | ((refine rd (by rfl) (ex_eqYes rfl rfl rfl he3) ?_); simp only [Act.put, List.setIfInBounds_toArray, List.set_cons_succ, List.set_cons_zero])))
        go_ret
        exact ⟨by rw [unhide HV]; rfl, (unhide LL).fr.below⟩
      · have HV : Hid (dstV ps = false) := hide (by rw [hds]; exact decide_eq_false he)
        have he3 : ¬ (sz : Int) = (ps.length : Int) := by omega
        clear hds he
        go_wp2_with (first | go_skip | ((with_reducible show wpList _ _ _ _ _ _); first | ((refine rd (by rfl) (ex_lenG 26 46 Tryd.underlying26 rfl rfl) ?_); simp only [Act.put, List.setIfInBounds_toArray, List.set_cons_succ, List.set_cons_zero]) | ((refine rd (by rfl) (ex_lenM rfl rfl (unhide HM).1) ?_); simp only [Act.put, List.setIfInBounds_toArray, List.set_cons_succ, List.set_cons_zero]) | ((refine rd (by rfl) (ex_eqNo rfl rfl rfl he3) ?_); simp only [Act.put, List.setIfInBounds_toArray, List.set_cons_succ, List.set_cons_zero])))
        go_ret
        exact ⟨by rw [unhide HV]; rfl, (unhide LL).fr.below⟩
end Go.Proofs.YtmpdhmdmfmgamaaDoor
