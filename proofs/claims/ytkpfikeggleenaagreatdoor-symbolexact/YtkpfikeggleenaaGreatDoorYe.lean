import Derived.Test.YtkpfikeggleenaaGreatDoorYd
namespace Go.Proofs.YtkpfikeggleenaaGreatDoor
open Go Go.Proofs Go.Maps Go.RowKit
set_option linter.unusedSimpArgs false
set_option linter.unusedVariables false
set_option maxHeartbeats 1000000
set_option maxRecDepth 100000 in
theorem at_out (R : RG) (i : Int) (w : World) {n sz : Nat} {F : ByteArray → Option Nat} (hR : R.Is w n sz F) (h : i < 1 ∨ (R.l.length : Int) < i) : Calls Tryz.prog 44 #[.pointer (some ⟨R.r, 0, none⟩), .int .i64 i] w fun e w' => e = .returned (.tuple #[zeroY.agg, .int .i64 7]) ∧ Below w.heap.size w w' := by
  have HR := hide hR
  obtain ⟨A, c, hv⟩ := hR.own.form
  obtain ⟨r, m, sv, l⟩ := R
  dsimp only at *
  subst hv
  have LL := hide (Hq.nil w [])
  clear hR
  rcases h with h | h
  · have h1 : decide (i < 1) = true := decide_eq_true h
    clear h
    go_enter Tryz.func44, Tryz.ntmps44
    go_wp2_with (first | go_skip | ((with_reducible show wpList _ _ _ _ _ _); first | ((refine alG 77 (zeroY.cs) (by rfl) rfl (fun w => by kernel_rfl) (Nat.succ_pos _) (unhide LL) ?_); intro X1 B1 hE1 L1 hb1; have hB1 := hide (Nat.le_trans (unhide LL).fr.size (Nat.le_of_eq hE1.symm)); replace LL := hide L1; clear L1 hb1 hE1; simp only [Act.put, List.setIfInBounds_toArray, List.set_cons_succ, List.set_cons_zero]) | ((refine st (vs := zeroY.cs) 0 77 (by rfl) rfl rfl rfl rfl (ycs_one zeroY) (siz77) (unhide LL) rfl (by simp [cput, ycs_length, vcs_length, SY.cs, VV.cs]) (Or.inr (unhide hB1)) ?_); intro X2 L2 hf2 hs2; replace LL := hide L2; clear L2 hf2 hs2; simp only [Act.put, List.setIfInBounds_toArray, List.set_cons_succ, List.set_cons_zero])))
    exact ret_ct row77 siz77 rfl rfl rfl rfl ((unhide LL).get 0 rfl) rfl ⟨rfl, (unhide LL).fr.below⟩
  · by_cases h0 : i < 1
    · have h1 : decide (i < 1) = true := decide_eq_true h0
      clear h h0
      go_enter Tryz.func44, Tryz.ntmps44
      go_wp2_with (first | go_skip | ((with_reducible show wpList _ _ _ _ _ _); first | ((refine alG 77 (zeroY.cs) (by rfl) rfl (fun w => by kernel_rfl) (Nat.succ_pos _) (unhide LL) ?_); intro X1 B1 hE1 L1 hb1; have hB1 := hide (Nat.le_trans (unhide LL).fr.size (Nat.le_of_eq hE1.symm)); replace LL := hide L1; clear L1 hb1 hE1; simp only [Act.put, List.setIfInBounds_toArray, List.set_cons_succ, List.set_cons_zero]) | ((refine st (vs := zeroY.cs) 0 77 (by rfl) rfl rfl rfl rfl (ycs_one zeroY) (siz77) (unhide LL) rfl (by simp [cput, ycs_length, vcs_length, SY.cs, VV.cs]) (Or.inr (unhide hB1)) ?_); intro X2 L2 hf2 hs2; replace LL := hide L2; clear L2 hf2 hs2; simp only [Act.put, List.setIfInBounds_toArray, List.set_cons_succ, List.set_cons_zero])))
      exact ret_ct row77 siz77 rfl rfl rfl rfl ((unhide LL).get 0 rfl) rfl ⟨rfl, (unhide LL).fr.below⟩
    · have h1 : decide (i < 1) = false := decide_eq_false h0
      have h2 : decide ((l.length : Int) < i) = true := decide_eq_true h
      clear h h0
      go_enter Tryz.func44, Tryz.ntmps44
      go_wp2_with (first | go_skip | ((with_reducible show wpList _ _ _ _ _ _); first | ((refine alG 77 (zeroY.cs) (by rfl) rfl (fun w => by kernel_rfl) (Nat.succ_pos _) (unhide LL) ?_); intro X1 B1 hE1 L1 hb1; have hB1 := hide (Nat.le_trans (unhide LL).fr.size (Nat.le_of_eq hE1.symm)); replace LL := hide L1; clear L1 hb1 hE1; simp only [Act.put, List.setIfInBounds_toArray, List.set_cons_succ, List.set_cons_zero]) | ((refine rd (by rfl) (ex_load1 71 Tryz.isAgg71 rfl rfl (((unhide HR).fr (unhide LL).fr (by simp)).hold) rfl) ?_); simp only [Act.put, List.setIfInBounds_toArray, List.set_cons_succ, List.set_cons_zero]) | ((refine rd (by rfl) (ex_lenG 71 77 Tryz.underlying71 rfl rfl) ?_); simp only [Act.put, List.setIfInBounds_toArray, List.set_cons_succ, List.set_cons_zero]) | ((refine st (vs := zeroY.cs) 0 77 (by rfl) rfl rfl rfl rfl (ycs_one zeroY) (siz77) (unhide LL) rfl (by simp [cput, ycs_length, vcs_length, SY.cs, VV.cs]) (Or.inr (unhide hB1)) ?_); intro X2 L2 hf2 hs2; replace LL := hide L2; clear L2 hf2 hs2; simp only [Act.put, List.setIfInBounds_toArray, List.set_cons_succ, List.set_cons_zero])))
      exact ret_ct row77 siz77 rfl rfl rfl rfl ((unhide LL).get 0 rfl) rfl ⟨rfl, (unhide LL).fr.below⟩
theorem idx72 (w : World) : (sizeOf (Tryz.prog.elem 71)).run Tryz.prog w = .ok 6 w := by kernel_rfl
theorem und72 : Tryz.prog.underlying 71 = some (.slice (Tryz.prog.elem 71)) := by kernel_rfl
set_option maxRecDepth 100000 in
theorem at_in (R : RG) (j : Nat) (y : SY) (w : World) {n sz : Nat} {F : ByteArray → Option Nat} (hR : R.Is w n sz F) (hy : R.l[j]? = some y) (hl : R.l.length ≤ 100000) : Calls Tryz.prog 44 #[.pointer (some ⟨R.r, 0, none⟩), .int .i64 ((j + 1 : Nat) : Int)] w fun e w' => e = .returned (.tuple #[y.agg, .int .i64 0]) ∧ Below w.heap.size w w' := by
  have HR := hide hR
  obtain ⟨hj, hy⟩ := List.getElem?_eq_some_iff.1 hy
  obtain ⟨g, c, hv, -⟩ := hR.own.row j hj
  obtain ⟨r, m, sv, l⟩ := R
  dsimp only at *
  subst hv
  have LL := hide (Hq.nil w [])
  change j < l.length at hj
  change l[j] = y at hy
  have h1 : decide (((j + 1 : Nat) : Int) < 1) = false := decide_eq_false (by omega)
  have h2 : decide ((l.length : Int) < ((j + 1 : Nat) : Int)) = false := decide_eq_false (by omega)
  have HJ := hide hj
  have HJ2 : Hid (j < 1000000) := hide (by omega)
  have HY := hide hy
  clear hR hl
  have HG : Hid (∀ X, Fr w X [] → X.rangeAt g (0 + j * 6) y.cs) := by rw [← hy]; exact (fun X (hX : Fr w X []) => (OwnS.row' ((unhide HR).fr hX (by simp)).own j hj))
  clear hj hy HY
  obtain ⟨J, hJ⟩ : ∃ J : Int, J = ((j + 1 : Nat) : Int) := ⟨_, rfl⟩
  have HJ3 := hide hJ
  rw [← hJ] at h1 h2 ⊢
  clear hJ
  go_enter Tryz.func44, Tryz.ntmps44
  go_wp2_with (first | go_skip | ((with_reducible show wpList _ _ _ _ _ _); first | ((refine alG 77 (zeroY.cs) (by rfl) rfl (fun w => by kernel_rfl) (Nat.succ_pos _) (unhide LL) ?_); intro X1 B1 hE1 L1 hb1; have hB1 := hide (Nat.le_trans (unhide LL).fr.size (Nat.le_of_eq hE1.symm)); replace LL := hide L1; clear L1 hb1 hE1; simp only [Act.put, List.setIfInBounds_toArray, List.set_cons_succ, List.set_cons_zero]) | ((refine rd (by rfl) (ex_load1 71 Tryz.isAgg71 rfl rfl (((unhide HR).fr (unhide LL).fr (by simp)).hold) rfl) ?_); simp only [Act.put, List.setIfInBounds_toArray, List.set_cons_succ, List.set_cons_zero]) | ((refine rd (by rfl) (ex_lenG 71 77 Tryz.underlying71 rfl rfl) ?_); simp only [Act.put, List.setIfInBounds_toArray, List.set_cons_succ, List.set_cons_zero]) | ((refine rd (by rfl) (ex_sub1 rfl (congrArg _ (unhide HJ3)) rfl (unhide HJ2)) ?_); simp only [Act.put, List.setIfInBounds_toArray, List.set_cons_succ, List.set_cons_zero]) | ((refine rd (by rfl) (ex_indexG 71 6 j und72 idx72 rfl rfl rfl (unhide HJ)) ?_); simp only [Act.put, List.setIfInBounds_toArray, List.set_cons_succ, List.set_cons_zero]) | ((refine rd (by rfl) (ex_loadR 77 6 row77 siz77 rfl rfl (unhide HG _ (unhide LL).fr) (ycs_length y)) ?_); simp only [Act.put, List.setIfInBounds_toArray, List.set_cons_succ, List.set_cons_zero]) | ((refine st (vs := y.cs) 0 77 (by rfl) rfl rfl rfl rfl (ycs_one y) (siz77) (unhide LL) rfl (by simp [cput, ycs_length, vcs_length, SY.cs, VV.cs]) (Or.inr (unhide hB1)) ?_); intro X2 L2 hf2 hs2; replace LL := hide L2; clear L2 hf2 hs2; simp only [Act.put, List.setIfInBounds_toArray, List.set_cons_succ, List.set_cons_zero])))
  exact ret_ct row77 siz77 rfl rfl rfl rfl ((unhide LL).get 0 rfl) rfl ⟨rfl, (unhide LL).fr.below⟩
end Go.Proofs.YtkpfikeggleenaaGreatDoor
