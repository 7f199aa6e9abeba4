import Derived.Test.YtkpfikeggleenaaGreatDoorYn
namespace Go.Proofs.YtkpfikeggleenaaGreatDoor
open Go Go.Proofs Go.Maps Go.RowKit
set_option linter.unusedSimpArgs false
set_option linter.unusedVariables false
set_option maxHeartbeats 1000000
theorem idx68 (w : World) : (sizeOf (Tryz.prog.elem 39)).run Tryz.prog w = .ok 6 w := by kernel_rfl
theorem und68 : Tryz.prog.underlying 39 = some (.slice (Tryz.prog.elem 39)) := by kernel_rfl
theorem row88 : ∃ d, Tryz.prog.underlying 81 = some d ∧ d.isRow = true := ⟨_, Tryz.underlying81, rfl⟩
theorem siz88 : (Tryz.prog.info? 81).map (·.size) = some 6 := by kernel_rfl
set_option maxRecDepth 100000 in
theorem has_out (R : RF) (i : Int) (w : World) (hR : R.Is w) (h : i < 1 ∨ (R.l.length : Int) < i) : Calls Tryz.prog 45 #[.pointer (some ⟨R.r, 0, none⟩), .int .i64 i] w fun e w' => e = .returned (.bool false) ∧ w' = w := by
  have HR := hide hR
  obtain ⟨A, c, hv⟩ := hR.own.form
  obtain ⟨r, sv, l⟩ := R
  dsimp only at *
  subst hv
  clear hR
  by_cases h0 : (1 : Int) ≤ i
  · have h1 : decide ((1 : Int) ≤ i) = true := decide_eq_true h0
    have h2 : decide (i ≤ (l.length : Int)) = false := decide_eq_false (by omega)
    clear h h0
    go_enter Tryz.func45, Tryz.ntmps45
    go_wp2_with (first | go_skip | ((with_reducible show wpList _ _ _ _ _ _); first | ((refine rd (by rfl) (ex_load1 39 Tryz.isAgg39 rfl rfl ((unhide HR).hold) rfl) ?_); simp only [Act.put, List.setIfInBounds_toArray, List.set_cons_succ, List.set_cons_zero]) | ((refine rd (by rfl) (ex_lenG 39 81 Tryz.underlying39 rfl rfl) ?_); simp only [Act.put, List.setIfInBounds_toArray, List.set_cons_succ, List.set_cons_zero])))
    go_ret
    exact ⟨rfl, rfl⟩
  · have h1 : decide ((1 : Int) ≤ i) = false := decide_eq_false h0
    clear h h0
    go_enter Tryz.func45, Tryz.ntmps45
    go_wp2_with (first | go_skip | ((with_reducible show wpList _ _ _ _ _ _); first | ((refine rd (by rfl) (ex_load1 39 Tryz.isAgg39 rfl rfl ((unhide HR).hold) rfl) ?_); simp only [Act.put, List.setIfInBounds_toArray, List.set_cons_succ, List.set_cons_zero]) | ((refine rd (by rfl) (ex_lenG 39 81 Tryz.underlying39 rfl rfl) ?_); simp only [Act.put, List.setIfInBounds_toArray, List.set_cons_succ, List.set_cons_zero])))
    go_ret
    exact ⟨rfl, rfl⟩
set_option maxRecDepth 100000 in
theorem has_in (R : RF) (j : Nat) (w : World) (hR : R.Is w) (h : j < R.l.length) : Calls Tryz.prog 45 #[.pointer (some ⟨R.r, 0, none⟩), .int .i64 ((j + 1 : Nat) : Int)] w fun e w' => e = .returned (.bool true) ∧ w' = w := by
  have HR := hide hR
  obtain ⟨A, c, hv⟩ := hR.own.form
  obtain ⟨r, sv, l⟩ := R
  dsimp only at *
  subst hv
  clear hR
  have h1 : decide ((1 : Int) ≤ ((j + 1 : Nat) : Int)) = true := decide_eq_true (by omega)
  have h2 : decide (((j + 1 : Nat) : Int) ≤ (l.length : Int)) = true := decide_eq_true (by omega)
  clear h
  generalize ((j + 1 : Nat) : Int) = J at *
  go_enter Tryz.func45, Tryz.ntmps45
  go_wp2_with (first | go_skip | ((with_reducible show wpList _ _ _ _ _ _); first | ((refine rd (by rfl) (ex_load1 39 Tryz.isAgg39 rfl rfl ((unhide HR).hold) rfl) ?_); simp only [Act.put, List.setIfInBounds_toArray, List.set_cons_succ, List.set_cons_zero]) | ((refine rd (by rfl) (ex_lenG 39 81 Tryz.underlying39 rfl rfl) ?_); simp only [Act.put, List.setIfInBounds_toArray, List.set_cons_succ, List.set_cons_zero])))
  go_ret
  exact ⟨rfl, rfl⟩
set_option maxRecDepth 100000 in
theorem refKeyFor_out (R : RF) (i : Int) (w : World) (hR : R.Is w) (h : i < 1 ∨ (R.l.length : Int) < i) : Calls Tryz.prog 24 #[.pointer (some ⟨R.r, 0, none⟩), .int .i64 i] w fun e w' => e = .returned (.tuple #[.string ⟨#[]⟩, .bool false, .int .i64 7]) ∧ Below w.heap.size w w' := by
  have HC := hide (has_out R i w hR h)
  clear hR h
  go_enter Tryz.func24, Tryz.ntmps24
  go_wp2_with fail
  refine (unhide HC).mono ?_
  rintro e X0 ⟨rfl, h9⟩
  rw [h9]
  clear h9 X0
  go_wp2
  exact ret_t3 rfl rfl rfl rfl rfl ⟨rfl, Below.refl _ _⟩
set_option maxRecDepth 100000 in
theorem refKeyFor_in (R : RF) (j : Nat) (y : SY) (w : World) (hR : R.Is w) (hy : R.l[j]? = some y) (hl : R.l.length ≤ 100000) (hk : y.k = false) : Calls Tryz.prog 24 #[.pointer (some ⟨R.r, 0, none⟩), .int .i64 ((j + 1 : Nat) : Int)] w fun e w' => e = .returned (.tuple #[.string ⟨#[]⟩, .bool false, .int .i64 0]) ∧ Below w.heap.size w w' := by
  have HC := hide (has_in R j w hR (List.getElem?_eq_some_iff.1 hy).1)
  have HR := hide hR
  obtain ⟨hj, hy⟩ := List.getElem?_eq_some_iff.1 hy
  obtain ⟨g, c, hv, -⟩ := hR.own.row j hj
  obtain ⟨r, sv, l⟩ := R
  dsimp only at *
  subst hv
  change j < l.length at hj
  change l[j] = y at hy
  have HJ := hide hj
  have HJ2 : Hid (j < 1000000) := hide (by omega)
  have HG : Hid (∀ X, Fr w X [] → X.rangeAt g (j * 6) y.cs) := by rw [← hy]; exact (fun X (hX : Fr w X []) => by have := (OwnS.row' ((unhide HR).fr hX (by simp)).own j hj); rwa [Nat.zero_add] at this)
  clear hj hy hl hR
  obtain ⟨J, hJ⟩ : ∃ J : Int, J = ((j + 1 : Nat) : Int) := ⟨_, rfl⟩
  have HJ3 := hide hJ
  rw [← hJ] at HC ⊢
  clear hJ
  obtain ⟨v, k⟩ := y
  dsimp only at *
  subst hk
  go_enter Tryz.func24, Tryz.ntmps24
  go_wp2_with fail
  refine (unhide HC).mono ?_
  rintro e X0 ⟨rfl, h9⟩
  rw [h9]
  clear h9 X0
  go_wp2_with (first | go_skip | ((with_reducible show wpList _ _ _ _ _ _); first | ((refine rd (by rfl) (ex_load1 39 Tryz.isAgg39 rfl rfl ((unhide HR).hold) rfl) ?_); simp only [Act.put, List.setIfInBounds_toArray, List.set_cons_succ, List.set_cons_zero]) | ((refine rd (by rfl) (ex_lenG 39 81 Tryz.underlying39 rfl rfl) ?_); simp only [Act.put, List.setIfInBounds_toArray, List.set_cons_succ, List.set_cons_zero]) | ((refine rd (by rfl) (ex_sub1 rfl (congrArg _ (unhide HJ3)) rfl (unhide HJ2)) ?_); simp only [Act.put, List.setIfInBounds_toArray, List.set_cons_succ, List.set_cons_zero]) | ((refine rd (by rfl) (ex_indexG 39 6 j und68 idx68 rfl rfl rfl (unhide HJ)) ?_); simp only [Act.put, List.setIfInBounds_toArray, List.set_cons_succ, List.set_cons_zero]) | ((refine rd (by rfl) (ex_loadC 4 Tryz.isAgg4 rfl rfl (unhide HG _ (Fr.refl _ _) 5 _ rfl)) ?_); simp only [Act.put, List.setIfInBounds_toArray, List.set_cons_succ, List.set_cons_zero])))
  exact ret_t3 rfl rfl rfl rfl rfl ⟨rfl, Below.refl _ _⟩
set_option maxRecDepth 100000 in
theorem refDesc_out (R : RF) (i : Int) (w : World) (hR : R.Is w) (h : i < 1 ∨ (R.l.length : Int) < i) : Calls Tryz.prog 26 #[.pointer (some ⟨R.r, 0, none⟩), .int .i64 i] w fun e w' => e = .returned (.tuple #[zeroV.agg, .int .i64 7]) ∧ Below w.heap.size w w' := by
  have LL := hide (Hq.nil w [])
  have HC := hide (fun X (hX : Fr w X []) => has_out R i X (hR.fr hX (by simp)) h)
  rw [vagg]
  clear hR h
  go_enter Tryz.func26, Tryz.ntmps26
  go_wp2_with (first | go_skip | ((with_reducible show wpList _ _ _ _ _ _); first | ((refine alG 35 (zeroV.cs) (by rfl) rfl (fun w => by kernel_rfl) (Nat.succ_pos _) (unhide LL) ?_); intro X2 B2 hE2 L2 hb2; have hB2 := hide (Nat.le_trans (unhide LL).fr.size (Nat.le_of_eq hE2.symm)); replace LL := hide L2; clear L2 hb2 hE2; simp only [Act.put, List.setIfInBounds_toArray, List.set_cons_succ, List.set_cons_zero])))
  refine (unhide HC _ (unhide LL).fr).mono ?_
  rintro e X0 ⟨rfl, h9⟩
  rw [h9]
  clear h9 X0
  go_wp2_with (first | go_skip | ((with_reducible show wpList _ _ _ _ _ _); first | ((refine rd (by rfl) (ex_build44z rfl) ?_); simp only [Act.put, List.setIfInBounds_toArray, List.set_cons_succ, List.set_cons_zero]) | ((refine st (vs := zeroV.cs) 0 35 (by rfl) rfl rfl rfl rfl (vcs_one _) (siz44) (unhide LL) rfl (by simp [cput, ycs_length, vcs_length, SY.cs, VV.cs]) (Or.inr (unhide hB2)) ?_); intro X4 L4 hf4 hs4; replace LL := hide L4; clear L4 hf4 hs4; simp only [Act.put, List.setIfInBounds_toArray, List.set_cons_succ, List.set_cons_zero])))
  exact ret_ct row44 siz44 rfl rfl rfl rfl ((unhide LL).get 0 rfl) rfl ⟨rfl, (unhide LL).fr.below⟩
set_option maxRecDepth 100000 in
theorem refDesc_in (R : RF) (j : Nat) (y : SY) (w : World) (hR : R.Is w) (hy : R.l[j]? = some y) (hl : R.l.length ≤ 100000) : Calls Tryz.prog 26 #[.pointer (some ⟨R.r, 0, none⟩), .int .i64 ((j + 1 : Nat) : Int)] w fun e w' => e = .returned (.tuple #[y.v.agg, .int .i64 0]) ∧ Below w.heap.size w w' := by
  have LL := hide (Hq.nil w [])
  have HC := hide (fun X (hX : Fr w X []) => has_in R j X (hR.fr hX (by simp)) (List.getElem?_eq_some_iff.1 hy).1)
  have HR := hide hR
  obtain ⟨hj, hy⟩ := List.getElem?_eq_some_iff.1 hy
  obtain ⟨g, c, hv, -⟩ := hR.own.row j hj
  obtain ⟨r, sv, l⟩ := R
  dsimp only at *
  subst hv
  change j < l.length at hj
  change l[j] = y at hy
  have HJ := hide hj
  have HJ2 : Hid (j < 1000000) := hide (by omega)
  have HG : Hid (∀ X, Fr w X [] → X.rangeAt g (j * 6) y.cs) := by rw [← hy]; exact (fun X (hX : Fr w X []) => by have := (OwnS.row' ((unhide HR).fr hX (by simp)).own j hj); rwa [Nat.zero_add] at this)
  clear hj hy hl hR
  obtain ⟨J, hJ⟩ : ∃ J : Int, J = ((j + 1 : Nat) : Int) := ⟨_, rfl⟩
  have HJ3 := hide hJ
  rw [← hJ] at HC ⊢
  clear hJ
  rw [vagg]
  go_enter Tryz.func26, Tryz.ntmps26
  go_wp2_with (first | go_skip | ((with_reducible show wpList _ _ _ _ _ _); first | ((refine alG 35 (zeroV.cs) (by rfl) rfl (fun w => by kernel_rfl) (Nat.succ_pos _) (unhide LL) ?_); intro X2 B2 hE2 L2 hb2; have hB2 := hide (Nat.le_trans (unhide LL).fr.size (Nat.le_of_eq hE2.symm)); replace LL := hide L2; clear L2 hb2 hE2; simp only [Act.put, List.setIfInBounds_toArray, List.set_cons_succ, List.set_cons_zero])))
  refine (unhide HC _ (unhide LL).fr).mono ?_
  rintro e X0 ⟨rfl, h9⟩
  rw [h9]
  clear h9 X0
  go_wp2_with (first | go_skip | ((with_reducible show wpList _ _ _ _ _ _); first | ((refine rd (by rfl) (ex_load1 39 Tryz.isAgg39 rfl rfl (((unhide HR).fr (unhide LL).fr (by simp)).hold) rfl) ?_); simp only [Act.put, List.setIfInBounds_toArray, List.set_cons_succ, List.set_cons_zero]) | ((refine rd (by rfl) (ex_lenG 39 81 Tryz.underlying39 rfl rfl) ?_); simp only [Act.put, List.setIfInBounds_toArray, List.set_cons_succ, List.set_cons_zero]) | ((refine rd (by rfl) (ex_sub1 rfl (congrArg _ (unhide HJ3)) rfl (unhide HJ2)) ?_); simp only [Act.put, List.setIfInBounds_toArray, List.set_cons_succ, List.set_cons_zero]) | ((refine rd (by rfl) (ex_indexG 39 6 j und68 idx68 rfl rfl rfl (unhide HJ)) ?_); simp only [Act.put, List.setIfInBounds_toArray, List.set_cons_succ, List.set_cons_zero]) | ((refine rd (by rfl) (ex_loadR (vs := y.v.cs) 35 5 row44 siz44 rfl rfl (range_left (unhide HG _ (unhide LL).fr)) (vcs_length _)) ?_); simp only [Act.put, List.setIfInBounds_toArray, List.set_cons_succ, List.set_cons_zero]) | ((refine st (vs := y.v.cs) 0 35 (by rfl) rfl rfl rfl rfl (vcs_one _) (siz44) (unhide LL) rfl (by simp [cput, ycs_length, vcs_length, SY.cs, VV.cs]) (Or.inr (unhide hB2)) ?_); intro X4 L4 hf4 hs4; replace LL := hide L4; clear L4 hf4 hs4; simp only [Act.put, List.setIfInBounds_toArray, List.set_cons_succ, List.set_cons_zero])))
  exact ret_ct row44 siz44 rfl rfl rfl rfl ((unhide LL).get 0 rfl) rfl ⟨rfl, (unhide LL).fr.below⟩
set_option maxRecDepth 100000 in
theorem refText_out (R : RF) (i : Int) (w : World) (hR : R.Is w) (h : i < 1 ∨ (R.l.length : Int) < i) : Calls Tryz.prog 28 #[.pointer (some ⟨R.r, 0, none⟩), .int .i64 i] w fun e w' => e = .returned (.tuple #[.string ⟨#[]⟩, .int .i64 7]) ∧ Below w.heap.size w w' := by
  have HC := hide (has_out R i w hR h)
  clear hR h
  go_enter Tryz.func28, Tryz.ntmps28
  go_wp2_with fail
  refine (unhide HC).mono ?_
  rintro e X0 ⟨rfl, h9⟩
  rw [h9]
  clear h9 X0
  go_wp2
  go_ret2
  exact ⟨rfl, Below.refl _ _⟩
set_option maxRecDepth 100000 in
theorem refText_in (R : RF) (j : Nat) (y : SY) (w : World) (hR : R.Is w) (hy : R.l[j]? = some y) (hl : R.l.length ≤ 100000) (hs : y.v.s.size ≤ 1000) : Calls Tryz.prog 28 #[.pointer (some ⟨R.r, 0, none⟩), .int .i64 ((j + 1 : Nat) : Int)] w fun e w' => e = .returned (.tuple #[.string (wordsS y.v.s), .int .i64 0]) ∧ Below w.heap.size w w' := by
  have HC := hide (has_in R j w hR (List.getElem?_eq_some_iff.1 hy).1)
  have HR := hide hR
  obtain ⟨hj, hy⟩ := List.getElem?_eq_some_iff.1 hy
  obtain ⟨g, c, hv, -⟩ := hR.own.row j hj
  obtain ⟨r, sv, l⟩ := R
  dsimp only at *
  subst hv
  change j < l.length at hj
  change l[j] = y at hy
  have HJ := hide hj
  have HJ2 : Hid (j < 1000000) := hide (by omega)
  have HG : Hid (∀ X, Fr w X [] → X.rangeAt g (j * 6) y.cs) := by rw [← hy]; exact (fun X (hX : Fr w X []) => by have := (OwnS.row' ((unhide HR).fr hX (by simp)).own j hj); rwa [Nat.zero_add] at this)
  clear hj hy hl hR
  obtain ⟨J, hJ⟩ : ∃ J : Int, J = ((j + 1 : Nat) : Int) := ⟨_, rfl⟩
  have HJ3 := hide hJ
  rw [← hJ] at HC ⊢
  clear hJ
  have HZ : Hid (sym7.size + y.v.s.size ≤ 100000) := hide (by have : sym7.size = 7 := rfl; omega)
  have HZ2 : Hid ((sym7 ++ y.v.s).size + par1.size ≤ 100000) := hide (by have : sym7.size = 7 := rfl; have : par1.size = 1 := rfl; rw [ByteArray.size_append]; omega)
  have w3 : decide ((1048576 : Int) < (((sym7 ++ y.v.s ++ par1).size : Nat) : Int)) = false := decide_eq_false (by have : sym7.size = 7 := rfl; have : par1.size = 1 := rfl; rw [ByteArray.size_append, ByteArray.size_append]; omega)
  clear hs
  unfold wordsS
  generalize hW : sym7 ++ y.v.s ++ par1 = W at *
  have HW := hide hW
  clear hW
  go_enter Tryz.func28, Tryz.ntmps28
  go_wp2_with fail
  refine (unhide HC).mono ?_
  rintro e X0 ⟨rfl, h9⟩
  rw [h9]
  clear h9 X0
  go_wp2_with (first | go_skip | ((with_reducible show wpList _ _ _ _ _ _); first | ((refine rd (by rfl) (ex_load1 39 Tryz.isAgg39 rfl rfl ((unhide HR).hold) rfl) ?_); simp only [Act.put, List.setIfInBounds_toArray, List.set_cons_succ, List.set_cons_zero]) | ((refine rd (by rfl) (ex_lenG 39 81 Tryz.underlying39 rfl rfl) ?_); simp only [Act.put, List.setIfInBounds_toArray, List.set_cons_succ, List.set_cons_zero]) | ((refine rd (by rfl) (ex_sub1 rfl (congrArg _ (unhide HJ3)) rfl (unhide HJ2)) ?_); simp only [Act.put, List.setIfInBounds_toArray, List.set_cons_succ, List.set_cons_zero]) | ((refine rd (by rfl) (ex_indexG 39 6 j und68 idx68 rfl rfl rfl (unhide HJ)) ?_); simp only [Act.put, List.setIfInBounds_toArray, List.set_cons_succ, List.set_cons_zero]) | ((refine rd (by rfl) (ex_loadC 9 Tryz.isAgg9 rfl rfl (unhide HG _ (Fr.refl _ _) 3 _ rfl)) ?_); simp only [Act.put, List.setIfInBounds_toArray, List.set_cons_succ, List.set_cons_zero]) | ((refine rd (by rfl) (ex_cat (s := sym7) rfl rfl rfl (unhide HZ)) ?_); simp only [Act.put, List.setIfInBounds_toArray, List.set_cons_succ, List.set_cons_zero]) | ((refine rd (by rfl) ((ex_cat (s := sym7 ++ y.v.s) (t := par1) rfl rfl rfl (unhide HZ2)).trans (by rw [unhide HW])) ?_); simp only [Act.put, List.setIfInBounds_toArray, List.set_cons_succ, List.set_cons_zero])))
  go_ret2
  exact ⟨rfl, Below.refl _ _⟩
set_option maxRecDepth 100000 in
theorem refKnown_0 (R : RF) (w : World) (hR : R.Is w) (hk : ∀ y ∈ R.l, y.k = false) (hl : R.l.length ≤ 100000) : Calls Tryz.prog 20 #[.pointer (some ⟨R.r, 0, none⟩)] w fun e w' => e = .returned (.slice none 0 0) ∧ Below w.heap.size w w' := by
  have HR := hide hR
  obtain ⟨A, c, hv⟩ := hR.own.form
  obtain ⟨r, sv, l⟩ := R
  dsimp only at *
  subst hv
  have HK := hide hk
  have HL := hide hl
  clear hR hk hl
  go_enter Tryz.func20, Tryz.ntmps20
  go_wp2_with fail
  go_loopg [3, 4] l.length (fun gm s3 s4 wr => ∃ i : Nat, s3 = .slice none 0 0 ∧ s4 = .int .i64 i ∧ i ≤ l.length ∧ l.length - i ≤ gm ∧ wr = w)
  case atStart => exact ⟨0, rfl, rfl, by omega, by omega, rfl⟩
  case round =>
    obtain ⟨i, rfl, rfl, hi, hgm, hwr⟩ := hrel
    subst hwr
    by_cases hlt : i < l.length
    · have hlz : decide ((i : Int) < (l.length : Int)) = true := decide_eq_true (by omega)
      have hw1 : IntKind.i64.wrap ((i : Int) + 1) = (i : Int) + 1 := by have := unhide HL; rw [IntKind.wrap_i64]; omega
      obtain ⟨g, c2, hv, -⟩ := (unhide HR).own.row i hlt
      cases hv
      have hkk := unhide HK l[i] (List.getElem_mem _)
      obtain ⟨y, hy⟩ : ∃ y, y = l[i] := ⟨_, rfl⟩
      have HG : Hid (wr.rangeAt g (i * 6) y.cs) := hide (by rw [hy]; have := OwnS.row' (unhide HR).own i hlt; rwa [Nat.zero_add] at this)
      rw [← hy] at hkk
      have HLT := hide hlt
      obtain ⟨v, k⟩ := y
      dsimp only at hkk
      subst hkk
      clear hy hlt
      go_wp2_with (first | go_skip | ((with_reducible show wpList _ _ _ _ _ _); first | ((refine rd (by rfl) (ex_load1 39 Tryz.isAgg39 rfl rfl ((unhide HR).hold) rfl) ?_); simp only [Act.put, List.setIfInBounds_toArray, List.set_cons_succ, List.set_cons_zero]) | ((refine rd (by rfl) (ex_lenG 39 81 Tryz.underlying39 rfl rfl) ?_); simp only [Act.put, List.setIfInBounds_toArray, List.set_cons_succ, List.set_cons_zero]) | ((refine rd (by rfl) (ex_indexG 39 6 i und68 idx68 rfl rfl rfl (unhide HLT)) ?_); simp only [Act.put, List.setIfInBounds_toArray, List.set_cons_succ, List.set_cons_zero]) | ((refine rd (by rfl) (ex_loadC 4 Tryz.isAgg4 rfl rfl (unhide HG 5 _ rfl)) ?_); simp only [Act.put, List.setIfInBounds_toArray, List.set_cons_succ, List.set_cons_zero])))
      go_roundg (l.length - (i + 1))
      case measure => have := unhide HLT; omega
      case rel => exact ⟨i + 1, rfl, by go_num, by have := unhide HLT; omega, by omega, rfl⟩
    · have hil : i = l.length := by omega
      subst hil
      clear hlt hgm hi
      go_wp2_with (first | go_skip | ((with_reducible show wpList _ _ _ _ _ _); first | ((refine rd (by rfl) (ex_load1 39 Tryz.isAgg39 rfl rfl ((unhide HR).hold) rfl) ?_); simp only [Act.put, List.setIfInBounds_toArray, List.set_cons_succ, List.set_cons_zero]) | ((refine rd (by rfl) (ex_lenG 39 81 Tryz.underlying39 rfl rfl) ?_); simp only [Act.put, List.setIfInBounds_toArray, List.set_cons_succ, List.set_cons_zero])))
      go_ret
      exact ⟨rfl, Below.refl _ _⟩
set_option maxRecDepth 100000 in
theorem same28 (A B : Option Addr) (c d : Nat) (w : World) : Calls Tryz.prog 22 #[.slice A 0 c, .slice B 0 d] w fun e w' => e = .returned (.bool true) ∧ Below w.heap.size w w' := by
  go_enter Tryz.func22, Tryz.ntmps22
  go_wp2_with (first | go_skip | ((with_reducible show wpList _ _ _ _ _ _); first | ((refine rd (by rfl) (ex_lenG 53 9 Tryz.underlying53 rfl rfl) ?_); simp only [Act.put, List.setIfInBounds_toArray, List.set_cons_succ, List.set_cons_zero])))
  go_loopg [5] 1 (fun gm s5 wr => s5 = .int .i64 0 ∧ wr = w)
  case atStart => exact ⟨rfl, rfl⟩
  case round =>
    obtain ⟨rfl, hwr⟩ := hrel
    subst hwr
    go_wp2_with (first | go_skip | ((with_reducible show wpList _ _ _ _ _ _); first | ((refine rd (by rfl) (ex_lenG 53 9 Tryz.underlying53 rfl rfl) ?_); simp only [Act.put, List.setIfInBounds_toArray, List.set_cons_succ, List.set_cons_zero])))
    go_ret
    exact ⟨rfl, Below.refl _ _⟩
end Go.Proofs.YtkpfikeggleenaaGreatDoor
