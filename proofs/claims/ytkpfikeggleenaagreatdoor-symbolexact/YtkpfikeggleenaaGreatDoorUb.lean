import Derived.Test.YtkpfikeggleenaaGreatDoorYh
import Derived.Test.YtkpfikeggleenaaGreatDoorYo
import Derived.Test.YtkpfikeggleenaaGreatDoorVe

/-! Xa -/
namespace Go.Proofs.YtkpfikeggleenaaGreatDoor
open Go Go.Proofs Go.Maps Go.RowKit
set_option linter.unusedSimpArgs false
set_option linter.unusedVariables false
set_option maxHeartbeats 1000000
set_option maxRecDepth 100000 in
theorem add_full (R : RG) (y : SY) (w : World) {n sz : Nat} {F : ByteArray → Option Nat} (hR : R.Is w n sz F) (hl : 65536 ≤ R.l.length) : Calls Tryz.prog 34 #[.pointer (some ⟨R.r, 0, none⟩), y.agg] w fun e w' => e = .returned (.tuple #[.int .i64 0, .int .i64 3]) ∧ Below w.heap.size w w' := by
  have HR := hide hR
  obtain ⟨A, c, hv⟩ := hR.own.form
  obtain ⟨r, m, sv, l⟩ := R
  dsimp only at *
  subst hv
  have hlz : decide ((65536 : Int) ≤ (l.length : Int)) = true := decide_eq_true (by omega)
  have LL := hide (Hq.nil w [])
  clear hR hl
  unfold SY.agg
  go_enter Tryz.func34, Tryz.ntmps34
  go_wp2_with (first | go_skip | ((with_reducible show wpList _ _ _ _ _ _); first | ((refine bx 77 (y.cs) (by rfl) rfl rfl rfl (Nat.succ_pos _) (unhide LL) ?_); intro X1 B1 hE1 L1 hb1; have hB1 := hide (Nat.le_trans (unhide LL).fr.size (Nat.le_of_eq hE1.symm)); replace LL := hide L1; clear L1 hb1 hE1; simp only [Act.put, List.setIfInBounds_toArray, List.set_cons_succ, List.set_cons_zero]) | ((refine rd (by rfl) (ex_load1 71 Tryz.isAgg71 rfl rfl (((unhide HR).fr (unhide LL).fr (by simp)).hold) rfl) ?_); simp only [Act.put, List.setIfInBounds_toArray, List.set_cons_succ, List.set_cons_zero]) | ((refine rd (by rfl) (ex_lenG 71 77 Tryz.underlying71 rfl rfl) ?_); simp only [Act.put, List.setIfInBounds_toArray, List.set_cons_succ, List.set_cons_zero])))
  go_ret2
  exact ⟨rfl, (unhide LL).fr.below⟩
set_option maxRecDepth 100000 in
theorem make_full (R : RG) (v : VV) (w : World) {n sz : Nat} {F : ByteArray → Option Nat} (hR : R.Is w n sz F) (hT : Tabs w) (hd : desV v = true) (hl : 65536 ≤ R.l.length) : Calls Tryz.prog 11 #[.pointer (some ⟨R.r, 0, none⟩), v.agg] w fun e w' => e = .returned (.tuple #[.int .i64 0, .int .i64 3]) ∧ Below w.heap.size w w' := by
  have LL := hide (Hq.nil w [])
  have HT := hide hT
  have HC := hide (fun X (hX : Tabs X) => describes30 v X hX)
  rw [hd] at HC
  have HA := hide (fun X => anew32 v X (des_size hd))
  have HD := hide (fun X (hX : Fr w X []) => add_full R ⟨v, false⟩ X (hR.fr hX (by simp)) hl)
  unfold SY.agg at HD
  rw [vagg] at *
  clear hR hT hd hl
  go_enter Tryz.func11, Tryz.ntmps11
  go_wp2_with (first | go_skip | ((with_reducible show wpList _ _ _ _ _ _); first | ((refine bx 35 (v.cs) (by rfl) rfl rfl rfl (Nat.succ_pos _) (unhide LL) ?_); intro X1 B1 hE1 L1 hb1; have hB1 := hide (Nat.le_trans (unhide LL).fr.size (Nat.le_of_eq hE1.symm)); replace LL := hide L1; clear L1 hb1 hE1; simp only [Act.put, List.setIfInBounds_toArray, List.set_cons_succ, List.set_cons_zero]) | ((refine rd (by rfl) (ex_loadN (vs := v.cs) 35 5 row44 siz44 rfl rfl ((unhide LL).get 0 rfl) rfl rfl) ?_); simp only [Act.put, List.setIfInBounds_toArray, List.set_cons_succ, List.set_cons_zero])))
  refine (unhide HC _ ((unhide HT).fr (unhide LL).fr (by simp))).mono ?_
  rintro e X0 ⟨rfl, hb⟩
  replace LL := hide ((unhide LL).on hb)
  clear hb
  go_wp2_with (first | go_skip | ((with_reducible show wpList _ _ _ _ _ _); first | ((refine rd (by rfl) (ex_loadN (vs := v.cs) 35 5 row44 siz44 rfl rfl ((unhide LL).get 0 rfl) rfl rfl) ?_); simp only [Act.put, List.setIfInBounds_toArray, List.set_cons_succ, List.set_cons_zero])))
  refine (unhide HA _).mono ?_
  rintro e X2 ⟨rfl, hb⟩
  replace LL := hide ((unhide LL).on hb)
  clear hb
  go_wp2_with (first | go_skip | ((with_reducible show wpList _ _ _ _ _ _); first | ((refine rd (by rfl) (ex_build77 (v := v) rfl rfl) ?_); simp only [Act.put, List.setIfInBounds_toArray, List.set_cons_succ, List.set_cons_zero])))
  refine (unhide HD _ (unhide LL).fr).mono ?_
  rintro e X3 ⟨rfl, hb⟩
  replace LL := hide ((unhide LL).on hb)
  clear hb
  go_wp2
  go_ret2
  exact ⟨rfl, (unhide LL).fr.below⟩
set_option maxRecDepth 100000 in
theorem for_full (R : RG) (s : ByteArray) (w : World) {n sz : Nat} {F : ByteArray → Option Nat} (hR : R.Is w n sz F) (hT : Tabs w) (hg : (sV s).good = true) (hF : F s = none) (hl : 65536 ≤ R.l.length) : Calls Tryz.prog 14 #[.pointer (some ⟨R.r, 0, none⟩), .string s] w fun e w' => e = .returned (.tuple #[.int .i64 0, .int .i64 3]) ∧ Below w.heap.size w w' := by
  have LL := hide (Hq.nil w [])
  have HT := hide hT
  have HR := hide hR
  have HC := hide (fun X (hX : Tabs X) => str_any s X hX.u)
  change Hid (∀ X, Tabs X → Calls Tryz.prog 30 #[.string s] X fun e w' => e = .returned (VV.made (sV s)).agg ∧ Below X.heap.size X w') at HC
  rw [sV_made hg] at HC
  have HK : Hid (OkS s ∧ F s = none) := hide ⟨by have := sV_size hg; unfold OkS maxLen; omega, hF⟩
  have HD := hide (fun X (hX : Fr w X []) => add_full R ⟨sV s, true⟩ X (hR.fr hX (by simp)) hl)
  unfold SY.agg at HD
  clear hR hT hg hF hl
  go_enter Tryz.func14, Tryz.ntmps14
  go_wp2_with fail
  refine (unhide HC _ (unhide HT)).mono ?_
  rintro e X0 ⟨rfl, hb⟩
  replace LL := hide ((unhide LL).on hb)
  clear hb
  rw [vagg]
  go_wp2_with (first | go_skip | ((with_reducible show wpList _ _ _ _ _ _); first | ((refine alG 35 (zeroV.cs) (by rfl) rfl (fun w => by kernel_rfl) (Nat.succ_pos _) (unhide LL) ?_); intro X1 B1 hE1 L1 hb1; have hB1 := hide (Nat.le_trans (unhide LL).fr.size (Nat.le_of_eq hE1.symm)); replace LL := hide L1; clear L1 hb1 hE1; simp only [Act.put, List.setIfInBounds_toArray, List.set_cons_succ, List.set_cons_zero]) | ((refine st (vs := (sV s).cs) 0 35 (by rfl) rfl rfl rfl rfl (vcs_one _) (siz44) (unhide LL) rfl (by simp [cput, ycs_length, vcs_length, SY.cs, VV.cs]) (Or.inr (unhide hB1)) ?_); intro X2 L2 hf2 hs2; replace LL := hide L2; clear L2 hf2 hs2; simp only [Act.put, List.setIfInBounds_toArray, List.set_cons_succ, List.set_cons_zero]) | ((refine rd (by rfl) (ex_load1 3 Tryz.isAgg3 rfl rfl ((unhide LL).get 0 rfl) rfl) ?_); simp only [Act.put, List.setIfInBounds_toArray, List.set_cons_succ, List.set_cons_zero]) | ((refine rd (by rfl) (ex_loadN (vs := (sV s).cs) 35 5 row44 siz44 rfl rfl ((unhide LL).get 0 rfl) rfl rfl) ?_); simp only [Act.put, List.setIfInBounds_toArray, List.set_cons_succ, List.set_cons_zero]) | ((refine rd (by rfl) (ex_load1 70 Tryz.isAgg70 rfl rfl (((unhide HR).fr (unhide LL).fr (by simp)).hold) rfl) ?_); simp only [Act.put, List.setIfInBounds_toArray, List.set_cons_succ, List.set_cons_zero]) | ((refine rd (by rfl) (ex_lookS (r := none) rfl rfl rfl ((unhide HR).fr (unhide LL).fr (by simp)).map (unhide HK).1 (unhide HK).2) ?_); simp only [Act.put, List.setIfInBounds_toArray, List.set_cons_succ, List.set_cons_zero]) | ((refine rd (by rfl) (ex_build77k (v := sV s) rfl rfl rfl) ?_); simp only [Act.put, List.setIfInBounds_toArray, List.set_cons_succ, List.set_cons_zero])))
  refine (unhide HD _ (unhide LL).fr).mono ?_
  rintro e X3 ⟨rfl, hb⟩
  replace LL := hide ((unhide LL).on hb)
  clear hb
  go_wp2
  go_ret2
  exact ⟨rfl, (unhide LL).fr.below⟩
/-- A symbol in words, or the error. -/
def txS (s : ByteArray) : ByteArray := if s.size ≤ 1048568 then wordsS s else ⟨#[]⟩
def txE (s : ByteArray) : Int := if s.size ≤ 1048568 then 0 else 6
theorem ex_catL {o : Oper} {a : Act} {w : World} {x y : Operand} {s t : ByteArray} (ho : o.op = .binOp .add 9 x y 9) (hx : a.eval x = .string s) (hy : a.eval y = .string t) (h : s.size + t.size ≤ 10000000) : (execOp a.eval o).run Tryz.prog w = .ok (.value (.string (s ++ t))) w := by
  unfold execOp
  simp only [ho, hx, hy]
  have e : ¬ 9223372036854775807 < s.size + t.size := by omega
  simp [go_sem, eqGuard, e]
set_option maxRecDepth 100000 in
theorem text_any (R : RG) (j : Nat) (y : SY) (w : World) {n sz : Nat} {F : ByteArray → Option Nat} (hR : R.Is w n sz F) (hy : R.l[j]? = some y) (hl : R.l.length ≤ 100000) : Calls Tryz.prog 27 #[.pointer (some ⟨R.r, 0, none⟩), .int .i64 ((j + 1 : Nat) : Int)] w fun e w' => e = .returned (.tuple #[.string (txS y.v.s), .int .i64 (txE y.v.s)]) ∧ Below w.heap.size w w' := by
  have LL := hide (Hq.nil w [])
  have hs := hR.sml y (List.mem_of_getElem? hy)
  have HC := hide (at_in R j y w hR hy hl)
  have w1 : IntKind.i64.wrap (7 + (y.v.s.size : Int)) = 7 + (y.v.s.size : Int) := by rw [IntKind.wrap_i64]; omega
  have w2 : IntKind.i64.wrap (7 + (y.v.s.size : Int) + 1) = 7 + (y.v.s.size : Int) + 1 := by rw [IntKind.wrap_i64]; omega
  unfold txS txE
  by_cases hz : y.v.s.size ≤ 1048568
  · rw [if_pos hz, if_pos hz]
    have w3 : decide ((1048576 : Int) < 7 + (y.v.s.size : Int) + 1) = false := decide_eq_false (by omega)
    have HZ : Hid (sym7.size + y.v.s.size ≤ 10000000) := hide (by have : sym7.size = 7 := rfl; omega)
    have HZ2 : Hid ((sym7 ++ y.v.s).size + par1.size ≤ 10000000) := hide (by have : sym7.size = 7 := rfl; have : par1.size = 1 := rfl; rw [ByteArray.size_append]; omega)
    unfold SY.agg at HC
    clear hR hy hl hs hz
    generalize ((j + 1 : Nat) : Int) = J at *
    unfold wordsS
    go_enter Tryz.func27, Tryz.ntmps27
    go_wp2_with fail
    refine (unhide HC).mono ?_
    rintro e X0 ⟨rfl, hb⟩
    replace LL := hide ((unhide LL).on hb)
    clear hb
    go_wp2_with (first | go_skip | ((with_reducible show wpList _ _ _ _ _ _); first | ((refine alG 77 (zeroY.cs) (by rfl) rfl (fun w => by kernel_rfl) (Nat.succ_pos _) (unhide LL) ?_); intro X1 B1 hE1 L1 hb1; have hB1 := hide (Nat.le_trans (unhide LL).fr.size (Nat.le_of_eq hE1.symm)); replace LL := hide L1; clear L1 hb1 hE1; simp only [Act.put, List.setIfInBounds_toArray, List.set_cons_succ, List.set_cons_zero]) | ((refine st (vs := y.cs) 0 77 (by rfl) rfl rfl rfl rfl (ycs_one _) (siz77) (unhide LL) rfl (by simp [cput, ycs_length, vcs_length, SY.cs, VV.cs]) (Or.inr (unhide hB1)) ?_); intro X3 L3 hf3 hs3; replace LL := hide L3; clear L3 hf3 hs3; simp only [Act.put, List.setIfInBounds_toArray, List.set_cons_succ, List.set_cons_zero]) | ((refine rd (by rfl) (ex_load1 9 Tryz.isAgg9 rfl rfl ((unhide LL).get 0 rfl) rfl) ?_); simp only [Act.put, List.setIfInBounds_toArray, List.set_cons_succ, List.set_cons_zero]) | ((refine rd (by rfl) (ex_catL rfl rfl rfl (unhide HZ)) ?_); simp only [Act.put, List.setIfInBounds_toArray, List.set_cons_succ, List.set_cons_zero]) | ((refine rd (by rfl) (ex_catL rfl rfl rfl (unhide HZ2)) ?_); simp only [Act.put, List.setIfInBounds_toArray, List.set_cons_succ, List.set_cons_zero])))
    go_ret2
    exact ⟨rfl, (unhide LL).fr.below⟩
  · rw [if_neg hz, if_neg hz]
    have w3 : decide ((1048576 : Int) < 7 + (y.v.s.size : Int) + 1) = true := decide_eq_true (by omega)
    unfold SY.agg at HC
    clear hR hy hl hs hz
    generalize ((j + 1 : Nat) : Int) = J at *
    go_enter Tryz.func27, Tryz.ntmps27
    go_wp2_with fail
    refine (unhide HC).mono ?_
    rintro e X0 ⟨rfl, hb⟩
    replace LL := hide ((unhide LL).on hb)
    clear hb
    go_wp2_with (first | go_skip | ((with_reducible show wpList _ _ _ _ _ _); first | ((refine alG 77 (zeroY.cs) (by rfl) rfl (fun w => by kernel_rfl) (Nat.succ_pos _) (unhide LL) ?_); intro X1 B1 hE1 L1 hb1; have hB1 := hide (Nat.le_trans (unhide LL).fr.size (Nat.le_of_eq hE1.symm)); replace LL := hide L1; clear L1 hb1 hE1; simp only [Act.put, List.setIfInBounds_toArray, List.set_cons_succ, List.set_cons_zero]) | ((refine st (vs := y.cs) 0 77 (by rfl) rfl rfl rfl rfl (ycs_one _) (siz77) (unhide LL) rfl (by simp [cput, ycs_length, vcs_length, SY.cs, VV.cs]) (Or.inr (unhide hB1)) ?_); intro X3 L3 hf3 hs3; replace LL := hide L3; clear L3 hf3 hs3; simp only [Act.put, List.setIfInBounds_toArray, List.set_cons_succ, List.set_cons_zero]) | ((refine rd (by rfl) (ex_load1 9 Tryz.isAgg9 rfl rfl ((unhide LL).get 0 rfl) rfl) ?_); simp only [Act.put, List.setIfInBounds_toArray, List.set_cons_succ, List.set_cons_zero])))
    go_ret2
    exact ⟨rfl, (unhide LL).fr.below⟩
end Go.Proofs.YtkpfikeggleenaaGreatDoor

/-! Xb -/
namespace Go.Proofs.YtkpfikeggleenaaGreatDoor
open Go Go.Proofs Go.Maps Go.RowKit
set_option linter.unusedSimpArgs false
set_option linter.unusedVariables false
set_option maxHeartbeats 1000000
theorem ex_eqS_t {o : Oper} {a : Act} {w : World} {x y : Operand} {s t : ByteArray} (ho : o.op = .binOp .eql 9 x y 9) (hx : a.eval x = .string s) (hy : a.eval y = .string t) (h : s = t) : (execOp a.eval o).run Tryz.prog w = .ok (.value (.bool true)) w := by
  subst h
  unfold execOp
  simp only [ho, hx, hy]
  simp [go_sem, eqGuard]
theorem ex_eqS_f {o : Oper} {a : Act} {w : World} {x y : Operand} {s t : ByteArray} (ho : o.op = .binOp .eql 9 x y 9) (hx : a.eval x = .string s) (hy : a.eval y = .string t) (h : s ≠ t) : (execOp a.eval o).run Tryz.prog w = .ok (.value (.bool false)) w := by
  have h2 : ¬ s.toList = t.toList := fun e => h (by
    have e2 : s.data.toList = t.data.toList := by rw [← Lib.toList_data, ← Lib.toList_data]; exact e
    cases s; cases t
    simpa using e2)
  unfold execOp
  simp only [ho, hx, hy]
  simp [go_sem, eqGuard, h, h2]
set_option maxRecDepth 100000 in
theorem plain37 (s : ByteArray) (w : World) : Calls Tryz.prog 37 #[.string s] w fun e w' => e = .returned (.bool (fitV s)) ∧ Below w.heap.size w w' := by
  unfold fitV
  by_cases h : s.size ≤ 1048576
  · have HV := hide (fun X => refValid_any s (by omega) X)
    unfold vS at HV
    have h1 : decide ((s.size : Int) ≤ 1048576) = true := decide_eq_true (by omega)
    rw [decide_eq_true h, Bool.true_and]
    generalize M.valid false (nums s) = b at *
    clear h
    go_enter Tryz.func37, Tryz.ntmps37
    go_wp2_with fail
    refine (unhide HV _).mono ?_
    rintro e X ⟨rfl, hb⟩
    have HB := hide hb
    clear hb
    go_wp2
    go_ret
    exact ⟨rfl, unhide HB⟩
  · have h1 : decide ((s.size : Int) ≤ 1048576) = false := decide_eq_false (by omega)
    rw [decide_eq_false h, Bool.false_and]
    clear h
    go_enter Tryz.func37, Tryz.ntmps37
    go_wp2
    go_ret
    exact ⟨rfl, Below.refl _ _⟩
set_option maxRecDepth 100000 in
theorem undef18 (w : World) : Calls Tryz.prog 18 #[] w fun e w' => e = .returned (undV.agg) ∧ Below w.heap.size w w' := by
  have LL := hide (Hq.nil w [])
  rw [vagg]
  go_enter Tryz.func18, Tryz.ntmps18
  go_wp2_with (first | go_skip | ((with_reducible show wpList _ _ _ _ _ _); first | ((refine alG 35 (zeroV.cs) (by rfl) rfl (fun w => by kernel_rfl) (Nat.succ_pos _) (unhide LL) ?_); intro X1 B1 hE1 L1 hb1; have hB1 := hide (Nat.le_trans (unhide LL).fr.size (Nat.le_of_eq hE1.symm)); replace LL := hide L1; clear L1 hb1 hE1; simp only [Act.put, List.setIfInBounds_toArray, List.set_cons_succ, List.set_cons_zero]) | ((refine rd (by rfl) (ex_build44u rfl rfl) ?_); simp only [Act.put, List.setIfInBounds_toArray, List.set_cons_succ, List.set_cons_zero]) | ((refine st (vs := undV.cs) 0 35 (by rfl) rfl rfl rfl rfl (vcs_one _) (siz44) (unhide LL) rfl (by simp [cput, ycs_length, vcs_length, SY.cs, VV.cs]) (Or.inr (unhide hB1)) ?_); intro X2 L2 hf2 hs2; replace LL := hide L2; clear L2 hf2 hs2; simp only [Act.put, List.setIfInBounds_toArray, List.set_cons_succ, List.set_cons_zero])))
  exact ret_c row44 siz44 rfl rfl rfl ((unhide LL).get 0 rfl) rfl ⟨rfl, (unhide LL).fr.below⟩
set_option maxRecDepth 100000 in
theorem refMake_no (R : RF) (v : VV) (w : World) (hR : R.Is w) (hx : v.x < 2 ^ 64) (hd : desV v = false) : Calls Tryz.prog 12 #[.pointer (some ⟨R.r, 0, none⟩), v.agg] w fun e w' => e = .returned (.tuple #[.int .i64 0, .int .i64 5]) ∧ Below w.heap.size w w' := by
  have HC := hide (fun X => refGood_any v hx X)
  have LL := hide (Hq.nil w [])
  rw [vagg] at *
  unfold desV at hd
  clear hR hx
  generalize v.good = g at *
  obtain ⟨k, b, x, s, i⟩ := v
  dsimp only at *
  have hk : k = 1 ∨ k = 5 ∨ (k == 1) = false ∧ (k == 5) = false := by simp only [beq_eq_false_iff_ne]; omega
  cases g
  · clear hd hk
    go_enter Tryz.func12, Tryz.ntmps12
    go_wp2_with (first | go_skip | ((with_reducible show wpList _ _ _ _ _ _); first | ((refine bx 35 (VV.cs ⟨k, b, x, s, i⟩) (by rfl) rfl rfl rfl (Nat.succ_pos _) (unhide LL) ?_); intro X1 B1 hE1 L1 hb1; have hB1 := hide (Nat.le_trans (unhide LL).fr.size (Nat.le_of_eq hE1.symm)); replace LL := hide L1; clear L1 hb1 hE1; simp only [Act.put, List.setIfInBounds_toArray, List.set_cons_succ, List.set_cons_zero]) | ((refine rd (by rfl) (ex_loadN (vs := VV.cs ⟨k, b, x, s, i⟩) 35 5 row44 siz44 rfl rfl ((unhide LL).get 0 rfl) rfl rfl) ?_); simp only [Act.put, List.setIfInBounds_toArray, List.set_cons_succ, List.set_cons_zero])))
    refine (unhide HC _).mono ?_
    rintro e X2 ⟨rfl, hb⟩
    replace LL := hide ((unhide LL).on hb)
    clear hb
    go_wp2_with (first | go_skip | ((with_reducible show wpList _ _ _ _ _ _); first | ((refine rd (by rfl) (ex_load1 3 Tryz.isAgg3 rfl rfl ((unhide LL).get 0 rfl) rfl) ?_); simp only [Act.put, List.setIfInBounds_toArray, List.set_cons_succ, List.set_cons_zero])))
    go_ret2
    exact ⟨rfl, (unhide LL).fr.below⟩
  · have e1 : (k != 1) = true := by simp at hd ⊢; exact hd.1
    have e2 : (k != 5) = true := by simp at hd ⊢; exact hd.2
    clear hd hk
    go_enter Tryz.func12, Tryz.ntmps12
    go_wp2_with (first | go_skip | ((with_reducible show wpList _ _ _ _ _ _); first | ((refine bx 35 (VV.cs ⟨k, b, x, s, i⟩) (by rfl) rfl rfl rfl (Nat.succ_pos _) (unhide LL) ?_); intro X1 B1 hE1 L1 hb1; have hB1 := hide (Nat.le_trans (unhide LL).fr.size (Nat.le_of_eq hE1.symm)); replace LL := hide L1; clear L1 hb1 hE1; simp only [Act.put, List.setIfInBounds_toArray, List.set_cons_succ, List.set_cons_zero]) | ((refine rd (by rfl) (ex_loadN (vs := VV.cs ⟨k, b, x, s, i⟩) 35 5 row44 siz44 rfl rfl ((unhide LL).get 0 rfl) rfl rfl) ?_); simp only [Act.put, List.setIfInBounds_toArray, List.set_cons_succ, List.set_cons_zero])))
    refine (unhide HC _).mono ?_
    rintro e X2 ⟨rfl, hb⟩
    replace LL := hide ((unhide LL).on hb)
    clear hb
    go_wp2_with (first | go_skip | ((with_reducible show wpList _ _ _ _ _ _); first | ((refine rd (by rfl) (ex_load1 3 Tryz.isAgg3 rfl rfl ((unhide LL).get 0 rfl) rfl) ?_); simp only [Act.put, List.setIfInBounds_toArray, List.set_cons_succ, List.set_cons_zero])))
    go_ret2
    exact ⟨rfl, (unhide LL).fr.below⟩
set_option maxRecDepth 100000 in
theorem refMake_full (R : RF) (v : VV) (w : World) (hR : R.Is w) (hx : v.x < 2 ^ 64) (hd : desV v = true) (hl : 65536 ≤ R.l.length) : Calls Tryz.prog 12 #[.pointer (some ⟨R.r, 0, none⟩), v.agg] w fun e w' => e = .returned (.tuple #[.int .i64 0, .int .i64 3]) ∧ Below w.heap.size w w' := by
  have hg : v.good = true := by unfold desV at hd; rw [Bool.and_eq_true] at hd; exact hd.1
  have hk : v.k = 1 ∨ v.k = 5 := by unfold desV at hd; rw [Bool.and_eq_true, Bool.or_eq_true] at hd; simpa using hd.2
  have HC := hide (fun X => refGood_any v hx X)
  rw [hg] at HC
  have LL := hide (Hq.nil w [])
  have HR := hide hR
  obtain ⟨A, c, hv⟩ := hR.own.form
  obtain ⟨r, sv, l⟩ := R
  dsimp only at *
  subst hv
  have hlz : decide ((65536 : Int) ≤ (l.length : Int)) = true := decide_eq_true (by omega)
  rw [vagg] at *
  clear hR hx hd hg hl
  obtain ⟨k, b, x, s, i⟩ := v
  dsimp only at *
  rcases hk with rfl | rfl
  all_goals
    go_enter Tryz.func12, Tryz.ntmps12
    go_wp2_with (first | go_skip | ((with_reducible show wpList _ _ _ _ _ _); first | ((refine bx 35 (VV.cs ⟨_, b, x, s, i⟩) (by rfl) rfl rfl rfl (Nat.succ_pos _) (unhide LL) ?_); intro X1 B1 hE1 L1 hb1; have hB1 := hide (Nat.le_trans (unhide LL).fr.size (Nat.le_of_eq hE1.symm)); replace LL := hide L1; clear L1 hb1 hE1; simp only [Act.put, List.setIfInBounds_toArray, List.set_cons_succ, List.set_cons_zero]) | ((refine rd (by rfl) (ex_loadN (vs := VV.cs ⟨_, b, x, s, i⟩) 35 5 row44 siz44 rfl rfl ((unhide LL).get 0 rfl) rfl rfl) ?_); simp only [Act.put, List.setIfInBounds_toArray, List.set_cons_succ, List.set_cons_zero])))
    refine (unhide HC _).mono ?_
    rintro e X2 ⟨rfl, hb⟩
    replace LL := hide ((unhide LL).on hb)
    clear hb
    go_wp2_with (first | go_skip | ((with_reducible show wpList _ _ _ _ _ _); first | ((refine rd (by rfl) (ex_load1 3 Tryz.isAgg3 rfl rfl ((unhide LL).get 0 rfl) rfl) ?_); simp only [Act.put, List.setIfInBounds_toArray, List.set_cons_succ, List.set_cons_zero]) | ((refine rd (by rfl) (ex_load1 39 Tryz.isAgg39 rfl rfl (((unhide HR).fr (unhide LL).fr (by simp)).hold) rfl) ?_); simp only [Act.put, List.setIfInBounds_toArray, List.set_cons_succ, List.set_cons_zero]) | ((refine rd (by rfl) (ex_lenG 39 81 Tryz.underlying39 rfl rfl) ?_); simp only [Act.put, List.setIfInBounds_toArray, List.set_cons_succ, List.set_cons_zero])))
    go_ret2
    exact ⟨rfl, (unhide LL).fr.below⟩
set_option maxHeartbeats 2000000 in
set_option maxRecDepth 100000 in
theorem refMake_ok (R : RF) (v : VV) (w : World) (hR : R.Is w) (hx : v.x < 2 ^ 64) (h5 : 5 ≤ w.heap.size) (hd : desV v = true) (hl : R.l.length < 65536) : Calls Tryz.prog 12 #[.pointer (some ⟨R.r, 0, none⟩), v.agg] w fun e w' => e = .returned (.tuple #[.int .i64 ((R.l.length + 1 : Nat) : Int), .int .i64 0]) ∧ ∃ sv, (RF.mk R.r sv (R.l ++ [SY.mk v false])).Is w' ∧ Fr w w' R.blocks ∧ (∀ g, sv.ownBlock = some g → R.sv.ownBlock = some g ∨ w.heap.size ≤ g) := by
  have hg : v.good = true := by unfold desV at hd; rw [Bool.and_eq_true] at hd; exact hd.1
  have hk : v.k = 1 ∨ v.k = 5 := by unfold desV at hd; rw [Bool.and_eq_true, Bool.or_eq_true] at hd; simpa using hd.2
  have HC := hide (fun X => refGood_any v hx X)
  rw [hg] at HC
  have LL := hide (Hq.nil w [])
  have HR := hide hR
  obtain ⟨A, c, hv⟩ := hR.own.form
  obtain ⟨r, sv, l⟩ := R
  dsimp only at *
  subst hv
  have hlz : decide ((65536 : Int) ≤ (l.length : Int)) = false := decide_eq_false (by omega)
  have HL := hide hl
  have H5 := hide h5
  rw [vagg] at *
  clear hR hx hd hg hl h5
  obtain ⟨k, b, x, s, i⟩ := v
  dsimp only at *
  rcases hk with rfl | rfl
  · go_enter Tryz.func12, Tryz.ntmps12
    go_wp2_with (first | go_skip | ((with_reducible show wpList _ _ _ _ _ _); first | ((refine bx 35 (VV.cs ⟨_, b, x, s, i⟩) (by rfl) rfl rfl rfl (Nat.succ_pos _) (unhide LL) ?_); intro X1 B1 hE1 L1 hb1; have hB1 := hide (Nat.le_trans (unhide LL).fr.size (Nat.le_of_eq hE1.symm)); replace LL := hide L1; clear L1 hb1 hE1; simp only [Act.put, List.setIfInBounds_toArray, List.set_cons_succ, List.set_cons_zero]) | ((refine rd (by rfl) (ex_loadN (vs := VV.cs ⟨_, b, x, s, i⟩) 35 5 row44 siz44 rfl rfl ((unhide LL).get 0 rfl) rfl rfl) ?_); simp only [Act.put, List.setIfInBounds_toArray, List.set_cons_succ, List.set_cons_zero])))
    refine (unhide HC _).mono ?_
    rintro e X2 ⟨rfl, hb⟩
    replace LL := hide ((unhide LL).on hb)
    clear hb
    go_wp2_with (first | go_skip | ((with_reducible show wpList _ _ _ _ _ _); first | ((refine rd (by rfl) (ex_load1 3 Tryz.isAgg3 rfl rfl ((unhide LL).get 0 rfl) rfl) ?_); simp only [Act.put, List.setIfInBounds_toArray, List.set_cons_succ, List.set_cons_zero]) | ((refine rd (by rfl) (ex_load1 39 Tryz.isAgg39 rfl rfl (((unhide HR).fr (unhide LL).fr (by simp)).hold) rfl) ?_); simp only [Act.put, List.setIfInBounds_toArray, List.set_cons_succ, List.set_cons_zero]) | ((refine rd (by rfl) (ex_lenG 39 81 Tryz.underlying39 rfl rfl) ?_); simp only [Act.put, List.setIfInBounds_toArray, List.set_cons_succ, List.set_cons_zero])))
    have HO : OwnS 81 X2 (.slice A l.length c) l := ((unhide HR).fr (unhide LL).fr (by simp)).own
    have h1 : Holds X2.drew r [.slice A l.length c] := ((unhide HR).fr (unhide LL).fr (by simp)).hold.block rfl
    have hB1 : Holds X2.drew B1 (VV.cs ⟨1, b, x, s, i⟩) := ((unhide LL).get 0 rfl).block rfl
    have bl := (Below.refl X2.drew.heap.size X2.drew).alloc (Nat.le_refl _) (Obj.cells (SY.mk ⟨1, b, x, s, i⟩ false).cs.toArray 81)
    have hN := Holds.new X2.drew (SY.mk ⟨1, b, x, s, i⟩ false).cs 81
    have F6 := (unhide LL).fr.drew.on bl
    have O6 : OwnS 81 _ (.slice A l.length c) l := OwnS.block HO (fun g hg => (bl.block g (HO.lt g hg).2))
    have h6 := h1.block (bl.block r (h1.lt (Nat.succ_pos _)))
    refine wp_region_held_drew (P := Tryz.prog) (S := fun _ => True) (by kernel_rfl) trivial (fun hS0 => ?_)
    refine gsem 0 (some 25) (.pointer (some ⟨r, 0, none⟩)) rfl (by kernel_rfl) (by kernel_rfl) (by kernel_rfl) (fun _ _ _ h => h) (by kernel_rfl) (by kernel_rfl) (fun _ _ => by kernel_rfl) trivial ?_
    simp only [Act.put, List.setIfInBounds_toArray, List.set_cons_succ, List.set_cons_zero]
    refine gsem 1 (some 26) (.pointer (some ⟨r, 0, none⟩)) rfl (by kernel_rfl) (by kernel_rfl) (by kernel_rfl) (fun _ _ _ h => h) (by kernel_rfl) (by kernel_rfl) (fun _ _ => by kernel_rfl) trivial ?_
    simp only [Act.put, List.setIfInBounds_toArray, List.set_cons_succ, List.set_cons_zero]
    refine gsem 2 (some 27) (.pointer (some ⟨r, 0, none⟩)) rfl (by kernel_rfl) (by kernel_rfl) (by kernel_rfl) (fun _ _ _ h => h) (by kernel_rfl) (by kernel_rfl) (fun _ _ => by kernel_rfl) trivial ?_
    simp only [Act.put, List.setIfInBounds_toArray, List.set_cons_succ, List.set_cons_zero]
    refine gsem 3 (some 28) (.pointer (some ⟨r, 0, none⟩)) rfl (by kernel_rfl) (by kernel_rfl) (by kernel_rfl) (fun _ _ _ h => h) (by kernel_rfl) (by kernel_rfl) (fun _ _ => by kernel_rfl) trivial ?_
    simp only [Act.put, List.setIfInBounds_toArray, List.set_cons_succ, List.set_cons_zero]
    refine wpAnyH_ready (rs := [4, 5]) (by kernel_rfl) (by simp) (gval 4 (some 29) rfl (by kernel_rfl) (by kernel_rfl) (ex_load1 39 Tryz.isAgg39 rfl rfl h1 rfl) trivial ?_ (gval 5 (some 30) rfl (by kernel_rfl) (by kernel_rfl) (ex_loadN (vs := VV.cs ⟨1, b, x, s, i⟩) 35 5 row44 siz44 rfl rfl hB1 rfl rfl) trivial ?_ AllReadyH.nil))
    · simp only [Act.put, List.setIfInBounds_toArray, List.set_cons_succ, List.set_cons_zero]
      refine wpAnyH_ready (rs := [5]) (by kernel_rfl) (by simp) (gval 5 (some 30) rfl (by kernel_rfl) (by kernel_rfl) (ex_loadN (vs := VV.cs ⟨1, b, x, s, i⟩) 35 5 row44 siz44 rfl rfl hB1 rfl rfl) trivial ?_ AllReadyH.nil)
      simp only [Act.put, List.setIfInBounds_toArray, List.set_cons_succ, List.set_cons_zero]
      refine gsem 6 (some 31) (.agg (SY.mk ⟨1, b, x, s, i⟩ false).cs.toArray) rfl (by kernel_rfl) (by kernel_rfl) (by kernel_rfl) (fun _ _ _ h => h) (by kernel_rfl) (by kernel_rfl) (fun X hX => ex_build88 (v := (VV.mk 1 b x s i)) rfl rfl) trivial ?_
      simp only [Act.put, List.setIfInBounds_toArray, List.set_cons_succ, List.set_cons_zero]
      refine wpAnyH_ready (rs := [7]) (by kernel_rfl) (by simp) (gval 7 (some 32) rfl (by kernel_rfl) (by kernel_rfl) (ex_buildS (e := 81) (size := 6) (bytes := 56) (cs := (SY.mk ⟨1, b, x, s, i⟩ false).cs) rfl rfl Tryz.underlying39 info88 (by decide) rfl rfl (by decide)) trivial ?_ AllReadyH.nil)
      simp only [Act.put, List.setIfInBounds_toArray, List.set_cons_succ, List.set_cons_zero]
      generalize hX6 : X2.drew.alloc (Obj.cells (SY.mk ⟨1, b, x, s, i⟩ false).cs.toArray 81) = X6 at *
      generalize hB6 : X2.drew.heap.size = B6 at *
      refine wpAnyH_ready (rs := [8]) (by kernel_rfl) (by simp) (gappF (base := 5) (v := .slice A l.length c) (xs := flatS l) (news := (SY.mk ⟨1, b, x, s, i⟩ false).cs) 8 (some 33) rfl (by kernel_rfl) (by kernel_rfl) rfl rfl rfl Tryz.underlying39 info88 rfl (by decide) O6 hN rfl (ycs_one _) (by have := unhide HL; omega) (by decide) (Nat.le_trans (unhide H5) F6.size) (fun _ _ => trivial) ?_ AllReadyH.nil)
      intro A7 c7 X7 O7 hg7 hf7
      have h7 : Holds X7 r [.slice A l.length c] := h6.block (hg7.block r (h6.lt (Nat.succ_pos _)) (fun e => (unhide HR).ne r e.symm rfl))
      simp only [Act.put, List.setIfInBounds_toArray, List.set_cons_succ, List.set_cons_zero]
      refine gsem 9 (some 34) (.pointer (some ⟨r, 0, none⟩)) rfl (by kernel_rfl) (by kernel_rfl) (by kernel_rfl) (fun _ _ _ h => h) (by kernel_rfl) (by kernel_rfl) (fun _ _ => by kernel_rfl) trivial ?_
      simp only [Act.put, List.setIfInBounds_toArray, List.set_cons_succ, List.set_cons_zero]
      refine gsem 10 (some 35) (.pointer (some ⟨r, 0, none⟩)) rfl (by kernel_rfl) (by kernel_rfl) (by kernel_rfl) (fun _ _ _ h => h) (by kernel_rfl) (by kernel_rfl) (fun _ _ => by kernel_rfl) trivial ?_
      simp only [Act.put, List.setIfInBounds_toArray, List.set_cons_succ, List.set_cons_zero]
      have h8 := h7.put 0 [.slice A7 (l.length + 1) c7] (by simp)
      have f8 := Fr.setCells X7 r 0 [.slice A7 (l.length + 1) c7]
      refine wpAnyH_ready (rs := [11]) (by kernel_rfl) (by simp) (gskp 11 none rfl (by kernel_rfl) (by kernel_rfl) (ex_store (t := 39) (b := r) (p := 0) (vs := [.slice A7 (l.length + 1) c7]) rfl rfl rfl rfl (by simp [Value.oneCell']) siz68 h7 (by simp)) trivial ?_ AllReadyH.nil)
      simp only [Act.put, List.setIfInBounds_toArray, List.set_cons_succ, List.set_cons_zero]
      refine wpAnyH_done (by kernel_rfl) ?_ _
      try simp only [Act.put, List.setIfInBounds_toArray, List.set_cons_succ, List.set_cons_zero]
      generalize X7.setCells r 0 [.slice A7 (l.length + 1) c7] = X8 at *
      have FIN := hide (RF.Is.added (y := (SY.mk ⟨1, b, x, s, i⟩ false)) (unhide HR) F6 O7 hg7 hf7 f8 h8)
      have H8 := hide h8
      clear h8 f8 h7 O7 hg7 hf7 hX6 hB6
      go_wp2_with (first | go_skip | ((with_reducible show wpList _ _ _ _ _ _); first | ((refine rd (by rfl) (ex_load1 39 Tryz.isAgg39 rfl rfl (unhide H8) rfl) ?_); simp only [Act.put, List.setIfInBounds_toArray, List.set_cons_succ, List.set_cons_zero]) | ((refine rd (by rfl) (ex_lenG 39 81 Tryz.underlying39 rfl rfl) ?_); simp only [Act.put, List.setIfInBounds_toArray, List.set_cons_succ, List.set_cons_zero])))
      go_ret2
      exact ⟨rfl, _, unhide FIN⟩
    · simp only [Act.put, List.setIfInBounds_toArray, List.set_cons_succ, List.set_cons_zero]
      refine gsem 6 (some 31) (.agg (SY.mk ⟨1, b, x, s, i⟩ false).cs.toArray) rfl (by kernel_rfl) (by kernel_rfl) (by kernel_rfl) (fun _ _ _ h => h) (by kernel_rfl) (by kernel_rfl) (fun X hX => ex_build88 (v := (VV.mk 1 b x s i)) rfl rfl) trivial ?_
      simp only [Act.put, List.setIfInBounds_toArray, List.set_cons_succ, List.set_cons_zero]
      refine wpAnyH_ready (rs := [4, 7]) (by kernel_rfl) (by simp) (gval 4 (some 29) rfl (by kernel_rfl) (by kernel_rfl) (ex_load1 39 Tryz.isAgg39 rfl rfl h1 rfl) trivial ?_ (gval 7 (some 32) rfl (by kernel_rfl) (by kernel_rfl) (ex_buildS (e := 81) (size := 6) (bytes := 56) (cs := (SY.mk ⟨1, b, x, s, i⟩ false).cs) rfl rfl Tryz.underlying39 info88 (by decide) rfl rfl (by decide)) trivial ?_ AllReadyH.nil))
      · simp only [Act.put, List.setIfInBounds_toArray, List.set_cons_succ, List.set_cons_zero]
        refine wpAnyH_ready (rs := [7]) (by kernel_rfl) (by simp) (gval 7 (some 32) rfl (by kernel_rfl) (by kernel_rfl) (ex_buildS (e := 81) (size := 6) (bytes := 56) (cs := (SY.mk ⟨1, b, x, s, i⟩ false).cs) rfl rfl Tryz.underlying39 info88 (by decide) rfl rfl (by decide)) trivial ?_ AllReadyH.nil)
        simp only [Act.put, List.setIfInBounds_toArray, List.set_cons_succ, List.set_cons_zero]
        generalize hX6 : X2.drew.alloc (Obj.cells (SY.mk ⟨1, b, x, s, i⟩ false).cs.toArray 81) = X6 at *
        generalize hB6 : X2.drew.heap.size = B6 at *
        refine wpAnyH_ready (rs := [8]) (by kernel_rfl) (by simp) (gappF (base := 5) (v := .slice A l.length c) (xs := flatS l) (news := (SY.mk ⟨1, b, x, s, i⟩ false).cs) 8 (some 33) rfl (by kernel_rfl) (by kernel_rfl) rfl rfl rfl Tryz.underlying39 info88 rfl (by decide) O6 hN rfl (ycs_one _) (by have := unhide HL; omega) (by decide) (Nat.le_trans (unhide H5) F6.size) (fun _ _ => trivial) ?_ AllReadyH.nil)
        intro A7 c7 X7 O7 hg7 hf7
        have h7 : Holds X7 r [.slice A l.length c] := h6.block (hg7.block r (h6.lt (Nat.succ_pos _)) (fun e => (unhide HR).ne r e.symm rfl))
        simp only [Act.put, List.setIfInBounds_toArray, List.set_cons_succ, List.set_cons_zero]
        refine gsem 9 (some 34) (.pointer (some ⟨r, 0, none⟩)) rfl (by kernel_rfl) (by kernel_rfl) (by kernel_rfl) (fun _ _ _ h => h) (by kernel_rfl) (by kernel_rfl) (fun _ _ => by kernel_rfl) trivial ?_
        simp only [Act.put, List.setIfInBounds_toArray, List.set_cons_succ, List.set_cons_zero]
        refine gsem 10 (some 35) (.pointer (some ⟨r, 0, none⟩)) rfl (by kernel_rfl) (by kernel_rfl) (by kernel_rfl) (fun _ _ _ h => h) (by kernel_rfl) (by kernel_rfl) (fun _ _ => by kernel_rfl) trivial ?_
        simp only [Act.put, List.setIfInBounds_toArray, List.set_cons_succ, List.set_cons_zero]
        have h8 := h7.put 0 [.slice A7 (l.length + 1) c7] (by simp)
        have f8 := Fr.setCells X7 r 0 [.slice A7 (l.length + 1) c7]
        refine wpAnyH_ready (rs := [11]) (by kernel_rfl) (by simp) (gskp 11 none rfl (by kernel_rfl) (by kernel_rfl) (ex_store (t := 39) (b := r) (p := 0) (vs := [.slice A7 (l.length + 1) c7]) rfl rfl rfl rfl (by simp [Value.oneCell']) siz68 h7 (by simp)) trivial ?_ AllReadyH.nil)
        simp only [Act.put, List.setIfInBounds_toArray, List.set_cons_succ, List.set_cons_zero]
        refine wpAnyH_done (by kernel_rfl) ?_ _
        try simp only [Act.put, List.setIfInBounds_toArray, List.set_cons_succ, List.set_cons_zero]
        generalize X7.setCells r 0 [.slice A7 (l.length + 1) c7] = X8 at *
        have FIN := hide (RF.Is.added (y := (SY.mk ⟨1, b, x, s, i⟩ false)) (unhide HR) F6 O7 hg7 hf7 f8 h8)
        have H8 := hide h8
        clear h8 f8 h7 O7 hg7 hf7 hX6 hB6
        go_wp2_with (first | go_skip | ((with_reducible show wpList _ _ _ _ _ _); first | ((refine rd (by rfl) (ex_load1 39 Tryz.isAgg39 rfl rfl (unhide H8) rfl) ?_); simp only [Act.put, List.setIfInBounds_toArray, List.set_cons_succ, List.set_cons_zero]) | ((refine rd (by rfl) (ex_lenG 39 81 Tryz.underlying39 rfl rfl) ?_); simp only [Act.put, List.setIfInBounds_toArray, List.set_cons_succ, List.set_cons_zero])))
        go_ret2
        exact ⟨rfl, _, unhide FIN⟩
      · simp only [Act.put, List.setIfInBounds_toArray, List.set_cons_succ, List.set_cons_zero]
        refine wpAnyH_ready (rs := [4]) (by kernel_rfl) (by simp) (gval 4 (some 29) rfl (by kernel_rfl) (by kernel_rfl) (ex_load1 39 Tryz.isAgg39 rfl rfl h6 rfl) trivial ?_ AllReadyH.nil)
        simp only [Act.put, List.setIfInBounds_toArray, List.set_cons_succ, List.set_cons_zero]
        generalize hX6 : X2.drew.alloc (Obj.cells (SY.mk ⟨1, b, x, s, i⟩ false).cs.toArray 81) = X6 at *
        generalize hB6 : X2.drew.heap.size = B6 at *
        refine wpAnyH_ready (rs := [8]) (by kernel_rfl) (by simp) (gappF (base := 5) (v := .slice A l.length c) (xs := flatS l) (news := (SY.mk ⟨1, b, x, s, i⟩ false).cs) 8 (some 33) rfl (by kernel_rfl) (by kernel_rfl) rfl rfl rfl Tryz.underlying39 info88 rfl (by decide) O6 hN rfl (ycs_one _) (by have := unhide HL; omega) (by decide) (Nat.le_trans (unhide H5) F6.size) (fun _ _ => trivial) ?_ AllReadyH.nil)
        intro A7 c7 X7 O7 hg7 hf7
        have h7 : Holds X7 r [.slice A l.length c] := h6.block (hg7.block r (h6.lt (Nat.succ_pos _)) (fun e => (unhide HR).ne r e.symm rfl))
        simp only [Act.put, List.setIfInBounds_toArray, List.set_cons_succ, List.set_cons_zero]
        refine gsem 9 (some 34) (.pointer (some ⟨r, 0, none⟩)) rfl (by kernel_rfl) (by kernel_rfl) (by kernel_rfl) (fun _ _ _ h => h) (by kernel_rfl) (by kernel_rfl) (fun _ _ => by kernel_rfl) trivial ?_
        simp only [Act.put, List.setIfInBounds_toArray, List.set_cons_succ, List.set_cons_zero]
        refine gsem 10 (some 35) (.pointer (some ⟨r, 0, none⟩)) rfl (by kernel_rfl) (by kernel_rfl) (by kernel_rfl) (fun _ _ _ h => h) (by kernel_rfl) (by kernel_rfl) (fun _ _ => by kernel_rfl) trivial ?_
        simp only [Act.put, List.setIfInBounds_toArray, List.set_cons_succ, List.set_cons_zero]
        have h8 := h7.put 0 [.slice A7 (l.length + 1) c7] (by simp)
        have f8 := Fr.setCells X7 r 0 [.slice A7 (l.length + 1) c7]
        refine wpAnyH_ready (rs := [11]) (by kernel_rfl) (by simp) (gskp 11 none rfl (by kernel_rfl) (by kernel_rfl) (ex_store (t := 39) (b := r) (p := 0) (vs := [.slice A7 (l.length + 1) c7]) rfl rfl rfl rfl (by simp [Value.oneCell']) siz68 h7 (by simp)) trivial ?_ AllReadyH.nil)
        simp only [Act.put, List.setIfInBounds_toArray, List.set_cons_succ, List.set_cons_zero]
        refine wpAnyH_done (by kernel_rfl) ?_ _
        try simp only [Act.put, List.setIfInBounds_toArray, List.set_cons_succ, List.set_cons_zero]
        generalize X7.setCells r 0 [.slice A7 (l.length + 1) c7] = X8 at *
        have FIN := hide (RF.Is.added (y := (SY.mk ⟨1, b, x, s, i⟩ false)) (unhide HR) F6 O7 hg7 hf7 f8 h8)
        have H8 := hide h8
        clear h8 f8 h7 O7 hg7 hf7 hX6 hB6
        go_wp2_with (first | go_skip | ((with_reducible show wpList _ _ _ _ _ _); first | ((refine rd (by rfl) (ex_load1 39 Tryz.isAgg39 rfl rfl (unhide H8) rfl) ?_); simp only [Act.put, List.setIfInBounds_toArray, List.set_cons_succ, List.set_cons_zero]) | ((refine rd (by rfl) (ex_lenG 39 81 Tryz.underlying39 rfl rfl) ?_); simp only [Act.put, List.setIfInBounds_toArray, List.set_cons_succ, List.set_cons_zero])))
        go_ret2
        exact ⟨rfl, _, unhide FIN⟩
  · go_enter Tryz.func12, Tryz.ntmps12
    go_wp2_with (first | go_skip | ((with_reducible show wpList _ _ _ _ _ _); first | ((refine bx 35 (VV.cs ⟨_, b, x, s, i⟩) (by rfl) rfl rfl rfl (Nat.succ_pos _) (unhide LL) ?_); intro X1 B1 hE1 L1 hb1; have hB1 := hide (Nat.le_trans (unhide LL).fr.size (Nat.le_of_eq hE1.symm)); replace LL := hide L1; clear L1 hb1 hE1; simp only [Act.put, List.setIfInBounds_toArray, List.set_cons_succ, List.set_cons_zero]) | ((refine rd (by rfl) (ex_loadN (vs := VV.cs ⟨_, b, x, s, i⟩) 35 5 row44 siz44 rfl rfl ((unhide LL).get 0 rfl) rfl rfl) ?_); simp only [Act.put, List.setIfInBounds_toArray, List.set_cons_succ, List.set_cons_zero])))
    refine (unhide HC _).mono ?_
    rintro e X2 ⟨rfl, hb⟩
    replace LL := hide ((unhide LL).on hb)
    clear hb
    go_wp2_with (first | go_skip | ((with_reducible show wpList _ _ _ _ _ _); first | ((refine rd (by rfl) (ex_load1 3 Tryz.isAgg3 rfl rfl ((unhide LL).get 0 rfl) rfl) ?_); simp only [Act.put, List.setIfInBounds_toArray, List.set_cons_succ, List.set_cons_zero]) | ((refine rd (by rfl) (ex_load1 39 Tryz.isAgg39 rfl rfl (((unhide HR).fr (unhide LL).fr (by simp)).hold) rfl) ?_); simp only [Act.put, List.setIfInBounds_toArray, List.set_cons_succ, List.set_cons_zero]) | ((refine rd (by rfl) (ex_lenG 39 81 Tryz.underlying39 rfl rfl) ?_); simp only [Act.put, List.setIfInBounds_toArray, List.set_cons_succ, List.set_cons_zero])))
    have HO : OwnS 81 X2 (.slice A l.length c) l := ((unhide HR).fr (unhide LL).fr (by simp)).own
    have h1 : Holds X2.drew r [.slice A l.length c] := ((unhide HR).fr (unhide LL).fr (by simp)).hold.block rfl
    have hB1 : Holds X2.drew B1 (VV.cs ⟨5, b, x, s, i⟩) := ((unhide LL).get 0 rfl).block rfl
    have bl := (Below.refl X2.drew.heap.size X2.drew).alloc (Nat.le_refl _) (Obj.cells (SY.mk ⟨5, b, x, s, i⟩ false).cs.toArray 81)
    have hN := Holds.new X2.drew (SY.mk ⟨5, b, x, s, i⟩ false).cs 81
    have F6 := (unhide LL).fr.drew.on bl
    have O6 : OwnS 81 _ (.slice A l.length c) l := OwnS.block HO (fun g hg => (bl.block g (HO.lt g hg).2))
    have h6 := h1.block (bl.block r (h1.lt (Nat.succ_pos _)))
    refine wp_region_held_drew (P := Tryz.prog) (S := fun _ => True) (by kernel_rfl) trivial (fun hS0 => ?_)
    refine gsem 0 (some 25) (.pointer (some ⟨r, 0, none⟩)) rfl (by kernel_rfl) (by kernel_rfl) (by kernel_rfl) (fun _ _ _ h => h) (by kernel_rfl) (by kernel_rfl) (fun _ _ => by kernel_rfl) trivial ?_
    simp only [Act.put, List.setIfInBounds_toArray, List.set_cons_succ, List.set_cons_zero]
    refine gsem 1 (some 26) (.pointer (some ⟨r, 0, none⟩)) rfl (by kernel_rfl) (by kernel_rfl) (by kernel_rfl) (fun _ _ _ h => h) (by kernel_rfl) (by kernel_rfl) (fun _ _ => by kernel_rfl) trivial ?_
    simp only [Act.put, List.setIfInBounds_toArray, List.set_cons_succ, List.set_cons_zero]
    refine gsem 2 (some 27) (.pointer (some ⟨r, 0, none⟩)) rfl (by kernel_rfl) (by kernel_rfl) (by kernel_rfl) (fun _ _ _ h => h) (by kernel_rfl) (by kernel_rfl) (fun _ _ => by kernel_rfl) trivial ?_
    simp only [Act.put, List.setIfInBounds_toArray, List.set_cons_succ, List.set_cons_zero]
    refine gsem 3 (some 28) (.pointer (some ⟨r, 0, none⟩)) rfl (by kernel_rfl) (by kernel_rfl) (by kernel_rfl) (fun _ _ _ h => h) (by kernel_rfl) (by kernel_rfl) (fun _ _ => by kernel_rfl) trivial ?_
    simp only [Act.put, List.setIfInBounds_toArray, List.set_cons_succ, List.set_cons_zero]
    refine wpAnyH_ready (rs := [4, 5]) (by kernel_rfl) (by simp) (gval 4 (some 29) rfl (by kernel_rfl) (by kernel_rfl) (ex_load1 39 Tryz.isAgg39 rfl rfl h1 rfl) trivial ?_ (gval 5 (some 30) rfl (by kernel_rfl) (by kernel_rfl) (ex_loadN (vs := VV.cs ⟨5, b, x, s, i⟩) 35 5 row44 siz44 rfl rfl hB1 rfl rfl) trivial ?_ AllReadyH.nil))
    · simp only [Act.put, List.setIfInBounds_toArray, List.set_cons_succ, List.set_cons_zero]
      refine wpAnyH_ready (rs := [5]) (by kernel_rfl) (by simp) (gval 5 (some 30) rfl (by kernel_rfl) (by kernel_rfl) (ex_loadN (vs := VV.cs ⟨5, b, x, s, i⟩) 35 5 row44 siz44 rfl rfl hB1 rfl rfl) trivial ?_ AllReadyH.nil)
      simp only [Act.put, List.setIfInBounds_toArray, List.set_cons_succ, List.set_cons_zero]
      refine gsem 6 (some 31) (.agg (SY.mk ⟨5, b, x, s, i⟩ false).cs.toArray) rfl (by kernel_rfl) (by kernel_rfl) (by kernel_rfl) (fun _ _ _ h => h) (by kernel_rfl) (by kernel_rfl) (fun X hX => ex_build88 (v := (VV.mk 5 b x s i)) rfl rfl) trivial ?_
      simp only [Act.put, List.setIfInBounds_toArray, List.set_cons_succ, List.set_cons_zero]
      refine wpAnyH_ready (rs := [7]) (by kernel_rfl) (by simp) (gval 7 (some 32) rfl (by kernel_rfl) (by kernel_rfl) (ex_buildS (e := 81) (size := 6) (bytes := 56) (cs := (SY.mk ⟨5, b, x, s, i⟩ false).cs) rfl rfl Tryz.underlying39 info88 (by decide) rfl rfl (by decide)) trivial ?_ AllReadyH.nil)
      simp only [Act.put, List.setIfInBounds_toArray, List.set_cons_succ, List.set_cons_zero]
      generalize hX6 : X2.drew.alloc (Obj.cells (SY.mk ⟨5, b, x, s, i⟩ false).cs.toArray 81) = X6 at *
      generalize hB6 : X2.drew.heap.size = B6 at *
      refine wpAnyH_ready (rs := [8]) (by kernel_rfl) (by simp) (gappF (base := 5) (v := .slice A l.length c) (xs := flatS l) (news := (SY.mk ⟨5, b, x, s, i⟩ false).cs) 8 (some 33) rfl (by kernel_rfl) (by kernel_rfl) rfl rfl rfl Tryz.underlying39 info88 rfl (by decide) O6 hN rfl (ycs_one _) (by have := unhide HL; omega) (by decide) (Nat.le_trans (unhide H5) F6.size) (fun _ _ => trivial) ?_ AllReadyH.nil)
      intro A7 c7 X7 O7 hg7 hf7
      have h7 : Holds X7 r [.slice A l.length c] := h6.block (hg7.block r (h6.lt (Nat.succ_pos _)) (fun e => (unhide HR).ne r e.symm rfl))
      simp only [Act.put, List.setIfInBounds_toArray, List.set_cons_succ, List.set_cons_zero]
      refine gsem 9 (some 34) (.pointer (some ⟨r, 0, none⟩)) rfl (by kernel_rfl) (by kernel_rfl) (by kernel_rfl) (fun _ _ _ h => h) (by kernel_rfl) (by kernel_rfl) (fun _ _ => by kernel_rfl) trivial ?_
      simp only [Act.put, List.setIfInBounds_toArray, List.set_cons_succ, List.set_cons_zero]
      refine gsem 10 (some 35) (.pointer (some ⟨r, 0, none⟩)) rfl (by kernel_rfl) (by kernel_rfl) (by kernel_rfl) (fun _ _ _ h => h) (by kernel_rfl) (by kernel_rfl) (fun _ _ => by kernel_rfl) trivial ?_
      simp only [Act.put, List.setIfInBounds_toArray, List.set_cons_succ, List.set_cons_zero]
      have h8 := h7.put 0 [.slice A7 (l.length + 1) c7] (by simp)
      have f8 := Fr.setCells X7 r 0 [.slice A7 (l.length + 1) c7]
      refine wpAnyH_ready (rs := [11]) (by kernel_rfl) (by simp) (gskp 11 none rfl (by kernel_rfl) (by kernel_rfl) (ex_store (t := 39) (b := r) (p := 0) (vs := [.slice A7 (l.length + 1) c7]) rfl rfl rfl rfl (by simp [Value.oneCell']) siz68 h7 (by simp)) trivial ?_ AllReadyH.nil)
      simp only [Act.put, List.setIfInBounds_toArray, List.set_cons_succ, List.set_cons_zero]
      refine wpAnyH_done (by kernel_rfl) ?_ _
      try simp only [Act.put, List.setIfInBounds_toArray, List.set_cons_succ, List.set_cons_zero]
      generalize X7.setCells r 0 [.slice A7 (l.length + 1) c7] = X8 at *
      have FIN := hide (RF.Is.added (y := (SY.mk ⟨5, b, x, s, i⟩ false)) (unhide HR) F6 O7 hg7 hf7 f8 h8)
      have H8 := hide h8
      clear h8 f8 h7 O7 hg7 hf7 hX6 hB6
      go_wp2_with (first | go_skip | ((with_reducible show wpList _ _ _ _ _ _); first | ((refine rd (by rfl) (ex_load1 39 Tryz.isAgg39 rfl rfl (unhide H8) rfl) ?_); simp only [Act.put, List.setIfInBounds_toArray, List.set_cons_succ, List.set_cons_zero]) | ((refine rd (by rfl) (ex_lenG 39 81 Tryz.underlying39 rfl rfl) ?_); simp only [Act.put, List.setIfInBounds_toArray, List.set_cons_succ, List.set_cons_zero])))
      go_ret2
      exact ⟨rfl, _, unhide FIN⟩
    · simp only [Act.put, List.setIfInBounds_toArray, List.set_cons_succ, List.set_cons_zero]
      refine gsem 6 (some 31) (.agg (SY.mk ⟨5, b, x, s, i⟩ false).cs.toArray) rfl (by kernel_rfl) (by kernel_rfl) (by kernel_rfl) (fun _ _ _ h => h) (by kernel_rfl) (by kernel_rfl) (fun X hX => ex_build88 (v := (VV.mk 5 b x s i)) rfl rfl) trivial ?_
      simp only [Act.put, List.setIfInBounds_toArray, List.set_cons_succ, List.set_cons_zero]
      refine wpAnyH_ready (rs := [4, 7]) (by kernel_rfl) (by simp) (gval 4 (some 29) rfl (by kernel_rfl) (by kernel_rfl) (ex_load1 39 Tryz.isAgg39 rfl rfl h1 rfl) trivial ?_ (gval 7 (some 32) rfl (by kernel_rfl) (by kernel_rfl) (ex_buildS (e := 81) (size := 6) (bytes := 56) (cs := (SY.mk ⟨5, b, x, s, i⟩ false).cs) rfl rfl Tryz.underlying39 info88 (by decide) rfl rfl (by decide)) trivial ?_ AllReadyH.nil))
      · simp only [Act.put, List.setIfInBounds_toArray, List.set_cons_succ, List.set_cons_zero]
        refine wpAnyH_ready (rs := [7]) (by kernel_rfl) (by simp) (gval 7 (some 32) rfl (by kernel_rfl) (by kernel_rfl) (ex_buildS (e := 81) (size := 6) (bytes := 56) (cs := (SY.mk ⟨5, b, x, s, i⟩ false).cs) rfl rfl Tryz.underlying39 info88 (by decide) rfl rfl (by decide)) trivial ?_ AllReadyH.nil)
        simp only [Act.put, List.setIfInBounds_toArray, List.set_cons_succ, List.set_cons_zero]
        generalize hX6 : X2.drew.alloc (Obj.cells (SY.mk ⟨5, b, x, s, i⟩ false).cs.toArray 81) = X6 at *
        generalize hB6 : X2.drew.heap.size = B6 at *
        refine wpAnyH_ready (rs := [8]) (by kernel_rfl) (by simp) (gappF (base := 5) (v := .slice A l.length c) (xs := flatS l) (news := (SY.mk ⟨5, b, x, s, i⟩ false).cs) 8 (some 33) rfl (by kernel_rfl) (by kernel_rfl) rfl rfl rfl Tryz.underlying39 info88 rfl (by decide) O6 hN rfl (ycs_one _) (by have := unhide HL; omega) (by decide) (Nat.le_trans (unhide H5) F6.size) (fun _ _ => trivial) ?_ AllReadyH.nil)
        intro A7 c7 X7 O7 hg7 hf7
        have h7 : Holds X7 r [.slice A l.length c] := h6.block (hg7.block r (h6.lt (Nat.succ_pos _)) (fun e => (unhide HR).ne r e.symm rfl))
        simp only [Act.put, List.setIfInBounds_toArray, List.set_cons_succ, List.set_cons_zero]
        refine gsem 9 (some 34) (.pointer (some ⟨r, 0, none⟩)) rfl (by kernel_rfl) (by kernel_rfl) (by kernel_rfl) (fun _ _ _ h => h) (by kernel_rfl) (by kernel_rfl) (fun _ _ => by kernel_rfl) trivial ?_
        simp only [Act.put, List.setIfInBounds_toArray, List.set_cons_succ, List.set_cons_zero]
        refine gsem 10 (some 35) (.pointer (some ⟨r, 0, none⟩)) rfl (by kernel_rfl) (by kernel_rfl) (by kernel_rfl) (fun _ _ _ h => h) (by kernel_rfl) (by kernel_rfl) (fun _ _ => by kernel_rfl) trivial ?_
        simp only [Act.put, List.setIfInBounds_toArray, List.set_cons_succ, List.set_cons_zero]
        have h8 := h7.put 0 [.slice A7 (l.length + 1) c7] (by simp)
        have f8 := Fr.setCells X7 r 0 [.slice A7 (l.length + 1) c7]
        refine wpAnyH_ready (rs := [11]) (by kernel_rfl) (by simp) (gskp 11 none rfl (by kernel_rfl) (by kernel_rfl) (ex_store (t := 39) (b := r) (p := 0) (vs := [.slice A7 (l.length + 1) c7]) rfl rfl rfl rfl (by simp [Value.oneCell']) siz68 h7 (by simp)) trivial ?_ AllReadyH.nil)
        simp only [Act.put, List.setIfInBounds_toArray, List.set_cons_succ, List.set_cons_zero]
        refine wpAnyH_done (by kernel_rfl) ?_ _
        try simp only [Act.put, List.setIfInBounds_toArray, List.set_cons_succ, List.set_cons_zero]
        generalize X7.setCells r 0 [.slice A7 (l.length + 1) c7] = X8 at *
        have FIN := hide (RF.Is.added (y := (SY.mk ⟨5, b, x, s, i⟩ false)) (unhide HR) F6 O7 hg7 hf7 f8 h8)
        have H8 := hide h8
        clear h8 f8 h7 O7 hg7 hf7 hX6 hB6
        go_wp2_with (first | go_skip | ((with_reducible show wpList _ _ _ _ _ _); first | ((refine rd (by rfl) (ex_load1 39 Tryz.isAgg39 rfl rfl (unhide H8) rfl) ?_); simp only [Act.put, List.setIfInBounds_toArray, List.set_cons_succ, List.set_cons_zero]) | ((refine rd (by rfl) (ex_lenG 39 81 Tryz.underlying39 rfl rfl) ?_); simp only [Act.put, List.setIfInBounds_toArray, List.set_cons_succ, List.set_cons_zero])))
        go_ret2
        exact ⟨rfl, _, unhide FIN⟩
      · simp only [Act.put, List.setIfInBounds_toArray, List.set_cons_succ, List.set_cons_zero]
        refine wpAnyH_ready (rs := [4]) (by kernel_rfl) (by simp) (gval 4 (some 29) rfl (by kernel_rfl) (by kernel_rfl) (ex_load1 39 Tryz.isAgg39 rfl rfl h6 rfl) trivial ?_ AllReadyH.nil)
        simp only [Act.put, List.setIfInBounds_toArray, List.set_cons_succ, List.set_cons_zero]
        generalize hX6 : X2.drew.alloc (Obj.cells (SY.mk ⟨5, b, x, s, i⟩ false).cs.toArray 81) = X6 at *
        generalize hB6 : X2.drew.heap.size = B6 at *
        refine wpAnyH_ready (rs := [8]) (by kernel_rfl) (by simp) (gappF (base := 5) (v := .slice A l.length c) (xs := flatS l) (news := (SY.mk ⟨5, b, x, s, i⟩ false).cs) 8 (some 33) rfl (by kernel_rfl) (by kernel_rfl) rfl rfl rfl Tryz.underlying39 info88 rfl (by decide) O6 hN rfl (ycs_one _) (by have := unhide HL; omega) (by decide) (Nat.le_trans (unhide H5) F6.size) (fun _ _ => trivial) ?_ AllReadyH.nil)
        intro A7 c7 X7 O7 hg7 hf7
        have h7 : Holds X7 r [.slice A l.length c] := h6.block (hg7.block r (h6.lt (Nat.succ_pos _)) (fun e => (unhide HR).ne r e.symm rfl))
        simp only [Act.put, List.setIfInBounds_toArray, List.set_cons_succ, List.set_cons_zero]
        refine gsem 9 (some 34) (.pointer (some ⟨r, 0, none⟩)) rfl (by kernel_rfl) (by kernel_rfl) (by kernel_rfl) (fun _ _ _ h => h) (by kernel_rfl) (by kernel_rfl) (fun _ _ => by kernel_rfl) trivial ?_
        simp only [Act.put, List.setIfInBounds_toArray, List.set_cons_succ, List.set_cons_zero]
        refine gsem 10 (some 35) (.pointer (some ⟨r, 0, none⟩)) rfl (by kernel_rfl) (by kernel_rfl) (by kernel_rfl) (fun _ _ _ h => h) (by kernel_rfl) (by kernel_rfl) (fun _ _ => by kernel_rfl) trivial ?_
        simp only [Act.put, List.setIfInBounds_toArray, List.set_cons_succ, List.set_cons_zero]
        have h8 := h7.put 0 [.slice A7 (l.length + 1) c7] (by simp)
        have f8 := Fr.setCells X7 r 0 [.slice A7 (l.length + 1) c7]
        refine wpAnyH_ready (rs := [11]) (by kernel_rfl) (by simp) (gskp 11 none rfl (by kernel_rfl) (by kernel_rfl) (ex_store (t := 39) (b := r) (p := 0) (vs := [.slice A7 (l.length + 1) c7]) rfl rfl rfl rfl (by simp [Value.oneCell']) siz68 h7 (by simp)) trivial ?_ AllReadyH.nil)
        simp only [Act.put, List.setIfInBounds_toArray, List.set_cons_succ, List.set_cons_zero]
        refine wpAnyH_done (by kernel_rfl) ?_ _
        try simp only [Act.put, List.setIfInBounds_toArray, List.set_cons_succ, List.set_cons_zero]
        generalize X7.setCells r 0 [.slice A7 (l.length + 1) c7] = X8 at *
        have FIN := hide (RF.Is.added (y := (SY.mk ⟨5, b, x, s, i⟩ false)) (unhide HR) F6 O7 hg7 hf7 f8 h8)
        have H8 := hide h8
        clear h8 f8 h7 O7 hg7 hf7 hX6 hB6
        go_wp2_with (first | go_skip | ((with_reducible show wpList _ _ _ _ _ _); first | ((refine rd (by rfl) (ex_load1 39 Tryz.isAgg39 rfl rfl (unhide H8) rfl) ?_); simp only [Act.put, List.setIfInBounds_toArray, List.set_cons_succ, List.set_cons_zero]) | ((refine rd (by rfl) (ex_lenG 39 81 Tryz.underlying39 rfl rfl) ?_); simp only [Act.put, List.setIfInBounds_toArray, List.set_cons_succ, List.set_cons_zero])))
        go_ret2
        exact ⟨rfl, _, unhide FIN⟩
end Go.Proofs.YtkpfikeggleenaaGreatDoor

/-! Xc -/
namespace Go.Proofs.YtkpfikeggleenaaGreatDoor
open Go Go.Proofs Go.Maps Go.RowKit
set_option linter.unusedSimpArgs false
set_option linter.unusedVariables false
set_option maxHeartbeats 1000000
theorem ex_build88k {o : Oper} {a : Act} {w : World} {x y : Operand} {v : VV} (ho : o.op = .build 81 #[(0, x), (1, y)]) (hx : a.eval x = .agg v.cs.toArray) (hy : a.eval y = .bool true) : (execOp a.eval o).run Tryz.prog w = .ok (.value (.agg (SY.mk v true).cs.toArray)) w := by
  have e : (Instr.build 81 #[(0, .agg v.cs.toArray), (1, .bool true)]).run Tryz.prog w = .ok (.agg (SY.mk v true).cs.toArray) w := by kernel_rfl
  unfold execOp
  simp only [ho, List.map_toArray, List.map_cons, List.map_nil, hx, hy]
  simp [e]
theorem OwnS.rowQ {T : TypeId} {W : World} {g n c : Nat} {l : List SY} {j : Nat} {y : SY} (h : OwnS T W (.slice (some ⟨g, 0, none⟩) n c) l) (hy : l[j]? = some y) : W.rangeAt g (j * 6) y.cs := by
  obtain ⟨hj, rfl⟩ := List.getElem?_eq_some_iff.1 hy
  have := h.row' j hj
  rwa [Nat.zero_add] at this
theorem sV_fit (s : ByteArray) : (sV s).good = fitV s := by
  unfold VV.good goodV inG sV strV
  simp
set_option maxRecDepth 100000 in
theorem refFor_no (R : RF) (s : ByteArray) (w : World) (hR : R.Is w) (hg : (sV s).good = false) : Calls Tryz.prog 15 #[.pointer (some ⟨R.r, 0, none⟩), .string s] w fun e w' => e = .returned (.tuple #[.int .i64 0, .int .i64 5]) ∧ Below w.heap.size w w' := by
  have HC := hide (plain37 s w)
  rw [← sV_fit, hg] at HC
  clear hR hg
  go_enter Tryz.func15, Tryz.ntmps15
  go_wp2_with fail
  refine (unhide HC).mono ?_
  rintro e X0 ⟨rfl, hb⟩
  have HB := hide hb
  clear hb
  go_wp2
  go_ret2
  exact ⟨rfl, unhide HB⟩
set_option maxRecDepth 100000 in
theorem refFor_old (R : RF) (s : ByteArray) (w : World) (hR : R.Is w) (hg : (sV s).good = true) (j : Nat) (hy : R.l[j]? = some (SY.mk (sV s) true)) (hn : ∀ (i : Nat) (y : SY), R.l[i]? = some y → i < j → y.k = true → y.v.s ≠ s) (hl : R.l.length ≤ 100000) : Calls Tryz.prog 15 #[.pointer (some ⟨R.r, 0, none⟩), .string s] w fun e w' => e = .returned (.tuple #[.int .i64 ((j + 1 : Nat) : Int), .int .i64 0]) ∧ Below w.heap.size w w' := by
  have HR := hide hR
  obtain ⟨A, c, hv⟩ := hR.own.form
  obtain ⟨r, sv, l⟩ := R
  dsimp only at *
  subst hv
  have HC := hide (plain37 s w)
  rw [← sV_fit, hg] at HC
  have HN := hide hn
  have HLL := hide hl
  have HY := hide hy
  clear hR hg hn hl hy
  go_enter Tryz.func15, Tryz.ntmps15
  go_wp2_with fail
  refine (unhide HC).mono ?_
  rintro e X0 ⟨rfl, hb⟩
  have HB := hide hb
  clear hb
  have HRX := hide ((unhide HR).on (unhide HB))
  go_wp2_with fail
  go_loopg [6] l.length (fun gm s6 wr => ∃ i : Nat, s6 = .int .i64 i ∧ i ≤ j ∧ l.length - i ≤ gm ∧ wr = X0)
  case atStart => exact ⟨0, rfl, by omega, by omega, rfl⟩
  case round =>
    obtain ⟨i, rfl, hi, hgm, hwr⟩ := hrel
    subst hwr
    have hjl := (List.getElem?_eq_some_iff.1 (unhide HY)).1
    have hlt : i < l.length := by omega
    have hlz : decide ((i : Int) < (l.length : Int)) = true := decide_eq_true (by omega)
    have hw1 : IntKind.i64.wrap ((i : Int) + 1) = (i : Int) + 1 := by have := unhide HLL; rw [IntKind.wrap_i64]; omega
    obtain ⟨g, c2, hv, -⟩ := (unhide HRX).own.row i hlt
    cases hv
    have HLT := hide hlt
    have HI1 : Hid (i < 1000000) := hide (by have := unhide HLL; omega)
    by_cases hij : i = j
    · subst hij
      have hyq := unhide HY
      have HG : Hid (wr.rangeAt g (i * 6) (SY.mk (sV s) true).cs) := hide (OwnS.rowQ (l := l) (unhide HRX).own hyq)
      clear hyq hlt
      go_wp2_with (first | go_skip | ((with_reducible show wpList _ _ _ _ _ _); first | ((refine rd (by rfl) (ex_load1 39 Tryz.isAgg39 rfl rfl ((unhide HRX).hold) rfl) ?_); simp only [Act.put, List.setIfInBounds_toArray, List.set_cons_succ, List.set_cons_zero]) | ((refine rd (by rfl) (ex_lenG 39 81 Tryz.underlying39 rfl rfl) ?_); simp only [Act.put, List.setIfInBounds_toArray, List.set_cons_succ, List.set_cons_zero]) | ((refine rd (by rfl) (ex_indexG 39 6 i und68 idx68 rfl rfl rfl (unhide HLT)) ?_); simp only [Act.put, List.setIfInBounds_toArray, List.set_cons_succ, List.set_cons_zero]) | ((refine rd (by rfl) (ex_loadC 4 Tryz.isAgg4 rfl rfl (unhide HG 5 _ rfl)) ?_); simp only [Act.put, List.setIfInBounds_toArray, List.set_cons_succ, List.set_cons_zero]) | ((refine rd (by rfl) (ex_loadC 9 Tryz.isAgg9 rfl rfl (unhide HG 3 _ rfl)) ?_); simp only [Act.put, List.setIfInBounds_toArray, List.set_cons_succ, List.set_cons_zero]) | ((refine rd (by rfl) (ex_eqS_t (s := s) (t := s) rfl rfl rfl rfl) ?_); simp only [Act.put, List.setIfInBounds_toArray, List.set_cons_succ, List.set_cons_zero]) | ((refine rd (by rfl) (ex_add1 (n := i) rfl rfl rfl (unhide HI1)) ?_); simp only [Act.put, List.setIfInBounds_toArray, List.set_cons_succ, List.set_cons_zero])))
      go_ret2
      exact ⟨rfl, unhide HB⟩
    · have hij2 : i < j := by omega
      obtain ⟨y, hyq⟩ : ∃ y, l[i]? = some y := ⟨_, List.getElem?_eq_getElem hlt⟩
      have HG : Hid (wr.rangeAt g (i * 6) y.cs) := hide (OwnS.rowQ (l := l) (unhide HRX).own hyq)
      have hno := unhide HN i y hyq (by omega)
      obtain ⟨⟨k0, b0, x0, s0, i0⟩, kk⟩ := y
      dsimp only at hno
      clear hyq hlt
      cases kk
      · clear hno
        go_wp2_with (first | go_skip | ((with_reducible show wpList _ _ _ _ _ _); first | ((refine rd (by rfl) (ex_load1 39 Tryz.isAgg39 rfl rfl ((unhide HRX).hold) rfl) ?_); simp only [Act.put, List.setIfInBounds_toArray, List.set_cons_succ, List.set_cons_zero]) | ((refine rd (by rfl) (ex_lenG 39 81 Tryz.underlying39 rfl rfl) ?_); simp only [Act.put, List.setIfInBounds_toArray, List.set_cons_succ, List.set_cons_zero]) | ((refine rd (by rfl) (ex_indexG 39 6 i und68 idx68 rfl rfl rfl (unhide HLT)) ?_); simp only [Act.put, List.setIfInBounds_toArray, List.set_cons_succ, List.set_cons_zero]) | ((refine rd (by rfl) (ex_loadC 4 Tryz.isAgg4 rfl rfl (unhide HG 5 _ rfl)) ?_); simp only [Act.put, List.setIfInBounds_toArray, List.set_cons_succ, List.set_cons_zero]) | ((refine rd (by rfl) (ex_loadC 9 Tryz.isAgg9 rfl rfl (unhide HG 3 _ rfl)) ?_); simp only [Act.put, List.setIfInBounds_toArray, List.set_cons_succ, List.set_cons_zero])))
        go_roundg (l.length - (i + 1))
        case measure => have := unhide HLT; omega
        case rel => exact ⟨i + 1, by go_num, by omega, by omega, rfl⟩
      · have HNE : Hid (s0 ≠ s) := hide (hno rfl)
        clear hno
        go_wp2_with (first | go_skip | ((with_reducible show wpList _ _ _ _ _ _); first | ((refine rd (by rfl) (ex_load1 39 Tryz.isAgg39 rfl rfl ((unhide HRX).hold) rfl) ?_); simp only [Act.put, List.setIfInBounds_toArray, List.set_cons_succ, List.set_cons_zero]) | ((refine rd (by rfl) (ex_lenG 39 81 Tryz.underlying39 rfl rfl) ?_); simp only [Act.put, List.setIfInBounds_toArray, List.set_cons_succ, List.set_cons_zero]) | ((refine rd (by rfl) (ex_indexG 39 6 i und68 idx68 rfl rfl rfl (unhide HLT)) ?_); simp only [Act.put, List.setIfInBounds_toArray, List.set_cons_succ, List.set_cons_zero]) | ((refine rd (by rfl) (ex_loadC 4 Tryz.isAgg4 rfl rfl (unhide HG 5 _ rfl)) ?_); simp only [Act.put, List.setIfInBounds_toArray, List.set_cons_succ, List.set_cons_zero]) | ((refine rd (by rfl) (ex_loadC 9 Tryz.isAgg9 rfl rfl (unhide HG 3 _ rfl)) ?_); simp only [Act.put, List.setIfInBounds_toArray, List.set_cons_succ, List.set_cons_zero]) | ((refine rd (by rfl) (ex_eqS_f rfl rfl rfl (unhide HNE)) ?_); simp only [Act.put, List.setIfInBounds_toArray, List.set_cons_succ, List.set_cons_zero])))
        go_roundg (l.length - (i + 1))
        case measure => have := unhide HLT; omega
        case rel => exact ⟨i + 1, by go_num, by omega, by omega, rfl⟩
set_option maxRecDepth 100000 in
theorem refFor_full (R : RF) (s : ByteArray) (w : World) (hR : R.Is w) (hg : (sV s).good = true) (hn : ∀ (i : Nat) (y : SY), R.l[i]? = some y → y.k = true → y.v.s ≠ s) (hl : R.l.length ≤ 100000) (hf : 65536 ≤ R.l.length) : Calls Tryz.prog 15 #[.pointer (some ⟨R.r, 0, none⟩), .string s] w fun e w' => e = .returned (.tuple #[.int .i64 0, .int .i64 3]) ∧ Below w.heap.size w w' := by
  have HFL := hide hf
  clear hf
  have HR := hide hR
  obtain ⟨A, c, hv⟩ := hR.own.form
  obtain ⟨r, sv, l⟩ := R
  dsimp only at *
  subst hv
  have HC := hide (plain37 s w)
  rw [← sV_fit, hg] at HC
  have HN := hide hn
  have HLL := hide hl
  clear hR hg hn hl
  go_enter Tryz.func15, Tryz.ntmps15
  go_wp2_with fail
  refine (unhide HC).mono ?_
  rintro e X0 ⟨rfl, hb⟩
  have HB := hide hb
  clear hb
  have HRX := hide ((unhide HR).on (unhide HB))
  go_wp2_with fail
  go_loopg [6] l.length (fun gm s6 wr => ∃ i : Nat, s6 = .int .i64 i ∧ i ≤ l.length ∧ l.length - i ≤ gm ∧ wr = X0)
  case atStart => exact ⟨0, rfl, by omega, by omega, rfl⟩
  case round =>
    obtain ⟨i, rfl, hi, hgm, hwr⟩ := hrel
    subst hwr
    by_cases hlt : i < l.length
    · have hlz : decide ((i : Int) < (l.length : Int)) = true := decide_eq_true (by omega)
      have hw1 : IntKind.i64.wrap ((i : Int) + 1) = (i : Int) + 1 := by have := unhide HLL; rw [IntKind.wrap_i64]; omega
      obtain ⟨g, c2, hv, -⟩ := (unhide HRX).own.row i hlt
      cases hv
      have HLT := hide hlt
      have HI1 : Hid (i < 1000000) := hide (by have := unhide HLL; omega)
      obtain ⟨y, hyq⟩ : ∃ y, l[i]? = some y := ⟨_, List.getElem?_eq_getElem hlt⟩
      have HG : Hid (wr.rangeAt g (i * 6) y.cs) := hide (OwnS.rowQ (l := l) (unhide HRX).own hyq)
      have hno := unhide HN i y hyq
      obtain ⟨⟨k0, b0, x0, s0, i0⟩, kk⟩ := y
      dsimp only at hno
      clear hyq hlt
      cases kk
      · clear hno
        go_wp2_with (first | go_skip | ((with_reducible show wpList _ _ _ _ _ _); first | ((refine rd (by rfl) (ex_load1 39 Tryz.isAgg39 rfl rfl ((unhide HRX).hold) rfl) ?_); simp only [Act.put, List.setIfInBounds_toArray, List.set_cons_succ, List.set_cons_zero]) | ((refine rd (by rfl) (ex_lenG 39 81 Tryz.underlying39 rfl rfl) ?_); simp only [Act.put, List.setIfInBounds_toArray, List.set_cons_succ, List.set_cons_zero]) | ((refine rd (by rfl) (ex_indexG 39 6 i und68 idx68 rfl rfl rfl (unhide HLT)) ?_); simp only [Act.put, List.setIfInBounds_toArray, List.set_cons_succ, List.set_cons_zero]) | ((refine rd (by rfl) (ex_loadC 4 Tryz.isAgg4 rfl rfl (unhide HG 5 _ rfl)) ?_); simp only [Act.put, List.setIfInBounds_toArray, List.set_cons_succ, List.set_cons_zero]) | ((refine rd (by rfl) (ex_loadC 9 Tryz.isAgg9 rfl rfl (unhide HG 3 _ rfl)) ?_); simp only [Act.put, List.setIfInBounds_toArray, List.set_cons_succ, List.set_cons_zero])))
        go_roundg (l.length - (i + 1))
        case measure => have := unhide HLT; omega
        case rel => exact ⟨i + 1, by go_num, by have := unhide HLT; omega, by omega, rfl⟩
      · have HNE : Hid (s0 ≠ s) := hide (hno rfl)
        clear hno
        go_wp2_with (first | go_skip | ((with_reducible show wpList _ _ _ _ _ _); first | ((refine rd (by rfl) (ex_load1 39 Tryz.isAgg39 rfl rfl ((unhide HRX).hold) rfl) ?_); simp only [Act.put, List.setIfInBounds_toArray, List.set_cons_succ, List.set_cons_zero]) | ((refine rd (by rfl) (ex_lenG 39 81 Tryz.underlying39 rfl rfl) ?_); simp only [Act.put, List.setIfInBounds_toArray, List.set_cons_succ, List.set_cons_zero]) | ((refine rd (by rfl) (ex_indexG 39 6 i und68 idx68 rfl rfl rfl (unhide HLT)) ?_); simp only [Act.put, List.setIfInBounds_toArray, List.set_cons_succ, List.set_cons_zero]) | ((refine rd (by rfl) (ex_loadC 4 Tryz.isAgg4 rfl rfl (unhide HG 5 _ rfl)) ?_); simp only [Act.put, List.setIfInBounds_toArray, List.set_cons_succ, List.set_cons_zero]) | ((refine rd (by rfl) (ex_loadC 9 Tryz.isAgg9 rfl rfl (unhide HG 3 _ rfl)) ?_); simp only [Act.put, List.setIfInBounds_toArray, List.set_cons_succ, List.set_cons_zero]) | ((refine rd (by rfl) (ex_eqS_f rfl rfl rfl (unhide HNE)) ?_); simp only [Act.put, List.setIfInBounds_toArray, List.set_cons_succ, List.set_cons_zero])))
        go_roundg (l.length - (i + 1))
        case measure => have := unhide HLT; omega
        case rel => exact ⟨i + 1, by go_num, by have := unhide HLT; omega, by omega, rfl⟩
    · have hil : i = l.length := by omega
      subst hil
      have hlz2 : decide ((65536 : Int) ≤ (l.length : Int)) = true := decide_eq_true (by have := unhide HFL; omega)
      clear hlt hi hgm
      go_wp2_with (first | go_skip | ((with_reducible show wpList _ _ _ _ _ _); first | ((refine rd (by rfl) (ex_load1 39 Tryz.isAgg39 rfl rfl ((unhide HRX).hold) rfl) ?_); simp only [Act.put, List.setIfInBounds_toArray, List.set_cons_succ, List.set_cons_zero]) | ((refine rd (by rfl) (ex_lenG 39 81 Tryz.underlying39 rfl rfl) ?_); simp only [Act.put, List.setIfInBounds_toArray, List.set_cons_succ, List.set_cons_zero])))
      go_ret2
      exact ⟨rfl, unhide HB⟩
set_option maxRecDepth 100000 in
theorem refFor_new (R : RF) (s : ByteArray) (w : World) (hR : R.Is w) (hg : (sV s).good = true) (hn : ∀ (i : Nat) (y : SY), R.l[i]? = some y → y.k = true → y.v.s ≠ s) (h5 : 5 ≤ w.heap.size) (hl : R.l.length ≤ 100000) (hf : R.l.length < 65536) : Calls Tryz.prog 15 #[.pointer (some ⟨R.r, 0, none⟩), .string s] w fun e w' => e = .returned (.tuple #[.int .i64 ((R.l.length + 1 : Nat) : Int), .int .i64 0]) ∧ ∃ sv, (RF.mk R.r sv (R.l ++ [SY.mk (sV s) true])).Is w' ∧ Fr w w' R.blocks ∧ (∀ g, sv.ownBlock = some g → R.sv.ownBlock = some g ∨ w.heap.size ≤ g) := by
  have HFL := hide hf
  have H5 := hide h5
  clear hf h5
  have HR := hide hR
  obtain ⟨A, c, hv⟩ := hR.own.form
  obtain ⟨r, sv, l⟩ := R
  dsimp only at *
  subst hv
  have HC := hide (plain37 s w)
  rw [← sV_fit, hg] at HC
  have HN := hide hn
  have HLL := hide hl
  clear hR hg hn hl
  go_enter Tryz.func15, Tryz.ntmps15
  go_wp2_with fail
  refine (unhide HC).mono ?_
  rintro e X0 ⟨rfl, hb⟩
  have HB := hide hb
  clear hb
  have HRX := hide ((unhide HR).on (unhide HB))
  go_wp2_with fail
  go_loopg [6] l.length (fun gm s6 wr => ∃ i : Nat, s6 = .int .i64 i ∧ i ≤ l.length ∧ l.length - i ≤ gm ∧ wr = X0)
  case atStart => exact ⟨0, rfl, by omega, by omega, rfl⟩
  case round =>
    obtain ⟨i, rfl, hi, hgm, hwr⟩ := hrel
    subst hwr
    by_cases hlt : i < l.length
    · have hlz : decide ((i : Int) < (l.length : Int)) = true := decide_eq_true (by omega)
      have hw1 : IntKind.i64.wrap ((i : Int) + 1) = (i : Int) + 1 := by have := unhide HLL; rw [IntKind.wrap_i64]; omega
      obtain ⟨g, c2, hv, -⟩ := (unhide HRX).own.row i hlt
      cases hv
      have HLT := hide hlt
      have HI1 : Hid (i < 1000000) := hide (by have := unhide HLL; omega)
      obtain ⟨y, hyq⟩ : ∃ y, l[i]? = some y := ⟨_, List.getElem?_eq_getElem hlt⟩
      have HG : Hid (wr.rangeAt g (i * 6) y.cs) := hide (OwnS.rowQ (l := l) (unhide HRX).own hyq)
      have hno := unhide HN i y hyq
      obtain ⟨⟨k0, b0, x0, s0, i0⟩, kk⟩ := y
      dsimp only at hno
      clear hyq hlt
      cases kk
      · clear hno
        go_wp2_with (first | go_skip | ((with_reducible show wpList _ _ _ _ _ _); first | ((refine rd (by rfl) (ex_load1 39 Tryz.isAgg39 rfl rfl ((unhide HRX).hold) rfl) ?_); simp only [Act.put, List.setIfInBounds_toArray, List.set_cons_succ, List.set_cons_zero]) | ((refine rd (by rfl) (ex_lenG 39 81 Tryz.underlying39 rfl rfl) ?_); simp only [Act.put, List.setIfInBounds_toArray, List.set_cons_succ, List.set_cons_zero]) | ((refine rd (by rfl) (ex_indexG 39 6 i und68 idx68 rfl rfl rfl (unhide HLT)) ?_); simp only [Act.put, List.setIfInBounds_toArray, List.set_cons_succ, List.set_cons_zero]) | ((refine rd (by rfl) (ex_loadC 4 Tryz.isAgg4 rfl rfl (unhide HG 5 _ rfl)) ?_); simp only [Act.put, List.setIfInBounds_toArray, List.set_cons_succ, List.set_cons_zero]) | ((refine rd (by rfl) (ex_loadC 9 Tryz.isAgg9 rfl rfl (unhide HG 3 _ rfl)) ?_); simp only [Act.put, List.setIfInBounds_toArray, List.set_cons_succ, List.set_cons_zero])))
        go_roundg (l.length - (i + 1))
        case measure => have := unhide HLT; omega
        case rel => exact ⟨i + 1, by go_num, by have := unhide HLT; omega, by omega, rfl⟩
      · have HNE : Hid (s0 ≠ s) := hide (hno rfl)
        clear hno
        go_wp2_with (first | go_skip | ((with_reducible show wpList _ _ _ _ _ _); first | ((refine rd (by rfl) (ex_load1 39 Tryz.isAgg39 rfl rfl ((unhide HRX).hold) rfl) ?_); simp only [Act.put, List.setIfInBounds_toArray, List.set_cons_succ, List.set_cons_zero]) | ((refine rd (by rfl) (ex_lenG 39 81 Tryz.underlying39 rfl rfl) ?_); simp only [Act.put, List.setIfInBounds_toArray, List.set_cons_succ, List.set_cons_zero]) | ((refine rd (by rfl) (ex_indexG 39 6 i und68 idx68 rfl rfl rfl (unhide HLT)) ?_); simp only [Act.put, List.setIfInBounds_toArray, List.set_cons_succ, List.set_cons_zero]) | ((refine rd (by rfl) (ex_loadC 4 Tryz.isAgg4 rfl rfl (unhide HG 5 _ rfl)) ?_); simp only [Act.put, List.setIfInBounds_toArray, List.set_cons_succ, List.set_cons_zero]) | ((refine rd (by rfl) (ex_loadC 9 Tryz.isAgg9 rfl rfl (unhide HG 3 _ rfl)) ?_); simp only [Act.put, List.setIfInBounds_toArray, List.set_cons_succ, List.set_cons_zero]) | ((refine rd (by rfl) (ex_eqS_f rfl rfl rfl (unhide HNE)) ?_); simp only [Act.put, List.setIfInBounds_toArray, List.set_cons_succ, List.set_cons_zero])))
        go_roundg (l.length - (i + 1))
        case measure => have := unhide HLT; omega
        case rel => exact ⟨i + 1, by go_num, by have := unhide HLT; omega, by omega, rfl⟩
    · have hil : i = l.length := by omega
      subst hil
      have hlz2 : decide ((65536 : Int) ≤ (l.length : Int)) = false := decide_eq_false (by have := unhide HFL; omega)
      clear hlt hi hgm
      go_wp2_with (first | go_skip | ((with_reducible show wpList _ _ _ _ _ _); first | ((refine rd (by rfl) (ex_load1 39 Tryz.isAgg39 rfl rfl ((unhide HRX).hold) rfl) ?_); simp only [Act.put, List.setIfInBounds_toArray, List.set_cons_succ, List.set_cons_zero]) | ((refine rd (by rfl) (ex_lenG 39 81 Tryz.underlying39 rfl rfl) ?_); simp only [Act.put, List.setIfInBounds_toArray, List.set_cons_succ, List.set_cons_zero])))
      have hI0 := (unhide HRX).drew
      have h0 := hI0.hold
      have O0 := hI0.own
      have h5 : 5 ≤ wr.drew.heap.size := Nat.le_trans (unhide H5) (unhide HB).size
      have hne := hI0.ne
      have HCC : ∀ X, Below wr.drew.heap.size wr.drew X → Calls Tryz.prog 32 #[.string s] X fun e w' => e = .returned (sV s).agg ∧ Below X.heap.size X w' := fun X _ => refStr38 s X
      have hln : l.length ≤ 65536 := by have := unhide HFL; omega
      refine wp_region_held_drew (P := Tryz.prog) (S := fun _ => True) (by kernel_rfl) trivial (fun hS0 => ?_)
      refine gsem 0 (some 48) (.pointer (some ⟨r, 0, none⟩)) rfl (by kernel_rfl) (by kernel_rfl) (by kernel_rfl) (fun _ _ _ h => h) (by kernel_rfl) (by kernel_rfl) (fun _ _ => by kernel_rfl) trivial ?_
      simp only [Act.put, List.setIfInBounds_toArray, List.set_cons_succ, List.set_cons_zero]
      refine gsem 1 (some 49) (.pointer (some ⟨r, 0, none⟩)) rfl (by kernel_rfl) (by kernel_rfl) (by kernel_rfl) (fun _ _ _ h => h) (by kernel_rfl) (by kernel_rfl) (fun _ _ => by kernel_rfl) trivial ?_
      simp only [Act.put, List.setIfInBounds_toArray, List.set_cons_succ, List.set_cons_zero]
      refine gsem 2 (some 50) (.pointer (some ⟨r, 0, none⟩)) rfl (by kernel_rfl) (by kernel_rfl) (by kernel_rfl) (fun _ _ _ h => h) (by kernel_rfl) (by kernel_rfl) (fun _ _ => by kernel_rfl) trivial ?_
      simp only [Act.put, List.setIfInBounds_toArray, List.set_cons_succ, List.set_cons_zero]
      refine gsem 3 (some 51) (.pointer (some ⟨r, 0, none⟩)) rfl (by kernel_rfl) (by kernel_rfl) (by kernel_rfl) (fun _ _ _ h => h) (by kernel_rfl) (by kernel_rfl) (fun _ _ => by kernel_rfl) trivial ?_
      simp only [Act.put, List.setIfInBounds_toArray, List.set_cons_succ, List.set_cons_zero]
      refine gsem 5 (some 53) (.string s) rfl (by kernel_rfl) (by kernel_rfl) (by kernel_rfl) (fun _ _ _ h => h) (by kernel_rfl) (by kernel_rfl) (fun _ _ => by kernel_rfl) trivial ?_
      simp only [Act.put, List.setIfInBounds_toArray, List.set_cons_succ, List.set_cons_zero]
      refine wpAnyH_ready (rs := [4, 6]) (by kernel_rfl) (by simp) (gval 4 (some 52) rfl (by kernel_rfl) (by kernel_rfl) (ex_load1 39 Tryz.isAgg39 rfl rfl h0 rfl) trivial ?_ (gcallR 6 (some 54) rfl (by kernel_rfl) (by kernel_rfl) (by kernel_rfl) (HCC _ (Below.refl _ _)) ?_ AllReadyH.nil))
      · simp only [Act.put, List.setIfInBounds_toArray, List.set_cons_succ, List.set_cons_zero]
        refine wpAnyH_ready (rs := [6]) (by kernel_rfl) (by simp) (gcallR 6 (some 54) rfl (by kernel_rfl) (by kernel_rfl) (by kernel_rfl) (HCC _ (Below.refl _ _)) ?_ AllReadyH.nil)
        rintro e X6 ⟨rfl, hb6⟩
        refine ⟨_, rfl, trivial, ?_⟩
        rw [vagg]
        simp only [Act.put, List.setIfInBounds_toArray, List.set_cons_succ, List.set_cons_zero]
        have h6 := h0.block (hb6.block r (h0.lt (Nat.succ_pos _)))
        have O6 : OwnS 81 X6 (.slice A l.length c) (l) := O0.block (fun g hg => hb6.block g (O0.lt g hg).2)
        have bl := (Below.refl X6.heap.size X6).alloc (Nat.le_refl _) (Obj.cells (SY.mk (sV s) true).cs.toArray 81)
        have h8 := h6.block (bl.block r (h6.lt (Nat.succ_pos _)))
        have O8 : OwnS 81 _ (.slice A l.length c) (l) := O6.block (fun g hg => bl.block g (O6.lt g hg).2)
        have hN8 := Holds.new X6 (SY.mk (sV s) true).cs 81
        have F8 := (Fr.of_below hb6 []).on bl
        refine gsem 7 (some 55) (.agg (SY.mk (sV s) true).cs.toArray) rfl (by kernel_rfl) (by kernel_rfl) (by kernel_rfl) (fun _ _ _ h => h) (by kernel_rfl) (by kernel_rfl) (fun X hX => ex_build88k (v := sV s) rfl rfl rfl) trivial ?_
        simp only [Act.put, List.setIfInBounds_toArray, List.set_cons_succ, List.set_cons_zero]
        refine wpAnyH_ready (rs := [8]) (by kernel_rfl) (by simp) (gval 8 (some 56) rfl (by kernel_rfl) (by kernel_rfl) (ex_buildS (e := 81) (size := 6) (bytes := 56) (cs := (SY.mk (sV s) true).cs) rfl rfl Tryz.underlying39 info88 (by decide) rfl rfl (by decide)) trivial ?_ AllReadyH.nil)
        simp only [Act.put, List.setIfInBounds_toArray, List.set_cons_succ, List.set_cons_zero]
        generalize hX8 : X6.alloc (Obj.cells (SY.mk (sV s) true).cs.toArray 81) = X8 at *
        generalize hB8 : X6.heap.size = B8 at *
        refine wpAnyH_ready (rs := [9]) (by kernel_rfl) (by simp) (gappF (base := 5) (v := .slice A l.length c) (xs := flatS (l)) (news := (SY.mk (sV s) true).cs) 9 (some 57) rfl (by kernel_rfl) (by kernel_rfl) rfl rfl rfl Tryz.underlying39 info88 rfl (by decide) O8 hN8 rfl (ycs_one _) (by omega) (by decide) (Nat.le_trans h5 F8.size) (fun _ _ => trivial) ?_ AllReadyH.nil)
        intro A9 c9 X9 O9 hg9 hf9
        have h9 : Holds X9 r [.slice A l.length c] := h8.block (hg9.block r (h8.lt (Nat.succ_pos _)) (fun e => hne r e.symm rfl))
        simp only [Act.put, List.setIfInBounds_toArray, List.set_cons_succ, List.set_cons_zero]
        refine gsem 10 (some 58) (.pointer (some ⟨r, 0, none⟩)) rfl (by kernel_rfl) (by kernel_rfl) (by kernel_rfl) (fun _ _ _ h => h) (by kernel_rfl) (by kernel_rfl) (fun _ _ => by kernel_rfl) trivial ?_
        simp only [Act.put, List.setIfInBounds_toArray, List.set_cons_succ, List.set_cons_zero]
        refine gsem 11 (some 59) (.pointer (some ⟨r, 0, none⟩)) rfl (by kernel_rfl) (by kernel_rfl) (by kernel_rfl) (fun _ _ _ h => h) (by kernel_rfl) (by kernel_rfl) (fun _ _ => by kernel_rfl) trivial ?_
        simp only [Act.put, List.setIfInBounds_toArray, List.set_cons_succ, List.set_cons_zero]
        have h12 := h9.put 0 [.slice A9 (l.length + 1) c9] (by simp)
        have f12 := Fr.setCells X9 r 0 [.slice A9 (l.length + 1) c9]
        refine wpAnyH_ready (rs := [12]) (by kernel_rfl) (by simp) (gskp 12 none rfl (by kernel_rfl) (by kernel_rfl) (ex_store (t := 39) (b := r) (p := 0) (vs := [.slice A9 (l.length + 1) c9]) rfl rfl rfl rfl (by simp [Value.oneCell']) siz68 h9 (by simp)) trivial ?_ AllReadyH.nil)
        simp only [Act.put, List.setIfInBounds_toArray, List.set_cons_succ, List.set_cons_zero]
        refine wpAnyH_done (by kernel_rfl) ?_ _
        try simp only [Act.put, List.setIfInBounds_toArray, List.set_cons_succ, List.set_cons_zero]
        generalize X9.setCells r 0 [.slice A9 (l.length + 1) c9] = X12 at *
        have FIN := RF.Is.added hI0 F8 O9 hg9 hf9 f12 h12
        have HFIN := hide (And.intro FIN (And.intro h12 True.intro))
        clear FIN h12 f12 h9 O9 hg9 hf9 hN8 F8 O8 h8 h6 O6 bl hb6 h0 O0 hI0 HCC hne h5 hX8 hB8 hS0
        go_wp2_with (first | go_skip | ((with_reducible show wpList _ _ _ _ _ _); first | ((refine rd (by rfl) (ex_load1 39 Tryz.isAgg39 rfl rfl ((unhide HFIN).2.1) rfl) ?_); simp only [Act.put, List.setIfInBounds_toArray, List.set_cons_succ, List.set_cons_zero]) | ((refine rd (by rfl) (ex_lenG 39 81 Tryz.underlying39 rfl rfl) ?_); simp only [Act.put, List.setIfInBounds_toArray, List.set_cons_succ, List.set_cons_zero])))
        go_ret2
        have hs := (unhide HB).size
        exact ⟨rfl, _, (unhide HFIN).1.1, ((Fr.of_below (unhide HB) []).drew.mono (by simp)).trans (unhide HFIN).1.2.1 (fun b hb => .inl hb), fun g hg => ((unhide HFIN).1.2.2 g hg).imp id (fun h => by have : wr.drew.heap.size = wr.heap.size := rfl; omega)⟩
      · rintro e X6 ⟨rfl, hb6⟩
        refine ⟨_, rfl, trivial, ?_⟩
        rw [vagg]
        simp only [Act.put, List.setIfInBounds_toArray, List.set_cons_succ, List.set_cons_zero]
        have h6 := h0.block (hb6.block r (h0.lt (Nat.succ_pos _)))
        have O6 : OwnS 81 X6 (.slice A l.length c) (l) := O0.block (fun g hg => hb6.block g (O0.lt g hg).2)
        have bl := (Below.refl X6.heap.size X6).alloc (Nat.le_refl _) (Obj.cells (SY.mk (sV s) true).cs.toArray 81)
        have h8 := h6.block (bl.block r (h6.lt (Nat.succ_pos _)))
        have O8 : OwnS 81 _ (.slice A l.length c) (l) := O6.block (fun g hg => bl.block g (O6.lt g hg).2)
        have hN8 := Holds.new X6 (SY.mk (sV s) true).cs 81
        have F8 := (Fr.of_below hb6 []).on bl
        refine gsem 7 (some 55) (.agg (SY.mk (sV s) true).cs.toArray) rfl (by kernel_rfl) (by kernel_rfl) (by kernel_rfl) (fun _ _ _ h => h) (by kernel_rfl) (by kernel_rfl) (fun X hX => ex_build88k (v := sV s) rfl rfl rfl) trivial ?_
        simp only [Act.put, List.setIfInBounds_toArray, List.set_cons_succ, List.set_cons_zero]
        refine wpAnyH_ready (rs := [4, 8]) (by kernel_rfl) (by simp) (gval 4 (some 52) rfl (by kernel_rfl) (by kernel_rfl) (ex_load1 39 Tryz.isAgg39 rfl rfl h6 rfl) trivial ?_ (gval 8 (some 56) rfl (by kernel_rfl) (by kernel_rfl) (ex_buildS (e := 81) (size := 6) (bytes := 56) (cs := (SY.mk (sV s) true).cs) rfl rfl Tryz.underlying39 info88 (by decide) rfl rfl (by decide)) trivial ?_ AllReadyH.nil))
        · simp only [Act.put, List.setIfInBounds_toArray, List.set_cons_succ, List.set_cons_zero]
          refine wpAnyH_ready (rs := [8]) (by kernel_rfl) (by simp) (gval 8 (some 56) rfl (by kernel_rfl) (by kernel_rfl) (ex_buildS (e := 81) (size := 6) (bytes := 56) (cs := (SY.mk (sV s) true).cs) rfl rfl Tryz.underlying39 info88 (by decide) rfl rfl (by decide)) trivial ?_ AllReadyH.nil)
          simp only [Act.put, List.setIfInBounds_toArray, List.set_cons_succ, List.set_cons_zero]
          generalize hX8 : X6.alloc (Obj.cells (SY.mk (sV s) true).cs.toArray 81) = X8 at *
          generalize hB8 : X6.heap.size = B8 at *
          refine wpAnyH_ready (rs := [9]) (by kernel_rfl) (by simp) (gappF (base := 5) (v := .slice A l.length c) (xs := flatS (l)) (news := (SY.mk (sV s) true).cs) 9 (some 57) rfl (by kernel_rfl) (by kernel_rfl) rfl rfl rfl Tryz.underlying39 info88 rfl (by decide) O8 hN8 rfl (ycs_one _) (by omega) (by decide) (Nat.le_trans h5 F8.size) (fun _ _ => trivial) ?_ AllReadyH.nil)
          intro A9 c9 X9 O9 hg9 hf9
          have h9 : Holds X9 r [.slice A l.length c] := h8.block (hg9.block r (h8.lt (Nat.succ_pos _)) (fun e => hne r e.symm rfl))
          simp only [Act.put, List.setIfInBounds_toArray, List.set_cons_succ, List.set_cons_zero]
          refine gsem 10 (some 58) (.pointer (some ⟨r, 0, none⟩)) rfl (by kernel_rfl) (by kernel_rfl) (by kernel_rfl) (fun _ _ _ h => h) (by kernel_rfl) (by kernel_rfl) (fun _ _ => by kernel_rfl) trivial ?_
          simp only [Act.put, List.setIfInBounds_toArray, List.set_cons_succ, List.set_cons_zero]
          refine gsem 11 (some 59) (.pointer (some ⟨r, 0, none⟩)) rfl (by kernel_rfl) (by kernel_rfl) (by kernel_rfl) (fun _ _ _ h => h) (by kernel_rfl) (by kernel_rfl) (fun _ _ => by kernel_rfl) trivial ?_
          simp only [Act.put, List.setIfInBounds_toArray, List.set_cons_succ, List.set_cons_zero]
          have h12 := h9.put 0 [.slice A9 (l.length + 1) c9] (by simp)
          have f12 := Fr.setCells X9 r 0 [.slice A9 (l.length + 1) c9]
          refine wpAnyH_ready (rs := [12]) (by kernel_rfl) (by simp) (gskp 12 none rfl (by kernel_rfl) (by kernel_rfl) (ex_store (t := 39) (b := r) (p := 0) (vs := [.slice A9 (l.length + 1) c9]) rfl rfl rfl rfl (by simp [Value.oneCell']) siz68 h9 (by simp)) trivial ?_ AllReadyH.nil)
          simp only [Act.put, List.setIfInBounds_toArray, List.set_cons_succ, List.set_cons_zero]
          refine wpAnyH_done (by kernel_rfl) ?_ _
          try simp only [Act.put, List.setIfInBounds_toArray, List.set_cons_succ, List.set_cons_zero]
          generalize X9.setCells r 0 [.slice A9 (l.length + 1) c9] = X12 at *
          have FIN := RF.Is.added hI0 F8 O9 hg9 hf9 f12 h12
          have HFIN := hide (And.intro FIN (And.intro h12 True.intro))
          clear FIN h12 f12 h9 O9 hg9 hf9 hN8 F8 O8 h8 h6 O6 bl hb6 h0 O0 hI0 HCC hne h5 hX8 hB8 hS0
          go_wp2_with (first | go_skip | ((with_reducible show wpList _ _ _ _ _ _); first | ((refine rd (by rfl) (ex_load1 39 Tryz.isAgg39 rfl rfl ((unhide HFIN).2.1) rfl) ?_); simp only [Act.put, List.setIfInBounds_toArray, List.set_cons_succ, List.set_cons_zero]) | ((refine rd (by rfl) (ex_lenG 39 81 Tryz.underlying39 rfl rfl) ?_); simp only [Act.put, List.setIfInBounds_toArray, List.set_cons_succ, List.set_cons_zero])))
          go_ret2
          have hs := (unhide HB).size
          exact ⟨rfl, _, (unhide HFIN).1.1, ((Fr.of_below (unhide HB) []).drew.mono (by simp)).trans (unhide HFIN).1.2.1 (fun b hb => .inl hb), fun g hg => ((unhide HFIN).1.2.2 g hg).imp id (fun h => by have : wr.drew.heap.size = wr.heap.size := rfl; omega)⟩
        · simp only [Act.put, List.setIfInBounds_toArray, List.set_cons_succ, List.set_cons_zero]
          refine wpAnyH_ready (rs := [4]) (by kernel_rfl) (by simp) (gval 4 (some 52) rfl (by kernel_rfl) (by kernel_rfl) (ex_load1 39 Tryz.isAgg39 rfl rfl h8 rfl) trivial ?_ AllReadyH.nil)
          simp only [Act.put, List.setIfInBounds_toArray, List.set_cons_succ, List.set_cons_zero]
          generalize hX8 : X6.alloc (Obj.cells (SY.mk (sV s) true).cs.toArray 81) = X8 at *
          generalize hB8 : X6.heap.size = B8 at *
          refine wpAnyH_ready (rs := [9]) (by kernel_rfl) (by simp) (gappF (base := 5) (v := .slice A l.length c) (xs := flatS (l)) (news := (SY.mk (sV s) true).cs) 9 (some 57) rfl (by kernel_rfl) (by kernel_rfl) rfl rfl rfl Tryz.underlying39 info88 rfl (by decide) O8 hN8 rfl (ycs_one _) (by omega) (by decide) (Nat.le_trans h5 F8.size) (fun _ _ => trivial) ?_ AllReadyH.nil)
          intro A9 c9 X9 O9 hg9 hf9
          have h9 : Holds X9 r [.slice A l.length c] := h8.block (hg9.block r (h8.lt (Nat.succ_pos _)) (fun e => hne r e.symm rfl))
          simp only [Act.put, List.setIfInBounds_toArray, List.set_cons_succ, List.set_cons_zero]
          refine gsem 10 (some 58) (.pointer (some ⟨r, 0, none⟩)) rfl (by kernel_rfl) (by kernel_rfl) (by kernel_rfl) (fun _ _ _ h => h) (by kernel_rfl) (by kernel_rfl) (fun _ _ => by kernel_rfl) trivial ?_
          simp only [Act.put, List.setIfInBounds_toArray, List.set_cons_succ, List.set_cons_zero]
          refine gsem 11 (some 59) (.pointer (some ⟨r, 0, none⟩)) rfl (by kernel_rfl) (by kernel_rfl) (by kernel_rfl) (fun _ _ _ h => h) (by kernel_rfl) (by kernel_rfl) (fun _ _ => by kernel_rfl) trivial ?_
          simp only [Act.put, List.setIfInBounds_toArray, List.set_cons_succ, List.set_cons_zero]
          have h12 := h9.put 0 [.slice A9 (l.length + 1) c9] (by simp)
          have f12 := Fr.setCells X9 r 0 [.slice A9 (l.length + 1) c9]
          refine wpAnyH_ready (rs := [12]) (by kernel_rfl) (by simp) (gskp 12 none rfl (by kernel_rfl) (by kernel_rfl) (ex_store (t := 39) (b := r) (p := 0) (vs := [.slice A9 (l.length + 1) c9]) rfl rfl rfl rfl (by simp [Value.oneCell']) siz68 h9 (by simp)) trivial ?_ AllReadyH.nil)
          simp only [Act.put, List.setIfInBounds_toArray, List.set_cons_succ, List.set_cons_zero]
          refine wpAnyH_done (by kernel_rfl) ?_ _
          try simp only [Act.put, List.setIfInBounds_toArray, List.set_cons_succ, List.set_cons_zero]
          generalize X9.setCells r 0 [.slice A9 (l.length + 1) c9] = X12 at *
          have FIN := RF.Is.added hI0 F8 O9 hg9 hf9 f12 h12
          have HFIN := hide (And.intro FIN (And.intro h12 True.intro))
          clear FIN h12 f12 h9 O9 hg9 hf9 hN8 F8 O8 h8 h6 O6 bl hb6 h0 O0 hI0 HCC hne h5 hX8 hB8 hS0
          go_wp2_with (first | go_skip | ((with_reducible show wpList _ _ _ _ _ _); first | ((refine rd (by rfl) (ex_load1 39 Tryz.isAgg39 rfl rfl ((unhide HFIN).2.1) rfl) ?_); simp only [Act.put, List.setIfInBounds_toArray, List.set_cons_succ, List.set_cons_zero]) | ((refine rd (by rfl) (ex_lenG 39 81 Tryz.underlying39 rfl rfl) ?_); simp only [Act.put, List.setIfInBounds_toArray, List.set_cons_succ, List.set_cons_zero])))
          go_ret2
          have hs := (unhide HB).size
          exact ⟨rfl, _, (unhide HFIN).1.1, ((Fr.of_below (unhide HB) []).drew.mono (by simp)).trans (unhide HFIN).1.2.1 (fun b hb => .inl hb), fun g hg => ((unhide HFIN).1.2.2 g hg).imp id (fun h => by have : wr.drew.heap.size = wr.heap.size := rfl; omega)⟩
end Go.Proofs.YtkpfikeggleenaaGreatDoor

/-! Xd -/
namespace Go.Proofs.YtkpfikeggleenaaGreatDoor
open Go Go.Proofs Go.Maps Go.RowKit
set_option linter.unusedSimpArgs false
set_option linter.unusedVariables false
set_option maxHeartbeats 1000000
set_option maxRecDepth 100000 in
theorem refKeyFor_kn (R : RF) (j : Nat) (y : SY) (w : World) (hR : R.Is w) (hy : R.l[j]? = some y) (hl : R.l.length ≤ 100000) (hk : y.k = true) : Calls Tryz.prog 24 #[.pointer (some ⟨R.r, 0, none⟩), .int .i64 ((j + 1 : Nat) : Int)] w fun e w' => e = .returned (.tuple #[.string y.v.s, .bool true, .int .i64 0]) ∧ Below w.heap.size w w' := by
  have HC := hide (has_in R j w hR (List.getElem?_eq_some_iff.1 hy).1)
  have HR := hide hR
  have hyq := hy
  obtain ⟨hj, -⟩ := List.getElem?_eq_some_iff.1 hy
  obtain ⟨g, c, hv, -⟩ := hR.own.row j hj
  obtain ⟨r, sv, l⟩ := R
  dsimp only at *
  subst hv
  change j < l.length at hj
  have HJ := hide hj
  have HJ2 : Hid (j < 1000000) := hide (by omega)
  have HG : Hid (w.rangeAt g (j * 6) y.cs) := hide (OwnS.rowQ (l := l) (unhide HR).own hyq)
  clear hj hy hl hR hyq
  obtain ⟨J, hJ⟩ : ∃ J : Int, J = ((j + 1 : Nat) : Int) := ⟨_, rfl⟩
  have HJ3 := hide hJ
  rw [← hJ] at HC ⊢
  clear hJ
  obtain ⟨v, k⟩ := y
  dsimp only at *
  subst hk
  go_enter Tryz.func24, Tryz.ntmps24
  go_wp2_with fail
  refine (unhide HC).mono ?_
  rintro e X0 ⟨rfl, h9⟩
  rw [h9]
  clear h9 X0
  go_wp2_with (first | go_skip | ((with_reducible show wpList _ _ _ _ _ _); first | ((refine rd (by rfl) (ex_load1 39 Tryz.isAgg39 rfl rfl ((unhide HR).hold) rfl) ?_); simp only [Act.put, List.setIfInBounds_toArray, List.set_cons_succ, List.set_cons_zero]) | ((refine rd (by rfl) (ex_lenG 39 81 Tryz.underlying39 rfl rfl) ?_); simp only [Act.put, List.setIfInBounds_toArray, List.set_cons_succ, List.set_cons_zero]) | ((refine rd (by rfl) (ex_sub1 rfl (congrArg _ (unhide HJ3)) rfl (unhide HJ2)) ?_); simp only [Act.put, List.setIfInBounds_toArray, List.set_cons_succ, List.set_cons_zero]) | ((refine rd (by rfl) (ex_indexG 39 6 j und68 idx68 rfl rfl rfl (unhide HJ)) ?_); simp only [Act.put, List.setIfInBounds_toArray, List.set_cons_succ, List.set_cons_zero]) | ((refine rd (by rfl) (ex_loadC 4 Tryz.isAgg4 rfl rfl (unhide HG 5 _ rfl)) ?_); simp only [Act.put, List.setIfInBounds_toArray, List.set_cons_succ, List.set_cons_zero]) | ((refine rd (by rfl) (ex_loadC 9 Tryz.isAgg9 rfl rfl (unhide HG 3 _ rfl)) ?_); simp only [Act.put, List.setIfInBounds_toArray, List.set_cons_succ, List.set_cons_zero])))
  exact ret_t3 rfl rfl rfl rfl rfl ⟨rfl, Below.refl _ _⟩
set_option maxRecDepth 100000 in
theorem refText_any (R : RF) (j : Nat) (y : SY) (w : World) (hR : R.Is w) (hy : R.l[j]? = some y) (hl : R.l.length ≤ 100000) (hs : y.v.s.size ≤ 1048576) : Calls Tryz.prog 28 #[.pointer (some ⟨R.r, 0, none⟩), .int .i64 ((j + 1 : Nat) : Int)] w fun e w' => e = .returned (.tuple #[.string (txS y.v.s), .int .i64 (txE y.v.s)]) ∧ Below w.heap.size w w' := by
  have HC := hide (has_in R j w hR (List.getElem?_eq_some_iff.1 hy).1)
  have HR := hide hR
  have hyq := hy
  obtain ⟨hj, -⟩ := List.getElem?_eq_some_iff.1 hy
  obtain ⟨g, c, hv, -⟩ := hR.own.row j hj
  obtain ⟨r, sv, l⟩ := R
  dsimp only at *
  subst hv
  change j < l.length at hj
  have HJ := hide hj
  have HJ2 : Hid (j < 1000000) := hide (by omega)
  have HG : Hid (w.rangeAt g (j * 6) y.cs) := hide (OwnS.rowQ (l := l) (unhide HR).own hyq)
  clear hj hy hl hR hyq
  obtain ⟨J, hJ⟩ : ∃ J : Int, J = ((j + 1 : Nat) : Int) := ⟨_, rfl⟩
  have HJ3 := hide hJ
  rw [← hJ] at HC ⊢
  clear hJ
  have HZ : Hid (sym7.size + y.v.s.size ≤ 10000000) := hide (by have : sym7.size = 7 := rfl; omega)
  have HZ2 : Hid ((sym7 ++ y.v.s).size + par1.size ≤ 10000000) := hide (by have : sym7.size = 7 := rfl; have : par1.size = 1 := rfl; rw [ByteArray.size_append]; omega)
  have hws : (sym7 ++ y.v.s ++ par1).size = y.v.s.size + 8 := by have : sym7.size = 7 := rfl; have : par1.size = 1 := rfl; rw [ByteArray.size_append, ByteArray.size_append]; omega
  unfold txS txE
  by_cases hz : y.v.s.size ≤ 1048568
  · rw [if_pos hz, if_pos hz]
    have w3 : decide ((1048576 : Int) < (((sym7 ++ y.v.s ++ par1).size : Nat) : Int)) = false := decide_eq_false (by omega)
    clear hs hws hz
    try unfold wordsS
    generalize hW : sym7 ++ y.v.s ++ par1 = W at *
    have HW := hide hW
    clear hW
    go_enter Tryz.func28, Tryz.ntmps28
    go_wp2_with fail
    refine (unhide HC).mono ?_
    rintro e X0 ⟨rfl, h9⟩
    rw [h9]
    clear h9 X0
    go_wp2_with (first | go_skip | ((with_reducible show wpList _ _ _ _ _ _); first | ((refine rd (by rfl) (ex_load1 39 Tryz.isAgg39 rfl rfl ((unhide HR).hold) rfl) ?_); simp only [Act.put, List.setIfInBounds_toArray, List.set_cons_succ, List.set_cons_zero]) | ((refine rd (by rfl) (ex_lenG 39 81 Tryz.underlying39 rfl rfl) ?_); simp only [Act.put, List.setIfInBounds_toArray, List.set_cons_succ, List.set_cons_zero]) | ((refine rd (by rfl) (ex_sub1 rfl (congrArg _ (unhide HJ3)) rfl (unhide HJ2)) ?_); simp only [Act.put, List.setIfInBounds_toArray, List.set_cons_succ, List.set_cons_zero]) | ((refine rd (by rfl) (ex_indexG 39 6 j und68 idx68 rfl rfl rfl (unhide HJ)) ?_); simp only [Act.put, List.setIfInBounds_toArray, List.set_cons_succ, List.set_cons_zero]) | ((refine rd (by rfl) (ex_loadC 9 Tryz.isAgg9 rfl rfl (unhide HG 3 _ rfl)) ?_); simp only [Act.put, List.setIfInBounds_toArray, List.set_cons_succ, List.set_cons_zero]) | ((refine rd (by rfl) (ex_catL (s := sym7) rfl rfl rfl (unhide HZ)) ?_); simp only [Act.put, List.setIfInBounds_toArray, List.set_cons_succ, List.set_cons_zero]) | ((refine rd (by rfl) ((ex_catL (s := sym7 ++ y.v.s) (t := par1) rfl rfl rfl (unhide HZ2)).trans (by rw [unhide HW])) ?_); simp only [Act.put, List.setIfInBounds_toArray, List.set_cons_succ, List.set_cons_zero])))
    go_ret2
    exact ⟨rfl, Below.refl _ _⟩
  · rw [if_neg hz, if_neg hz]
    have w3 : decide ((1048576 : Int) < (((sym7 ++ y.v.s ++ par1).size : Nat) : Int)) = true := decide_eq_true (by omega)
    clear hs hws hz
    try unfold wordsS
    generalize hW : sym7 ++ y.v.s ++ par1 = W at *
    have HW := hide hW
    clear hW
    go_enter Tryz.func28, Tryz.ntmps28
    go_wp2_with fail
    refine (unhide HC).mono ?_
    rintro e X0 ⟨rfl, h9⟩
    rw [h9]
    clear h9 X0
    go_wp2_with (first | go_skip | ((with_reducible show wpList _ _ _ _ _ _); first | ((refine rd (by rfl) (ex_load1 39 Tryz.isAgg39 rfl rfl ((unhide HR).hold) rfl) ?_); simp only [Act.put, List.setIfInBounds_toArray, List.set_cons_succ, List.set_cons_zero]) | ((refine rd (by rfl) (ex_lenG 39 81 Tryz.underlying39 rfl rfl) ?_); simp only [Act.put, List.setIfInBounds_toArray, List.set_cons_succ, List.set_cons_zero]) | ((refine rd (by rfl) (ex_sub1 rfl (congrArg _ (unhide HJ3)) rfl (unhide HJ2)) ?_); simp only [Act.put, List.setIfInBounds_toArray, List.set_cons_succ, List.set_cons_zero]) | ((refine rd (by rfl) (ex_indexG 39 6 j und68 idx68 rfl rfl rfl (unhide HJ)) ?_); simp only [Act.put, List.setIfInBounds_toArray, List.set_cons_succ, List.set_cons_zero]) | ((refine rd (by rfl) (ex_loadC 9 Tryz.isAgg9 rfl rfl (unhide HG 3 _ rfl)) ?_); simp only [Act.put, List.setIfInBounds_toArray, List.set_cons_succ, List.set_cons_zero]) | ((refine rd (by rfl) (ex_catL (s := sym7) rfl rfl rfl (unhide HZ)) ?_); simp only [Act.put, List.setIfInBounds_toArray, List.set_cons_succ, List.set_cons_zero]) | ((refine rd (by rfl) ((ex_catL (s := sym7 ++ y.v.s) (t := par1) rfl rfl rfl (unhide HZ2)).trans (by rw [unhide HW])) ?_); simp only [Act.put, List.setIfInBounds_toArray, List.set_cons_succ, List.set_cons_zero])))
    go_ret2
    exact ⟨rfl, Below.refl _ _⟩
abbrev pt (b : Nat) : Value := .pointer (some ⟨b, 0, none⟩)
/-- What both say of a symbol. -/
theorem ask_both (R : RG) (Q : RF) (hQ : Q.l = R.l) (hl : R.l.length ≤ 100000) (hs : ∀ y ∈ R.l, y.v.s.size ≤ 1048576) (i : Int) : ∃ (s : ByteArray) (b : Bool) (e e2 : Int) (v : VV) (t : ByteArray), (0 ≤ e ∧ e ≤ 1000) ∧ (0 ≤ e2 ∧ e2 ≤ 1000) ∧
    (∀ w n sz F, R.Is w n sz F → Calls Tryz.prog 23 #[pt R.r, .int .i64 i] w fun x w' => x = .returned (.tuple #[.string s, .bool b, .int .i64 e]) ∧ Below w.heap.size w w') ∧
    (∀ w, Q.Is w → Calls Tryz.prog 24 #[pt Q.r, .int .i64 i] w fun x w' => x = .returned (.tuple #[.string s, .bool b, .int .i64 e]) ∧ Below w.heap.size w w') ∧
    (∀ w n sz F, R.Is w n sz F → Calls Tryz.prog 25 #[pt R.r, .int .i64 i] w fun x w' => x = .returned (.tuple #[.agg v.cs.toArray, .int .i64 e]) ∧ Below w.heap.size w w') ∧
    (∀ w, Q.Is w → Calls Tryz.prog 26 #[pt Q.r, .int .i64 i] w fun x w' => x = .returned (.tuple #[.agg v.cs.toArray, .int .i64 e]) ∧ Below w.heap.size w w') ∧
    (∀ w n sz F, R.Is w n sz F → Calls Tryz.prog 27 #[pt R.r, .int .i64 i] w fun x w' => x = .returned (.tuple #[.string t, .int .i64 e2]) ∧ Below w.heap.size w w') ∧
    (∀ w, Q.Is w → Calls Tryz.prog 28 #[pt Q.r, .int .i64 i] w fun x w' => x = .returned (.tuple #[.string t, .int .i64 e2]) ∧ Below w.heap.size w w') := by
  by_cases h : i < 1 ∨ (R.l.length : Int) < i
  · have h2 : i < 1 ∨ (Q.l.length : Int) < i := by rw [hQ]; exact h
    exact ⟨⟨#[]⟩, false, 7, 7, zeroV, ⟨#[]⟩, by decide, by decide, fun w n sz F hw => keyFor_out R i w hw h, fun w hw => refKeyFor_out Q i w hw h2, fun w n sz F hw => desc_out R i w hw h, fun w hw => refDesc_out Q i w hw h2, fun w n sz F hw => text_out R i w hw h, fun w hw => refText_out Q i w hw h2⟩
  · have hj : (i - 1).toNat < R.l.length := by omega
    obtain ⟨j, hjj⟩ : ∃ j, j = (i - 1).toNat := ⟨_, rfl⟩
    rw [← hjj] at hj
    have hi : i = ((j + 1 : Nat) : Int) := by omega
    subst hi
    obtain ⟨y, y1⟩ : ∃ y, R.l[j]? = some y := ⟨_, List.getElem?_eq_getElem hj⟩
    have y2 : Q.l[j]? = some y := by rw [hQ]; exact y1
    have l2 : Q.l.length ≤ 100000 := by rw [hQ]; exact hl
    have hz := hs y (List.mem_of_getElem? y1)
    have he : (0 : Int) ≤ txE y.v.s ∧ txE y.v.s ≤ 1000 := by unfold txE; split <;> decide
    refine ⟨kfS y, y.k, 0, txE y.v.s, y.v, txS y.v.s, by decide, he, fun w n sz F hw => keyFor_in R j _ w hw y1 hl, fun w hw => ?_, fun w n sz F hw => desc_in R j _ w hw y1 hl, fun w hw => refDesc_in Q j _ w hw y2 l2, fun w n sz F hw => text_any R j _ w hw y1 hl, fun w hw => refText_any Q j _ w hw y2 l2 hz⟩
    cases hk : y.k
    · have := refKeyFor_in Q j y w hw y2 l2 hk
      unfold kfS
      rw [hk]
      exact this
    · have := refKeyFor_kn Q j y w hw y2 l2 hk
      unfold kfS
      rw [hk]
      exact this
end Go.Proofs.YtkpfikeggleenaaGreatDoor
