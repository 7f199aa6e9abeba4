import Derived.Test.YtkpfikeggleenaaGreatDoorYf
namespace Go.Proofs.YtkpfikeggleenaaGreatDoor
open Go Go.Proofs Go.Maps Go.RowKit
set_option linter.unusedSimpArgs false
set_option linter.unusedVariables false
set_option maxHeartbeats 1000000
def sym7 : ByteArray := ⟨#[83, 121, 109, 98, 111, 108, 40]⟩
def par1 : ByteArray := ⟨#[41]⟩
/-- A symbol in words. -/
def wordsS (s : ByteArray) : ByteArray := sym7 ++ s ++ par1
theorem ex_cat {o : Oper} {a : Act} {w : World} {x y : Operand} {s t : ByteArray} (ho : o.op = .binOp .add 9 x y 9) (hx : a.eval x = .string s) (hy : a.eval y = .string t) (h : s.size + t.size ≤ 100000) : (execOp a.eval o).run Tryz.prog w = .ok (.value (.string (s ++ t))) w := by
  unfold execOp
  simp only [ho, hx, hy]
  have e : ¬ 9223372036854775807 < s.size + t.size := by omega
  simp [go_sem, eqGuard, e]
set_option maxRecDepth 100000 in
theorem text_out (R : RG) (i : Int) (w : World) {n sz : Nat} {F : ByteArray → Option Nat} (hR : R.Is w n sz F) (h : i < 1 ∨ (R.l.length : Int) < i) : Calls Tryz.prog 27 #[.pointer (some ⟨R.r, 0, none⟩), .int .i64 i] w fun e w' => e = .returned (.tuple #[.string ⟨#[]⟩, .int .i64 7]) ∧ Below w.heap.size w w' := by
  have LL := hide (Hq.nil w [])
  have HC := hide (at_out R i w hR h)
  unfold SY.agg at HC
  clear hR h
  go_enter Tryz.func27, Tryz.ntmps27
  go_wp2_with fail
  refine (unhide HC).mono ?_
  rintro e X0 ⟨rfl, hb⟩
  replace LL := hide ((unhide LL).on hb)
  clear hb
  go_wp2_with (first | go_skip | ((with_reducible show wpList _ _ _ _ _ _); first | ((refine alG 77 (zeroY.cs) (by rfl) rfl (fun w => by kernel_rfl) (Nat.succ_pos _) (unhide LL) ?_); intro X1 B1 hE1 L1 hb1; have hB1 := hide (Nat.le_trans (unhide LL).fr.size (Nat.le_of_eq hE1.symm)); replace LL := hide L1; clear L1 hb1 hE1; simp only [Act.put, List.setIfInBounds_toArray, List.set_cons_succ, List.set_cons_zero]) | ((refine st (vs := zeroY.cs) 0 77 (by rfl) rfl rfl rfl rfl (ycs_one _) (siz77) (unhide LL) rfl (by simp [cput, ycs_length, vcs_length, SY.cs, VV.cs]) (Or.inr (unhide hB1)) ?_); intro X3 L3 hf3 hs3; replace LL := hide L3; clear L3 hf3 hs3; simp only [Act.put, List.setIfInBounds_toArray, List.set_cons_succ, List.set_cons_zero])))
  go_ret2
  exact ⟨rfl, (unhide LL).fr.below⟩
set_option maxRecDepth 100000 in
theorem text_in (R : RG) (j : Nat) (y : SY) (w : World) {n sz : Nat} {F : ByteArray → Option Nat} (hR : R.Is w n sz F) (hy : R.l[j]? = some y) (hl : R.l.length ≤ 100000) (hs : y.v.s.size ≤ 1000) : Calls Tryz.prog 27 #[.pointer (some ⟨R.r, 0, none⟩), .int .i64 ((j + 1 : Nat) : Int)] w fun e w' => e = .returned (.tuple #[.string (wordsS y.v.s), .int .i64 0]) ∧ Below w.heap.size w w' := by
  have LL := hide (Hq.nil w [])
  have HC := hide (at_in R j y w hR hy hl)
  have w1 : IntKind.i64.wrap (7 + (y.v.s.size : Int)) = 7 + (y.v.s.size : Int) := by rw [IntKind.wrap_i64]; omega
  have w2 : IntKind.i64.wrap (7 + (y.v.s.size : Int) + 1) = 7 + (y.v.s.size : Int) + 1 := by rw [IntKind.wrap_i64]; omega
  have w3 : decide ((1048576 : Int) < 7 + (y.v.s.size : Int) + 1) = false := decide_eq_false (by omega)
  have HZ : Hid (sym7.size + y.v.s.size ≤ 100000) := hide (by have : sym7.size = 7 := rfl; omega)
  have HZ2 : Hid ((sym7 ++ y.v.s).size + par1.size ≤ 100000) := hide (by have : sym7.size = 7 := rfl; have : par1.size = 1 := rfl; rw [ByteArray.size_append]; omega)
  unfold SY.agg at HC
  clear hR hy hl hs
  generalize ((j + 1 : Nat) : Int) = J at *
  unfold wordsS
  go_enter Tryz.func27, Tryz.ntmps27
  go_wp2_with fail
  refine (unhide HC).mono ?_
  rintro e X0 ⟨rfl, hb⟩
  replace LL := hide ((unhide LL).on hb)
  clear hb
  go_wp2_with (first | go_skip | ((with_reducible show wpList _ _ _ _ _ _); first | ((refine alG 77 (zeroY.cs) (by rfl) rfl (fun w => by kernel_rfl) (Nat.succ_pos _) (unhide LL) ?_); intro X1 B1 hE1 L1 hb1; have hB1 := hide (Nat.le_trans (unhide LL).fr.size (Nat.le_of_eq hE1.symm)); replace LL := hide L1; clear L1 hb1 hE1; simp only [Act.put, List.setIfInBounds_toArray, List.set_cons_succ, List.set_cons_zero]) | ((refine st (vs := y.cs) 0 77 (by rfl) rfl rfl rfl rfl (ycs_one _) (siz77) (unhide LL) rfl (by simp [cput, ycs_length, vcs_length, SY.cs, VV.cs]) (Or.inr (unhide hB1)) ?_); intro X3 L3 hf3 hs3; replace LL := hide L3; clear L3 hf3 hs3; simp only [Act.put, List.setIfInBounds_toArray, List.set_cons_succ, List.set_cons_zero]) | ((refine rd (by rfl) (ex_load1 9 Tryz.isAgg9 rfl rfl ((unhide LL).get 0 rfl) rfl) ?_); simp only [Act.put, List.setIfInBounds_toArray, List.set_cons_succ, List.set_cons_zero]) | ((refine rd (by rfl) (ex_cat rfl rfl rfl (unhide HZ)) ?_); simp only [Act.put, List.setIfInBounds_toArray, List.set_cons_succ, List.set_cons_zero]) | ((refine rd (by rfl) (ex_cat rfl rfl rfl (unhide HZ2)) ?_); simp only [Act.put, List.setIfInBounds_toArray, List.set_cons_succ, List.set_cons_zero])))
  go_ret2
  exact ⟨rfl, (unhide LL).fr.below⟩
set_option maxRecDepth 100000 in
theorem make_no (R : RG) (v : VV) (w : World) {n sz : Nat} {F : ByteArray → Option Nat} (hR : R.Is w n sz F) (hT : Tabs w) (hd : desV v = false) : Calls Tryz.prog 11 #[.pointer (some ⟨R.r, 0, none⟩), v.agg] w fun e w' => e = .returned (.tuple #[.int .i64 0, .int .i64 5]) ∧ Below w.heap.size w w' := by
  have LL := hide (Hq.nil w [])
  have HT := hide hT
  have HC := hide (fun X (hX : Tabs X) => describes30 v X hX)
  rw [hd] at HC
  rw [vagg] at *
  clear hR hT hd
  go_enter Tryz.func11, Tryz.ntmps11
  go_wp2_with (first | go_skip | ((with_reducible show wpList _ _ _ _ _ _); first | ((refine bx 35 (v.cs) (by rfl) rfl rfl rfl (Nat.succ_pos _) (unhide LL) ?_); intro X1 B1 hE1 L1 hb1; have hB1 := hide (Nat.le_trans (unhide LL).fr.size (Nat.le_of_eq hE1.symm)); replace LL := hide L1; clear L1 hb1 hE1; simp only [Act.put, List.setIfInBounds_toArray, List.set_cons_succ, List.set_cons_zero]) | ((refine rd (by rfl) (ex_loadN (vs := v.cs) 35 5 row44 siz44 rfl rfl ((unhide LL).get 0 rfl) rfl rfl) ?_); simp only [Act.put, List.setIfInBounds_toArray, List.set_cons_succ, List.set_cons_zero])))
  refine (unhide HC _ ((unhide HT).fr (unhide LL).fr (by simp))).mono ?_
  rintro e X0 ⟨rfl, hb⟩
  replace LL := hide ((unhide LL).on hb)
  clear hb
  go_wp2
  go_ret2
  exact ⟨rfl, (unhide LL).fr.below⟩
theorem des_size {v : VV} (h : desV v = true) : v.s.size ≤ 1048576 := by
  unfold desV at h
  rw [Bool.and_eq_true, Bool.or_eq_true] at h
  obtain ⟨h1, h2⟩ := h
  unfold VV.good goodV inG at h1
  rcases h2 with h2 | h2
  · have e : v.k = 1 := by simpa using h2
    simp [e, strV] at h1
    have e3 := h1.1.2
    have e4 : v.s.data.toList = [] := by rw [← Lib.toList_data]; exact e3
    have e5 : v.s.size = 0 := by
      show v.s.data.size = 0
      rw [← Array.length_toList, e4]
      rfl
    omega
  · have e : v.k = 5 := by simpa using h2
    simp [e, fitV] at h1
    exact h1.2.1
set_option maxRecDepth 100000 in
theorem make_ok (R : RG) (v : VV) (w : World) {n sz : Nat} {F : ByteArray → Option Nat} (hR : R.Is w n sz F) (hT : Tabs w) (hd : desV v = true) (hl : R.l.length < 65536) : Calls Tryz.prog 11 #[.pointer (some ⟨R.r, 0, none⟩), v.agg] w fun e w' => e = .returned (.tuple #[.int .i64 ((R.l.length + 1 : Nat) : Int), .int .i64 0]) ∧ ∃ sv, (RG.mk R.r R.m sv (R.l ++ [⟨v, false⟩])).Is w' n sz F ∧ Fr w w' R.blocks ∧ (∀ g, sv.ownBlock = some g → R.sv.ownBlock = some g ∨ w.heap.size ≤ g) := by
  have LL := hide (Hq.nil w [])
  have HT := hide hT
  have HC := hide (fun X (hX : Tabs X) => describes30 v X hX)
  rw [hd] at HC
  have HA := hide (fun X => anew32 v X (des_size hd))
  have HD := hide (fun X (hX : Fr w X []) => add31 R ⟨v, false⟩ X (hR.fr hX (by simp)) (hT.fr hX (by simp)).sz hl (des_size hd))
  unfold SY.agg at HD
  rw [vagg] at *
  clear hR hT hd hl
  go_enter Tryz.func11, Tryz.ntmps11
  go_wp2_with (first | go_skip | ((with_reducible show wpList _ _ _ _ _ _); first | ((refine bx 35 (v.cs) (by rfl) rfl rfl rfl (Nat.succ_pos _) (unhide LL) ?_); intro X1 B1 hE1 L1 hb1; have hB1 := hide (Nat.le_trans (unhide LL).fr.size (Nat.le_of_eq hE1.symm)); replace LL := hide L1; clear L1 hb1 hE1; simp only [Act.put, List.setIfInBounds_toArray, List.set_cons_succ, List.set_cons_zero]) | ((refine rd (by rfl) (ex_loadN (vs := v.cs) 35 5 row44 siz44 rfl rfl ((unhide LL).get 0 rfl) rfl rfl) ?_); simp only [Act.put, List.setIfInBounds_toArray, List.set_cons_succ, List.set_cons_zero])))
  refine (unhide HC _ ((unhide HT).fr (unhide LL).fr (by simp))).mono ?_
  rintro e X0 ⟨rfl, hb⟩
  replace LL := hide ((unhide LL).on hb)
  clear hb
  go_wp2_with (first | go_skip | ((with_reducible show wpList _ _ _ _ _ _); first | ((refine rd (by rfl) (ex_loadN (vs := v.cs) 35 5 row44 siz44 rfl rfl ((unhide LL).get 0 rfl) rfl rfl) ?_); simp only [Act.put, List.setIfInBounds_toArray, List.set_cons_succ, List.set_cons_zero])))
  refine (unhide HA _).mono ?_
  rintro e X2 ⟨rfl, hb⟩
  replace LL := hide ((unhide LL).on hb)
  clear hb
  go_wp2_with (first | go_skip | ((with_reducible show wpList _ _ _ _ _ _); first | ((refine rd (by rfl) (ex_build77 (v := v) rfl rfl) ?_); simp only [Act.put, List.setIfInBounds_toArray, List.set_cons_succ, List.set_cons_zero])))
  refine (unhide HD _ (unhide LL).fr).mono ?_
  rintro e X3 ⟨rfl, sv, hI, hF, hS⟩
  have HF := hide (And.intro hI (And.intro hF hS))
  clear hI hF hS
  go_wp2
  go_ret2
  have hs := (unhide LL).fr.size
  exact ⟨rfl, sv, (unhide HF).1, ((unhide LL).fr.mono (by simp)).trans (unhide HF).2.1 (fun b hb => .inl hb), fun g hg => ((unhide HF).2.2 g hg).imp id (fun h => by omega)⟩
end Go.Proofs.YtkpfikeggleenaaGreatDoor
