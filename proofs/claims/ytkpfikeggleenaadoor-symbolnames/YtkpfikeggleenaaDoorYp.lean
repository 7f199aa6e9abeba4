import Derived.Test.YtkpfikeggleenaaDoorYo
import Derived.Test.YtkpfikeggleenaaDoorYk
namespace Go.Proofs.YtkpfikeggleenaaDoor
open Go Go.Proofs Go.Maps Go.RowKit
set_option linter.unusedSimpArgs false
set_option linter.unusedVariables false
set_option maxHeartbeats 1000000
abbrev pt (b : Nat) : Value := .pointer (some ⟨b, 0, none⟩)
/-- The pair of registries, both as they were made. -/
structure PP (W : World) (P : Nat) (R : RG) (Q : RF) (x y : Value) : Prop where
  hold : Holds W P [pt R.r, x, pt Q.r, y]
  own : R.Is W 0 0 (fun _ => none)
  ref : Q.Is W
  lo : R.l = wkY
  lr : Q.l = wkY
theorem PP.on {W W' : World} {P : Nat} {R : RG} {Q : RF} {x y : Value} (h : PP W P R Q x y) (hb : Below W.heap.size W W') : PP W' P R Q x y :=
  ⟨h.hold.block (hb.block _ (h.hold.lt (Nat.succ_pos _))), h.own.on hb, h.ref.on hb, h.lo, h.lr⟩
theorem PP.fr {W W' : World} {P : Nat} {R : RG} {Q : RF} {x y : Value} (h : PP W P R Q x y) (hb : Fr W W' []) : PP W' P R Q x y := h.on hb.below
theorem PP.drew {W : World} {P : Nat} {R : RG} {Q : RF} {x y : Value} (h : PP W P R Q x y) : PP W.drew P R Q x y := h.fr (Fr.refl W []).drew
theorem in_range {i : Int} (h : ¬ (i < 1 ∨ (13 : Int) < i)) : ∃ (j : Nat) (s : ByteArray), i = ((j + 1 : Nat) : Int) ∧ wkL[j]? = some s ∧ s ∈ wkL := by
  have hj : (i - 1).toNat < wkL.length := by rw [wkL_length]; omega
  exact ⟨(i - 1).toNat, wkL[(i - 1).toNat], by omega, List.getElem?_eq_getElem hj, List.getElem_mem _⟩
theorem wk_both (i : Int) : ∃ (s : ByteArray) (b : Bool), (∀ w, Tabs w → Calls Tryd.prog 6 #[.int .i64 i] w fun e w' => e = .returned (.tuple #[.string s, .bool b]) ∧ Below w.heap.size w w') ∧ (∀ w, Nm w → Calls Tryd.prog 7 #[.int .i64 i] w fun e w' => e = .returned (.tuple #[.string s, .bool b]) ∧ w' = w) := by
  by_cases h : i < 1 ∨ (13 : Int) < i
  · exact ⟨⟨#[]⟩, false, fun w _ => (wk_out i w h).mono (fun e w' hh => ⟨hh.1, by rw [hh.2]; exact Below.refl _ _⟩), fun w _ => refWK_out i w h⟩
  · obtain ⟨j, s, rfl, hs, -⟩ := in_range h
    exact ⟨s, true, fun w hT => wk_in j s w hs hT, fun w hN => refWK_in j s w hs hN⟩
theorem wkY_at {j : Nat} {s : ByteArray} (h : wkL[j]? = some s) : wkY[j]? = some (SY.mk (sV s) false) := by
  unfold wkY
  rw [List.getElem?_map, h]
  rfl
/-- What both say of a symbol. -/
theorem ask_both (R : RG) (Q : RF) (hR : R.l = wkY) (hQ : Q.l = wkY) (i : Int) : ∃ (s : ByteArray) (b : Bool) (e : Int) (v : VV) (t : ByteArray), 0 ≤ e ∧ e ≤ 1000 ∧
    (∀ w, R.Is w 0 0 (fun _ => none) → Calls Tryd.prog 17 #[pt R.r, .int .i64 i] w fun x w' => x = .returned (.tuple #[.string s, .bool b, .int .i64 e]) ∧ Below w.heap.size w w') ∧
    (∀ w, Q.Is w → Calls Tryd.prog 23 #[pt Q.r, .int .i64 i] w fun x w' => x = .returned (.tuple #[.string s, .bool b, .int .i64 e]) ∧ Below w.heap.size w w') ∧
    (∀ w, R.Is w 0 0 (fun _ => none) → Calls Tryd.prog 18 #[pt R.r, .int .i64 i] w fun x w' => x = .returned (.tuple #[.agg v.cs.toArray, .int .i64 e]) ∧ Below w.heap.size w w') ∧
    (∀ w, Q.Is w → Calls Tryd.prog 24 #[pt Q.r, .int .i64 i] w fun x w' => x = .returned (.tuple #[.agg v.cs.toArray, .int .i64 e]) ∧ Below w.heap.size w w') ∧
    (∀ w, R.Is w 0 0 (fun _ => none) → Calls Tryd.prog 25 #[pt R.r, .int .i64 i] w fun x w' => x = .returned (.tuple #[.string t, .int .i64 e]) ∧ Below w.heap.size w w') ∧
    (∀ w, Q.Is w → Calls Tryd.prog 26 #[pt Q.r, .int .i64 i] w fun x w' => x = .returned (.tuple #[.string t, .int .i64 e]) ∧ Below w.heap.size w w') := by
  by_cases h : i < 1 ∨ (13 : Int) < i
  · have h1 : i < 1 ∨ (R.l.length : Int) < i := by rw [hR]; exact h
    have h2 : i < 1 ∨ (Q.l.length : Int) < i := by rw [hQ]; exact h
    exact ⟨⟨#[]⟩, false, 7, zeroV, ⟨#[]⟩, by decide, by decide, fun w hw => keyFor_out R i w hw h1, fun w hw => refKeyFor_out Q i w hw h2, fun w hw => desc_out R i w hw h1, fun w hw => refDesc_out Q i w hw h2, fun w hw => text_out R i w hw h1, fun w hw => refText_out Q i w hw h2⟩
  · obtain ⟨j, s, rfl, hs, hm⟩ := in_range h
    have hz := (wk_good hm).2
    have y1 : R.l[j]? = some (SY.mk (sV s) false) := by rw [hR]; exact wkY_at hs
    have y2 : Q.l[j]? = some (SY.mk (sV s) false) := by rw [hQ]; exact wkY_at hs
    have l1 : R.l.length ≤ 100000 := by rw [hR]; decide
    have l2 : Q.l.length ≤ 100000 := by rw [hQ]; decide
    exact ⟨⟨#[]⟩, false, 0, sV s, wordsS s, by decide, by decide, fun w hw => keyFor_in R j _ w hw y1 l1, fun w hw => refKeyFor_in Q j _ w hw y2 l2 rfl, fun w hw => desc_in R j _ w hw y1 l1, fun w hw => refDesc_in Q j _ w hw y2 l2, fun w hw => text_in R j _ w hw y1 l1 hz, fun w hw => refText_in Q j _ w hw y2 l2 hz⟩
theorem und27 : Tryd.prog.underlying 27 = some (.array (Tryd.prog.arrayLen 27) (Tryd.prog.elem 27)) := by kernel_rfl
theorem len27 : Tryd.prog.arrayLen 27 = 2 := by kernel_rfl
theorem idx27 (w : World) : (sizeOf (Tryd.prog.elem 27)).run Tryd.prog w = .ok 1 w := by kernel_rfl
theorem und29 : Tryd.prog.underlying 29 = some (.array (Tryd.prog.arrayLen 29) (Tryd.prog.elem 29)) := by kernel_rfl
theorem len29 : Tryd.prog.arrayLen 29 = 2 := by kernel_rfl
theorem idx29 (w : World) : (sizeOf (Tryd.prog.elem 29)).run Tryd.prog w = .ok 1 w := by kernel_rfl
theorem ex_build31 {o : Oper} {a : Act} {w : World} {x y : Operand} {v1 v2 v3 v4 : Nat} (ho : o.op = .build 31 #[(0, x), (1, y)]) (hx : a.eval x = .agg #[pt v1, pt v2]) (hy : a.eval y = .agg #[pt v3, pt v4]) : (execOp a.eval o).run Tryd.prog w = .ok (.value (.agg #[pt v1, pt v2, pt v3, pt v4])) w := by
  have e : (Instr.build 31 #[(0, .agg #[pt v1, pt v2]), (1, .agg #[pt v3, pt v4])]).run Tryd.prog w = .ok (.agg #[pt v1, pt v2, pt v3, pt v4]) w := by kernel_rfl
  unfold execOp
  simp only [ho, List.map_toArray, List.map_cons, List.map_nil, hx, hy]
  simp [e]
theorem ex_build27 {o : Oper} {a : Act} {w : World} {x y : Operand} {v1 v2 : Nat} (ho : o.op = .build 27 #[(0, x), (1, y)]) (hx : a.eval x = pt v1) (hy : a.eval y = pt v2) : (execOp a.eval o).run Tryd.prog w = .ok (.value (.agg #[pt v1, pt v2])) w := by
  have e : (Instr.build 27 #[(0, pt v1), (1, pt v2)]).run Tryd.prog w = .ok (.agg #[pt v1, pt v2]) w := by kernel_rfl
  unfold execOp
  simp only [ho, List.map_toArray, List.map_cons, List.map_nil, hx, hy]
  simp [e]
theorem ex_build29 {o : Oper} {a : Act} {w : World} {x y : Operand} {v1 v2 : Nat} (ho : o.op = .build 29 #[(0, x), (1, y)]) (hx : a.eval x = pt v1) (hy : a.eval y = pt v2) : (execOp a.eval o).run Tryd.prog w = .ok (.value (.agg #[pt v1, pt v2])) w := by
  have e : (Instr.build 29 #[(0, pt v1), (1, pt v2)]).run Tryd.prog w = .ok (.agg #[pt v1, pt v2]) w := by kernel_rfl
  unfold execOp
  simp only [ho, List.map_toArray, List.map_cons, List.map_nil, hx, hy]
  simp [e]
set_option maxRecDepth 100000 in
theorem newPair8 (w : World) (hT : Tabs w) (hN : Nm w) : Calls Tryd.prog 8 #[] w fun e w' => ∃ P R Q x y, e = .returned (pt P) ∧ PP w' P R Q x y ∧ Below w.heap.size w w' := by
  have HN := hide (fun X (hX : Fr w X []) => new12 X (hT.fr hX (by simp)))
  have HF := hide (fun X (hX : Fr w X []) => refNew22 X (hN.fr hX (by simp)))
  have LL := hide (Hq.nil w [])
  clear hT hN
  go_enter Tryd.func8, Tryd.ntmps8
  go_wp2_with fail
  refine (unhide HN _ (unhide LL).fr).mono ?_
  rintro e X1 ⟨R1, rfl, hI1, hl1, -, hb1⟩
  replace LL := hide ((unhide LL).on hb1)
  have H1 := hide (And.intro hI1 hl1)
  clear hI1 hl1 hb1
  go_wp2_with fail
  refine (unhide HN _ (unhide LL).fr).mono ?_
  rintro e X2 ⟨R2, rfl, hI2, hl2, -, hb2⟩
  replace LL := hide ((unhide LL).on hb2)
  replace H1 := hide (And.intro ((unhide H1).1.on hb2) (unhide H1).2)
  clear hI2 hl2 hb2
  go_wp2_with (first | go_skip | ((with_reducible show wpList _ _ _ _ _ _); first | ((refine rd (by rfl) (ex_build27 (v1 := R1.r) (v2 := R2.r) rfl rfl rfl) ?_); simp only [Act.put, List.setIfInBounds_toArray, List.set_cons_succ, List.set_cons_zero])))
  refine (unhide HF _ (unhide LL).fr).mono ?_
  rintro e X3 ⟨Q1, rfl, hI3, hl3, -, hb3⟩
  replace LL := hide ((unhide LL).on hb3)
  replace H1 := hide (And.intro ((unhide H1).1.on hb3) (unhide H1).2)
  have H3 := hide (And.intro hI3 hl3)
  clear hI3 hl3 hb3
  go_wp2_with fail
  refine (unhide HF _ (unhide LL).fr).mono ?_
  rintro e X4 ⟨Q2, rfl, hI4, hl4, -, hb4⟩
  replace LL := hide ((unhide LL).on hb4)
  replace H1 := hide (And.intro ((unhide H1).1.on hb4) (unhide H1).2)
  replace H3 := hide (And.intro ((unhide H3).1.on hb4) (unhide H3).2)
  clear hI4 hl4 hb4
  go_wp2_with (first | go_skip | ((with_reducible show wpList _ _ _ _ _ _); first | ((refine rd (by rfl) (ex_build29 (v1 := Q1.r) (v2 := Q2.r) rfl rfl rfl) ?_); simp only [Act.put, List.setIfInBounds_toArray, List.set_cons_succ, List.set_cons_zero]) | ((refine rd (by rfl) (ex_build31 (v1 := R1.r) (v2 := R2.r) (v3 := Q1.r) (v4 := Q2.r) rfl rfl rfl) ?_); simp only [Act.put, List.setIfInBounds_toArray, List.set_cons_succ, List.set_cons_zero]) | ((refine bx 31 ([pt R1.r, pt R2.r, pt Q1.r, pt Q2.r]) (by rfl) rfl rfl rfl (Nat.succ_pos _) (unhide LL) ?_); intro X5 B5 hE5 L5 hb5; have hB5 := hide (Nat.le_trans (unhide LL).fr.size (Nat.le_of_eq hE5.symm)); replace LL := hide L5; replace H1 := hide (And.intro ((unhide H1).1.on hb5) (unhide H1).2); replace H3 := hide (And.intro ((unhide H3).1.on hb5) (unhide H3).2); clear L5 hb5 hE5; simp only [Act.put, List.setIfInBounds_toArray, List.set_cons_succ, List.set_cons_zero])))
  go_ret
  exact ⟨B5, R1, Q1, pt R2.r, pt Q2.r, rfl, ⟨(unhide LL).get 0 rfl, (unhide H1).1, (unhide H3).1, (unhide H1).2, (unhide H3).2⟩, (unhide LL).fr.below⟩
set_option maxRecDepth 100000 in
theorem asks9 (P : Nat) (R : RG) (Q : RF) (x y : Value) (i : Int) (w : World) (hP : PP w P R Q x y) : Calls Tryd.prog 9 #[pt P, .int .i64 i] w fun e w' => e = .returned (.bool true) ∧ Below w.heap.size w w' := by
  obtain ⟨s0, b0, e0, v0, t0, he1, he2, c17, c23, c18, c24, c25, c26⟩ := ask_both R Q hP.lo hP.lr i
  have HP := hide hP
  have HE := hide (And.intro he1 he2)
  have C17 := hide c17
  have C23 := hide c23
  have C18 := hide c18
  have C24 := hide c24
  have C25 := hide c25
  have C26 := hide c26
  have LL := hide (Hq.nil w [])
  clear hP he1 he2 c17 c23 c18 c24 c25 c26
  go_enter Tryd.func9, Tryd.ntmps9
  go_wp2_with (first | go_skip | ((with_reducible show wpList _ _ _ _ _ _); first | ((refine rd (by rfl) (ex_indexA 27 2 1 0 und27 len27 idx27 rfl rfl rfl (by decide)) ?_); simp only [Act.put, List.setIfInBounds_toArray, List.set_cons_succ, List.set_cons_zero]) | ((refine rd (by rfl) (ex_indexA 29 2 1 0 und29 len29 idx29 rfl rfl rfl (by decide)) ?_); simp only [Act.put, List.setIfInBounds_toArray, List.set_cons_succ, List.set_cons_zero]) | ((refine rd (by rfl) (ex_load1 26 Tryd.isAgg26 rfl rfl (((unhide HP).fr (unhide LL).fr).hold) rfl) ?_); simp only [Act.put, List.setIfInBounds_toArray, List.set_cons_succ, List.set_cons_zero]) | ((refine rd (by rfl) (ex_load1 28 Tryd.isAgg28 rfl rfl (((unhide HP).fr (unhide LL).fr).hold) rfl) ?_); simp only [Act.put, List.setIfInBounds_toArray, List.set_cons_succ, List.set_cons_zero])))
  refine (unhide C17 _ ((unhide HP).fr (unhide LL).fr).own).mono ?_
  rintro e X1 ⟨rfl, hb⟩
  replace LL := hide ((unhide LL).on hb)
  clear hb
  go_wp2_with (first | go_skip | ((with_reducible show wpList _ _ _ _ _ _); first | ((refine rd (by rfl) (ex_indexA 27 2 1 0 und27 len27 idx27 rfl rfl rfl (by decide)) ?_); simp only [Act.put, List.setIfInBounds_toArray, List.set_cons_succ, List.set_cons_zero]) | ((refine rd (by rfl) (ex_indexA 29 2 1 0 und29 len29 idx29 rfl rfl rfl (by decide)) ?_); simp only [Act.put, List.setIfInBounds_toArray, List.set_cons_succ, List.set_cons_zero]) | ((refine rd (by rfl) (ex_load1 26 Tryd.isAgg26 rfl rfl (((unhide HP).fr (unhide LL).fr).hold) rfl) ?_); simp only [Act.put, List.setIfInBounds_toArray, List.set_cons_succ, List.set_cons_zero]) | ((refine rd (by rfl) (ex_load1 28 Tryd.isAgg28 rfl rfl (((unhide HP).fr (unhide LL).fr).hold) rfl) ?_); simp only [Act.put, List.setIfInBounds_toArray, List.set_cons_succ, List.set_cons_zero])))
  refine (unhide C23 _ ((unhide HP).fr (unhide LL).fr).ref).mono ?_
  rintro e X2 ⟨rfl, hb⟩
  replace LL := hide ((unhide LL).on hb)
  clear hb
  go_wp2_with (first | go_skip | ((with_reducible show wpList _ _ _ _ _ _); first | ((refine rd (by rfl) (ex_indexA 27 2 1 0 und27 len27 idx27 rfl rfl rfl (by decide)) ?_); simp only [Act.put, List.setIfInBounds_toArray, List.set_cons_succ, List.set_cons_zero]) | ((refine rd (by rfl) (ex_indexA 29 2 1 0 und29 len29 idx29 rfl rfl rfl (by decide)) ?_); simp only [Act.put, List.setIfInBounds_toArray, List.set_cons_succ, List.set_cons_zero]) | ((refine rd (by rfl) (ex_load1 26 Tryd.isAgg26 rfl rfl (((unhide HP).fr (unhide LL).fr).hold) rfl) ?_); simp only [Act.put, List.setIfInBounds_toArray, List.set_cons_succ, List.set_cons_zero]) | ((refine rd (by rfl) (ex_load1 28 Tryd.isAgg28 rfl rfl (((unhide HP).fr (unhide LL).fr).hold) rfl) ?_); simp only [Act.put, List.setIfInBounds_toArray, List.set_cons_succ, List.set_cons_zero])))
  refine (unhide C18 _ ((unhide HP).fr (unhide LL).fr).own).mono ?_
  rintro e X3 ⟨rfl, hb⟩
  replace LL := hide ((unhide LL).on hb)
  clear hb
  go_wp2_with (first | go_skip | ((with_reducible show wpList _ _ _ _ _ _); first | ((refine alG 44 (zeroV.cs) (by rfl) rfl (fun w => by kernel_rfl) (Nat.succ_pos _) (unhide LL) ?_); intro X4 B4 hE4 L4 hb4; have hB4 := hide (Nat.le_trans (unhide LL).fr.size (Nat.le_of_eq hE4.symm)); replace LL := hide L4; clear L4 hb4 hE4; simp only [Act.put, List.setIfInBounds_toArray, List.set_cons_succ, List.set_cons_zero]) | ((refine st (vs := v0.cs) 0 44 (by rfl) rfl rfl rfl rfl (vcs_one _) (siz44) (unhide LL) rfl (by simp [cput, ycs_length, vcs_length, SY.cs, VV.cs]) (Or.inr (unhide hB4)) ?_); intro X5 L5 hf5 hs5; replace LL := hide L5; clear L5 hf5 hs5; simp only [Act.put, List.setIfInBounds_toArray, List.set_cons_succ, List.set_cons_zero]) | ((refine rd (by rfl) (ex_indexA 27 2 1 0 und27 len27 idx27 rfl rfl rfl (by decide)) ?_); simp only [Act.put, List.setIfInBounds_toArray, List.set_cons_succ, List.set_cons_zero]) | ((refine rd (by rfl) (ex_indexA 29 2 1 0 und29 len29 idx29 rfl rfl rfl (by decide)) ?_); simp only [Act.put, List.setIfInBounds_toArray, List.set_cons_succ, List.set_cons_zero]) | ((refine rd (by rfl) (ex_load1 26 Tryd.isAgg26 rfl rfl (((unhide HP).fr (unhide LL).fr).hold) rfl) ?_); simp only [Act.put, List.setIfInBounds_toArray, List.set_cons_succ, List.set_cons_zero]) | ((refine rd (by rfl) (ex_load1 28 Tryd.isAgg28 rfl rfl (((unhide HP).fr (unhide LL).fr).hold) rfl) ?_); simp only [Act.put, List.setIfInBounds_toArray, List.set_cons_succ, List.set_cons_zero])))
  refine (unhide C24 _ ((unhide HP).fr (unhide LL).fr).ref).mono ?_
  rintro e X6 ⟨rfl, hb⟩
  replace LL := hide ((unhide LL).on hb)
  clear hb
  replace LL : Hid (Hq w X6 [] [(B4, v0.cs)]) := LL
  go_wp2_with (first | go_skip | ((with_reducible show wpList _ _ _ _ _ _); first | ((refine alG 44 (zeroV.cs) (by rfl) rfl (fun w => by kernel_rfl) (Nat.succ_pos _) (unhide LL) ?_); intro X7 B7 hE7 L7 hb7; have hB7 := hide (Nat.le_trans (unhide LL).fr.size (Nat.le_of_eq hE7.symm)); replace LL := hide L7; clear L7 hb7 hE7; simp only [Act.put, List.setIfInBounds_toArray, List.set_cons_succ, List.set_cons_zero]) | ((refine st (vs := v0.cs) 1 44 (by rfl) rfl rfl rfl rfl (vcs_one _) (siz44) (unhide LL) rfl (by simp [cput, ycs_length, vcs_length, SY.cs, VV.cs]) (Or.inr (unhide hB7)) ?_); intro X8 L8 hf8 hs8; replace LL := hide L8; clear L8 hf8 hs8; simp only [Act.put, List.setIfInBounds_toArray, List.set_cons_succ, List.set_cons_zero]) | ((refine rd (by rfl) (ex_indexA 27 2 1 0 und27 len27 idx27 rfl rfl rfl (by decide)) ?_); simp only [Act.put, List.setIfInBounds_toArray, List.set_cons_succ, List.set_cons_zero]) | ((refine rd (by rfl) (ex_indexA 29 2 1 0 und29 len29 idx29 rfl rfl rfl (by decide)) ?_); simp only [Act.put, List.setIfInBounds_toArray, List.set_cons_succ, List.set_cons_zero]) | ((refine rd (by rfl) (ex_load1 26 Tryd.isAgg26 rfl rfl (((unhide HP).fr (unhide LL).fr).hold) rfl) ?_); simp only [Act.put, List.setIfInBounds_toArray, List.set_cons_succ, List.set_cons_zero]) | ((refine rd (by rfl) (ex_load1 28 Tryd.isAgg28 rfl rfl (((unhide HP).fr (unhide LL).fr).hold) rfl) ?_); simp only [Act.put, List.setIfInBounds_toArray, List.set_cons_succ, List.set_cons_zero])))
  refine (unhide C25 _ ((unhide HP).fr (unhide LL).fr).own).mono ?_
  rintro e X10 ⟨rfl, hb⟩
  replace LL := hide ((unhide LL).on hb)
  clear hb
  replace LL : Hid (Hq w X10 [] [(B4, v0.cs), (B7, v0.cs)]) := LL
  go_wp2_with (first | go_skip | ((with_reducible show wpList _ _ _ _ _ _); first | ((refine rd (by rfl) (ex_indexA 27 2 1 0 und27 len27 idx27 rfl rfl rfl (by decide)) ?_); simp only [Act.put, List.setIfInBounds_toArray, List.set_cons_succ, List.set_cons_zero]) | ((refine rd (by rfl) (ex_indexA 29 2 1 0 und29 len29 idx29 rfl rfl rfl (by decide)) ?_); simp only [Act.put, List.setIfInBounds_toArray, List.set_cons_succ, List.set_cons_zero]) | ((refine rd (by rfl) (ex_load1 26 Tryd.isAgg26 rfl rfl (((unhide HP).fr (unhide LL).fr).hold) rfl) ?_); simp only [Act.put, List.setIfInBounds_toArray, List.set_cons_succ, List.set_cons_zero]) | ((refine rd (by rfl) (ex_load1 28 Tryd.isAgg28 rfl rfl (((unhide HP).fr (unhide LL).fr).hold) rfl) ?_); simp only [Act.put, List.setIfInBounds_toArray, List.set_cons_succ, List.set_cons_zero])))
  refine (unhide C26 _ ((unhide HP).fr (unhide LL).fr).ref).mono ?_
  rintro e X11 ⟨rfl, hb⟩
  replace LL := hide ((unhide LL).on hb)
  clear hb
  go_wp2_with fail
  refine (num16 e0 (unhide HE) _).mono ?_
  rintro e X9 ⟨rfl, h9⟩
  rw [h9]
  clear h9 X9
  go_wp2_with (first | go_skip | ((with_reducible show wpList _ _ _ _ _ _); first | ((refine rd (by rfl) (ex_loadN (vs := v0.cs) 44 5 row44 siz44 rfl rfl ((unhide LL).get 0 rfl) rfl rfl) ?_); simp only [Act.put, List.setIfInBounds_toArray, List.set_cons_succ, List.set_cons_zero]) | ((refine rd (by rfl) (ex_loadN (vs := v0.cs) 44 5 row44 siz44 rfl rfl ((unhide LL).get 1 rfl) rfl rfl) ?_); simp only [Act.put, List.setIfInBounds_toArray, List.set_cons_succ, List.set_cons_zero])))
  refine (eq_any v0 v0 _).mono ?_
  rintro e X12 ⟨rfl, hb⟩
  rw [eqB_self]
  replace LL := hide ((unhide LL).on hb)
  clear hb
  go_wp2_with fail
  refine (num16 e0 (unhide HE) _).mono ?_
  rintro e X9 ⟨rfl, h9⟩
  rw [h9]
  clear h9 X9
  go_wp2_with fail
  refine (num16 e0 (unhide HE) _).mono ?_
  rintro e X9 ⟨rfl, h9⟩
  rw [h9]
  clear h9 X9
  go_wp2
  go_ret
  exact ⟨by simp, (unhide LL).fr.below⟩
end Go.Proofs.YtkpfikeggleenaaDoor
