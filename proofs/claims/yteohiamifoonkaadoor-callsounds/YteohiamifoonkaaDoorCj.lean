import Derived.Test.YteohiamifoonkaaDoorCi
namespace Go.Proofs.YteohiamifoonkaaDoor
open Go Go.Proofs Go.Maps Go.RowKit FM
set_option linter.unusedSimpArgs false
set_option linter.unusedVariables false
set_option maxHeartbeats 1000000
theorem Hq.left {w X : World} {E : List Nat} {L M : List (Nat × List Value)} (h : Hq w X E (L ++ M)) : Hq w X E L := ⟨h.fr, fun q hq => h.all q (List.mem_append_left _ hq), by
  have := h.nd
  rw [List.map_append] at this
  exact (List.nodup_append.1 this).1⟩
theorem ex_neB {o : Oper} {a : Act} {w : World} {x y : Operand} {n m r : Bool} (ho : o.op = .binOp .neq 4 x y 4) (hx : a.eval x = .bool n) (hc : a.eval y = .bool m) (h : (n != m) = r) : (execOp a.eval o).run Tryd.prog w = .ok (.value (.bool r)) w := by
  have h2 : (!(n == m)) = r := h
  unfold execOp
  simp only [ho, hx, hc]
  simp [go_sem, eqGuard, h2]
def edgs : List Value := [.int .i64 (-1), .int .i64 0, .int .i64 15, .int .i64 16]
def edg (i : Nat) : Int := if i = 0 then -1 else if i = 1 then 0 else if i = 2 then 15 else 16
theorem edg_at {i : Nat} (h : i < 4) : edgs[i]? = some (.int .i64 (edg i)) := by
  rcases (by omega : i = 0 ∨ i = 1 ∨ i = 2 ∨ i = 3) with rfl | rfl | rfl | rfl <;> rfl
theorem edgs_one : ∀ u ∈ edgs, u.oneCell' = true := by simp [edgs, Value.oneCell']
theorem sz4 : (Tryd.prog.info? 24).map (·.size) = some 4 := by kernel_rfl
theorem sz1 : (Tryd.prog.info? 3).map (·.size) = some 1 := by kernel_rfl
theorem ex_b4 {o : Oper} {a : Act} {w : World} {x0 x1 x2 x3 : Operand} (ho : o.op = .build 24 #[(0, x0), (1, x1), (2, x2), (3, x3)]) (h0 : a.eval x0 = .int .i64 (-1)) (h1 : a.eval x1 = .int .i64 0) (h2 : a.eval x2 = .int .i64 15) (h3 : a.eval x3 = .int .i64 16) : (execOp a.eval o).run Tryd.prog w = .ok (.value (.agg edgs.toArray)) w := by
  have e1 : (Instr.build 24 #[(0, .int .i64 (-1)), (1, .int .i64 0), (2, .int .i64 15), (3, .int .i64 16)]).run Tryd.prog w = .ok (.agg edgs.toArray) w := by kernel_rfl
  unfold execOp
  simp only [ho]
  simp [h0, h1, h2, h3, e1]
def nulV : VV := ⟨2, false, 0, ⟨#[]⟩, 0⟩
def opF (c t a b d : Int) : OP := ⟨c, t, a, b, d, ⟨⟨#[]⟩, 0⟩, nulV, zeroD, false, false⟩
def zerO : OP := ⟨0, 0, 0, 0, 0, ⟨⟨#[]⟩, 0⟩, zeroV, zeroD, false, false⟩
theorem opF_ok (c t a b d : Int) : OkO (opF c t a b d) := ⟨⟨by show (0 : Nat) < _; decide, by show (0 : Nat) < _; decide, by show (0 : Nat) < _; decide⟩, by show (0 : Nat) < _; decide⟩
theorem infO : (Tryd.prog.info? 34).map (fun i => (i.zero, i.size, i.bytes)) = some (some zerO.agg, 32, 288) := by kernel_rfl
theorem ex_bV {o : Oper} {a : Act} {w : World} {x : Operand} (ho : o.op = .build 27 #[(0, x)]) (hx : a.eval x = .int .i64 2) : (execOp a.eval o).run Tryd.prog w = .ok (.value (.agg nulV.cs.toArray)) w := by
  have e1 : (Instr.build 27 #[(0, .int .i64 2)]).run Tryd.prog w = .ok (.agg nulV.cs.toArray) w := by kernel_rfl
  unfold execOp
  simp only [ho]
  simp [hx, e1]
theorem ex_bO {o : Oper} {a : Act} {w : World} {x y : Operand} (c : Int) (ho : o.op = .build 34 #[(0, x), (6, y)]) (hx : a.eval x = .int .i64 c) (hy : a.eval y = .agg nulV.cs.toArray) : (execOp a.eval o).run Tryd.prog w = .ok (.value (.agg (opF c 0 0 0 0).cs.toArray)) w := by
  have e1 : (Instr.build 34 #[(0, .int .i64 c), (6, .agg nulV.cs.toArray)]).run Tryd.prog w = .ok (.agg (opF c 0 0 0 0).cs.toArray) w := by kernel_rfl
  unfold execOp
  simp only [ho]
  simp [hx, hy, e1]
theorem ex_ix4 {o : Oper} {a : Act} {w : World} {x ix : Operand} {B : Nat} (i : Nat) (ho : o.op = .indexAddr 24 x ix) (hx : a.eval x = .pointer (some ⟨B, 0, none⟩)) (hix : a.eval ix = .int .i64 (i : Nat)) (hi : i < 4) : (execOp a.eval o).run Tryd.prog w = .ok (.value (.pointer (some ⟨B, i, none⟩))) w := by
  have h1 : (Instr.indexAt 24 (.pointer (some ⟨B, 0, none⟩)) (.int .i64 (i : Nat))).run Tryd.prog w = .ok (.pointer (some ⟨B, i, none⟩)) w := by
    rcases (by omega : i = 0 ∨ i = 1 ∨ i = 2 ∨ i = 3) with rfl | rfl | rfl | rfl <;> kernel_rfl
  unfold execOp
  simp only [ho, hx, hix]
  simp [h1]
theorem one_reads {X : World} {B : Nat} {o : OP} (h : Holds X B o.cs) (hlt : B < X.heap.size) (hO : OkO o) : ReadsO X (some ⟨B, 0, none⟩) [o] := fun j p hp => by
  match j, hp with
  | 0, hp =>
    obtain rfl : o = p := by simpa using hp
    exact ⟨hO, B, 0, rfl, hlt, h.2⟩
set_option maxHeartbeats 4000000 in
set_option maxRecDepth 100000 in
theorem law_sounds (A : Option Addr) (cap : Nat) (l : List OP) (w : World) (hR : ReadsO w A l) (hT : Lib.Utf8Tabs 1 2 w) : Calls Tryd.prog 3 #[.slice A l.length cap] w fun e w' => e = .returned (.bool true) ∧ Below w.heap.size w w' := by
  have LL := hide (Hq.nil w [])
  have HT := hide hT
  have HR := hide hR
  clear hT hR
  go_enter Tryd.func3, Tryd.ntmps3
  go_wp2_with fail
  refine (callSound_any A cap l _ ((unhide HR).fr (unhide LL).fr) (tabs_below (unhide HT) (unhide LL).fr.below)).mono ?_
  rintro e0 X1 ⟨rfl, hb1⟩
  replace LL := hide ((unhide LL).on hb1)
  clear hb1
  go_wp2_with fail
  refine (refSound_any A cap l _ ((unhide HR).fr (unhide LL).fr)).mono ?_
  rintro e0 X2 ⟨rfl, hb2⟩
  replace LL := hide ((unhide LL).on hb2)
  clear hb2
  generalize allS l = q at *
  have hnq : (q != q) = false := by simp
  go_wp2_with (first | go_skip | ((with_reducible show wpList _ _ _ _ _ _); first | ((refine rd (by rfl) (ex_neB rfl rfl rfl hnq) ?_); simp only [Act.put, List.setIfInBounds_toArray, List.set_cons_succ, List.set_cons_zero]) | ((refine rd (by rfl) (ex_b4 rfl rfl rfl rfl rfl) ?_); simp only [Act.put, List.setIfInBounds_toArray, List.set_cons_succ, List.set_cons_zero]) | ((refine alG 24 ([.int .i64 0, .int .i64 0, .int .i64 0, .int .i64 0]) (by rfl) rfl (fun w => by kernel_rfl) (Nat.succ_pos _) (unhide LL) ?_); intro X3 B3 hE3 L3 hb3; have hB3 := hide (Nat.le_trans (unhide LL).fr.size (Nat.le_of_eq hE3.symm)); replace LL := hide L3; clear L3 hb3 hE3; simp only [Act.put, List.setIfInBounds_toArray, List.set_cons_succ, List.set_cons_zero]) | ((refine st (vs := edgs) 0 24 (by rfl) rfl rfl rfl rfl (edgs_one) (sz4) (unhide LL) rfl (Nat.le_refl _) (Or.inr (unhide hB3)) ?_); intro X4 L4 hf4 hs4; replace LL := hide L4; clear L4 hf4 hs4; simp only [Act.put, List.setIfInBounds_toArray, List.set_cons_succ, List.set_cons_zero])))
  replace LL : Hid (Hq w X4 [] [(B3, edgs)]) := LL
  clear hnq
  go_loopg [4] 26 (fun gm s4 wr => ∃ c : Nat, s4 = .int .i64 (c : Nat) ∧ c ≤ 26 ∧ 26 - c ≤ gm ∧ Hid (Hq w wr [] [(B3, edgs)]))
  case atStart => exact ⟨0, rfl, by omega, by omega, LL⟩
  case round =>
    clear LL
    obtain ⟨c, rfl, hcc, hgm1, LL⟩ := hrel
    by_cases hlc : c < 26
    · have dlc : decide ((c : Int) ≤ 25) = true := decide_eq_true (by omega)
      have hwc : IntKind.i64.wrap ((c : Int) + 1) = (c : Int) + 1 := by rw [IntKind.wrap_i64]; omega
      have hcl := hlc
      clear hcc hlc
      go_wp2_with (first | go_skip | ((with_reducible show wpList _ _ _ _ _ _); first | ((refine rd (by rfl) (ex_leI rfl rfl rfl dlc) ?_); simp only [Act.put, List.setIfInBounds_toArray, List.set_cons_succ, List.set_cons_zero])))
      go_loopg [5] 4 (fun gm s5 wr => ∃ k : Nat, s5 = .int .i64 (k : Nat) ∧ k ≤ 4 ∧ 4 - k ≤ gm ∧ Hid (Hq w wr [] [(B3, edgs)]))
      case atStart => exact ⟨0, rfl, by omega, by omega, LL⟩
      case round =>
        clear LL
        obtain ⟨k, rfl, hkk, hgm2, LL⟩ := hrel
        by_cases hlk : k < 4
        · have dlk : decide ((k : Int) < 4) = true := decide_eq_true (by omega)
          have hwkk : IntKind.i64.wrap ((k : Int) + 1) = (k : Int) + 1 := by rw [IntKind.wrap_i64]; omega
          have hkl := hlk
          clear hkk hlk
          go_wp2_with (first | go_skip | ((with_reducible show wpList _ _ _ _ _ _); first | ((refine rd (by rfl) (ex_ltI rfl rfl rfl dlk) ?_); simp only [Act.put, List.setIfInBounds_toArray, List.set_cons_succ, List.set_cons_zero])))
          obtain ⟨wk, hwk⟩ : ∃ wk, wk = wr := ⟨_, rfl⟩
          skip
          go_loopg [6] 4 (fun gm s6 wr => ∃ i : Nat, s6 = .int .i64 (i : Nat) ∧ i ≤ 4 ∧ 4 - i ≤ gm ∧ Hid (Hq w wr [] [(B3, edgs)]))
          case atStart => exact ⟨0, rfl, by omega, by omega, LL⟩
          case round =>
            clear LL
            obtain ⟨i, rfl, hil, hgm3, LL⟩ := hrel
            by_cases hlt : i < 4
            · have dlt : decide ((i : Int) < 4) = true := decide_eq_true (by omega)
              have hwi : IntKind.i64.wrap ((i : Int) + 1) = (i : Int) + 1 := by rw [IntKind.wrap_i64]; omega
              have HI := hide hlt
              clear hil hlt
              rcases (by omega : k = 0 ∨ k = 1 ∨ k = 2 ∨ k = 3) with hk | hk | hk | hk
              · have HK := hide hk
                clear hk hkl
                go_wp2_with (first | go_skip | ((with_reducible show wpList _ _ _ _ _ _); first | ((refine rd (by rfl) (ex_ltI rfl rfl rfl dlt) ?_); simp only [Act.put, List.setIfInBounds_toArray, List.set_cons_succ, List.set_cons_zero]) | ((refine rd (by rfl) (ex_bV rfl rfl) ?_); simp only [Act.put, List.setIfInBounds_toArray, List.set_cons_succ, List.set_cons_zero]) | ((refine rd (by rfl) (ex_bO (c : Int) rfl rfl rfl) ?_); simp only [Act.put, List.setIfInBounds_toArray, List.set_cons_succ, List.set_cons_zero]) | ((refine alG 34 (zerO.cs) (by rfl) rfl (fun w => by kernel_rfl) (Nat.succ_pos _) (unhide LL) ?_); intro X7 B7 hE7 L7 hb7; have hB7 := hide (Nat.le_trans (unhide LL).fr.size (Nat.le_of_eq hE7.symm)); replace LL := hide L7; clear L7 hb7 hE7; simp only [Act.put, List.setIfInBounds_toArray, List.set_cons_succ, List.set_cons_zero]) | ((refine st (vs := (opF (c : Int) 0 0 0 0).cs) 1 34 (by rfl) rfl rfl rfl rfl (ocs_one _) szO (unhide LL) rfl (Nat.le_refl _) (Or.inr (unhide hB7)) ?_); intro X8 L8 hf8 hs8; replace LL := hide L8; clear L8 hf8 hs8; simp only [Act.put, List.setIfInBounds_toArray, List.set_cons_succ, List.set_cons_zero]) | ((refine rd (by rfl) (ex_eqYes rfl rfl rfl (by have := unhide HK; omega)) ?_); simp only [Act.put, List.setIfInBounds_toArray, List.set_cons_succ, List.set_cons_zero]) | ((refine rd (by rfl) (ex_eqNo rfl rfl rfl (by have := unhide HK; omega)) ?_); simp only [Act.put, List.setIfInBounds_toArray, List.set_cons_succ, List.set_cons_zero]) | ((refine rd (by rfl) (ex_ix4 i rfl rfl rfl (unhide HI)) ?_); simp only [Act.put, List.setIfInBounds_toArray, List.set_cons_succ, List.set_cons_zero]) | ((refine rd (by rfl) (ex_load1 3 Tryd.isAgg3 rfl rfl ((unhide LL).get 0 rfl) (edg_at (unhide HI))) ?_); simp only [Act.put, List.setIfInBounds_toArray, List.set_cons_succ, List.set_cons_zero]) | ((refine st (vs := [.int .i64 (edg i)]) 1 3 (by rfl) rfl rfl rfl rfl (by simp [Value.oneCell']) sz1 (unhide LL) rfl (of_decide_eq_true (by kernel_rfl)) (Or.inr (unhide hB7)) ?_); intro X9 L9 hf9 hs9; replace LL := hide L9; clear L9 hf9 hs9; simp only [Act.put, List.setIfInBounds_toArray, List.set_cons_succ, List.set_cons_zero]) | ((refine rd (by rfl) (ex_loadN (vs := (opF (c : Int) (edg i) 0 0 0).cs) 34 32 rwO szO rfl rfl ((unhide LL).get 1 rfl) rfl rfl) ?_); simp only [Act.put, List.setIfInBounds_toArray, List.set_cons_succ, List.set_cons_zero]) | ((refine build_any (z := zerO.agg) (size := 32) (bytes := 288) (cs := (opF (c : Int) (edg i) 0 0 0).cs) (by rfl) rfl rfl Tryd.underlying22 infO (by omega) rfl rfl (by omega) (unhide LL) ?_); intro X10 B10 hE10 L10 hb10; replace LL := hide L10; clear L10 hb10 hE10; simp only [Act.put, List.setIfInBounds_toArray, List.set_cons_succ, List.set_cons_zero])))
                have HRD : Hid (∀ X, Fr X10 X [] → ReadsO X (some ⟨B10, 0, none⟩) [(opF (c : Int) (edg i) 0 0 0)]) := hide (fun X hX => (one_reads ((unhide LL).get 2 rfl) ((unhide LL).lt _ (List.mem_of_getElem? (i := 2) rfl)) (opF_ok _ _ _ _ _)).fr hX)
                have LB : Hid (Hq X10 X10 [] []) := hide (Hq.nil X10 [])
                refine (callSound_any (some ⟨B10, 0, none⟩) 1 [(opF (c : Int) (edg i) 0 0 0)] _ (unhide HRD _ (unhide LB).fr) (tabs_below (unhide HT) (unhide LL).fr.below)).mono ?_
                rintro e0 X11 ⟨rfl, hb11⟩
                replace LL := hide ((unhide LL).on hb11)
                replace LB := hide ((unhide LB).on hb11)
                clear hb11
                go_wp2_with fail
                refine (refSound_any (some ⟨B10, 0, none⟩) 1 [(opF (c : Int) (edg i) 0 0 0)] _ (unhide HRD _ (unhide LB).fr)).mono ?_
                rintro e0 X12 ⟨rfl, hb12⟩
                replace LL := hide ((unhide LL).on hb12)
                clear hb12 LB HRD
                generalize allS [(opF (c : Int) (edg i) 0 0 0)] = q at *
                have hnq : (q != q) = false := by simp
                go_wp2_with (first | go_skip | ((with_reducible show wpList _ _ _ _ _ _); first | ((refine rd (by rfl) (ex_neB rfl rfl rfl hnq) ?_); simp only [Act.put, List.setIfInBounds_toArray, List.set_cons_succ, List.set_cons_zero])))
                clear hnq
                replace LL := hide (Hq.left (L := [(B3, edgs)]) (M := [(B7, _), (B10, _)]) (unhide LL))
                go_roundg (4 - (i + 1))
                case measure => have := unhide HI; omega
                case rel => exact ⟨i + 1, by go_num, by have := unhide HI; omega, by omega, LL⟩
              · have HK := hide hk
                clear hk hkl
                go_wp2_with (first | go_skip | ((with_reducible show wpList _ _ _ _ _ _); first | ((refine rd (by rfl) (ex_ltI rfl rfl rfl dlt) ?_); simp only [Act.put, List.setIfInBounds_toArray, List.set_cons_succ, List.set_cons_zero]) | ((refine rd (by rfl) (ex_bV rfl rfl) ?_); simp only [Act.put, List.setIfInBounds_toArray, List.set_cons_succ, List.set_cons_zero]) | ((refine rd (by rfl) (ex_bO (c : Int) rfl rfl rfl) ?_); simp only [Act.put, List.setIfInBounds_toArray, List.set_cons_succ, List.set_cons_zero]) | ((refine alG 34 (zerO.cs) (by rfl) rfl (fun w => by kernel_rfl) (Nat.succ_pos _) (unhide LL) ?_); intro X7 B7 hE7 L7 hb7; have hB7 := hide (Nat.le_trans (unhide LL).fr.size (Nat.le_of_eq hE7.symm)); replace LL := hide L7; clear L7 hb7 hE7; simp only [Act.put, List.setIfInBounds_toArray, List.set_cons_succ, List.set_cons_zero]) | ((refine st (vs := (opF (c : Int) 0 0 0 0).cs) 1 34 (by rfl) rfl rfl rfl rfl (ocs_one _) szO (unhide LL) rfl (Nat.le_refl _) (Or.inr (unhide hB7)) ?_); intro X8 L8 hf8 hs8; replace LL := hide L8; clear L8 hf8 hs8; simp only [Act.put, List.setIfInBounds_toArray, List.set_cons_succ, List.set_cons_zero]) | ((refine rd (by rfl) (ex_eqYes rfl rfl rfl (by have := unhide HK; omega)) ?_); simp only [Act.put, List.setIfInBounds_toArray, List.set_cons_succ, List.set_cons_zero]) | ((refine rd (by rfl) (ex_eqNo rfl rfl rfl (by have := unhide HK; omega)) ?_); simp only [Act.put, List.setIfInBounds_toArray, List.set_cons_succ, List.set_cons_zero]) | ((refine rd (by rfl) (ex_ix4 i rfl rfl rfl (unhide HI)) ?_); simp only [Act.put, List.setIfInBounds_toArray, List.set_cons_succ, List.set_cons_zero]) | ((refine rd (by rfl) (ex_load1 3 Tryd.isAgg3 rfl rfl ((unhide LL).get 0 rfl) (edg_at (unhide HI))) ?_); simp only [Act.put, List.setIfInBounds_toArray, List.set_cons_succ, List.set_cons_zero]) | ((refine st (vs := [.int .i64 (edg i)]) 1 3 (by rfl) rfl rfl rfl rfl (by simp [Value.oneCell']) sz1 (unhide LL) rfl (of_decide_eq_true (by kernel_rfl)) (Or.inr (unhide hB7)) ?_); intro X9 L9 hf9 hs9; replace LL := hide L9; clear L9 hf9 hs9; simp only [Act.put, List.setIfInBounds_toArray, List.set_cons_succ, List.set_cons_zero]) | ((refine rd (by rfl) (ex_loadN (vs := (opF (c : Int) 0 (edg i) 0 0).cs) 34 32 rwO szO rfl rfl ((unhide LL).get 1 rfl) rfl rfl) ?_); simp only [Act.put, List.setIfInBounds_toArray, List.set_cons_succ, List.set_cons_zero]) | ((refine build_any (z := zerO.agg) (size := 32) (bytes := 288) (cs := (opF (c : Int) 0 (edg i) 0 0).cs) (by rfl) rfl rfl Tryd.underlying22 infO (by omega) rfl rfl (by omega) (unhide LL) ?_); intro X10 B10 hE10 L10 hb10; replace LL := hide L10; clear L10 hb10 hE10; simp only [Act.put, List.setIfInBounds_toArray, List.set_cons_succ, List.set_cons_zero])))
                have HRD : Hid (∀ X, Fr X10 X [] → ReadsO X (some ⟨B10, 0, none⟩) [(opF (c : Int) 0 (edg i) 0 0)]) := hide (fun X hX => (one_reads ((unhide LL).get 2 rfl) ((unhide LL).lt _ (List.mem_of_getElem? (i := 2) rfl)) (opF_ok _ _ _ _ _)).fr hX)
                have LB : Hid (Hq X10 X10 [] []) := hide (Hq.nil X10 [])
                refine (callSound_any (some ⟨B10, 0, none⟩) 1 [(opF (c : Int) 0 (edg i) 0 0)] _ (unhide HRD _ (unhide LB).fr) (tabs_below (unhide HT) (unhide LL).fr.below)).mono ?_
                rintro e0 X11 ⟨rfl, hb11⟩
                replace LL := hide ((unhide LL).on hb11)
                replace LB := hide ((unhide LB).on hb11)
                clear hb11
                go_wp2_with fail
                refine (refSound_any (some ⟨B10, 0, none⟩) 1 [(opF (c : Int) 0 (edg i) 0 0)] _ (unhide HRD _ (unhide LB).fr)).mono ?_
                rintro e0 X12 ⟨rfl, hb12⟩
                replace LL := hide ((unhide LL).on hb12)
                clear hb12 LB HRD
                generalize allS [(opF (c : Int) 0 (edg i) 0 0)] = q at *
                have hnq : (q != q) = false := by simp
                go_wp2_with (first | go_skip | ((with_reducible show wpList _ _ _ _ _ _); first | ((refine rd (by rfl) (ex_neB rfl rfl rfl hnq) ?_); simp only [Act.put, List.setIfInBounds_toArray, List.set_cons_succ, List.set_cons_zero])))
                clear hnq
                replace LL := hide (Hq.left (L := [(B3, edgs)]) (M := [(B7, _), (B10, _)]) (unhide LL))
                go_roundg (4 - (i + 1))
                case measure => have := unhide HI; omega
                case rel => exact ⟨i + 1, by go_num, by have := unhide HI; omega, by omega, LL⟩
              · have HK := hide hk
                clear hk hkl
                go_wp2_with (first | go_skip | ((with_reducible show wpList _ _ _ _ _ _); first | ((refine rd (by rfl) (ex_ltI rfl rfl rfl dlt) ?_); simp only [Act.put, List.setIfInBounds_toArray, List.set_cons_succ, List.set_cons_zero]) | ((refine rd (by rfl) (ex_bV rfl rfl) ?_); simp only [Act.put, List.setIfInBounds_toArray, List.set_cons_succ, List.set_cons_zero]) | ((refine rd (by rfl) (ex_bO (c : Int) rfl rfl rfl) ?_); simp only [Act.put, List.setIfInBounds_toArray, List.set_cons_succ, List.set_cons_zero]) | ((refine alG 34 (zerO.cs) (by rfl) rfl (fun w => by kernel_rfl) (Nat.succ_pos _) (unhide LL) ?_); intro X7 B7 hE7 L7 hb7; have hB7 := hide (Nat.le_trans (unhide LL).fr.size (Nat.le_of_eq hE7.symm)); replace LL := hide L7; clear L7 hb7 hE7; simp only [Act.put, List.setIfInBounds_toArray, List.set_cons_succ, List.set_cons_zero]) | ((refine st (vs := (opF (c : Int) 0 0 0 0).cs) 1 34 (by rfl) rfl rfl rfl rfl (ocs_one _) szO (unhide LL) rfl (Nat.le_refl _) (Or.inr (unhide hB7)) ?_); intro X8 L8 hf8 hs8; replace LL := hide L8; clear L8 hf8 hs8; simp only [Act.put, List.setIfInBounds_toArray, List.set_cons_succ, List.set_cons_zero]) | ((refine rd (by rfl) (ex_eqYes rfl rfl rfl (by have := unhide HK; omega)) ?_); simp only [Act.put, List.setIfInBounds_toArray, List.set_cons_succ, List.set_cons_zero]) | ((refine rd (by rfl) (ex_eqNo rfl rfl rfl (by have := unhide HK; omega)) ?_); simp only [Act.put, List.setIfInBounds_toArray, List.set_cons_succ, List.set_cons_zero]) | ((refine rd (by rfl) (ex_ix4 i rfl rfl rfl (unhide HI)) ?_); simp only [Act.put, List.setIfInBounds_toArray, List.set_cons_succ, List.set_cons_zero]) | ((refine rd (by rfl) (ex_load1 3 Tryd.isAgg3 rfl rfl ((unhide LL).get 0 rfl) (edg_at (unhide HI))) ?_); simp only [Act.put, List.setIfInBounds_toArray, List.set_cons_succ, List.set_cons_zero]) | ((refine st (vs := [.int .i64 (edg i)]) 1 3 (by rfl) rfl rfl rfl rfl (by simp [Value.oneCell']) sz1 (unhide LL) rfl (of_decide_eq_true (by kernel_rfl)) (Or.inr (unhide hB7)) ?_); intro X9 L9 hf9 hs9; replace LL := hide L9; clear L9 hf9 hs9; simp only [Act.put, List.setIfInBounds_toArray, List.set_cons_succ, List.set_cons_zero]) | ((refine rd (by rfl) (ex_loadN (vs := (opF (c : Int) 0 0 (edg i) 0).cs) 34 32 rwO szO rfl rfl ((unhide LL).get 1 rfl) rfl rfl) ?_); simp only [Act.put, List.setIfInBounds_toArray, List.set_cons_succ, List.set_cons_zero]) | ((refine build_any (z := zerO.agg) (size := 32) (bytes := 288) (cs := (opF (c : Int) 0 0 (edg i) 0).cs) (by rfl) rfl rfl Tryd.underlying22 infO (by omega) rfl rfl (by omega) (unhide LL) ?_); intro X10 B10 hE10 L10 hb10; replace LL := hide L10; clear L10 hb10 hE10; simp only [Act.put, List.setIfInBounds_toArray, List.set_cons_succ, List.set_cons_zero])))
                have HRD : Hid (∀ X, Fr X10 X [] → ReadsO X (some ⟨B10, 0, none⟩) [(opF (c : Int) 0 0 (edg i) 0)]) := hide (fun X hX => (one_reads ((unhide LL).get 2 rfl) ((unhide LL).lt _ (List.mem_of_getElem? (i := 2) rfl)) (opF_ok _ _ _ _ _)).fr hX)
                have LB : Hid (Hq X10 X10 [] []) := hide (Hq.nil X10 [])
                refine (callSound_any (some ⟨B10, 0, none⟩) 1 [(opF (c : Int) 0 0 (edg i) 0)] _ (unhide HRD _ (unhide LB).fr) (tabs_below (unhide HT) (unhide LL).fr.below)).mono ?_
                rintro e0 X11 ⟨rfl, hb11⟩
                replace LL := hide ((unhide LL).on hb11)
                replace LB := hide ((unhide LB).on hb11)
                clear hb11
                go_wp2_with fail
                refine (refSound_any (some ⟨B10, 0, none⟩) 1 [(opF (c : Int) 0 0 (edg i) 0)] _ (unhide HRD _ (unhide LB).fr)).mono ?_
                rintro e0 X12 ⟨rfl, hb12⟩
                replace LL := hide ((unhide LL).on hb12)
                clear hb12 LB HRD
                generalize allS [(opF (c : Int) 0 0 (edg i) 0)] = q at *
                have hnq : (q != q) = false := by simp
                go_wp2_with (first | go_skip | ((with_reducible show wpList _ _ _ _ _ _); first | ((refine rd (by rfl) (ex_neB rfl rfl rfl hnq) ?_); simp only [Act.put, List.setIfInBounds_toArray, List.set_cons_succ, List.set_cons_zero])))
                clear hnq
                replace LL := hide (Hq.left (L := [(B3, edgs)]) (M := [(B7, _), (B10, _)]) (unhide LL))
                go_roundg (4 - (i + 1))
                case measure => have := unhide HI; omega
                case rel => exact ⟨i + 1, by go_num, by have := unhide HI; omega, by omega, LL⟩
              · have HK := hide hk
                clear hk hkl
                go_wp2_with (first | go_skip | ((with_reducible show wpList _ _ _ _ _ _); first | ((refine rd (by rfl) (ex_ltI rfl rfl rfl dlt) ?_); simp only [Act.put, List.setIfInBounds_toArray, List.set_cons_succ, List.set_cons_zero]) | ((refine rd (by rfl) (ex_bV rfl rfl) ?_); simp only [Act.put, List.setIfInBounds_toArray, List.set_cons_succ, List.set_cons_zero]) | ((refine rd (by rfl) (ex_bO (c : Int) rfl rfl rfl) ?_); simp only [Act.put, List.setIfInBounds_toArray, List.set_cons_succ, List.set_cons_zero]) | ((refine alG 34 (zerO.cs) (by rfl) rfl (fun w => by kernel_rfl) (Nat.succ_pos _) (unhide LL) ?_); intro X7 B7 hE7 L7 hb7; have hB7 := hide (Nat.le_trans (unhide LL).fr.size (Nat.le_of_eq hE7.symm)); replace LL := hide L7; clear L7 hb7 hE7; simp only [Act.put, List.setIfInBounds_toArray, List.set_cons_succ, List.set_cons_zero]) | ((refine st (vs := (opF (c : Int) 0 0 0 0).cs) 1 34 (by rfl) rfl rfl rfl rfl (ocs_one _) szO (unhide LL) rfl (Nat.le_refl _) (Or.inr (unhide hB7)) ?_); intro X8 L8 hf8 hs8; replace LL := hide L8; clear L8 hf8 hs8; simp only [Act.put, List.setIfInBounds_toArray, List.set_cons_succ, List.set_cons_zero]) | ((refine rd (by rfl) (ex_eqYes rfl rfl rfl (by have := unhide HK; omega)) ?_); simp only [Act.put, List.setIfInBounds_toArray, List.set_cons_succ, List.set_cons_zero]) | ((refine rd (by rfl) (ex_eqNo rfl rfl rfl (by have := unhide HK; omega)) ?_); simp only [Act.put, List.setIfInBounds_toArray, List.set_cons_succ, List.set_cons_zero]) | ((refine rd (by rfl) (ex_ix4 i rfl rfl rfl (unhide HI)) ?_); simp only [Act.put, List.setIfInBounds_toArray, List.set_cons_succ, List.set_cons_zero]) | ((refine rd (by rfl) (ex_load1 3 Tryd.isAgg3 rfl rfl ((unhide LL).get 0 rfl) (edg_at (unhide HI))) ?_); simp only [Act.put, List.setIfInBounds_toArray, List.set_cons_succ, List.set_cons_zero]) | ((refine st (vs := [.int .i64 (edg i)]) 1 3 (by rfl) rfl rfl rfl rfl (by simp [Value.oneCell']) sz1 (unhide LL) rfl (of_decide_eq_true (by kernel_rfl)) (Or.inr (unhide hB7)) ?_); intro X9 L9 hf9 hs9; replace LL := hide L9; clear L9 hf9 hs9; simp only [Act.put, List.setIfInBounds_toArray, List.set_cons_succ, List.set_cons_zero]) | ((refine rd (by rfl) (ex_loadN (vs := (opF (c : Int) 0 0 0 (edg i)).cs) 34 32 rwO szO rfl rfl ((unhide LL).get 1 rfl) rfl rfl) ?_); simp only [Act.put, List.setIfInBounds_toArray, List.set_cons_succ, List.set_cons_zero]) | ((refine build_any (z := zerO.agg) (size := 32) (bytes := 288) (cs := (opF (c : Int) 0 0 0 (edg i)).cs) (by rfl) rfl rfl Tryd.underlying22 infO (by omega) rfl rfl (by omega) (unhide LL) ?_); intro X10 B10 hE10 L10 hb10; replace LL := hide L10; clear L10 hb10 hE10; simp only [Act.put, List.setIfInBounds_toArray, List.set_cons_succ, List.set_cons_zero])))
                have HRD : Hid (∀ X, Fr X10 X [] → ReadsO X (some ⟨B10, 0, none⟩) [(opF (c : Int) 0 0 0 (edg i))]) := hide (fun X hX => (one_reads ((unhide LL).get 2 rfl) ((unhide LL).lt _ (List.mem_of_getElem? (i := 2) rfl)) (opF_ok _ _ _ _ _)).fr hX)
                have LB : Hid (Hq X10 X10 [] []) := hide (Hq.nil X10 [])
                refine (callSound_any (some ⟨B10, 0, none⟩) 1 [(opF (c : Int) 0 0 0 (edg i))] _ (unhide HRD _ (unhide LB).fr) (tabs_below (unhide HT) (unhide LL).fr.below)).mono ?_
                rintro e0 X11 ⟨rfl, hb11⟩
                replace LL := hide ((unhide LL).on hb11)
                replace LB := hide ((unhide LB).on hb11)
                clear hb11
                go_wp2_with fail
                refine (refSound_any (some ⟨B10, 0, none⟩) 1 [(opF (c : Int) 0 0 0 (edg i))] _ (unhide HRD _ (unhide LB).fr)).mono ?_
                rintro e0 X12 ⟨rfl, hb12⟩
                replace LL := hide ((unhide LL).on hb12)
                clear hb12 LB HRD
                generalize allS [(opF (c : Int) 0 0 0 (edg i))] = q at *
                have hnq : (q != q) = false := by simp
                go_wp2_with (first | go_skip | ((with_reducible show wpList _ _ _ _ _ _); first | ((refine rd (by rfl) (ex_neB rfl rfl rfl hnq) ?_); simp only [Act.put, List.setIfInBounds_toArray, List.set_cons_succ, List.set_cons_zero])))
                clear hnq
                replace LL := hide (Hq.left (L := [(B3, edgs)]) (M := [(B7, _), (B10, _)]) (unhide LL))
                go_roundg (4 - (i + 1))
                case measure => have := unhide HI; omega
                case rel => exact ⟨i + 1, by go_num, by have := unhide HI; omega, by omega, LL⟩
            · have dlt : decide ((i : Int) < 4) = false := decide_eq_false (by omega)
              clear hlt hil
              go_wp2_with (first | go_skip | ((with_reducible show wpList _ _ _ _ _ _); first | ((refine rd (by rfl) (ex_ltI rfl rfl rfl dlt) ?_); simp only [Act.put, List.setIfInBounds_toArray, List.set_cons_succ, List.set_cons_zero])))
              go_roundg (4 - (k + 1))
              case measure => omega
              case rel => exact ⟨k + 1, by go_num, by omega, by omega, LL⟩
        · have dlk : decide ((k : Int) < 4) = false := decide_eq_false (by omega)
          clear hlk hkk
          go_wp2_with (first | go_skip | ((with_reducible show wpList _ _ _ _ _ _); first | ((refine rd (by rfl) (ex_ltI rfl rfl rfl dlk) ?_); simp only [Act.put, List.setIfInBounds_toArray, List.set_cons_succ, List.set_cons_zero])))
          go_roundg (26 - (c + 1))
          case measure => omega
          case rel => exact ⟨c + 1, by go_num, by omega, by omega, LL⟩
    · have dlc : decide ((c : Int) ≤ 25) = false := decide_eq_false (by omega)
      clear hlc hcc
      go_wp2_with (first | go_skip | ((with_reducible show wpList _ _ _ _ _ _); first | ((refine rd (by rfl) (ex_leI rfl rfl rfl dlc) ?_); simp only [Act.put, List.setIfInBounds_toArray, List.set_cons_succ, List.set_cons_zero])))
      go_ret
      exact ⟨rfl, (unhide LL).fr.below⟩
end Go.Proofs.YteohiamifoonkaaDoor
