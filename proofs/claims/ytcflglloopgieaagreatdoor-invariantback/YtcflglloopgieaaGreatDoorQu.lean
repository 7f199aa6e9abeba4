import Derived.Test.YtcflglloopgieaaGreatDoorQt

/-! Ke -/
namespace Go.Proofs.YtcflglloopgieaaGreatDoor
open Go Go.Proofs Go.Maps Go.RowKit FM
set_option linter.unusedSimpArgs false
set_option linter.unusedVariables false
set_option maxHeartbeats 1000000
theorem ex_eqK2 {o : Oper} {a : Act} {w : World} {x y : Operand} {b : Bool} (k q : KK) (ho : o.op = .binOp .eql 56 x y 56) (hx : a.eval x = k.agg) (hy : a.eval y = q.agg) (hb : decide (k = q) = b) : (execOp a.eval o).run Tryz.prog w = .ok (.value (.bool b)) w := hb ▸ ex_eql41 k q ho hx hy
theorem ex_eqB2 {o : Oper} {a : Act} {w : World} {x y : Operand} {n m r : Bool} (ho : o.op = .binOp .eql 4 x y 4) (hx : a.eval x = .bool n) (hc : a.eval y = .bool m) (h : (n == m) = r) : (execOp a.eval o).run Tryz.prog w = .ok (.value (.bool r)) w := by
  unfold execOp
  simp only [ho, hx, hc]
  simp [go_sem, eqGuard, h]
theorem ex_eqI2 {o : Oper} {a : Act} {w : World} {x y : Operand} {n m : Int} {r : Bool} (ho : o.op = .binOp .eql 3 x y 3) (hx : a.eval x = .int .i64 n) (hc : a.eval y = .int .i64 m) (h : (n == m) = r) : (execOp a.eval o).run Tryz.prog w = .ok (.value (.bool r)) w := by
  unfold execOp
  simp only [ho, hx, hc]
  simp [go_sem, eqGuard, h]
set_option maxHeartbeats 4000000 in
set_option maxRecDepth 100000 in
theorem sameProp_any (p q : PR) (w : World) (hT : Lib.Utf8Tabs 1 2 w) : Calls Tryz.prog 47 #[p.agg, q.agg] w fun e w' => e = .returned (.bool (decide (p.k = q.k) && eqDD p.d q.d)) ∧ Below w.heap.size w w' := by
  have LL := hide (Hq.nil w [])
  have HT := hide hT
  have HSD := hide (sameDesc_any p.d q.d)
  simp only [dagg] at HSD
  simp only [pagg]
  clear hT
  go_enter Tryz.func47, Tryz.ntmps47
  cases hkd : decide (p.k = q.k)
  · go_wp2_with (first | go_skip | ((with_reducible show wpList _ _ _ _ _ _); first | ((refine bx 61 (p.cs) (by rfl) rfl rfl rfl (Nat.succ_pos _) (show Hq w _ [] [] from unhide LL) ?_); intro X1 B1 hE1 L1 hb1; have hB1 := hide (Nat.le_trans (unhide LL).fr.size (Nat.le_of_eq hE1.symm)); replace LL := hide L1; clear L1 hb1 hE1; simp only [Act.put, List.setIfInBounds_toArray, List.set_cons_succ, List.set_cons_zero]) | ((refine bx 61 (q.cs) (by rfl) rfl rfl rfl (Nat.succ_pos _) (unhide LL) ?_); intro X2 B2 hE2 L2 hb2; have hB2 := hide (Nat.le_trans (unhide LL).fr.size (Nat.le_of_eq hE2.symm)); replace LL := hide L2; clear L2 hb2 hE2; simp only [Act.put, List.setIfInBounds_toArray, List.set_cons_succ, List.set_cons_zero]) | ((refine rd (by rfl) (ex_loadN (vs := p.k.cs) 56 2 rwK szK rfl rfl ((unhide LL).get 0 rfl) rfl rfl) ?_); simp only [Act.put, List.setIfInBounds_toArray, List.set_cons_succ, List.set_cons_zero]) | ((refine rd (by rfl) (ex_loadN (vs := q.k.cs) 56 2 rwK szK rfl rfl ((unhide LL).get 1 rfl) rfl rfl) ?_); simp only [Act.put, List.setIfInBounds_toArray, List.set_cons_succ, List.set_cons_zero]) | ((refine rd (by rfl) (ex_loadN (vs := p.d.cs) 59 18 rwD szD rfl rfl ((unhide LL).get 0 rfl) rfl rfl) ?_); simp only [Act.put, List.setIfInBounds_toArray, List.set_cons_succ, List.set_cons_zero]) | ((refine rd (by rfl) (ex_loadN (vs := q.d.cs) 59 18 rwD szD rfl rfl ((unhide LL).get 1 rfl) rfl rfl) ?_); simp only [Act.put, List.setIfInBounds_toArray, List.set_cons_succ, List.set_cons_zero]) | ((refine rd (by rfl) (ex_eqK2 p.k q.k rfl rfl rfl hkd) ?_); simp only [Act.put, List.setIfInBounds_toArray, List.set_cons_succ, List.set_cons_zero])))
    go_ret
    exact ⟨by simp, (unhide LL).fr.below⟩
  · go_wp2_with (first | go_skip | ((with_reducible show wpList _ _ _ _ _ _); first | ((refine bx 61 (p.cs) (by rfl) rfl rfl rfl (Nat.succ_pos _) (show Hq w _ [] [] from unhide LL) ?_); intro X1 B1 hE1 L1 hb1; have hB1 := hide (Nat.le_trans (unhide LL).fr.size (Nat.le_of_eq hE1.symm)); replace LL := hide L1; clear L1 hb1 hE1; simp only [Act.put, List.setIfInBounds_toArray, List.set_cons_succ, List.set_cons_zero]) | ((refine bx 61 (q.cs) (by rfl) rfl rfl rfl (Nat.succ_pos _) (unhide LL) ?_); intro X2 B2 hE2 L2 hb2; have hB2 := hide (Nat.le_trans (unhide LL).fr.size (Nat.le_of_eq hE2.symm)); replace LL := hide L2; clear L2 hb2 hE2; simp only [Act.put, List.setIfInBounds_toArray, List.set_cons_succ, List.set_cons_zero]) | ((refine rd (by rfl) (ex_loadN (vs := p.k.cs) 56 2 rwK szK rfl rfl ((unhide LL).get 0 rfl) rfl rfl) ?_); simp only [Act.put, List.setIfInBounds_toArray, List.set_cons_succ, List.set_cons_zero]) | ((refine rd (by rfl) (ex_loadN (vs := q.k.cs) 56 2 rwK szK rfl rfl ((unhide LL).get 1 rfl) rfl rfl) ?_); simp only [Act.put, List.setIfInBounds_toArray, List.set_cons_succ, List.set_cons_zero]) | ((refine rd (by rfl) (ex_loadN (vs := p.d.cs) 59 18 rwD szD rfl rfl ((unhide LL).get 0 rfl) rfl rfl) ?_); simp only [Act.put, List.setIfInBounds_toArray, List.set_cons_succ, List.set_cons_zero]) | ((refine rd (by rfl) (ex_loadN (vs := q.d.cs) 59 18 rwD szD rfl rfl ((unhide LL).get 1 rfl) rfl rfl) ?_); simp only [Act.put, List.setIfInBounds_toArray, List.set_cons_succ, List.set_cons_zero]) | ((refine rd (by rfl) (ex_eqK2 p.k q.k rfl rfl rfl hkd) ?_); simp only [Act.put, List.setIfInBounds_toArray, List.set_cons_succ, List.set_cons_zero])))
    refine (unhide HSD _ (tabs_below (unhide HT) (unhide LL).fr.below)).mono ?_
    rintro e X8 ⟨rfl, hb8⟩
    replace LL := hide ((unhide LL).on hb8)
    clear hb8
    go_wp2
    go_ret
    exact ⟨by simp, (unhide LL).fr.below⟩
set_option maxHeartbeats 4000000 in
set_option maxRecDepth 100000 in
theorem equalP (l m : List PR) (A B : Option Addr) (ca cb : Nat) (w : World) (hA : ReadsP w A l) (hB : ReadsP w B m) (hz : l.length ≤ 733007751850) (hT : Lib.Utf8Tabs 1 2 w) : Calls Tryz.prog 46 #[.slice A l.length ca, .slice B m.length cb, .func (.func 47) #[] #[]] w fun e w' => e = .returned (.bool (decide (l.length = m.length) && (List.range l.length).all (sameAt l m))) ∧ Below w.heap.size w w' := by
  have LL := hide (Hq.nil w [])
  have HA := hide hA
  have HB := hide hB
  have HZ := hide hz
  have HT := hide hT
  clear hA hB hz hT
  have HS : Hid ((decide (l.length = m.length) && (List.range l.length).all (sameAt l m)) = (decide (l.length = m.length) && (List.range l.length).all (sameAt l m))) := hide rfl
  skip
  go_enter Tryz.func46, Tryz.ntmps46
  by_cases hl : l.length = m.length
  · have HLN := hide hl
    have HLD : Hid (decide (l.length = m.length) = true) := hide (decide_eq_true hl)
    have hln : ((l.length : Int) != (m.length : Int)) = false := by simp; omega
    clear hl
    go_wp2_with (first | go_skip | ((with_reducible show wpList _ _ _ _ _ _); first | ((refine rd (by rfl) (ex_lenG 32 61 Tryz.underlying32 rfl rfl) ?_); simp only [Act.put, List.setIfInBounds_toArray, List.set_cons_succ, List.set_cons_zero]) | ((refine rd (by rfl) (ex_neI rfl rfl rfl hln) ?_); simp only [Act.put, List.setIfInBounds_toArray, List.set_cons_succ, List.set_cons_zero])))
    go_loopg [17] l.length (fun gm s17 wr => ∃ i : Nat, s17 = .int .i64 (i : Nat) ∧ i ≤ l.length ∧ l.length - i ≤ gm ∧ Hid (∀ j, j < i → sameAt l m j = true) ∧ Hid (Hq w wr [] []))
    case atStart => exact ⟨0, rfl, by omega, by omega, hide (fun j hj => absurd hj (Nat.not_lt_zero _)), LL⟩
    case round =>
      clear LL
      obtain ⟨i, rfl, hil, hgm, HAL, LL⟩ := hrel
      by_cases hlt : i < l.length
      · have dlt : decide ((i : Int) < (l.length : Int)) = true := decide_eq_true (by omega)
        have hw1 : IntKind.i64.wrap ((i : Int) + 1) = (i : Int) + 1 := by have := unhide HZ; rw [IntKind.wrap_i64]; omega
        have hlt2 : i < m.length := by have := unhide HLN; omega
        obtain ⟨p, hp⟩ : ∃ p, l[i]? = some p := ⟨_, List.getElem?_eq_getElem hlt⟩
        obtain ⟨q, hq⟩ : ∃ q, m[i]? = some q := ⟨_, List.getElem?_eq_getElem hlt2⟩
        obtain ⟨_, b, off, hAe, hb, hrg⟩ := (unhide HA) i p hp
        obtain ⟨_, b2, off2, hBe, hb2, hrg2⟩ := (unhide HB) i q hq
        have HA1 := hide hAe
        have HB1 := hide hBe
        have HA2 : Hid (∀ X, Fr w X [] → X.rangeAt b (off + i * 20) (p.cs)) := hide (fun X hX => rangeAt_fr hrg hb hX)
        have HB2 : Hid (∀ X, Fr w X [] → X.rangeAt b2 (off2 + i * 20) (q.cs)) := hide (fun X hX => rangeAt_fr hrg2 hb2 hX)
        have HC := hide (fun (X : World) (hX : Fr w X []) => sameProp_any p q X (tabs_below (unhide HT) hX.below))
        simp only [pagg] at HC
        have HAT : Hid (sameAt l m i = (decide (p.k = q.k) && eqDD p.d q.d)) := hide (by unfold sameAt; rw [hp, hq])
        have HLT := hide hlt
        have HLT2 := hide hlt2
        clear hil hlt hlt2 hp hq hAe hBe hb hrg hb2 hrg2
        go_wp2_with (first | go_skip | ((with_reducible show wpList _ _ _ _ _ _); first | ((refine rd (by rfl) (ex_lenG 32 61 Tryz.underlying32 rfl rfl) ?_); simp only [Act.put, List.setIfInBounds_toArray, List.set_cons_succ, List.set_cons_zero]) | ((refine rd (by rfl) (ex_indexA 32 20 i unPs idPs rfl rfl (unhide HA1) rfl (unhide HLT)) ?_); simp only [Act.put, List.setIfInBounds_toArray, List.set_cons_succ, List.set_cons_zero]) | ((refine rd (by rfl) (ex_indexA 32 20 i unPs idPs rfl rfl (unhide HB1) rfl (unhide HLT2)) ?_); simp only [Act.put, List.setIfInBounds_toArray, List.set_cons_succ, List.set_cons_zero]) | ((refine rd (by rfl) (ex_loadR (vs := p.cs) 61 20 rwP szP rfl rfl (unhide HA2 _ (unhide LL).fr) rfl) ?_); simp only [Act.put, List.setIfInBounds_toArray, List.set_cons_succ, List.set_cons_zero]) | ((refine rd (by rfl) (ex_loadR (vs := q.cs) 61 20 rwP szP rfl rfl (unhide HB2 _ (unhide LL).fr) rfl) ?_); simp only [Act.put, List.setIfInBounds_toArray, List.set_cons_succ, List.set_cons_zero]) | ((refine alG 61 (zeroP.cs) (by rfl) rfl (fun w => by kernel_rfl) (Nat.succ_pos _) (show Hq w _ [] [] from unhide LL) ?_); intro X6 B6 hE6 L6 hb6; have hB6 := hide (Nat.le_trans (unhide LL).fr.size (Nat.le_of_eq hE6.symm)); replace LL := hide L6; clear L6 hb6 hE6; simp only [Act.put, List.setIfInBounds_toArray, List.set_cons_succ, List.set_cons_zero]) | ((refine st (vs := p.cs) 0 61 (by rfl) rfl rfl rfl rfl (pcs_one p) (szP) (unhide LL) rfl (by simp [cput, PR.cs, SH.cs, VV.cs, KK.cs, DD.cs, CO.cs, DL.cs, zeroP, zeroS, zeroD, zeroV]) (Or.inr (unhide hB6)) ?_); intro X8 L8 hf8 hs8; replace LL := hide L8; clear L8 hf8 hs8; simp only [Act.put, List.setIfInBounds_toArray, List.set_cons_succ, List.set_cons_zero]) | ((refine alG 61 (zeroP.cs) (by rfl) rfl (fun w => by kernel_rfl) (Nat.succ_pos _) (unhide LL) ?_); intro X7 B7 hE7 L7 hb7; have hB7 := hide (Nat.le_trans (unhide LL).fr.size (Nat.le_of_eq hE7.symm)); replace LL := hide L7; clear L7 hb7 hE7; simp only [Act.put, List.setIfInBounds_toArray, List.set_cons_succ, List.set_cons_zero]) | ((refine st (vs := q.cs) 1 61 (by rfl) rfl rfl rfl rfl (pcs_one q) (szP) (unhide LL) rfl (by simp [cput, PR.cs, SH.cs, VV.cs, KK.cs, DD.cs, CO.cs, DL.cs, zeroP, zeroS, zeroD, zeroV]) (Or.inr (unhide hB7)) ?_); intro X9 L9 hf9 hs9; replace LL := hide L9; clear L9 hf9 hs9; simp only [Act.put, List.setIfInBounds_toArray, List.set_cons_succ, List.set_cons_zero]) | ((refine rd (by rfl) (ex_loadN (vs := p.cs) 61 20 rwP szP rfl rfl ((unhide LL).get 0 rfl) rfl rfl) ?_); simp only [Act.put, List.setIfInBounds_toArray, List.set_cons_succ, List.set_cons_zero]) | ((refine rd (by rfl) (ex_loadN (vs := q.cs) 61 20 rwP szP rfl rfl ((unhide LL).get 1 rfl) rfl rfl) ?_); simp only [Act.put, List.setIfInBounds_toArray, List.set_cons_succ, List.set_cons_zero])))
        refine (unhide HC _ (unhide LL).fr).mono ?_
        rintro e Z8 ⟨rfl, hZ8⟩
        replace LL := hide ((unhide LL).on hZ8)
        clear hZ8
        cases hel : (decide (p.k = q.k) && eqDD p.d q.d)
        · have HNO : Hid ((List.range l.length).all (sameAt l m) = false) := hide (all_no (unhide HLT) (by rw [unhide HAT, hel]))
          clear hel
          go_wp2_with (first | go_skip | ((with_reducible show wpList _ _ _ _ _ _); first | ((refine rd (by rfl) (ex_lenG 32 61 Tryz.underlying32 rfl rfl) ?_); simp only [Act.put, List.setIfInBounds_toArray, List.set_cons_succ, List.set_cons_zero]) | ((refine rd (by rfl) (ex_indexA 32 20 i unPs idPs rfl rfl (unhide HA1) rfl (unhide HLT)) ?_); simp only [Act.put, List.setIfInBounds_toArray, List.set_cons_succ, List.set_cons_zero]) | ((refine rd (by rfl) (ex_indexA 32 20 i unPs idPs rfl rfl (unhide HB1) rfl (unhide HLT2)) ?_); simp only [Act.put, List.setIfInBounds_toArray, List.set_cons_succ, List.set_cons_zero]) | ((refine rd (by rfl) (ex_loadR (vs := p.cs) 61 20 rwP szP rfl rfl (unhide HA2 _ (unhide LL).fr) rfl) ?_); simp only [Act.put, List.setIfInBounds_toArray, List.set_cons_succ, List.set_cons_zero]) | ((refine rd (by rfl) (ex_loadR (vs := q.cs) 61 20 rwP szP rfl rfl (unhide HB2 _ (unhide LL).fr) rfl) ?_); simp only [Act.put, List.setIfInBounds_toArray, List.set_cons_succ, List.set_cons_zero]) | ((refine alG 61 (zeroP.cs) (by rfl) rfl (fun w => by kernel_rfl) (Nat.succ_pos _) (show Hq w _ [] [] from unhide LL) ?_); intro X6 B6 hE6 L6 hb6; have hB6 := hide (Nat.le_trans (unhide LL).fr.size (Nat.le_of_eq hE6.symm)); replace LL := hide L6; clear L6 hb6 hE6; simp only [Act.put, List.setIfInBounds_toArray, List.set_cons_succ, List.set_cons_zero]) | ((refine st (vs := p.cs) 0 61 (by rfl) rfl rfl rfl rfl (pcs_one p) (szP) (unhide LL) rfl (by simp [cput, PR.cs, SH.cs, VV.cs, KK.cs, DD.cs, CO.cs, DL.cs, zeroP, zeroS, zeroD, zeroV]) (Or.inr (unhide hB6)) ?_); intro X8 L8 hf8 hs8; replace LL := hide L8; clear L8 hf8 hs8; simp only [Act.put, List.setIfInBounds_toArray, List.set_cons_succ, List.set_cons_zero]) | ((refine alG 61 (zeroP.cs) (by rfl) rfl (fun w => by kernel_rfl) (Nat.succ_pos _) (unhide LL) ?_); intro X7 B7 hE7 L7 hb7; have hB7 := hide (Nat.le_trans (unhide LL).fr.size (Nat.le_of_eq hE7.symm)); replace LL := hide L7; clear L7 hb7 hE7; simp only [Act.put, List.setIfInBounds_toArray, List.set_cons_succ, List.set_cons_zero]) | ((refine st (vs := q.cs) 1 61 (by rfl) rfl rfl rfl rfl (pcs_one q) (szP) (unhide LL) rfl (by simp [cput, PR.cs, SH.cs, VV.cs, KK.cs, DD.cs, CO.cs, DL.cs, zeroP, zeroS, zeroD, zeroV]) (Or.inr (unhide hB7)) ?_); intro X9 L9 hf9 hs9; replace LL := hide L9; clear L9 hf9 hs9; simp only [Act.put, List.setIfInBounds_toArray, List.set_cons_succ, List.set_cons_zero]) | ((refine rd (by rfl) (ex_loadN (vs := p.cs) 61 20 rwP szP rfl rfl ((unhide LL).get 0 rfl) rfl rfl) ?_); simp only [Act.put, List.setIfInBounds_toArray, List.set_cons_succ, List.set_cons_zero]) | ((refine rd (by rfl) (ex_loadN (vs := q.cs) 61 20 rwP szP rfl rfl ((unhide LL).get 1 rfl) rfl rfl) ?_); simp only [Act.put, List.setIfInBounds_toArray, List.set_cons_succ, List.set_cons_zero])))
          go_ret
          exact ⟨by rw [unhide HLD, unhide HNO]; rfl, (unhide LL).fr.below⟩
        · have HYE := hide (upto_step (unhide HAL) (by rw [unhide HAT, hel]))
          clear hel
          go_wp2_with (first | go_skip | ((with_reducible show wpList _ _ _ _ _ _); first | ((refine rd (by rfl) (ex_lenG 32 61 Tryz.underlying32 rfl rfl) ?_); simp only [Act.put, List.setIfInBounds_toArray, List.set_cons_succ, List.set_cons_zero]) | ((refine rd (by rfl) (ex_indexA 32 20 i unPs idPs rfl rfl (unhide HA1) rfl (unhide HLT)) ?_); simp only [Act.put, List.setIfInBounds_toArray, List.set_cons_succ, List.set_cons_zero]) | ((refine rd (by rfl) (ex_indexA 32 20 i unPs idPs rfl rfl (unhide HB1) rfl (unhide HLT2)) ?_); simp only [Act.put, List.setIfInBounds_toArray, List.set_cons_succ, List.set_cons_zero]) | ((refine rd (by rfl) (ex_loadR (vs := p.cs) 61 20 rwP szP rfl rfl (unhide HA2 _ (unhide LL).fr) rfl) ?_); simp only [Act.put, List.setIfInBounds_toArray, List.set_cons_succ, List.set_cons_zero]) | ((refine rd (by rfl) (ex_loadR (vs := q.cs) 61 20 rwP szP rfl rfl (unhide HB2 _ (unhide LL).fr) rfl) ?_); simp only [Act.put, List.setIfInBounds_toArray, List.set_cons_succ, List.set_cons_zero]) | ((refine alG 61 (zeroP.cs) (by rfl) rfl (fun w => by kernel_rfl) (Nat.succ_pos _) (show Hq w _ [] [] from unhide LL) ?_); intro X6 B6 hE6 L6 hb6; have hB6 := hide (Nat.le_trans (unhide LL).fr.size (Nat.le_of_eq hE6.symm)); replace LL := hide L6; clear L6 hb6 hE6; simp only [Act.put, List.setIfInBounds_toArray, List.set_cons_succ, List.set_cons_zero]) | ((refine st (vs := p.cs) 0 61 (by rfl) rfl rfl rfl rfl (pcs_one p) (szP) (unhide LL) rfl (by simp [cput, PR.cs, SH.cs, VV.cs, KK.cs, DD.cs, CO.cs, DL.cs, zeroP, zeroS, zeroD, zeroV]) (Or.inr (unhide hB6)) ?_); intro X8 L8 hf8 hs8; replace LL := hide L8; clear L8 hf8 hs8; simp only [Act.put, List.setIfInBounds_toArray, List.set_cons_succ, List.set_cons_zero]) | ((refine alG 61 (zeroP.cs) (by rfl) rfl (fun w => by kernel_rfl) (Nat.succ_pos _) (unhide LL) ?_); intro X7 B7 hE7 L7 hb7; have hB7 := hide (Nat.le_trans (unhide LL).fr.size (Nat.le_of_eq hE7.symm)); replace LL := hide L7; clear L7 hb7 hE7; simp only [Act.put, List.setIfInBounds_toArray, List.set_cons_succ, List.set_cons_zero]) | ((refine st (vs := q.cs) 1 61 (by rfl) rfl rfl rfl rfl (pcs_one q) (szP) (unhide LL) rfl (by simp [cput, PR.cs, SH.cs, VV.cs, KK.cs, DD.cs, CO.cs, DL.cs, zeroP, zeroS, zeroD, zeroV]) (Or.inr (unhide hB7)) ?_); intro X9 L9 hf9 hs9; replace LL := hide L9; clear L9 hf9 hs9; simp only [Act.put, List.setIfInBounds_toArray, List.set_cons_succ, List.set_cons_zero]) | ((refine rd (by rfl) (ex_loadN (vs := p.cs) 61 20 rwP szP rfl rfl ((unhide LL).get 0 rfl) rfl rfl) ?_); simp only [Act.put, List.setIfInBounds_toArray, List.set_cons_succ, List.set_cons_zero]) | ((refine rd (by rfl) (ex_loadN (vs := q.cs) 61 20 rwP szP rfl rfl ((unhide LL).get 1 rfl) rfl rfl) ?_); simp only [Act.put, List.setIfInBounds_toArray, List.set_cons_succ, List.set_cons_zero])))
          replace LL := hide (Hq.left (L := []) (unhide LL))
          go_roundg (l.length - (i + 1))
          case measure => have := unhide HLT; omega
          case rel => exact ⟨i + 1, by go_num, by have := unhide HLT; omega, by omega, HYE, LL⟩
      · obtain rfl : i = l.length := by omega
        clear hlt hil
        have HYS : Hid ((List.range l.length).all (sameAt l m) = true) := hide (all_yes (unhide HAL))
        go_wp2_with (first | go_skip | ((with_reducible show wpList _ _ _ _ _ _); first | ((refine rd (by rfl) (ex_lenG 32 61 Tryz.underlying32 rfl rfl) ?_); simp only [Act.put, List.setIfInBounds_toArray, List.set_cons_succ, List.set_cons_zero])))
        go_ret
        exact ⟨by rw [unhide HLD, unhide HYS]; rfl, (unhide LL).fr.below⟩
  · have HLD : Hid (decide (l.length = m.length) = false) := hide (decide_eq_false hl)
    have hln : ((l.length : Int) != (m.length : Int)) = true := by simp; omega
    clear hl
    go_wp2_with (first | go_skip | ((with_reducible show wpList _ _ _ _ _ _); first | ((refine rd (by rfl) (ex_lenG 32 61 Tryz.underlying32 rfl rfl) ?_); simp only [Act.put, List.setIfInBounds_toArray, List.set_cons_succ, List.set_cons_zero]) | ((refine rd (by rfl) (ex_neI rfl rfl rfl hln) ?_); simp only [Act.put, List.setIfInBounds_toArray, List.set_cons_succ, List.set_cons_zero])))
    go_ret
    exact ⟨by rw [unhide HLD]; rfl, (unhide LL).fr.below⟩
set_option maxHeartbeats 4000000 in
set_option maxRecDepth 100000 in
theorem sameShape_any (s t : SH) (SA SB : Option Addr) (sa sb : Nat) (w : World) (hA : ReadsP w SA s.ps) (hB : ReadsP w SB t.ps) (hz : s.ps.length ≤ 733007751850) (hT : Lib.Utf8Tabs 1 2 w) : Calls Tryz.prog 23 #[s.agg SA sa, t.agg SB sb] w fun e w' => e = .returned (.bool (sameS s t)) ∧ Below w.heap.size w w' := by
  have LL := hide (Hq.nil w [])
  have HEP := hide (fun (X : World) (hX : Fr w X []) => equalP s.ps t.ps SA SB sa sb X (hA.fr hX) (hB.fr hX) hz (tabs_below hT hX.below))
  have HSV := hide (fun (X : World) (hX : Fr w X []) => sameValue_any s.p t.p X (tabs_below hT hX.below))
  simp only [vagg] at HSV
  clear hA hB hz hT
  have HS : Hid (sameS s t = ((s.c == t.c) && (eqB s.p t.p && ((s.x == t.x) && (decide (s.ps.length = t.ps.length) && (List.range s.ps.length).all (sameAt s.ps t.ps)))))) := hide (by unfold sameS samePs; simp [bne])
  generalize sameS s t = r at *
  unfold SH.agg
  have H6 : Hid ((s.cs SA sa)[6]? = some (.bool s.x)) := hide rfl
  have H6b : Hid ((t.cs SB sb)[6]? = some (.bool t.x)) := hide rfl
  generalize s.x = sx at *
  generalize t.x = tx at *
  go_enter Tryz.func23, Tryz.ntmps23
  cases hc : (s.c == t.c)
  · have HC := hide hc
    go_wp2_with (first | go_skip | ((with_reducible show wpList _ _ _ _ _ _); first | ((refine bx 34 (s.cs SA sa) (by rfl) rfl rfl rfl (Nat.succ_pos _) (show Hq w _ [] [] from unhide LL) ?_); intro X1 B1 hE1 L1 hb1; replace LL := hide L1; clear L1 hb1 hE1; simp only [Act.put, List.setIfInBounds_toArray, List.set_cons_succ, List.set_cons_zero]) | ((refine bx 34 (t.cs SB sb) (by rfl) rfl rfl rfl (Nat.succ_pos _) (unhide LL) ?_); intro X2 B2 hE2 L2 hb2; replace LL := hide L2; clear L2 hb2 hE2; simp only [Act.put, List.setIfInBounds_toArray, List.set_cons_succ, List.set_cons_zero]) | ((refine rd (by rfl) (ex_load1 3 Tryz.isAgg3 rfl rfl ((unhide LL).get 0 rfl) rfl) ?_); simp only [Act.put, List.setIfInBounds_toArray, List.set_cons_succ, List.set_cons_zero]) | ((refine rd (by rfl) (ex_load1 3 Tryz.isAgg3 rfl rfl ((unhide LL).get 1 rfl) rfl) ?_); simp only [Act.put, List.setIfInBounds_toArray, List.set_cons_succ, List.set_cons_zero]) | ((refine rd (by rfl) (ex_loadN (vs := s.p.cs) 31 5 rwV szV rfl rfl ((unhide LL).get 0 rfl) rfl rfl) ?_); simp only [Act.put, List.setIfInBounds_toArray, List.set_cons_succ, List.set_cons_zero]) | ((refine rd (by rfl) (ex_loadN (vs := t.p.cs) 31 5 rwV szV rfl rfl ((unhide LL).get 1 rfl) rfl rfl) ?_); simp only [Act.put, List.setIfInBounds_toArray, List.set_cons_succ, List.set_cons_zero]) | ((refine rd (by rfl) (ex_load1 4 Tryz.isAgg4 rfl rfl ((unhide LL).get 0 rfl) (unhide H6)) ?_); simp only [Act.put, List.setIfInBounds_toArray, List.set_cons_succ, List.set_cons_zero]) | ((refine rd (by rfl) (ex_load1 4 Tryz.isAgg4 rfl rfl ((unhide LL).get 1 rfl) (unhide H6b)) ?_); simp only [Act.put, List.setIfInBounds_toArray, List.set_cons_succ, List.set_cons_zero]) | ((refine rd (by rfl) (ex_load1 32 Tryz.isAgg32 rfl rfl ((unhide LL).get 0 rfl) rfl) ?_); simp only [Act.put, List.setIfInBounds_toArray, List.set_cons_succ, List.set_cons_zero]) | ((refine rd (by rfl) (ex_load1 32 Tryz.isAgg32 rfl rfl ((unhide LL).get 1 rfl) rfl) ?_); simp only [Act.put, List.setIfInBounds_toArray, List.set_cons_succ, List.set_cons_zero]) | ((refine rd (by rfl) (ex_eqI2 rfl rfl rfl hc) ?_); simp only [Act.put, List.setIfInBounds_toArray, List.set_cons_succ, List.set_cons_zero]) | ((refine rd (by rfl) (ex_eqB2 rfl rfl rfl hx) ?_); simp only [Act.put, List.setIfInBounds_toArray, List.set_cons_succ, List.set_cons_zero])))
    go_ret
    exact ⟨by rw [unhide HS, unhide HC]; rfl, (unhide LL).fr.below⟩
  · have HC := hide hc
    go_wp2_with (first | go_skip | ((with_reducible show wpList _ _ _ _ _ _); first | ((refine bx 34 (s.cs SA sa) (by rfl) rfl rfl rfl (Nat.succ_pos _) (show Hq w _ [] [] from unhide LL) ?_); intro X1 B1 hE1 L1 hb1; replace LL := hide L1; clear L1 hb1 hE1; simp only [Act.put, List.setIfInBounds_toArray, List.set_cons_succ, List.set_cons_zero]) | ((refine bx 34 (t.cs SB sb) (by rfl) rfl rfl rfl (Nat.succ_pos _) (unhide LL) ?_); intro X2 B2 hE2 L2 hb2; replace LL := hide L2; clear L2 hb2 hE2; simp only [Act.put, List.setIfInBounds_toArray, List.set_cons_succ, List.set_cons_zero]) | ((refine rd (by rfl) (ex_load1 3 Tryz.isAgg3 rfl rfl ((unhide LL).get 0 rfl) rfl) ?_); simp only [Act.put, List.setIfInBounds_toArray, List.set_cons_succ, List.set_cons_zero]) | ((refine rd (by rfl) (ex_load1 3 Tryz.isAgg3 rfl rfl ((unhide LL).get 1 rfl) rfl) ?_); simp only [Act.put, List.setIfInBounds_toArray, List.set_cons_succ, List.set_cons_zero]) | ((refine rd (by rfl) (ex_loadN (vs := s.p.cs) 31 5 rwV szV rfl rfl ((unhide LL).get 0 rfl) rfl rfl) ?_); simp only [Act.put, List.setIfInBounds_toArray, List.set_cons_succ, List.set_cons_zero]) | ((refine rd (by rfl) (ex_loadN (vs := t.p.cs) 31 5 rwV szV rfl rfl ((unhide LL).get 1 rfl) rfl rfl) ?_); simp only [Act.put, List.setIfInBounds_toArray, List.set_cons_succ, List.set_cons_zero]) | ((refine rd (by rfl) (ex_load1 4 Tryz.isAgg4 rfl rfl ((unhide LL).get 0 rfl) (unhide H6)) ?_); simp only [Act.put, List.setIfInBounds_toArray, List.set_cons_succ, List.set_cons_zero]) | ((refine rd (by rfl) (ex_load1 4 Tryz.isAgg4 rfl rfl ((unhide LL).get 1 rfl) (unhide H6b)) ?_); simp only [Act.put, List.setIfInBounds_toArray, List.set_cons_succ, List.set_cons_zero]) | ((refine rd (by rfl) (ex_load1 32 Tryz.isAgg32 rfl rfl ((unhide LL).get 0 rfl) rfl) ?_); simp only [Act.put, List.setIfInBounds_toArray, List.set_cons_succ, List.set_cons_zero]) | ((refine rd (by rfl) (ex_load1 32 Tryz.isAgg32 rfl rfl ((unhide LL).get 1 rfl) rfl) ?_); simp only [Act.put, List.setIfInBounds_toArray, List.set_cons_succ, List.set_cons_zero]) | ((refine rd (by rfl) (ex_eqI2 rfl rfl rfl hc) ?_); simp only [Act.put, List.setIfInBounds_toArray, List.set_cons_succ, List.set_cons_zero]) | ((refine rd (by rfl) (ex_eqB2 rfl rfl rfl hx) ?_); simp only [Act.put, List.setIfInBounds_toArray, List.set_cons_succ, List.set_cons_zero])))
    refine (unhide HSV _ (unhide LL).fr).mono ?_
    rintro e X8 ⟨rfl, hb8⟩
    replace LL := hide ((unhide LL).on hb8)
    clear hb8
    cases hp : eqB s.p t.p
    · have HP := hide hp
      clear hp
      go_wp2_with (first | go_skip | ((with_reducible show wpList _ _ _ _ _ _); first | ((refine bx 34 (s.cs SA sa) (by rfl) rfl rfl rfl (Nat.succ_pos _) (show Hq w _ [] [] from unhide LL) ?_); intro X1 B1 hE1 L1 hb1; replace LL := hide L1; clear L1 hb1 hE1; simp only [Act.put, List.setIfInBounds_toArray, List.set_cons_succ, List.set_cons_zero]) | ((refine bx 34 (t.cs SB sb) (by rfl) rfl rfl rfl (Nat.succ_pos _) (unhide LL) ?_); intro X2 B2 hE2 L2 hb2; replace LL := hide L2; clear L2 hb2 hE2; simp only [Act.put, List.setIfInBounds_toArray, List.set_cons_succ, List.set_cons_zero]) | ((refine rd (by rfl) (ex_load1 3 Tryz.isAgg3 rfl rfl ((unhide LL).get 0 rfl) rfl) ?_); simp only [Act.put, List.setIfInBounds_toArray, List.set_cons_succ, List.set_cons_zero]) | ((refine rd (by rfl) (ex_load1 3 Tryz.isAgg3 rfl rfl ((unhide LL).get 1 rfl) rfl) ?_); simp only [Act.put, List.setIfInBounds_toArray, List.set_cons_succ, List.set_cons_zero]) | ((refine rd (by rfl) (ex_loadN (vs := s.p.cs) 31 5 rwV szV rfl rfl ((unhide LL).get 0 rfl) rfl rfl) ?_); simp only [Act.put, List.setIfInBounds_toArray, List.set_cons_succ, List.set_cons_zero]) | ((refine rd (by rfl) (ex_loadN (vs := t.p.cs) 31 5 rwV szV rfl rfl ((unhide LL).get 1 rfl) rfl rfl) ?_); simp only [Act.put, List.setIfInBounds_toArray, List.set_cons_succ, List.set_cons_zero]) | ((refine rd (by rfl) (ex_load1 4 Tryz.isAgg4 rfl rfl ((unhide LL).get 0 rfl) (unhide H6)) ?_); simp only [Act.put, List.setIfInBounds_toArray, List.set_cons_succ, List.set_cons_zero]) | ((refine rd (by rfl) (ex_load1 4 Tryz.isAgg4 rfl rfl ((unhide LL).get 1 rfl) (unhide H6b)) ?_); simp only [Act.put, List.setIfInBounds_toArray, List.set_cons_succ, List.set_cons_zero]) | ((refine rd (by rfl) (ex_load1 32 Tryz.isAgg32 rfl rfl ((unhide LL).get 0 rfl) rfl) ?_); simp only [Act.put, List.setIfInBounds_toArray, List.set_cons_succ, List.set_cons_zero]) | ((refine rd (by rfl) (ex_load1 32 Tryz.isAgg32 rfl rfl ((unhide LL).get 1 rfl) rfl) ?_); simp only [Act.put, List.setIfInBounds_toArray, List.set_cons_succ, List.set_cons_zero]) | ((refine rd (by rfl) (ex_eqI2 rfl rfl rfl hc) ?_); simp only [Act.put, List.setIfInBounds_toArray, List.set_cons_succ, List.set_cons_zero]) | ((refine rd (by rfl) (ex_eqB2 rfl rfl rfl hx) ?_); simp only [Act.put, List.setIfInBounds_toArray, List.set_cons_succ, List.set_cons_zero])))
      go_ret
      exact ⟨by rw [unhide HS, unhide HC, unhide HP]; rfl, (unhide LL).fr.below⟩
    · have HP := hide hp
      clear hp
      cases hx : (sx == tx)
      · have HX := hide hx
        go_wp2_with (first | go_skip | ((with_reducible show wpList _ _ _ _ _ _); first | ((refine bx 34 (s.cs SA sa) (by rfl) rfl rfl rfl (Nat.succ_pos _) (show Hq w _ [] [] from unhide LL) ?_); intro X1 B1 hE1 L1 hb1; replace LL := hide L1; clear L1 hb1 hE1; simp only [Act.put, List.setIfInBounds_toArray, List.set_cons_succ, List.set_cons_zero]) | ((refine bx 34 (t.cs SB sb) (by rfl) rfl rfl rfl (Nat.succ_pos _) (unhide LL) ?_); intro X2 B2 hE2 L2 hb2; replace LL := hide L2; clear L2 hb2 hE2; simp only [Act.put, List.setIfInBounds_toArray, List.set_cons_succ, List.set_cons_zero]) | ((refine rd (by rfl) (ex_load1 3 Tryz.isAgg3 rfl rfl ((unhide LL).get 0 rfl) rfl) ?_); simp only [Act.put, List.setIfInBounds_toArray, List.set_cons_succ, List.set_cons_zero]) | ((refine rd (by rfl) (ex_load1 3 Tryz.isAgg3 rfl rfl ((unhide LL).get 1 rfl) rfl) ?_); simp only [Act.put, List.setIfInBounds_toArray, List.set_cons_succ, List.set_cons_zero]) | ((refine rd (by rfl) (ex_loadN (vs := s.p.cs) 31 5 rwV szV rfl rfl ((unhide LL).get 0 rfl) rfl rfl) ?_); simp only [Act.put, List.setIfInBounds_toArray, List.set_cons_succ, List.set_cons_zero]) | ((refine rd (by rfl) (ex_loadN (vs := t.p.cs) 31 5 rwV szV rfl rfl ((unhide LL).get 1 rfl) rfl rfl) ?_); simp only [Act.put, List.setIfInBounds_toArray, List.set_cons_succ, List.set_cons_zero]) | ((refine rd (by rfl) (ex_load1 4 Tryz.isAgg4 rfl rfl ((unhide LL).get 0 rfl) (unhide H6)) ?_); simp only [Act.put, List.setIfInBounds_toArray, List.set_cons_succ, List.set_cons_zero]) | ((refine rd (by rfl) (ex_load1 4 Tryz.isAgg4 rfl rfl ((unhide LL).get 1 rfl) (unhide H6b)) ?_); simp only [Act.put, List.setIfInBounds_toArray, List.set_cons_succ, List.set_cons_zero]) | ((refine rd (by rfl) (ex_load1 32 Tryz.isAgg32 rfl rfl ((unhide LL).get 0 rfl) rfl) ?_); simp only [Act.put, List.setIfInBounds_toArray, List.set_cons_succ, List.set_cons_zero]) | ((refine rd (by rfl) (ex_load1 32 Tryz.isAgg32 rfl rfl ((unhide LL).get 1 rfl) rfl) ?_); simp only [Act.put, List.setIfInBounds_toArray, List.set_cons_succ, List.set_cons_zero]) | ((refine rd (by rfl) (ex_eqI2 rfl rfl rfl hc) ?_); simp only [Act.put, List.setIfInBounds_toArray, List.set_cons_succ, List.set_cons_zero]) | ((refine rd (by rfl) (ex_eqB2 rfl rfl rfl hx) ?_); simp only [Act.put, List.setIfInBounds_toArray, List.set_cons_succ, List.set_cons_zero])))
        go_ret
        exact ⟨by rw [unhide HS, unhide HC, unhide HP, unhide HX]; rfl, (unhide LL).fr.below⟩
      · have HX := hide hx
        go_wp2_with (first | go_skip | ((with_reducible show wpList _ _ _ _ _ _); first | ((refine bx 34 (s.cs SA sa) (by rfl) rfl rfl rfl (Nat.succ_pos _) (show Hq w _ [] [] from unhide LL) ?_); intro X1 B1 hE1 L1 hb1; replace LL := hide L1; clear L1 hb1 hE1; simp only [Act.put, List.setIfInBounds_toArray, List.set_cons_succ, List.set_cons_zero]) | ((refine bx 34 (t.cs SB sb) (by rfl) rfl rfl rfl (Nat.succ_pos _) (unhide LL) ?_); intro X2 B2 hE2 L2 hb2; replace LL := hide L2; clear L2 hb2 hE2; simp only [Act.put, List.setIfInBounds_toArray, List.set_cons_succ, List.set_cons_zero]) | ((refine rd (by rfl) (ex_load1 3 Tryz.isAgg3 rfl rfl ((unhide LL).get 0 rfl) rfl) ?_); simp only [Act.put, List.setIfInBounds_toArray, List.set_cons_succ, List.set_cons_zero]) | ((refine rd (by rfl) (ex_load1 3 Tryz.isAgg3 rfl rfl ((unhide LL).get 1 rfl) rfl) ?_); simp only [Act.put, List.setIfInBounds_toArray, List.set_cons_succ, List.set_cons_zero]) | ((refine rd (by rfl) (ex_loadN (vs := s.p.cs) 31 5 rwV szV rfl rfl ((unhide LL).get 0 rfl) rfl rfl) ?_); simp only [Act.put, List.setIfInBounds_toArray, List.set_cons_succ, List.set_cons_zero]) | ((refine rd (by rfl) (ex_loadN (vs := t.p.cs) 31 5 rwV szV rfl rfl ((unhide LL).get 1 rfl) rfl rfl) ?_); simp only [Act.put, List.setIfInBounds_toArray, List.set_cons_succ, List.set_cons_zero]) | ((refine rd (by rfl) (ex_load1 4 Tryz.isAgg4 rfl rfl ((unhide LL).get 0 rfl) (unhide H6)) ?_); simp only [Act.put, List.setIfInBounds_toArray, List.set_cons_succ, List.set_cons_zero]) | ((refine rd (by rfl) (ex_load1 4 Tryz.isAgg4 rfl rfl ((unhide LL).get 1 rfl) (unhide H6b)) ?_); simp only [Act.put, List.setIfInBounds_toArray, List.set_cons_succ, List.set_cons_zero]) | ((refine rd (by rfl) (ex_load1 32 Tryz.isAgg32 rfl rfl ((unhide LL).get 0 rfl) rfl) ?_); simp only [Act.put, List.setIfInBounds_toArray, List.set_cons_succ, List.set_cons_zero]) | ((refine rd (by rfl) (ex_load1 32 Tryz.isAgg32 rfl rfl ((unhide LL).get 1 rfl) rfl) ?_); simp only [Act.put, List.setIfInBounds_toArray, List.set_cons_succ, List.set_cons_zero]) | ((refine rd (by rfl) (ex_eqI2 rfl rfl rfl hc) ?_); simp only [Act.put, List.setIfInBounds_toArray, List.set_cons_succ, List.set_cons_zero]) | ((refine rd (by rfl) (ex_eqB2 rfl rfl rfl hx) ?_); simp only [Act.put, List.setIfInBounds_toArray, List.set_cons_succ, List.set_cons_zero])))
        refine (unhide HEP _ (unhide LL).fr).mono ?_
        rintro e X9 ⟨rfl, hb9⟩
        replace LL := hide ((unhide LL).on hb9)
        clear hb9
        go_wp2
        go_ret
        exact ⟨by rw [unhide HS, unhide HC, unhide HP, unhide HX]; rfl, (unhide LL).fr.below⟩
set_option maxHeartbeats 4000000 in
set_option maxRecDepth 100000 in
theorem equalS (l m : List SH) (A B : Option Addr) (ca cb : Nat) (w : World) (hA : ReadsS w A l) (hB : ReadsS w B m) (hz : l.length ≤ 733007751850) (hT : Lib.Utf8Tabs 1 2 w) : Calls Tryz.prog 22 #[.slice A l.length ca, .slice B m.length cb, .func (.func 23) #[] #[]] w fun e w' => e = .returned (.bool (decide (l.length = m.length) && (List.range l.length).all (sameLAt l m))) ∧ Below w.heap.size w w' := by
  have LL := hide (Hq.nil w [])
  have HA := hide hA
  have HB := hide hB
  have HZ := hide hz
  have HT := hide hT
  clear hA hB hz hT
  have HS : Hid ((decide (l.length = m.length) && (List.range l.length).all (sameLAt l m)) = (decide (l.length = m.length) && (List.range l.length).all (sameLAt l m))) := hide rfl
  skip
  go_enter Tryz.func22, Tryz.ntmps22
  by_cases hl : l.length = m.length
  · have HLN := hide hl
    have HLD : Hid (decide (l.length = m.length) = true) := hide (decide_eq_true hl)
    have hln : ((l.length : Int) != (m.length : Int)) = false := by simp; omega
    clear hl
    go_wp2_with (first | go_skip | ((with_reducible show wpList _ _ _ _ _ _); first | ((refine rd (by rfl) (ex_lenG 22 34 Tryz.underlying22 rfl rfl) ?_); simp only [Act.put, List.setIfInBounds_toArray, List.set_cons_succ, List.set_cons_zero]) | ((refine rd (by rfl) (ex_neI rfl rfl rfl hln) ?_); simp only [Act.put, List.setIfInBounds_toArray, List.set_cons_succ, List.set_cons_zero])))
    go_loopg [17] l.length (fun gm s17 wr => ∃ i : Nat, s17 = .int .i64 (i : Nat) ∧ i ≤ l.length ∧ l.length - i ≤ gm ∧ Hid (∀ j, j < i → sameLAt l m j = true) ∧ Hid (Hq w wr [] []))
    case atStart => exact ⟨0, rfl, by omega, by omega, hide (fun j hj => absurd hj (Nat.not_lt_zero _)), LL⟩
    case round =>
      clear LL
      obtain ⟨i, rfl, hil, hgm, HAL, LL⟩ := hrel
      by_cases hlt : i < l.length
      · have dlt : decide ((i : Int) < (l.length : Int)) = true := decide_eq_true (by omega)
        have hw1 : IntKind.i64.wrap ((i : Int) + 1) = (i : Int) + 1 := by have := unhide HZ; rw [IntKind.wrap_i64]; omega
        have hlt2 : i < m.length := by have := unhide HLN; omega
        obtain ⟨p, hp⟩ : ∃ p, l[i]? = some p := ⟨_, List.getElem?_eq_getElem hlt⟩
        obtain ⟨q, hq⟩ : ∃ q, m[i]? = some q := ⟨_, List.getElem?_eq_getElem hlt2⟩
        obtain ⟨_, hsl, b, off, SA, sa, hAe, hb, hrp, hrg⟩ := (unhide HA) i p hp
        obtain ⟨_, _, b2, off2, SB, sb, hBe, hb2, hrp2, hrg2⟩ := (unhide HB) i q hq
        have HA1 := hide hAe
        have HB1 := hide hBe
        have HA2 : Hid (∀ X, Fr w X [] → X.rangeAt b (off + i * 8) (p.cs SA sa)) := hide (fun X hX => rangeAt_fr hrg hb hX)
        have HB2 : Hid (∀ X, Fr w X [] → X.rangeAt b2 (off2 + i * 8) (q.cs SB sb)) := hide (fun X hX => rangeAt_fr hrg2 hb2 hX)
        have HC := hide (fun (X : World) (hX : Fr w X []) => sameShape_any p q SA SB sa sb X (hrp.fr hX) (hrp2.fr hX) hsl (tabs_below (unhide HT) hX.below))
        simp only [sagg] at HC
        clear hrp hrp2 hsl
        have HAT : Hid (sameLAt l m i = (sameS p q)) := hide (by unfold sameLAt; rw [hp, hq])
        have HLT := hide hlt
        have HLT2 := hide hlt2
        clear hil hlt hlt2 hp hq hAe hBe hb hrg hb2 hrg2
        go_wp2_with (first | go_skip | ((with_reducible show wpList _ _ _ _ _ _); first | ((refine rd (by rfl) (ex_lenG 22 34 Tryz.underlying22 rfl rfl) ?_); simp only [Act.put, List.setIfInBounds_toArray, List.set_cons_succ, List.set_cons_zero]) | ((refine rd (by rfl) (ex_indexA 22 8 i unSs idSs rfl rfl (unhide HA1) rfl (unhide HLT)) ?_); simp only [Act.put, List.setIfInBounds_toArray, List.set_cons_succ, List.set_cons_zero]) | ((refine rd (by rfl) (ex_indexA 22 8 i unSs idSs rfl rfl (unhide HB1) rfl (unhide HLT2)) ?_); simp only [Act.put, List.setIfInBounds_toArray, List.set_cons_succ, List.set_cons_zero]) | ((refine rd (by rfl) (ex_loadR (vs := p.cs SA sa) 34 8 rwS szS rfl rfl (unhide HA2 _ (unhide LL).fr) rfl) ?_); simp only [Act.put, List.setIfInBounds_toArray, List.set_cons_succ, List.set_cons_zero]) | ((refine rd (by rfl) (ex_loadR (vs := q.cs SB sb) 34 8 rwS szS rfl rfl (unhide HB2 _ (unhide LL).fr) rfl) ?_); simp only [Act.put, List.setIfInBounds_toArray, List.set_cons_succ, List.set_cons_zero]) | ((refine alG 34 (zeroS.cs none 0) (by rfl) rfl (fun w => by kernel_rfl) (Nat.succ_pos _) (show Hq w _ [] [] from unhide LL) ?_); intro X6 B6 hE6 L6 hb6; have hB6 := hide (Nat.le_trans (unhide LL).fr.size (Nat.le_of_eq hE6.symm)); replace LL := hide L6; clear L6 hb6 hE6; simp only [Act.put, List.setIfInBounds_toArray, List.set_cons_succ, List.set_cons_zero]) | ((refine st (vs := p.cs SA sa) 0 34 (by rfl) rfl rfl rfl rfl (shcs_one p _ _) (szS) (unhide LL) rfl (by simp [cput, PR.cs, SH.cs, VV.cs, KK.cs, DD.cs, CO.cs, DL.cs, zeroP, zeroS, zeroD, zeroV]) (Or.inr (unhide hB6)) ?_); intro X8 L8 hf8 hs8; replace LL := hide L8; clear L8 hf8 hs8; simp only [Act.put, List.setIfInBounds_toArray, List.set_cons_succ, List.set_cons_zero]) | ((refine alG 34 (zeroS.cs none 0) (by rfl) rfl (fun w => by kernel_rfl) (Nat.succ_pos _) (unhide LL) ?_); intro X7 B7 hE7 L7 hb7; have hB7 := hide (Nat.le_trans (unhide LL).fr.size (Nat.le_of_eq hE7.symm)); replace LL := hide L7; clear L7 hb7 hE7; simp only [Act.put, List.setIfInBounds_toArray, List.set_cons_succ, List.set_cons_zero]) | ((refine st (vs := q.cs SB sb) 1 34 (by rfl) rfl rfl rfl rfl (shcs_one q _ _) (szS) (unhide LL) rfl (by simp [cput, PR.cs, SH.cs, VV.cs, KK.cs, DD.cs, CO.cs, DL.cs, zeroP, zeroS, zeroD, zeroV]) (Or.inr (unhide hB7)) ?_); intro X9 L9 hf9 hs9; replace LL := hide L9; clear L9 hf9 hs9; simp only [Act.put, List.setIfInBounds_toArray, List.set_cons_succ, List.set_cons_zero]) | ((refine rd (by rfl) (ex_loadN (vs := p.cs SA sa) 34 8 rwS szS rfl rfl ((unhide LL).get 0 rfl) rfl rfl) ?_); simp only [Act.put, List.setIfInBounds_toArray, List.set_cons_succ, List.set_cons_zero]) | ((refine rd (by rfl) (ex_loadN (vs := q.cs SB sb) 34 8 rwS szS rfl rfl ((unhide LL).get 1 rfl) rfl rfl) ?_); simp only [Act.put, List.setIfInBounds_toArray, List.set_cons_succ, List.set_cons_zero])))
        refine (unhide HC _ (unhide LL).fr).mono ?_
        rintro e Z8 ⟨rfl, hZ8⟩
        replace LL := hide ((unhide LL).on hZ8)
        clear hZ8
        cases hel : (sameS p q)
        · have HNO : Hid ((List.range l.length).all (sameLAt l m) = false) := hide (all_no (unhide HLT) (by rw [unhide HAT, hel]))
          clear hel
          go_wp2_with (first | go_skip | ((with_reducible show wpList _ _ _ _ _ _); first | ((refine rd (by rfl) (ex_lenG 22 34 Tryz.underlying22 rfl rfl) ?_); simp only [Act.put, List.setIfInBounds_toArray, List.set_cons_succ, List.set_cons_zero]) | ((refine rd (by rfl) (ex_indexA 22 8 i unSs idSs rfl rfl (unhide HA1) rfl (unhide HLT)) ?_); simp only [Act.put, List.setIfInBounds_toArray, List.set_cons_succ, List.set_cons_zero]) | ((refine rd (by rfl) (ex_indexA 22 8 i unSs idSs rfl rfl (unhide HB1) rfl (unhide HLT2)) ?_); simp only [Act.put, List.setIfInBounds_toArray, List.set_cons_succ, List.set_cons_zero]) | ((refine rd (by rfl) (ex_loadR (vs := p.cs SA sa) 34 8 rwS szS rfl rfl (unhide HA2 _ (unhide LL).fr) rfl) ?_); simp only [Act.put, List.setIfInBounds_toArray, List.set_cons_succ, List.set_cons_zero]) | ((refine rd (by rfl) (ex_loadR (vs := q.cs SB sb) 34 8 rwS szS rfl rfl (unhide HB2 _ (unhide LL).fr) rfl) ?_); simp only [Act.put, List.setIfInBounds_toArray, List.set_cons_succ, List.set_cons_zero]) | ((refine alG 34 (zeroS.cs none 0) (by rfl) rfl (fun w => by kernel_rfl) (Nat.succ_pos _) (show Hq w _ [] [] from unhide LL) ?_); intro X6 B6 hE6 L6 hb6; have hB6 := hide (Nat.le_trans (unhide LL).fr.size (Nat.le_of_eq hE6.symm)); replace LL := hide L6; clear L6 hb6 hE6; simp only [Act.put, List.setIfInBounds_toArray, List.set_cons_succ, List.set_cons_zero]) | ((refine st (vs := p.cs SA sa) 0 34 (by rfl) rfl rfl rfl rfl (shcs_one p _ _) (szS) (unhide LL) rfl (by simp [cput, PR.cs, SH.cs, VV.cs, KK.cs, DD.cs, CO.cs, DL.cs, zeroP, zeroS, zeroD, zeroV]) (Or.inr (unhide hB6)) ?_); intro X8 L8 hf8 hs8; replace LL := hide L8; clear L8 hf8 hs8; simp only [Act.put, List.setIfInBounds_toArray, List.set_cons_succ, List.set_cons_zero]) | ((refine alG 34 (zeroS.cs none 0) (by rfl) rfl (fun w => by kernel_rfl) (Nat.succ_pos _) (unhide LL) ?_); intro X7 B7 hE7 L7 hb7; have hB7 := hide (Nat.le_trans (unhide LL).fr.size (Nat.le_of_eq hE7.symm)); replace LL := hide L7; clear L7 hb7 hE7; simp only [Act.put, List.setIfInBounds_toArray, List.set_cons_succ, List.set_cons_zero]) | ((refine st (vs := q.cs SB sb) 1 34 (by rfl) rfl rfl rfl rfl (shcs_one q _ _) (szS) (unhide LL) rfl (by simp [cput, PR.cs, SH.cs, VV.cs, KK.cs, DD.cs, CO.cs, DL.cs, zeroP, zeroS, zeroD, zeroV]) (Or.inr (unhide hB7)) ?_); intro X9 L9 hf9 hs9; replace LL := hide L9; clear L9 hf9 hs9; simp only [Act.put, List.setIfInBounds_toArray, List.set_cons_succ, List.set_cons_zero]) | ((refine rd (by rfl) (ex_loadN (vs := p.cs SA sa) 34 8 rwS szS rfl rfl ((unhide LL).get 0 rfl) rfl rfl) ?_); simp only [Act.put, List.setIfInBounds_toArray, List.set_cons_succ, List.set_cons_zero]) | ((refine rd (by rfl) (ex_loadN (vs := q.cs SB sb) 34 8 rwS szS rfl rfl ((unhide LL).get 1 rfl) rfl rfl) ?_); simp only [Act.put, List.setIfInBounds_toArray, List.set_cons_succ, List.set_cons_zero])))
          go_ret
          exact ⟨by rw [unhide HLD, unhide HNO]; rfl, (unhide LL).fr.below⟩
        · have HYE := hide (upto_step (unhide HAL) (by rw [unhide HAT, hel]))
          clear hel
          go_wp2_with (first | go_skip | ((with_reducible show wpList _ _ _ _ _ _); first | ((refine rd (by rfl) (ex_lenG 22 34 Tryz.underlying22 rfl rfl) ?_); simp only [Act.put, List.setIfInBounds_toArray, List.set_cons_succ, List.set_cons_zero]) | ((refine rd (by rfl) (ex_indexA 22 8 i unSs idSs rfl rfl (unhide HA1) rfl (unhide HLT)) ?_); simp only [Act.put, List.setIfInBounds_toArray, List.set_cons_succ, List.set_cons_zero]) | ((refine rd (by rfl) (ex_indexA 22 8 i unSs idSs rfl rfl (unhide HB1) rfl (unhide HLT2)) ?_); simp only [Act.put, List.setIfInBounds_toArray, List.set_cons_succ, List.set_cons_zero]) | ((refine rd (by rfl) (ex_loadR (vs := p.cs SA sa) 34 8 rwS szS rfl rfl (unhide HA2 _ (unhide LL).fr) rfl) ?_); simp only [Act.put, List.setIfInBounds_toArray, List.set_cons_succ, List.set_cons_zero]) | ((refine rd (by rfl) (ex_loadR (vs := q.cs SB sb) 34 8 rwS szS rfl rfl (unhide HB2 _ (unhide LL).fr) rfl) ?_); simp only [Act.put, List.setIfInBounds_toArray, List.set_cons_succ, List.set_cons_zero]) | ((refine alG 34 (zeroS.cs none 0) (by rfl) rfl (fun w => by kernel_rfl) (Nat.succ_pos _) (show Hq w _ [] [] from unhide LL) ?_); intro X6 B6 hE6 L6 hb6; have hB6 := hide (Nat.le_trans (unhide LL).fr.size (Nat.le_of_eq hE6.symm)); replace LL := hide L6; clear L6 hb6 hE6; simp only [Act.put, List.setIfInBounds_toArray, List.set_cons_succ, List.set_cons_zero]) | ((refine st (vs := p.cs SA sa) 0 34 (by rfl) rfl rfl rfl rfl (shcs_one p _ _) (szS) (unhide LL) rfl (by simp [cput, PR.cs, SH.cs, VV.cs, KK.cs, DD.cs, CO.cs, DL.cs, zeroP, zeroS, zeroD, zeroV]) (Or.inr (unhide hB6)) ?_); intro X8 L8 hf8 hs8; replace LL := hide L8; clear L8 hf8 hs8; simp only [Act.put, List.setIfInBounds_toArray, List.set_cons_succ, List.set_cons_zero]) | ((refine alG 34 (zeroS.cs none 0) (by rfl) rfl (fun w => by kernel_rfl) (Nat.succ_pos _) (unhide LL) ?_); intro X7 B7 hE7 L7 hb7; have hB7 := hide (Nat.le_trans (unhide LL).fr.size (Nat.le_of_eq hE7.symm)); replace LL := hide L7; clear L7 hb7 hE7; simp only [Act.put, List.setIfInBounds_toArray, List.set_cons_succ, List.set_cons_zero]) | ((refine st (vs := q.cs SB sb) 1 34 (by rfl) rfl rfl rfl rfl (shcs_one q _ _) (szS) (unhide LL) rfl (by simp [cput, PR.cs, SH.cs, VV.cs, KK.cs, DD.cs, CO.cs, DL.cs, zeroP, zeroS, zeroD, zeroV]) (Or.inr (unhide hB7)) ?_); intro X9 L9 hf9 hs9; replace LL := hide L9; clear L9 hf9 hs9; simp only [Act.put, List.setIfInBounds_toArray, List.set_cons_succ, List.set_cons_zero]) | ((refine rd (by rfl) (ex_loadN (vs := p.cs SA sa) 34 8 rwS szS rfl rfl ((unhide LL).get 0 rfl) rfl rfl) ?_); simp only [Act.put, List.setIfInBounds_toArray, List.set_cons_succ, List.set_cons_zero]) | ((refine rd (by rfl) (ex_loadN (vs := q.cs SB sb) 34 8 rwS szS rfl rfl ((unhide LL).get 1 rfl) rfl rfl) ?_); simp only [Act.put, List.setIfInBounds_toArray, List.set_cons_succ, List.set_cons_zero])))
          replace LL := hide (Hq.left (L := []) (unhide LL))
          go_roundg (l.length - (i + 1))
          case measure => have := unhide HLT; omega
          case rel => exact ⟨i + 1, by go_num, by have := unhide HLT; omega, by omega, HYE, LL⟩
      · obtain rfl : i = l.length := by omega
        clear hlt hil
        have HYS : Hid ((List.range l.length).all (sameLAt l m) = true) := hide (all_yes (unhide HAL))
        go_wp2_with (first | go_skip | ((with_reducible show wpList _ _ _ _ _ _); first | ((refine rd (by rfl) (ex_lenG 22 34 Tryz.underlying22 rfl rfl) ?_); simp only [Act.put, List.setIfInBounds_toArray, List.set_cons_succ, List.set_cons_zero])))
        go_ret
        exact ⟨by rw [unhide HLD, unhide HYS]; rfl, (unhide LL).fr.below⟩
  · have HLD : Hid (decide (l.length = m.length) = false) := hide (decide_eq_false hl)
    have hln : ((l.length : Int) != (m.length : Int)) = true := by simp; omega
    clear hl
    go_wp2_with (first | go_skip | ((with_reducible show wpList _ _ _ _ _ _); first | ((refine rd (by rfl) (ex_lenG 22 34 Tryz.underlying22 rfl rfl) ?_); simp only [Act.put, List.setIfInBounds_toArray, List.set_cons_succ, List.set_cons_zero]) | ((refine rd (by rfl) (ex_neI rfl rfl rfl hln) ?_); simp only [Act.put, List.setIfInBounds_toArray, List.set_cons_succ, List.set_cons_zero])))
    go_ret
    exact ⟨by rw [unhide HLD]; rfl, (unhide LL).fr.below⟩
set_option maxRecDepth 100000 in
theorem invSame_any (l m : List SH) (A B : Option Addr) (ca cb : Nat) (w : World) (hA : ReadsS w A l) (hB : ReadsS w B m) (hz : l.length ≤ 733007751850) (hT : Lib.Utf8Tabs 1 2 w) : Calls Tryz.prog 9 #[.slice A l.length ca, .slice B m.length cb] w fun e w' => e = .returned (.bool (sameL l m)) ∧ Below w.heap.size w w' := by
  have HE := hide (equalS l m A B ca cb w hA hB hz hT)
  clear hA hB hz hT
  go_enter Tryz.func9, Tryz.ntmps9
  go_wp2_with fail
  refine (unhide HE).mono ?_
  rintro e X8 ⟨rfl, hb8⟩
  have HB := hide hb8
  clear hb8
  go_wp2
  go_ret
  exact ⟨rfl, unhide HB⟩
end Go.Proofs.YtcflglloopgieaaGreatDoor
