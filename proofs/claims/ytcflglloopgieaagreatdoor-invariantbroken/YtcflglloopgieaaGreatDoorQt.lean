import Derived.Test.YtcflglloopgieaaGreatDoorQr
import Derived.Test.YtcflglloopgieaaGreatDoorQs

/-! Ke -/
namespace Go.Proofs.YtcflglloopgieaaGreatDoor
open Go Go.Proofs Go.Maps Go.RowKit FM
set_option linter.unusedSimpArgs false
set_option linter.unusedVariables false
set_option maxHeartbeats 1000000
theorem ex_eqK2 {o : Oper} {a : Act} {w : World} {x y : Operand} {b : Bool} (k q : KK) (ho : o.op = .binOp .eql 56 x y 56) (hx : a.eval x = k.agg) (hy : a.eval y = q.agg) (hb : decide (k = q) = b) : (execOp a.eval o).run Tryz.prog w = .ok (.value (.bool b)) w := hb ▸ ex_eql41 k q ho hx hy
theorem ex_eqB2 {o : Oper} {a : Act} {w : World} {x y : Operand} {n m r : Bool} (ho : o.op = .binOp .eql 4 x y 4) (hx : a.eval x = .bool n) (hc : a.eval y = .bool m) (h : (n == m) = r) : (execOp a.eval o).run Tryz.prog w = .ok (.value (.bool r)) w := by
  unfold execOp
  simp only [ho, hx, hc]
  simp [go_sem, eqGuard, h]
theorem ex_eqI2 {o : Oper} {a : Act} {w : World} {x y : Operand} {n m : Int} {r : Bool} (ho : o.op = .binOp .eql 3 x y 3) (hx : a.eval x = .int .i64 n) (hc : a.eval y = .int .i64 m) (h : (n == m) = r) : (execOp a.eval o).run Tryz.prog w = .ok (.value (.bool r)) w := by
  unfold execOp
  simp only [ho, hx, hc]
  simp [go_sem, eqGuard, h]
set_option maxHeartbeats 4000000 in
set_option maxRecDepth 100000 in
theorem sameProp_any (p q : PR) (w : World) (hT : Lib.Utf8Tabs 1 2 w) : Calls Tryz.prog 47 #[p.agg, q.agg] w fun e w' => e = .returned (.bool (decide (p.k = q.k) && eqDD p.d q.d)) ∧ Below w.heap.size w w' := by
  have LL := hide (Hq.nil w [])
  have HT := hide hT
  have HSD := hide (sameDesc_any p.d q.d)
  simp only [dagg] at HSD
  simp only [pagg]
  clear hT
  go_enter Tryz.func47, Tryz.ntmps47
  cases hkd : decide (p.k = q.k)
  · go_wp2_with (first | go_skip | ((with_reducible show wpList _ _ _ _ _ _); first | ((refine bx 61 (p.cs) (by rfl) rfl rfl rfl (Nat.succ_pos _) (show Hq w _ [] [] from unhide LL) ?_); intro X1 B1 hE1 L1 hb1; have hB1 := hide (Nat.le_trans (unhide LL).fr.size (Nat.le_of_eq hE1.symm)); replace LL := hide L1; clear L1 hb1 hE1; simp only [Act.put, List.setIfInBounds_toArray, List.set_cons_succ, List.set_cons_zero]) | ((refine bx 61 (q.cs) (by rfl) rfl rfl rfl (Nat.succ_pos _) (unhide LL) ?_); intro X2 B2 hE2 L2 hb2; have hB2 := hide (Nat.le_trans (unhide LL).fr.size (Nat.le_of_eq hE2.symm)); replace LL := hide L2; clear L2 hb2 hE2; simp only [Act.put, List.setIfInBounds_toArray, List.set_cons_succ, List.set_cons_zero]) | ((refine rd (by rfl) (ex_loadN (vs := p.k.cs) 56 2 rwK szK rfl rfl ((unhide LL).get 0 rfl) rfl rfl) ?_); simp only [Act.put, List.setIfInBounds_toArray, List.set_cons_succ, List.set_cons_zero]) | ((refine rd (by rfl) (ex_loadN (vs := q.k.cs) 56 2 rwK szK rfl rfl ((unhide LL).get 1 rfl) rfl rfl) ?_); simp only [Act.put, List.setIfInBounds_toArray, List.set_cons_succ, List.set_cons_zero]) | ((refine rd (by rfl) (ex_loadN (vs := p.d.cs) 59 18 rwD szD rfl rfl ((unhide LL).get 0 rfl) rfl rfl) ?_); simp only [Act.put, List.setIfInBounds_toArray, List.set_cons_succ, List.set_cons_zero]) | ((refine rd (by rfl) (ex_loadN (vs := q.d.cs) 59 18 rwD szD rfl rfl ((unhide LL).get 1 rfl) rfl rfl) ?_); simp only [Act.put, List.setIfInBounds_toArray, List.set_cons_succ, List.set_cons_zero]) | ((refine rd (by rfl) (ex_eqK2 p.k q.k rfl rfl rfl hkd) ?_); simp only [Act.put, List.setIfInBounds_toArray, List.set_cons_succ, List.set_cons_zero])))
    go_ret
    exact ⟨by simp, (unhide LL).fr.below⟩
  · go_wp2_with (first | go_skip | ((with_reducible show wpList _ _ _ _ _ _); first | ((refine bx 61 (p.cs) (by rfl) rfl rfl rfl (Nat.succ_pos _) (show Hq w _ [] [] from unhide LL) ?_); intro X1 B1 hE1 L1 hb1; have hB1 := hide (Nat.le_trans (unhide LL).fr.size (Nat.le_of_eq hE1.symm)); replace LL := hide L1; clear L1 hb1 hE1; simp only [Act.put, List.setIfInBounds_toArray, List.set_cons_succ, List.set_cons_zero]) | ((refine bx 61 (q.cs) (by rfl) rfl rfl rfl (Nat.succ_pos _) (unhide LL) ?_); intro X2 B2 hE2 L2 hb2; have hB2 := hide (Nat.le_trans (unhide LL).fr.size (Nat.le_of_eq hE2.symm)); replace LL := hide L2; clear L2 hb2 hE2; simp only [Act.put, List.setIfInBounds_toArray, List.set_cons_succ, List.set_cons_zero]) | ((refine rd (by rfl) (ex_loadN (vs := p.k.cs) 56 2 rwK szK rfl rfl ((unhide LL).get 0 rfl) rfl rfl) ?_); simp only [Act.put, List.setIfInBounds_toArray, List.set_cons_succ, List.set_cons_zero]) | ((refine rd (by rfl) (ex_loadN (vs := q.k.cs) 56 2 rwK szK rfl rfl ((unhide LL).get 1 rfl) rfl rfl) ?_); simp only [Act.put, List.setIfInBounds_toArray, List.set_cons_succ, List.set_cons_zero]) | ((refine rd (by rfl) (ex_loadN (vs := p.d.cs) 59 18 rwD szD rfl rfl ((unhide LL).get 0 rfl) rfl rfl) ?_); simp only [Act.put, List.setIfInBounds_toArray, List.set_cons_succ, List.set_cons_zero]) | ((refine rd (by rfl) (ex_loadN (vs := q.d.cs) 59 18 rwD szD rfl rfl ((unhide LL).get 1 rfl) rfl rfl) ?_); simp only [Act.put, List.setIfInBounds_toArray, List.set_cons_succ, List.set_cons_zero]) | ((refine rd (by rfl) (ex_eqK2 p.k q.k rfl rfl rfl hkd) ?_); simp only [Act.put, List.setIfInBounds_toArray, List.set_cons_succ, List.set_cons_zero])))
    refine (unhide HSD _ (tabs_below (unhide HT) (unhide LL).fr.below)).mono ?_
    rintro e X8 ⟨rfl, hb8⟩
    replace LL := hide ((unhide LL).on hb8)
    clear hb8
    go_wp2
    go_ret
    exact ⟨by simp, (unhide LL).fr.below⟩
set_option maxHeartbeats 4000000 in
set_option maxRecDepth 100000 in
theorem equalP (l m : List PR) (A B : Option Addr) (ca cb : Nat) (w : World) (hA : ReadsP w A l) (hB : ReadsP w B m) (hz : l.length ≤ 733007751850) (hT : Lib.Utf8Tabs 1 2 w) : Calls Tryz.prog 46 #[.slice A l.length ca, .slice B m.length cb, .func (.func 47) #[] #[]] w fun e w' => e = .returned (.bool (decide (l.length = m.length) && (List.range l.length).all (sameAt l m))) ∧ Below w.heap.size w w' := by
  have LL := hide (Hq.nil w [])
  have HA := hide hA
  have HB := hide hB
  have HZ := hide hz
  have HT := hide hT
  clear hA hB hz hT
  have HS : Hid ((decide (l.length = m.length) && (List.range l.length).all (sameAt l m)) = (decide (l.length = m.length) && (List.range l.length).all (sameAt l m))) := hide rfl
  skip
  go_enter Tryz.func46, Tryz.ntmps46
  by_cases hl : l.length = m.length
  · have HLN := hide hl
    have HLD : Hid (decide (l.length = m.length) = true) := hide (decide_eq_true hl)
    have hln : ((l.length : Int) != (m.length : Int)) = false := by simp; omega
    clear hl
    go_wp2_with (first | go_skip | ((with_reducible show wpList _ _ _ _ _ _); first | ((refine rd (by rfl) (ex_lenG 32 61 Tryz.underlying32 rfl rfl) ?_); simp only [Act.put, List.setIfInBounds_toArray, List.set_cons_succ, List.set_cons_zero]) | ((refine rd (by rfl) (ex_neI rfl rfl rfl hln) ?_); simp only [Act.put, List.setIfInBounds_toArray, List.set_cons_succ, List.set_cons_zero])))
    go_loopg [17] l.length (fun gm s17 wr => ∃ i : Nat, s17 = .int .i64 (i : Nat) ∧ i ≤ l.length ∧ l.length - i ≤ gm ∧ Hid (∀ j, j < i → sameAt l m j = true) ∧ Hid (Hq w wr [] []))
    case atStart => exact ⟨0, rfl, by omega, by omega, hide (fun j hj => absurd hj (Nat.not_lt_zero _)), LL⟩
    case round =>
      clear LL
      obtain ⟨i, rfl, hil, hgm, HAL, LL⟩ := hrel
      by_cases hlt : i < l.length
      · have dlt : decide ((i : Int) < (l.length : Int)) = true := decide_eq_true (by omega)
        have hw1 : IntKind.i64.wrap ((i : Int) + 1) = (i : Int) + 1 := by have := unhide HZ; rw [IntKind.wrap_i64]; omega
        have hlt2 : i < m.length := by have := unhide HLN; omega
        obtain ⟨p, hp⟩ : ∃ p, l[i]? = some p := ⟨_, List.getElem?_eq_getElem hlt⟩
        obtain ⟨q, hq⟩ : ∃ q, m[i]? = some q := ⟨_, List.getElem?_eq_getElem hlt2⟩
        obtain ⟨_, b, off, hAe, hb, hrg⟩ := (unhide HA) i p hp
        obtain ⟨_, b2, off2, hBe, hb2, hrg2⟩ := (unhide HB) i q hq
        have HA1 := hide hAe
        have HB1 := hide hBe
        have HA2 : Hid (∀ X, Fr w X [] → X.rangeAt b (off + i * 20) (p.cs)) := hide (fun X hX => rangeAt_fr hrg hb hX)
        have HB2 : Hid (∀ X, Fr w X [] → X.rangeAt b2 (off2 + i * 20) (q.cs)) := hide (fun X hX => rangeAt_fr hrg2 hb2 hX)
        have HC := hide (fun (X : World) (hX : Fr w X []) => sameProp_any p q X (tabs_below (unhide HT) hX.below))
        simp only [pagg] at HC
        have HAT : Hid (sameAt l m i = (decide (p.k = q.k) && eqDD p.d q.d)) := hide (by unfold sameAt; rw [hp, hq])
        have HLT := hide hlt
        have HLT2 := hide hlt2
        clear hil hlt hlt2 hp hq hAe hBe hb hrg hb2 hrg2
        go_wp2_with (first | go_skip | ((with_reducible show wpList _ _ _ _ _ _); first | ((refine rd (by rfl) (ex_lenG 32 61 Tryz.underlying32 rfl rfl) ?_); simp only [Act.put, List.setIfInBounds_toArray, List.set_cons_succ, List.set_cons_zero]) | ((refine rd (by rfl) (ex_indexA 32 20 i unPs idPs rfl rfl (unhide HA1) rfl (unhide HLT)) ?_); simp only [Act.put, List.setIfInBounds_toArray, List.set_cons_succ, List.set_cons_zero]) | ((refine rd (by rfl) (ex_indexA 32 20 i unPs idPs rfl rfl (unhide HB1) rfl (unhide HLT2)) ?_); simp only [Act.put, List.setIfInBounds_toArray, List.set_cons_succ, List.set_cons_zero]) | ((refine rd (by rfl) (ex_loadR (vs := p.cs) 61 20 rwP szP rfl rfl (unhide HA2 _ (unhide LL).fr) rfl) ?_); simp only [Act.put, List.setIfInBounds_toArray, List.set_cons_succ, List.set_cons_zero]) | ((refine rd (by rfl) (ex_loadR (vs := q.cs) 61 20 rwP szP rfl rfl (unhide HB2 _ (unhide LL).fr) rfl) ?_); simp only [Act.put, List.setIfInBounds_toArray, List.set_cons_succ, List.set_cons_zero]) | ((refine alG 61 (zeroP.cs) (by rfl) rfl (fun w => by kernel_rfl) (Nat.succ_pos _) (show Hq w _ [] [] from unhide LL) ?_); intro X6 B6 hE6 L6 hb6; have hB6 := hide (Nat.le_trans (unhide LL).fr.size (Nat.le_of_eq hE6.symm)); replace LL := hide L6; clear L6 hb6 hE6; simp only [Act.put, List.setIfInBounds_toArray, List.set_cons_succ, List.set_cons_zero]) | ((refine st (vs := p.cs) 0 61 (by rfl) rfl rfl rfl rfl (pcs_one p) (szP) (unhide LL) rfl (by simp [cput, PR.cs, SH.cs, VV.cs, KK.cs, DD.cs, CO.cs, DL.cs, zeroP, zeroS, zeroD, zeroV]) (Or.inr (unhide hB6)) ?_); intro X8 L8 hf8 hs8; replace LL := hide L8; clear L8 hf8 hs8; simp only [Act.put, List.setIfInBounds_toArray, List.set_cons_succ, List.set_cons_zero]) | ((refine alG 61 (zeroP.cs) (by rfl) rfl (fun w => by kernel_rfl) (Nat.succ_pos _) (unhide LL) ?_); intro X7 B7 hE7 L7 hb7; have hB7 := hide (Nat.le_trans (unhide LL).fr.size (Nat.le_of_eq hE7.symm)); replace LL := hide L7; clear L7 hb7 hE7; simp only [Act.put, List.setIfInBounds_toArray, List.set_cons_succ, List.set_cons_zero]) | ((refine st (vs := q.cs) 1 61 (by rfl) rfl rfl rfl rfl (pcs_one q) (szP) (unhide LL) rfl (by simp [cput, PR.cs, SH.cs, VV.cs, KK.cs, DD.cs, CO.cs, DL.cs, zeroP, zeroS, zeroD, zeroV]) (Or.inr (unhide hB7)) ?_); intro X9 L9 hf9 hs9; replace LL := hide L9; clear L9 hf9 hs9; simp only [Act.put, List.setIfInBounds_toArray, List.set_cons_succ, List.set_cons_zero]) | ((refine rd (by rfl) (ex_loadN (vs := p.cs) 61 20 rwP szP rfl rfl ((unhide LL).get 0 rfl) rfl rfl) ?_); simp only [Act.put, List.setIfInBounds_toArray, List.set_cons_succ, List.set_cons_zero]) | ((refine rd (by rfl) (ex_loadN (vs := q.cs) 61 20 rwP szP rfl rfl ((unhide LL).get 1 rfl) rfl rfl) ?_); simp only [Act.put, List.setIfInBounds_toArray, List.set_cons_succ, List.set_cons_zero])))
        refine (unhide HC _ (unhide LL).fr).mono ?_
        rintro e Z8 ⟨rfl, hZ8⟩
        replace LL := hide ((unhide LL).on hZ8)
        clear hZ8
        cases hel : (decide (p.k = q.k) && eqDD p.d q.d)
        · have HNO : Hid ((List.range l.length).all (sameAt l m) = false) := hide (all_no (unhide HLT) (by rw [unhide HAT, hel]))
          clear hel
          go_wp2_with (first | go_skip | ((with_reducible show wpList _ _ _ _ _ _); first | ((refine rd (by rfl) (ex_lenG 32 61 Tryz.underlying32 rfl rfl) ?_); simp only [Act.put, List.setIfInBounds_toArray, List.set_cons_succ, List.set_cons_zero]) | ((refine rd (by rfl) (ex_indexA 32 20 i unPs idPs rfl rfl (unhide HA1) rfl (unhide HLT)) ?_); simp only [Act.put, List.setIfInBounds_toArray, List.set_cons_succ, List.set_cons_zero]) | ((refine rd (by rfl) (ex_indexA 32 20 i unPs idPs rfl rfl (unhide HB1) rfl (unhide HLT2)) ?_); simp only [Act.put, List.setIfInBounds_toArray, List.set_cons_succ, List.set_cons_zero]) | ((refine rd (by rfl) (ex_loadR (vs := p.cs) 61 20 rwP szP rfl rfl (unhide HA2 _ (unhide LL).fr) rfl) ?_); simp only [Act.put, List.setIfInBounds_toArray, List.set_cons_succ, List.set_cons_zero]) | ((refine rd (by rfl) (ex_loadR (vs := q.cs) 61 20 rwP szP rfl rfl (unhide HB2 _ (unhide LL).fr) rfl) ?_); simp only [Act.put, List.setIfInBounds_toArray, List.set_cons_succ, List.set_cons_zero]) | ((refine alG 61 (zeroP.cs) (by rfl) rfl (fun w => by kernel_rfl) (Nat.succ_pos _) (show Hq w _ [] [] from unhide LL) ?_); intro X6 B6 hE6 L6 hb6; have hB6 := hide (Nat.le_trans (unhide LL).fr.size (Nat.le_of_eq hE6.symm)); replace LL := hide L6; clear L6 hb6 hE6; simp only [Act.put, List.setIfInBounds_toArray, List.set_cons_succ, List.set_cons_zero]) | ((refine st (vs := p.cs) 0 61 (by rfl) rfl rfl rfl rfl (pcs_one p) (szP) (unhide LL) rfl (by simp [cput, PR.cs, SH.cs, VV.cs, KK.cs, DD.cs, CO.cs, DL.cs, zeroP, zeroS, zeroD, zeroV]) (Or.inr (unhide hB6)) ?_); intro X8 L8 hf8 hs8; replace LL := hide L8; clear L8 hf8 hs8; simp only [Act.put, List.setIfInBounds_toArray, List.set_cons_succ, List.set_cons_zero]) | ((refine alG 61 (zeroP.cs) (by rfl) rfl (fun w => by kernel_rfl) (Nat.succ_pos _) (unhide LL) ?_); intro X7 B7 hE7 L7 hb7; have hB7 := hide (Nat.le_trans (unhide LL).fr.size (Nat.le_of_eq hE7.symm)); replace LL := hide L7; clear L7 hb7 hE7; simp only [Act.put, List.setIfInBounds_toArray, List.set_cons_succ, List.set_cons_zero]) | ((refine st (vs := q.cs) 1 61 (by rfl) rfl rfl rfl rfl (pcs_one q) (szP) (unhide LL) rfl (by simp [cput, PR.cs, SH.cs, VV.cs, KK.cs, DD.cs, CO.cs, DL.cs, zeroP, zeroS, zeroD, zeroV]) (Or.inr (unhide hB7)) ?_); intro X9 L9 hf9 hs9; replace LL := hide L9; clear L9 hf9 hs9; simp only [Act.put, List.setIfInBounds_toArray, List.set_cons_succ, List.set_cons_zero]) | ((refine rd (by rfl) (ex_loadN (vs := p.cs) 61 20 rwP szP rfl rfl ((unhide LL).get 0 rfl) rfl rfl) ?_); simp only [Act.put, List.setIfInBounds_toArray, List.set_cons_succ, List.set_cons_zero]) | ((refine rd (by rfl) (ex_loadN (vs := q.cs) 61 20 rwP szP rfl rfl ((unhide LL).get 1 rfl) rfl rfl) ?_); simp only [Act.put, List.setIfInBounds_toArray, List.set_cons_succ, List.set_cons_zero])))
          go_ret
          exact ⟨by rw [unhide HLD, unhide HNO]; rfl, (unhide LL).fr.below⟩
        · have HYE := hide (upto_step (unhide HAL) (by rw [unhide HAT, hel]))
          clear hel
          go_wp2_with (first | go_skip | ((with_reducible show wpList _ _ _ _ _ _); first | ((refine rd (by rfl) (ex_lenG 32 61 Tryz.underlying32 rfl rfl) ?_); simp only [Act.put, List.setIfInBounds_toArray, List.set_cons_succ, List.set_cons_zero]) | ((refine rd (by rfl) (ex_indexA 32 20 i unPs idPs rfl rfl (unhide HA1) rfl (unhide HLT)) ?_); simp only [Act.put, List.setIfInBounds_toArray, List.set_cons_succ, List.set_cons_zero]) | ((refine rd (by rfl) (ex_indexA 32 20 i unPs idPs rfl rfl (unhide HB1) rfl (unhide HLT2)) ?_); simp only [Act.put, List.setIfInBounds_toArray, List.set_cons_succ, List.set_cons_zero]) | ((refine rd (by rfl) (ex_loadR (vs := p.cs) 61 20 rwP szP rfl rfl (unhide HA2 _ (unhide LL).fr) rfl) ?_); simp only [Act.put, List.setIfInBounds_toArray, List.set_cons_succ, List.set_cons_zero]) | ((refine rd (by rfl) (ex_loadR (vs := q.cs) 61 20 rwP szP rfl rfl (unhide HB2 _ (unhide LL).fr) rfl) ?_); simp only [Act.put, List.setIfInBounds_toArray, List.set_cons_succ, List.set_cons_zero]) | ((refine alG 61 (zeroP.cs) (by rfl) rfl (fun w => by kernel_rfl) (Nat.succ_pos _) (show Hq w _ [] [] from unhide LL) ?_); intro X6 B6 hE6 L6 hb6; have hB6 := hide (Nat.le_trans (unhide LL).fr.size (Nat.le_of_eq hE6.symm)); replace LL := hide L6; clear L6 hb6 hE6; simp only [Act.put, List.setIfInBounds_toArray, List.set_cons_succ, List.set_cons_zero]) | ((refine st (vs := p.cs) 0 61 (by rfl) rfl rfl rfl rfl (pcs_one p) (szP) (unhide LL) rfl (by simp [cput, PR.cs, SH.cs, VV.cs, KK.cs, DD.cs, CO.cs, DL.cs, zeroP, zeroS, zeroD, zeroV]) (Or.inr (unhide hB6)) ?_); intro X8 L8 hf8 hs8; replace LL := hide L8; clear L8 hf8 hs8; simp only [Act.put, List.setIfInBounds_toArray, List.set_cons_succ, List.set_cons_zero]) | ((refine alG 61 (zeroP.cs) (by rfl) rfl (fun w => by kernel_rfl) (Nat.succ_pos _) (unhide LL) ?_); intro X7 B7 hE7 L7 hb7; have hB7 := hide (Nat.le_trans (unhide LL).fr.size (Nat.le_of_eq hE7.symm)); replace LL := hide L7; clear L7 hb7 hE7; simp only [Act.put, List.setIfInBounds_toArray, List.set_cons_succ, List.set_cons_zero]) | ((refine st (vs := q.cs) 1 61 (by rfl) rfl rfl rfl rfl (pcs_one q) (szP) (unhide LL) rfl (by simp [cput, PR.cs, SH.cs, VV.cs, KK.cs, DD.cs, CO.cs, DL.cs, zeroP, zeroS, zeroD, zeroV]) (Or.inr (unhide hB7)) ?_); intro X9 L9 hf9 hs9; replace LL := hide L9; clear L9 hf9 hs9; simp only [Act.put, List.setIfInBounds_toArray, List.set_cons_succ, List.set_cons_zero]) | ((refine rd (by rfl) (ex_loadN (vs := p.cs) 61 20 rwP szP rfl rfl ((unhide LL).get 0 rfl) rfl rfl) ?_); simp only [Act.put, List.setIfInBounds_toArray, List.set_cons_succ, List.set_cons_zero]) | ((refine rd (by rfl) (ex_loadN (vs := q.cs) 61 20 rwP szP rfl rfl ((unhide LL).get 1 rfl) rfl rfl) ?_); simp only [Act.put, List.setIfInBounds_toArray, List.set_cons_succ, List.set_cons_zero])))
          replace LL := hide (Hq.left (L := []) (unhide LL))
          go_roundg (l.length - (i + 1))
          case measure => have := unhide HLT; omega
          case rel => exact ⟨i + 1, by go_num, by have := unhide HLT; omega, by omega, HYE, LL⟩
      · obtain rfl : i = l.length := by omega
        clear hlt hil
        have HYS : Hid ((List.range l.length).all (sameAt l m) = true) := hide (all_yes (unhide HAL))
        go_wp2_with (first | go_skip | ((with_reducible show wpList _ _ _ _ _ _); first | ((refine rd (by rfl) (ex_lenG 32 61 Tryz.underlying32 rfl rfl) ?_); simp only [Act.put, List.setIfInBounds_toArray, List.set_cons_succ, List.set_cons_zero])))
        go_ret
        exact ⟨by rw [unhide HLD, unhide HYS]; rfl, (unhide LL).fr.below⟩
  · have HLD : Hid (decide (l.length = m.length) = false) := hide (decide_eq_false hl)
    have hln : ((l.length : Int) != (m.length : Int)) = true := by simp; omega
    clear hl
    go_wp2_with (first | go_skip | ((with_reducible show wpList _ _ _ _ _ _); first | ((refine rd (by rfl) (ex_lenG 32 61 Tryz.underlying32 rfl rfl) ?_); simp only [Act.put, List.setIfInBounds_toArray, List.set_cons_succ, List.set_cons_zero]) | ((refine rd (by rfl) (ex_neI rfl rfl rfl hln) ?_); simp only [Act.put, List.setIfInBounds_toArray, List.set_cons_succ, List.set_cons_zero])))
    go_ret
    exact ⟨by rw [unhide HLD]; rfl, (unhide LL).fr.below⟩
set_option maxHeartbeats 4000000 in
set_option maxRecDepth 100000 in
theorem sameShape_any (s t : SH) (SA SB : Option Addr) (sa sb : Nat) (w : World) (hA : ReadsP w SA s.ps) (hB : ReadsP w SB t.ps) (hz : s.ps.length ≤ 733007751850) (hT : Lib.Utf8Tabs 1 2 w) : Calls Tryz.prog 23 #[s.agg SA sa, t.agg SB sb] w fun e w' => e = .returned (.bool (sameS s t)) ∧ Below w.heap.size w w' := by
  have LL := hide (Hq.nil w [])
  have HEP := hide (fun (X : World) (hX : Fr w X []) => equalP s.ps t.ps SA SB sa sb X (hA.fr hX) (hB.fr hX) hz (tabs_below hT hX.below))
  have HSV := hide (fun (X : World) (hX : Fr w X []) => sameValue_any s.p t.p X (tabs_below hT hX.below))
  simp only [vagg] at HSV
  clear hA hB hz hT
  have HS : Hid (sameS s t = ((s.c == t.c) && (eqB s.p t.p && ((s.x == t.x) && (decide (s.ps.length = t.ps.length) && (List.range s.ps.length).all (sameAt s.ps t.ps)))))) := hide (by unfold sameS samePs; simp [bne])
  generalize sameS s t = r at *
  unfold SH.agg
  have H6 : Hid ((s.cs SA sa)[6]? = some (.bool s.x)) := hide rfl
  have H6b : Hid ((t.cs SB sb)[6]? = some (.bool t.x)) := hide rfl
  generalize s.x = sx at *
  generalize t.x = tx at *
  go_enter Tryz.func23, Tryz.ntmps23
  cases hc : (s.c == t.c)
  · have HC := hide hc
    go_wp2_with (first | go_skip | ((with_reducible show wpList _ _ _ _ _ _); first | ((refine bx 34 (s.cs SA sa) (by rfl) rfl rfl rfl (Nat.succ_pos _) (show Hq w _ [] [] from unhide LL) ?_); intro X1 B1 hE1 L1 hb1; replace LL := hide L1; clear L1 hb1 hE1; simp only [Act.put, List.setIfInBounds_toArray, List.set_cons_succ, List.set_cons_zero]) | ((refine bx 34 (t.cs SB sb) (by rfl) rfl rfl rfl (Nat.succ_pos _) (unhide LL) ?_); intro X2 B2 hE2 L2 hb2; replace LL := hide L2; clear L2 hb2 hE2; simp only [Act.put, List.setIfInBounds_toArray, List.set_cons_succ, List.set_cons_zero]) | ((refine rd (by rfl) (ex_load1 3 Tryz.isAgg3 rfl rfl ((unhide LL).get 0 rfl) rfl) ?_); simp only [Act.put, List.setIfInBounds_toArray, List.set_cons_succ, List.set_cons_zero]) | ((refine rd (by rfl) (ex_load1 3 Tryz.isAgg3 rfl rfl ((unhide LL).get 1 rfl) rfl) ?_); simp only [Act.put, List.setIfInBounds_toArray, List.set_cons_succ, List.set_cons_zero]) | ((refine rd (by rfl) (ex_loadN (vs := s.p.cs) 31 5 rwV szV rfl rfl ((unhide LL).get 0 rfl) rfl rfl) ?_); simp only [Act.put, List.setIfInBounds_toArray, List.set_cons_succ, List.set_cons_zero]) | ((refine rd (by rfl) (ex_loadN (vs := t.p.cs) 31 5 rwV szV rfl rfl ((unhide LL).get 1 rfl) rfl rfl) ?_); simp only [Act.put, List.setIfInBounds_toArray, List.set_cons_succ, List.set_cons_zero]) | ((refine rd (by rfl) (ex_load1 4 Tryz.isAgg4 rfl rfl ((unhide LL).get 0 rfl) (unhide H6)) ?_); simp only [Act.put, List.setIfInBounds_toArray, List.set_cons_succ, List.set_cons_zero]) | ((refine rd (by rfl) (ex_load1 4 Tryz.isAgg4 rfl rfl ((unhide LL).get 1 rfl) (unhide H6b)) ?_); simp only [Act.put, List.setIfInBounds_toArray, List.set_cons_succ, List.set_cons_zero]) | ((refine rd (by rfl) (ex_load1 32 Tryz.isAgg32 rfl rfl ((unhide LL).get 0 rfl) rfl) ?_); simp only [Act.put, List.setIfInBounds_toArray, List.set_cons_succ, List.set_cons_zero]) | ((refine rd (by rfl) (ex_load1 32 Tryz.isAgg32 rfl rfl ((unhide LL).get 1 rfl) rfl) ?_); simp only [Act.put, List.setIfInBounds_toArray, List.set_cons_succ, List.set_cons_zero]) | ((refine rd (by rfl) (ex_eqI2 rfl rfl rfl hc) ?_); simp only [Act.put, List.setIfInBounds_toArray, List.set_cons_succ, List.set_cons_zero]) | ((refine rd (by rfl) (ex_eqB2 rfl rfl rfl hx) ?_); simp only [Act.put, List.setIfInBounds_toArray, List.set_cons_succ, List.set_cons_zero])))
    go_ret
    exact ⟨by rw [unhide HS, unhide HC]; rfl, (unhide LL).fr.below⟩
  · have HC := hide hc
    go_wp2_with (first | go_skip | ((with_reducible show wpList _ _ _ _ _ _); first | ((refine bx 34 (s.cs SA sa) (by rfl) rfl rfl rfl (Nat.succ_pos _) (show Hq w _ [] [] from unhide LL) ?_); intro X1 B1 hE1 L1 hb1; replace LL := hide L1; clear L1 hb1 hE1; simp only [Act.put, List.setIfInBounds_toArray, List.set_cons_succ, List.set_cons_zero]) | ((refine bx 34 (t.cs SB sb) (by rfl) rfl rfl rfl (Nat.succ_pos _) (unhide LL) ?_); intro X2 B2 hE2 L2 hb2; replace LL := hide L2; clear L2 hb2 hE2; simp only [Act.put, List.setIfInBounds_toArray, List.set_cons_succ, List.set_cons_zero]) | ((refine rd (by rfl) (ex_load1 3 Tryz.isAgg3 rfl rfl ((unhide LL).get 0 rfl) rfl) ?_); simp only [Act.put, List.setIfInBounds_toArray, List.set_cons_succ, List.set_cons_zero]) | ((refine rd (by rfl) (ex_load1 3 Tryz.isAgg3 rfl rfl ((unhide LL).get 1 rfl) rfl) ?_); simp only [Act.put, List.setIfInBounds_toArray, List.set_cons_succ, List.set_cons_zero]) | ((refine rd (by rfl) (ex_loadN (vs := s.p.cs) 31 5 rwV szV rfl rfl ((unhide LL).get 0 rfl) rfl rfl) ?_); simp only [Act.put, List.setIfInBounds_toArray, List.set_cons_succ, List.set_cons_zero]) | ((refine rd (by rfl) (ex_loadN (vs := t.p.cs) 31 5 rwV szV rfl rfl ((unhide LL).get 1 rfl) rfl rfl) ?_); simp only [Act.put, List.setIfInBounds_toArray, List.set_cons_succ, List.set_cons_zero]) | ((refine rd (by rfl) (ex_load1 4 Tryz.isAgg4 rfl rfl ((unhide LL).get 0 rfl) (unhide H6)) ?_); simp only [Act.put, List.setIfInBounds_toArray, List.set_cons_succ, List.set_cons_zero]) | ((refine rd (by rfl) (ex_load1 4 Tryz.isAgg4 rfl rfl ((unhide LL).get 1 rfl) (unhide H6b)) ?_); simp only [Act.put, List.setIfInBounds_toArray, List.set_cons_succ, List.set_cons_zero]) | ((refine rd (by rfl) (ex_load1 32 Tryz.isAgg32 rfl rfl ((unhide LL).get 0 rfl) rfl) ?_); simp only [Act.put, List.setIfInBounds_toArray, List.set_cons_succ, List.set_cons_zero]) | ((refine rd (by rfl) (ex_load1 32 Tryz.isAgg32 rfl rfl ((unhide LL).get 1 rfl) rfl) ?_); simp only [Act.put, List.setIfInBounds_toArray, List.set_cons_succ, List.set_cons_zero]) | ((refine rd (by rfl) (ex_eqI2 rfl rfl rfl hc) ?_); simp only [Act.put, List.setIfInBounds_toArray, List.set_cons_succ, List.set_cons_zero]) | ((refine rd (by rfl) (ex_eqB2 rfl rfl rfl hx) ?_); simp only [Act.put, List.setIfInBounds_toArray, List.set_cons_succ, List.set_cons_zero])))
    refine (unhide HSV _ (unhide LL).fr).mono ?_
    rintro e X8 ⟨rfl, hb8⟩
    replace LL := hide ((unhide LL).on hb8)
    clear hb8
    cases hp : eqB s.p t.p
    · have HP := hide hp
      clear hp
      go_wp2_with (first | go_skip | ((with_reducible show wpList _ _ _ _ _ _); first | ((refine bx 34 (s.cs SA sa) (by rfl) rfl rfl rfl (Nat.succ_pos _) (show Hq w _ [] [] from unhide LL) ?_); intro X1 B1 hE1 L1 hb1; replace LL := hide L1; clear L1 hb1 hE1; simp only [Act.put, List.setIfInBounds_toArray, List.set_cons_succ, List.set_cons_zero]) | ((refine bx 34 (t.cs SB sb) (by rfl) rfl rfl rfl (Nat.succ_pos _) (unhide LL) ?_); intro X2 B2 hE2 L2 hb2; replace LL := hide L2; clear L2 hb2 hE2; simp only [Act.put, List.setIfInBounds_toArray, List.set_cons_succ, List.set_cons_zero]) | ((refine rd (by rfl) (ex_load1 3 Tryz.isAgg3 rfl rfl ((unhide LL).get 0 rfl) rfl) ?_); simp only [Act.put, List.setIfInBounds_toArray, List.set_cons_succ, List.set_cons_zero]) | ((refine rd (by rfl) (ex_load1 3 Tryz.isAgg3 rfl rfl ((unhide LL).get 1 rfl) rfl) ?_); simp only [Act.put, List.setIfInBounds_toArray, List.set_cons_succ, List.set_cons_zero]) | ((refine rd (by rfl) (ex_loadN (vs := s.p.cs) 31 5 rwV szV rfl rfl ((unhide LL).get 0 rfl) rfl rfl) ?_); simp only [Act.put, List.setIfInBounds_toArray, List.set_cons_succ, List.set_cons_zero]) | ((refine rd (by rfl) (ex_loadN (vs := t.p.cs) 31 5 rwV szV rfl rfl ((unhide LL).get 1 rfl) rfl rfl) ?_); simp only [Act.put, List.setIfInBounds_toArray, List.set_cons_succ, List.set_cons_zero]) | ((refine rd (by rfl) (ex_load1 4 Tryz.isAgg4 rfl rfl ((unhide LL).get 0 rfl) (unhide H6)) ?_); simp only [Act.put, List.setIfInBounds_toArray, List.set_cons_succ, List.set_cons_zero]) | ((refine rd (by rfl) (ex_load1 4 Tryz.isAgg4 rfl rfl ((unhide LL).get 1 rfl) (unhide H6b)) ?_); simp only [Act.put, List.setIfInBounds_toArray, List.set_cons_succ, List.set_cons_zero]) | ((refine rd (by rfl) (ex_load1 32 Tryz.isAgg32 rfl rfl ((unhide LL).get 0 rfl) rfl) ?_); simp only [Act.put, List.setIfInBounds_toArray, List.set_cons_succ, List.set_cons_zero]) | ((refine rd (by rfl) (ex_load1 32 Tryz.isAgg32 rfl rfl ((unhide LL).get 1 rfl) rfl) ?_); simp only [Act.put, List.setIfInBounds_toArray, List.set_cons_succ, List.set_cons_zero]) | ((refine rd (by rfl) (ex_eqI2 rfl rfl rfl hc) ?_); simp only [Act.put, List.setIfInBounds_toArray, List.set_cons_succ, List.set_cons_zero]) | ((refine rd (by rfl) (ex_eqB2 rfl rfl rfl hx) ?_); simp only [Act.put, List.setIfInBounds_toArray, List.set_cons_succ, List.set_cons_zero])))
      go_ret
      exact ⟨by rw [unhide HS, unhide HC, unhide HP]; rfl, (unhide LL).fr.below⟩
    · have HP := hide hp
      clear hp
      cases hx : (sx == tx)
      · have HX := hide hx
        go_wp2_with (first | go_skip | ((with_reducible show wpList _ _ _ _ _ _); first | ((refine bx 34 (s.cs SA sa) (by rfl) rfl rfl rfl (Nat.succ_pos _) (show Hq w _ [] [] from unhide LL) ?_); intro X1 B1 hE1 L1 hb1; replace LL := hide L1; clear L1 hb1 hE1; simp only [Act.put, List.setIfInBounds_toArray, List.set_cons_succ, List.set_cons_zero]) | ((refine bx 34 (t.cs SB sb) (by rfl) rfl rfl rfl (Nat.succ_pos _) (unhide LL) ?_); intro X2 B2 hE2 L2 hb2; replace LL := hide L2; clear L2 hb2 hE2; simp only [Act.put, List.setIfInBounds_toArray, List.set_cons_succ, List.set_cons_zero]) | ((refine rd (by rfl) (ex_load1 3 Tryz.isAgg3 rfl rfl ((unhide LL).get 0 rfl) rfl) ?_); simp only [Act.put, List.setIfInBounds_toArray, List.set_cons_succ, List.set_cons_zero]) | ((refine rd (by rfl) (ex_load1 3 Tryz.isAgg3 rfl rfl ((unhide LL).get 1 rfl) rfl) ?_); simp only [Act.put, List.setIfInBounds_toArray, List.set_cons_succ, List.set_cons_zero]) | ((refine rd (by rfl) (ex_loadN (vs := s.p.cs) 31 5 rwV szV rfl rfl ((unhide LL).get 0 rfl) rfl rfl) ?_); simp only [Act.put, List.setIfInBounds_toArray, List.set_cons_succ, List.set_cons_zero]) | ((refine rd (by rfl) (ex_loadN (vs := t.p.cs) 31 5 rwV szV rfl rfl ((unhide LL).get 1 rfl) rfl rfl) ?_); simp only [Act.put, List.setIfInBounds_toArray, List.set_cons_succ, List.set_cons_zero]) | ((refine rd (by rfl) (ex_load1 4 Tryz.isAgg4 rfl rfl ((unhide LL).get 0 rfl) (unhide H6)) ?_); simp only [Act.put, List.setIfInBounds_toArray, List.set_cons_succ, List.set_cons_zero]) | ((refine rd (by rfl) (ex_load1 4 Tryz.isAgg4 rfl rfl ((unhide LL).get 1 rfl) (unhide H6b)) ?_); simp only [Act.put, List.setIfInBounds_toArray, List.set_cons_succ, List.set_cons_zero]) | ((refine rd (by rfl) (ex_load1 32 Tryz.isAgg32 rfl rfl ((unhide LL).get 0 rfl) rfl) ?_); simp only [Act.put, List.setIfInBounds_toArray, List.set_cons_succ, List.set_cons_zero]) | ((refine rd (by rfl) (ex_load1 32 Tryz.isAgg32 rfl rfl ((unhide LL).get 1 rfl) rfl) ?_); simp only [Act.put, List.setIfInBounds_toArray, List.set_cons_succ, List.set_cons_zero]) | ((refine rd (by rfl) (ex_eqI2 rfl rfl rfl hc) ?_); simp only [Act.put, List.setIfInBounds_toArray, List.set_cons_succ, List.set_cons_zero]) | ((refine rd (by rfl) (ex_eqB2 rfl rfl rfl hx) ?_); simp only [Act.put, List.setIfInBounds_toArray, List.set_cons_succ, List.set_cons_zero])))
        go_ret
        exact ⟨by rw [unhide HS, unhide HC, unhide HP, unhide HX]; rfl, (unhide LL).fr.below⟩
      · have HX := hide hx
        go_wp2_with (first | go_skip | ((with_reducible show wpList _ _ _ _ _ _); first | ((refine bx 34 (s.cs SA sa) (by rfl) rfl rfl rfl (Nat.succ_pos _) (show Hq w _ [] [] from unhide LL) ?_); intro X1 B1 hE1 L1 hb1; replace LL := hide L1; clear L1 hb1 hE1; simp only [Act.put, List.setIfInBounds_toArray, List.set_cons_succ, List.set_cons_zero]) | ((refine bx 34 (t.cs SB sb) (by rfl) rfl rfl rfl (Nat.succ_pos _) (unhide LL) ?_); intro X2 B2 hE2 L2 hb2; replace LL := hide L2; clear L2 hb2 hE2; simp only [Act.put, List.setIfInBounds_toArray, List.set_cons_succ, List.set_cons_zero]) | ((refine rd (by rfl) (ex_load1 3 Tryz.isAgg3 rfl rfl ((unhide LL).get 0 rfl) rfl) ?_); simp only [Act.put, List.setIfInBounds_toArray, List.set_cons_succ, List.set_cons_zero]) | ((refine rd (by rfl) (ex_load1 3 Tryz.isAgg3 rfl rfl ((unhide LL).get 1 rfl) rfl) ?_); simp only [Act.put, List.setIfInBounds_toArray, List.set_cons_succ, List.set_cons_zero]) | ((refine rd (by rfl) (ex_loadN (vs := s.p.cs) 31 5 rwV szV rfl rfl ((unhide LL).get 0 rfl) rfl rfl) ?_); simp only [Act.put, List.setIfInBounds_toArray, List.set_cons_succ, List.set_cons_zero]) | ((refine rd (by rfl) (ex_loadN (vs := t.p.cs) 31 5 rwV szV rfl rfl ((unhide LL).get 1 rfl) rfl rfl) ?_); simp only [Act.put, List.setIfInBounds_toArray, List.set_cons_succ, List.set_cons_zero]) | ((refine rd (by rfl) (ex_load1 4 Tryz.isAgg4 rfl rfl ((unhide LL).get 0 rfl) (unhide H6)) ?_); simp only [Act.put, List.setIfInBounds_toArray, List.set_cons_succ, List.set_cons_zero]) | ((refine rd (by rfl) (ex_load1 4 Tryz.isAgg4 rfl rfl ((unhide LL).get 1 rfl) (unhide H6b)) ?_); simp only [Act.put, List.setIfInBounds_toArray, List.set_cons_succ, List.set_cons_zero]) | ((refine rd (by rfl) (ex_load1 32 Tryz.isAgg32 rfl rfl ((unhide LL).get 0 rfl) rfl) ?_); simp only [Act.put, List.setIfInBounds_toArray, List.set_cons_succ, List.set_cons_zero]) | ((refine rd (by rfl) (ex_load1 32 Tryz.isAgg32 rfl rfl ((unhide LL).get 1 rfl) rfl) ?_); simp only [Act.put, List.setIfInBounds_toArray, List.set_cons_succ, List.set_cons_zero]) | ((refine rd (by rfl) (ex_eqI2 rfl rfl rfl hc) ?_); simp only [Act.put, List.setIfInBounds_toArray, List.set_cons_succ, List.set_cons_zero]) | ((refine rd (by rfl) (ex_eqB2 rfl rfl rfl hx) ?_); simp only [Act.put, List.setIfInBounds_toArray, List.set_cons_succ, List.set_cons_zero])))
        refine (unhide HEP _ (unhide LL).fr).mono ?_
        rintro e X9 ⟨rfl, hb9⟩
        replace LL := hide ((unhide LL).on hb9)
        clear hb9
        go_wp2
        go_ret
        exact ⟨by rw [unhide HS, unhide HC, unhide HP, unhide HX]; rfl, (unhide LL).fr.below⟩
set_option maxHeartbeats 4000000 in
set_option maxRecDepth 100000 in
theorem equalS (l m : List SH) (A B : Option Addr) (ca cb : Nat) (w : World) (hA : ReadsS w A l) (hB : ReadsS w B m) (hz : l.length ≤ 733007751850) (hT : Lib.Utf8Tabs 1 2 w) : Calls Tryz.prog 22 #[.slice A l.length ca, .slice B m.length cb, .func (.func 23) #[] #[]] w fun e w' => e = .returned (.bool (decide (l.length = m.length) && (List.range l.length).all (sameLAt l m))) ∧ Below w.heap.size w w' := by
  have LL := hide (Hq.nil w [])
  have HA := hide hA
  have HB := hide hB
  have HZ := hide hz
  have HT := hide hT
  clear hA hB hz hT
  have HS : Hid ((decide (l.length = m.length) && (List.range l.length).all (sameLAt l m)) = (decide (l.length = m.length) && (List.range l.length).all (sameLAt l m))) := hide rfl
  skip
  go_enter Tryz.func22, Tryz.ntmps22
  by_cases hl : l.length = m.length
  · have HLN := hide hl
    have HLD : Hid (decide (l.length = m.length) = true) := hide (decide_eq_true hl)
    have hln : ((l.length : Int) != (m.length : Int)) = false := by simp; omega
    clear hl
    go_wp2_with (first | go_skip | ((with_reducible show wpList _ _ _ _ _ _); first | ((refine rd (by rfl) (ex_lenG 22 34 Tryz.underlying22 rfl rfl) ?_); simp only [Act.put, List.setIfInBounds_toArray, List.set_cons_succ, List.set_cons_zero]) | ((refine rd (by rfl) (ex_neI rfl rfl rfl hln) ?_); simp only [Act.put, List.setIfInBounds_toArray, List.set_cons_succ, List.set_cons_zero])))
    go_loopg [17] l.length (fun gm s17 wr => ∃ i : Nat, s17 = .int .i64 (i : Nat) ∧ i ≤ l.length ∧ l.length - i ≤ gm ∧ Hid (∀ j, j < i → sameLAt l m j = true) ∧ Hid (Hq w wr [] []))
    case atStart => exact ⟨0, rfl, by omega, by omega, hide (fun j hj => absurd hj (Nat.not_lt_zero _)), LL⟩
    case round =>
      clear LL
      obtain ⟨i, rfl, hil, hgm, HAL, LL⟩ := hrel
      by_cases hlt : i < l.length
      · have dlt : decide ((i : Int) < (l.length : Int)) = true := decide_eq_true (by omega)
        have hw1 : IntKind.i64.wrap ((i : Int) + 1) = (i : Int) + 1 := by have := unhide HZ; rw [IntKind.wrap_i64]; omega
        have hlt2 : i < m.length := by have := unhide HLN; omega
        obtain ⟨p, hp⟩ : ∃ p, l[i]? = some p := ⟨_, List.getElem?_eq_getElem hlt⟩
        obtain ⟨q, hq⟩ : ∃ q, m[i]? = some q := ⟨_, List.getElem?_eq_getElem hlt2⟩
        obtain ⟨_, hsl, b, off, SA, sa, hAe, hb, hrp, hrg⟩ := (unhide HA) i p hp
        obtain ⟨_, _, b2, off2, SB, sb, hBe, hb2, hrp2, hrg2⟩ := (unhide HB) i q hq
        have HA1 := hide hAe
        have HB1 := hide hBe
        have HA2 : Hid (∀ X, Fr w X [] → X.rangeAt b (off + i * 8) (p.cs SA sa)) := hide (fun X hX => rangeAt_fr hrg hb hX)
        have HB2 : Hid (∀ X, Fr w X [] → X.rangeAt b2 (off2 + i * 8) (q.cs SB sb)) := hide (fun X hX => rangeAt_fr hrg2 hb2 hX)
        have HC := hide (fun (X : World) (hX : Fr w X []) => sameShape_any p q SA SB sa sb X (hrp.fr hX) (hrp2.fr hX) hsl (tabs_below (unhide HT) hX.below))
        simp only [sagg] at HC
        clear hrp hrp2 hsl
        have HAT : Hid (sameLAt l m i = (sameS p q)) := hide (by unfold sameLAt; rw [hp, hq])
        have HLT := hide hlt
        have HLT2 := hide hlt2
        clear hil hlt hlt2 hp hq hAe hBe hb hrg hb2 hrg2
        go_wp2_with (first | go_skip | ((with_reducible show wpList _ _ _ _ _ _); first | ((refine rd (by rfl) (ex_lenG 22 34 Tryz.underlying22 rfl rfl) ?_); simp only [Act.put, List.setIfInBounds_toArray, List.set_cons_succ, List.set_cons_zero]) | ((refine rd (by rfl) (ex_indexA 22 8 i unSs idSs rfl rfl (unhide HA1) rfl (unhide HLT)) ?_); simp only [Act.put, List.setIfInBounds_toArray, List.set_cons_succ, List.set_cons_zero]) | ((refine rd (by rfl) (ex_indexA 22 8 i unSs idSs rfl rfl (unhide HB1) rfl (unhide HLT2)) ?_); simp only [Act.put, List.setIfInBounds_toArray, List.set_cons_succ, List.set_cons_zero]) | ((refine rd (by rfl) (ex_loadR (vs := p.cs SA sa) 34 8 rwS szS rfl rfl (unhide HA2 _ (unhide LL).fr) rfl) ?_); simp only [Act.put, List.setIfInBounds_toArray, List.set_cons_succ, List.set_cons_zero]) | ((refine rd (by rfl) (ex_loadR (vs := q.cs SB sb) 34 8 rwS szS rfl rfl (unhide HB2 _ (unhide LL).fr) rfl) ?_); simp only [Act.put, List.setIfInBounds_toArray, List.set_cons_succ, List.set_cons_zero]) | ((refine alG 34 (zeroS.cs none 0) (by rfl) rfl (fun w => by kernel_rfl) (Nat.succ_pos _) (show Hq w _ [] [] from unhide LL) ?_); intro X6 B6 hE6 L6 hb6; have hB6 := hide (Nat.le_trans (unhide LL).fr.size (Nat.le_of_eq hE6.symm)); replace LL := hide L6; clear L6 hb6 hE6; simp only [Act.put, List.setIfInBounds_toArray, List.set_cons_succ, List.set_cons_zero]) | ((refine st (vs := p.cs SA sa) 0 34 (by rfl) rfl rfl rfl rfl (shcs_one p _ _) (szS) (unhide LL) rfl (by simp [cput, PR.cs, SH.cs, VV.cs, KK.cs, DD.cs, CO.cs, DL.cs, zeroP, zeroS, zeroD, zeroV]) (Or.inr (unhide hB6)) ?_); intro X8 L8 hf8 hs8; replace LL := hide L8; clear L8 hf8 hs8; simp only [Act.put, List.setIfInBounds_toArray, List.set_cons_succ, List.set_cons_zero]) | ((refine alG 34 (zeroS.cs none 0) (by rfl) rfl (fun w => by kernel_rfl) (Nat.succ_pos _) (unhide LL) ?_); intro X7 B7 hE7 L7 hb7; have hB7 := hide (Nat.le_trans (unhide LL).fr.size (Nat.le_of_eq hE7.symm)); replace LL := hide L7; clear L7 hb7 hE7; simp only [Act.put, List.setIfInBounds_toArray, List.set_cons_succ, List.set_cons_zero]) | ((refine st (vs := q.cs SB sb) 1 34 (by rfl) rfl rfl rfl rfl (shcs_one q _ _) (szS) (unhide LL) rfl (by simp [cput, PR.cs, SH.cs, VV.cs, KK.cs, DD.cs, CO.cs, DL.cs, zeroP, zeroS, zeroD, zeroV]) (Or.inr (unhide hB7)) ?_); intro X9 L9 hf9 hs9; replace LL := hide L9; clear L9 hf9 hs9; simp only [Act.put, List.setIfInBounds_toArray, List.set_cons_succ, List.set_cons_zero]) | ((refine rd (by rfl) (ex_loadN (vs := p.cs SA sa) 34 8 rwS szS rfl rfl ((unhide LL).get 0 rfl) rfl rfl) ?_); simp only [Act.put, List.setIfInBounds_toArray, List.set_cons_succ, List.set_cons_zero]) | ((refine rd (by rfl) (ex_loadN (vs := q.cs SB sb) 34 8 rwS szS rfl rfl ((unhide LL).get 1 rfl) rfl rfl) ?_); simp only [Act.put, List.setIfInBounds_toArray, List.set_cons_succ, List.set_cons_zero])))
        refine (unhide HC _ (unhide LL).fr).mono ?_
        rintro e Z8 ⟨rfl, hZ8⟩
        replace LL := hide ((unhide LL).on hZ8)
        clear hZ8
        cases hel : (sameS p q)
        · have HNO : Hid ((List.range l.length).all (sameLAt l m) = false) := hide (all_no (unhide HLT) (by rw [unhide HAT, hel]))
          clear hel
          go_wp2_with (first | go_skip | ((with_reducible show wpList _ _ _ _ _ _); first | ((refine rd (by rfl) (ex_lenG 22 34 Tryz.underlying22 rfl rfl) ?_); simp only [Act.put, List.setIfInBounds_toArray, List.set_cons_succ, List.set_cons_zero]) | ((refine rd (by rfl) (ex_indexA 22 8 i unSs idSs rfl rfl (unhide HA1) rfl (unhide HLT)) ?_); simp only [Act.put, List.setIfInBounds_toArray, List.set_cons_succ, List.set_cons_zero]) | ((refine rd (by rfl) (ex_indexA 22 8 i unSs idSs rfl rfl (unhide HB1) rfl (unhide HLT2)) ?_); simp only [Act.put, List.setIfInBounds_toArray, List.set_cons_succ, List.set_cons_zero]) | ((refine rd (by rfl) (ex_loadR (vs := p.cs SA sa) 34 8 rwS szS rfl rfl (unhide HA2 _ (unhide LL).fr) rfl) ?_); simp only [Act.put, List.setIfInBounds_toArray, List.set_cons_succ, List.set_cons_zero]) | ((refine rd (by rfl) (ex_loadR (vs := q.cs SB sb) 34 8 rwS szS rfl rfl (unhide HB2 _ (unhide LL).fr) rfl) ?_); simp only [Act.put, List.setIfInBounds_toArray, List.set_cons_succ, List.set_cons_zero]) | ((refine alG 34 (zeroS.cs none 0) (by rfl) rfl (fun w => by kernel_rfl) (Nat.succ_pos _) (show Hq w _ [] [] from unhide LL) ?_); intro X6 B6 hE6 L6 hb6; have hB6 := hide (Nat.le_trans (unhide LL).fr.size (Nat.le_of_eq hE6.symm)); replace LL := hide L6; clear L6 hb6 hE6; simp only [Act.put, List.setIfInBounds_toArray, List.set_cons_succ, List.set_cons_zero]) | ((refine st (vs := p.cs SA sa) 0 34 (by rfl) rfl rfl rfl rfl (shcs_one p _ _) (szS) (unhide LL) rfl (by simp [cput, PR.cs, SH.cs, VV.cs, KK.cs, DD.cs, CO.cs, DL.cs, zeroP, zeroS, zeroD, zeroV]) (Or.inr (unhide hB6)) ?_); intro X8 L8 hf8 hs8; replace LL := hide L8; clear L8 hf8 hs8; simp only [Act.put, List.setIfInBounds_toArray, List.set_cons_succ, List.set_cons_zero]) | ((refine alG 34 (zeroS.cs none 0) (by rfl) rfl (fun w => by kernel_rfl) (Nat.succ_pos _) (unhide LL) ?_); intro X7 B7 hE7 L7 hb7; have hB7 := hide (Nat.le_trans (unhide LL).fr.size (Nat.le_of_eq hE7.symm)); replace LL := hide L7; clear L7 hb7 hE7; simp only [Act.put, List.setIfInBounds_toArray, List.set_cons_succ, List.set_cons_zero]) | ((refine st (vs := q.cs SB sb) 1 34 (by rfl) rfl rfl rfl rfl (shcs_one q _ _) (szS) (unhide LL) rfl (by simp [cput, PR.cs, SH.cs, VV.cs, KK.cs, DD.cs, CO.cs, DL.cs, zeroP, zeroS, zeroD, zeroV]) (Or.inr (unhide hB7)) ?_); intro X9 L9 hf9 hs9; replace LL := hide L9; clear L9 hf9 hs9; simp only [Act.put, List.setIfInBounds_toArray, List.set_cons_succ, List.set_cons_zero]) | ((refine rd (by rfl) (ex_loadN (vs := p.cs SA sa) 34 8 rwS szS rfl rfl ((unhide LL).get 0 rfl) rfl rfl) ?_); simp only [Act.put, List.setIfInBounds_toArray, List.set_cons_succ, List.set_cons_zero]) | ((refine rd (by rfl) (ex_loadN (vs := q.cs SB sb) 34 8 rwS szS rfl rfl ((unhide LL).get 1 rfl) rfl rfl) ?_); simp only [Act.put, List.setIfInBounds_toArray, List.set_cons_succ, List.set_cons_zero])))
          go_ret
          exact ⟨by rw [unhide HLD, unhide HNO]; rfl, (unhide LL).fr.below⟩
        · have HYE := hide (upto_step (unhide HAL) (by rw [unhide HAT, hel]))
          clear hel
          go_wp2_with (first | go_skip | ((with_reducible show wpList _ _ _ _ _ _); first | ((refine rd (by rfl) (ex_lenG 22 34 Tryz.underlying22 rfl rfl) ?_); simp only [Act.put, List.setIfInBounds_toArray, List.set_cons_succ, List.set_cons_zero]) | ((refine rd (by rfl) (ex_indexA 22 8 i unSs idSs rfl rfl (unhide HA1) rfl (unhide HLT)) ?_); simp only [Act.put, List.setIfInBounds_toArray, List.set_cons_succ, List.set_cons_zero]) | ((refine rd (by rfl) (ex_indexA 22 8 i unSs idSs rfl rfl (unhide HB1) rfl (unhide HLT2)) ?_); simp only [Act.put, List.setIfInBounds_toArray, List.set_cons_succ, List.set_cons_zero]) | ((refine rd (by rfl) (ex_loadR (vs := p.cs SA sa) 34 8 rwS szS rfl rfl (unhide HA2 _ (unhide LL).fr) rfl) ?_); simp only [Act.put, List.setIfInBounds_toArray, List.set_cons_succ, List.set_cons_zero]) | ((refine rd (by rfl) (ex_loadR (vs := q.cs SB sb) 34 8 rwS szS rfl rfl (unhide HB2 _ (unhide LL).fr) rfl) ?_); simp only [Act.put, List.setIfInBounds_toArray, List.set_cons_succ, List.set_cons_zero]) | ((refine alG 34 (zeroS.cs none 0) (by rfl) rfl (fun w => by kernel_rfl) (Nat.succ_pos _) (show Hq w _ [] [] from unhide LL) ?_); intro X6 B6 hE6 L6 hb6; have hB6 := hide (Nat.le_trans (unhide LL).fr.size (Nat.le_of_eq hE6.symm)); replace LL := hide L6; clear L6 hb6 hE6; simp only [Act.put, List.setIfInBounds_toArray, List.set_cons_succ, List.set_cons_zero]) | ((refine st (vs := p.cs SA sa) 0 34 (by rfl) rfl rfl rfl rfl (shcs_one p _ _) (szS) (unhide LL) rfl (by simp [cput, PR.cs, SH.cs, VV.cs, KK.cs, DD.cs, CO.cs, DL.cs, zeroP, zeroS, zeroD, zeroV]) (Or.inr (unhide hB6)) ?_); intro X8 L8 hf8 hs8; replace LL := hide L8; clear L8 hf8 hs8; simp only [Act.put, List.setIfInBounds_toArray, List.set_cons_succ, List.set_cons_zero]) | ((refine alG 34 (zeroS.cs none 0) (by rfl) rfl (fun w => by kernel_rfl) (Nat.succ_pos _) (unhide LL) ?_); intro X7 B7 hE7 L7 hb7; have hB7 := hide (Nat.le_trans (unhide LL).fr.size (Nat.le_of_eq hE7.symm)); replace LL := hide L7; clear L7 hb7 hE7; simp only [Act.put, List.setIfInBounds_toArray, List.set_cons_succ, List.set_cons_zero]) | ((refine st (vs := q.cs SB sb) 1 34 (by rfl) rfl rfl rfl rfl (shcs_one q _ _) (szS) (unhide LL) rfl (by simp [cput, PR.cs, SH.cs, VV.cs, KK.cs, DD.cs, CO.cs, DL.cs, zeroP, zeroS, zeroD, zeroV]) (Or.inr (unhide hB7)) ?_); intro X9 L9 hf9 hs9; replace LL := hide L9; clear L9 hf9 hs9; simp only [Act.put, List.setIfInBounds_toArray, List.set_cons_succ, List.set_cons_zero]) | ((refine rd (by rfl) (ex_loadN (vs := p.cs SA sa) 34 8 rwS szS rfl rfl ((unhide LL).get 0 rfl) rfl rfl) ?_); simp only [Act.put, List.setIfInBounds_toArray, List.set_cons_succ, List.set_cons_zero]) | ((refine rd (by rfl) (ex_loadN (vs := q.cs SB sb) 34 8 rwS szS rfl rfl ((unhide LL).get 1 rfl) rfl rfl) ?_); simp only [Act.put, List.setIfInBounds_toArray, List.set_cons_succ, List.set_cons_zero])))
          replace LL := hide (Hq.left (L := []) (unhide LL))
          go_roundg (l.length - (i + 1))
          case measure => have := unhide HLT; omega
          case rel => exact ⟨i + 1, by go_num, by have := unhide HLT; omega, by omega, HYE, LL⟩
      · obtain rfl : i = l.length := by omega
        clear hlt hil
        have HYS : Hid ((List.range l.length).all (sameLAt l m) = true) := hide (all_yes (unhide HAL))
        go_wp2_with (first | go_skip | ((with_reducible show wpList _ _ _ _ _ _); first | ((refine rd (by rfl) (ex_lenG 22 34 Tryz.underlying22 rfl rfl) ?_); simp only [Act.put, List.setIfInBounds_toArray, List.set_cons_succ, List.set_cons_zero])))
        go_ret
        exact ⟨by rw [unhide HLD, unhide HYS]; rfl, (unhide LL).fr.below⟩
  · have HLD : Hid (decide (l.length = m.length) = false) := hide (decide_eq_false hl)
    have hln : ((l.length : Int) != (m.length : Int)) = true := by simp; omega
    clear hl
    go_wp2_with (first | go_skip | ((with_reducible show wpList _ _ _ _ _ _); first | ((refine rd (by rfl) (ex_lenG 22 34 Tryz.underlying22 rfl rfl) ?_); simp only [Act.put, List.setIfInBounds_toArray, List.set_cons_succ, List.set_cons_zero]) | ((refine rd (by rfl) (ex_neI rfl rfl rfl hln) ?_); simp only [Act.put, List.setIfInBounds_toArray, List.set_cons_succ, List.set_cons_zero])))
    go_ret
    exact ⟨by rw [unhide HLD]; rfl, (unhide LL).fr.below⟩
set_option maxRecDepth 100000 in
theorem invSame_any (l m : List SH) (A B : Option Addr) (ca cb : Nat) (w : World) (hA : ReadsS w A l) (hB : ReadsS w B m) (hz : l.length ≤ 733007751850) (hT : Lib.Utf8Tabs 1 2 w) : Calls Tryz.prog 9 #[.slice A l.length ca, .slice B m.length cb] w fun e w' => e = .returned (.bool (sameL l m)) ∧ Below w.heap.size w w' := by
  have HE := hide (equalS l m A B ca cb w hA hB hz hT)
  clear hA hB hz hT
  go_enter Tryz.func9, Tryz.ntmps9
  go_wp2_with fail
  refine (unhide HE).mono ?_
  rintro e X8 ⟨rfl, hb8⟩
  have HB := hide hb8
  clear hb8
  go_wp2
  go_ret
  exact ⟨rfl, unhide HB⟩
end Go.Proofs.YtcflglloopgieaaGreatDoor

/-! Il -/
namespace Go.Proofs.YtcflglloopgieaaGreatDoor
open Go Go.Proofs Go.Maps Go.RowKit FM
set_option linter.unusedSimpArgs false
set_option linter.unusedVariables false
set_option maxHeartbeats 1000000
theorem r7 {w : World} {b p : Nat} {s : SH} {SA : Option Addr} {sc : Nat} (h : w.rangeAt b p (s.cs SA sc)) : w.cell? ⟨b, p + 7, none⟩ = some (.slice SA s.ps.length sc) := h 7 _ rfl
def sumT (l : List SH) : Nat → Nat
  | 0 => 0
  | i + 1 => sumT l i + (l.getD i zeroS).ps.length
def FewPost (w : World) (l : List SH) (e : Ending) (X : World) : Prop := ∃ r : Bool, e = .returned (.bool r) ∧ (r = true → l.length ≤ 60 ∧ ∀ s ∈ l, s.ps.length ≤ 400) ∧ Below w.heap.size w X
theorem sumT_le {l : List SH} : ∀ {n i : Nat}, i < n → (l.getD i zeroS).ps.length ≤ sumT l n
  | 0, i, h => absurd h (Nat.not_lt_zero _)
  | n + 1, i, h => by
    rcases Nat.lt_succ_iff_lt_or_eq.1 h with h1 | h1
    · exact Nat.le_trans (sumT_le h1) (Nat.le_add_right _ _)
    · subst h1
      exact Nat.le_add_left _ _
theorem few_all {l : List SH} (h1 : l.length ≤ 60) (h2 : sumT l l.length ≤ 400) : ∀ s ∈ l, s.ps.length ≤ 400 := fun s hs => by
  obtain ⟨j, hj⟩ := List.getElem?_of_mem hs
  obtain ⟨hl, he⟩ := List.getElem?_eq_some_iff.1 hj
  have := sumT_le (l := l) hl
  rw [show l.getD j zeroS = s by simp [hj]] at this
  omega
set_option maxRecDepth 100000 in
theorem few_any (A : Option Addr) (cap : Nat) (l : List SH) (w : World) (hR : ReadsS w A l) : Calls Tryz.prog 5 #[.slice A l.length cap] w (FewPost w l) := by
  have LL := hide (Hq.nil w [])
  have HR := hide hR
  clear hR
  go_enter Tryz.func5, Tryz.ntmps5
  go_wp2_with (first | go_skip | ((with_reducible show wpList _ _ _ _ _ _); first | ((refine rd (by rfl) (ex_lenG 22 34 Tryz.underlying22 rfl rfl) ?_); simp only [Act.put, List.setIfInBounds_toArray, List.set_cons_succ, List.set_cons_zero])))
  go_loopg [3, 4] 61 (fun gm s3 s4 wr => ∃ i : Nat, s4 = .int .i64 (i : Nat) ∧ s3 = .int .i64 (sumT l i : Nat) ∧ i ≤ l.length ∧ i ≤ 61 ∧ 61 - i ≤ gm ∧ sumT l i ≤ 733007751850 * i ∧ Hid (Hq w wr [] []))
  case atStart => exact ⟨0, rfl, rfl, by omega, by omega, by omega, by simp [sumT], LL⟩
  case round =>
    clear LL
    obtain ⟨i, rfl, rfl, hil, hi6, hgm, hsm, LL⟩ := hrel
    by_cases hlt : i < l.length ∧ i ≤ 60
    · obtain ⟨hlt, h60⟩ := hlt
      have dlt : decide ((i : Int) < (l.length : Int)) = true := decide_eq_true (by omega)
      have d60 : decide ((i : Int) ≤ 60) = true := decide_eq_true (by omega)
      have hw1 : IntKind.i64.wrap ((i : Int) + 1) = (i : Int) + 1 := by rw [IntKind.wrap_i64]; omega
      obtain ⟨s, hs⟩ : ∃ s, l[i]? = some s := ⟨_, List.getElem?_eq_getElem hlt⟩
      obtain ⟨_, hsl, b, off, SA, sc, hA, hb, _, hrg⟩ := (unhide HR) i s hs
      have HA := hide hA
      have H7 : Hid (∀ X, Fr w X [] → X.cell? ⟨b, off + i * 8 + 7, none⟩ = some (.slice SA s.ps.length sc)) := hide (fun X hX => r7 (rangeAt_fr hrg hb hX))
      have hs1 : sumT l (i + 1) = sumT l i + s.ps.length := by rw [sumT, show l.getD i zeroS = s by simp [hs]]
      have hw2 : IntKind.i64.wrap ((sumT l i : Int) + (s.ps.length : Int)) = (sumT l (i + 1) : Nat) := by rw [hs1, IntKind.wrap_i64]; omega
      have hsm2 : sumT l (i + 1) ≤ 733007751850 * (i + 1) := by rw [hs1]; omega
      have HLT := hide hlt
      have H60 := hide h60
      have HS2 := hide hsm2
      clear hA hb hrg hs hs1 hsl hlt hil hi6 h60 hsm hsm2
      go_wp2_with (first | go_skip | ((with_reducible show wpList _ _ _ _ _ _); first | ((refine rd (by rfl) (ex_lenG 22 34 Tryz.underlying22 rfl rfl) ?_); simp only [Act.put, List.setIfInBounds_toArray, List.set_cons_succ, List.set_cons_zero]) | ((refine rd (by rfl) (ex_indexA 22 8 i unSs idSs rfl rfl (unhide HA) rfl (unhide HLT)) ?_); simp only [Act.put, List.setIfInBounds_toArray, List.set_cons_succ, List.set_cons_zero]) | ((refine rd (by rfl) (ex_loadC 32 Tryz.isAgg32 rfl rfl (unhide H7 _ (unhide LL).fr)) ?_); simp only [Act.put, List.setIfInBounds_toArray, List.set_cons_succ, List.set_cons_zero]) | ((refine rd (by rfl) (ex_lenG 32 61 Tryz.underlying32 rfl rfl) ?_); simp only [Act.put, List.setIfInBounds_toArray, List.set_cons_succ, List.set_cons_zero]) | ((refine rd (by rfl) (ex_addI rfl rfl rfl hw2) ?_); simp only [Act.put, List.setIfInBounds_toArray, List.set_cons_succ, List.set_cons_zero])))
      go_roundg (61 - (i + 1))
      case measure => have := unhide H60; omega
      case rel => exact ⟨i + 1, by go_num, rfl, by have := unhide HLT; omega, by have := unhide H60; omega, by omega, unhide HS2, LL⟩
    · by_cases hll : i < l.length
      · have e61 : i = 61 := by omega
        subst e61
        have d1 : decide ((61 : Int) < (l.length : Int)) = true := decide_eq_true (by omega)
        have d2 : decide ((l.length : Int) ≤ 60) = false := decide_eq_false (by omega)
        clear hlt hil hi6 hgm hsm hll
        go_wp2_with (first | go_skip | ((with_reducible show wpList _ _ _ _ _ _); first | ((refine rd (by rfl) (ex_lenG 22 34 Tryz.underlying22 rfl rfl) ?_); simp only [Act.put, List.setIfInBounds_toArray, List.set_cons_succ, List.set_cons_zero])))
        go_ret
        exact ⟨false, by simp, by simp, (unhide LL).fr.below⟩
      · obtain rfl : i = l.length := by omega
        clear hlt hil hll
        by_cases h60 : l.length ≤ 60
        · have d2 : decide ((l.length : Int) ≤ 60) = true := decide_eq_true (by omega)
          have hd : decide ((sumT l l.length : Int) ≤ 400) = decide (sumT l l.length ≤ 400) := by by_cases h : sumT l l.length ≤ 400 <;> simp [h] <;> omega
          have HF := hide (few_all h60)
          have H6 := hide h60
          clear h60 hgm hsm hi6
          generalize sumT l l.length = n at *
          go_wp2_with (first | go_skip | ((with_reducible show wpList _ _ _ _ _ _); first | ((refine rd (by rfl) (ex_lenG 22 34 Tryz.underlying22 rfl rfl) ?_); simp only [Act.put, List.setIfInBounds_toArray, List.set_cons_succ, List.set_cons_zero])))
          go_ret
          exact ⟨decide (n ≤ 400), by simp [hd], fun h => ⟨unhide H6, unhide HF (by simpa using h)⟩, (unhide LL).fr.below⟩
        · have d2 : decide ((l.length : Int) ≤ 60) = false := decide_eq_false (by omega)
          clear h60 hgm hsm hi6
          go_wp2_with (first | go_skip | ((with_reducible show wpList _ _ _ _ _ _); first | ((refine rd (by rfl) (ex_lenG 22 34 Tryz.underlying22 rfl rfl) ?_); simp only [Act.put, List.setIfInBounds_toArray, List.set_cons_succ, List.set_cons_zero])))
          go_ret
          exact ⟨false, by simp, by simp, (unhide LL).fr.below⟩
theorem num11 (n : Int) (w : World) : Calls Tryz.prog 17 #[.int .i64 n] w fun e w' => e = .returned (.int .i64 n) ∧ w' = w := by
  go_enter Tryz.func17, Tryz.ntmps17
  go_wp2
  go_ret
  exact ⟨rfl, rfl⟩
end Go.Proofs.YtcflglloopgieaaGreatDoor

/-! Iz -/
namespace Go.Proofs.YtcflglloopgieaaGreatDoor
open Go Go.Proofs Go.Maps Go.RowKit FM
set_option linter.unusedSimpArgs false
set_option linter.unusedVariables false
set_option maxHeartbeats 1000000
theorem own_cap {w : World} {base e sz n : Nat} {A : Option Addr} {c : Nat} {xs : List Value} (h : w.ownsRow base e sz (.slice A n c) n xs) : n ≤ c := by
  rcases h.2 with ⟨h1, h2⟩ | ⟨g, cap, cur, h1, _, _, h2, _⟩
  · rw [h2]; exact Nat.zero_le _
  · cases h1
    exact h2
def CopyPost (w : World) (l : List SH) (e : Ending) (X : World) : Prop := ∃ (A : Option Addr) (c : Nat) (cl : List CE), e = .returned (.slice A l.length c) ∧ CRow w X l (.slice A l.length c) cl ∧ cl.length = l.length ∧ ∀ e ∈ cl, e.s.ps.length ≤ e.cap
theorem ReadsT.fr {w X : World} {A : Option Addr} {l : List SH} (h : ReadsT w A l) (hf : Fr w X []) : ReadsT X A l := fun j s hs => by
  obtain ⟨h1, h2, b, off, SA, cap, h3, h4, h5, h6, h7⟩ := h j s hs
  exact ⟨h1, h2, b, off, SA, cap, h3, Nat.lt_of_lt_of_le h4 hf.size, h5.fr hf, rangeAt_fr h6 h4 hf, h7⟩
theorem copy_readsS {w X : World} {l : List SH} {A : Option Addr} {c : Nat} {cl : List CE} (h : CRow w X l (.slice A l.length c) cl) (hl : cl.length = l.length) (hx : ∀ (j : Nat) (s : SH), l[j]? = some s → s.p.x < 2 ^ 64 ∧ s.ps.length ≤ 733007751850) : ReadsS X A l := fun j s hs => by
  have hj : j < cl.length := by
    rw [hl]
    exact (List.getElem?_eq_some_iff.1 hs).1
  have he : cl[j]? = some cl[j] := List.getElem?_eq_getElem hj
  obtain ⟨h1, h2⟩ := h.all j _ he
  have e1 : cl[j].s = s := Option.some.inj (h1.symm.trans hs)
  obtain ⟨g, c2, h3, h4, h5, h6⟩ := own_row ce_length h.own rfl j hj
  obtain ⟨hA, _⟩ : A = some ⟨g, 0, none⟩ ∧ _ := by simpa using h3
  have h7 : X.rangeAt g (0 + j * 8) (s.cs cl[j].A cl[j].cap) := e1 ▸ h6
  obtain ⟨x2, x3⟩ := hx j s hs
  exact ⟨x2, x3, g, 0, cl[j].A, cl[j].cap, hA, h5, e1 ▸ h2, h7⟩
set_option maxHeartbeats 4000000 in
set_option maxRecDepth 100000 in
theorem copy_any (A : Option Addr) (cap : Nat) (l : List SH) (w : World) (hR : ReadsT w A l) (hn : l.length ≤ 1000) : Calls Tryz.prog 6 #[.slice A l.length cap] w (CopyPost w l) := by
  have HR := hide hR
  have HN := hide hn
  clear hR hn
  go_enter Tryz.func6, Tryz.ntmps6
  go_wp2_with (first | go_skip | ((with_reducible show wpList _ _ _ _ _ _); first | ((refine rd (by rfl) (ex_lenG 22 34 Tryz.underlying22 rfl rfl) ?_); simp only [Act.put, List.setIfInBounds_toArray, List.set_cons_succ, List.set_cons_zero])))
  go_loopg [3, 4] l.length (fun gm s3 s4 wr => ∃ (i : Nat) (cl : List CE), s4 = .int .i64 (i : Nat) ∧ i ≤ l.length ∧ l.length - i ≤ gm ∧ cl.length = i ∧ Hid (∀ e ∈ cl, e.s.ps.length ≤ e.cap) ∧ Hid (CRow w wr l s3 cl))
  case atStart => exact ⟨0, [], rfl, by omega, by omega, rfl, hide (by simp), hide (CRow.nil w l)⟩
  case round =>
    obtain ⟨i, cl, rfl, hil, hgm, hcl, HCC, HC⟩ := hrel
    by_cases hlt : i < l.length
    · have dlt : decide ((i : Int) < (l.length : Int)) = true := decide_eq_true (by omega)
      have hw1 : IntKind.i64.wrap ((i : Int) + 1) = (i : Int) + 1 := by have := unhide HN; rw [IntKind.wrap_i64]; omega
      obtain ⟨s, hs⟩ : ∃ s, l[i]? = some s := ⟨_, List.getElem?_eq_getElem hlt⟩
      obtain ⟨hx64, hz, b, off, SA, sc, hA, hb, hps, hrg, hc0⟩ := (unhide HR) i s hs
      have HA1 := hide hA
      have HA2 : Hid (∀ X, Fr w X [] → X.rangeAt b (off + i * 8) (s.cs SA sc)) := hide (fun X hX => rangeAt_fr hrg hb hX)
      have HPS := hide hps
      have HZ := hide hz
      have HC0 := hide hc0
      have HLT := hide hlt
      have HS : Hid (l[cl.length]? = some s) := hide (by rw [hcl]; exact hs)
      have HOKP : Hid (∀ p ∈ s.ps, OkP p) := hide (fun p hp => by
        obtain ⟨j, hj⟩ := List.getElem?_of_mem hp
        exact (hps j p hj).1)
      have HF := hide (unhide HC).fr
      have LL := hide (Hq.nil wr [])
      clear hA hb hrg hps hz hc0 hx64 hs hlt hil
      go_wp2_with (first | go_skip | ((with_reducible show wpList _ _ _ _ _ _); first | ((refine rd (by rfl) (ex_lenG 22 34 Tryz.underlying22 rfl rfl) ?_); simp only [Act.put, List.setIfInBounds_toArray, List.set_cons_succ, List.set_cons_zero]) | ((refine rd (by rfl) (ex_indexA 22 8 i unSs idSs rfl rfl (unhide HA1) rfl (unhide HLT)) ?_); simp only [Act.put, List.setIfInBounds_toArray, List.set_cons_succ, List.set_cons_zero]) | ((refine rd (by rfl) (ex_loadR (vs := s.cs SA sc) 34 8 rwS szS rfl rfl (unhide HA2 _ ((unhide HF).trans (unhide LL).fr (by simp))) rfl) ?_); simp only [Act.put, List.setIfInBounds_toArray, List.set_cons_succ, List.set_cons_zero]) | ((refine alG 34 (zeroS.cs none 0) (by rfl) rfl (fun w => by kernel_rfl) (Nat.succ_pos _) (unhide LL) ?_); intro X5 B5 hE5 L5 hb5; have hB5 := hide (Nat.le_trans (unhide LL).fr.size (Nat.le_of_eq hE5.symm)); replace LL := hide L5; clear L5 hb5 hE5; simp only [Act.put, List.setIfInBounds_toArray, List.set_cons_succ, List.set_cons_zero]) | ((refine st (vs := s.cs SA sc) 0 34 (by rfl) rfl rfl rfl rfl (shcs_one s SA sc) (szS) (unhide LL) rfl (by simp [cput, PR.cs, SH.cs, VV.cs, KK.cs, DD.cs, CO.cs, DL.cs, zeroP, zeroS, zeroD, zeroV]) (Or.inr (unhide hB5)) ?_); intro X6 L6 hf6 hs6; replace LL := hide L6; clear L6 hf6 hs6; simp only [Act.put, List.setIfInBounds_toArray, List.set_cons_succ, List.set_cons_zero]) | ((refine noneG 32 61 20 wr.heap.size (unhide LL).fr.size (by rfl) rfl none26 ?_); intro X7 B7 hE7 hO7 hb7; have HO : Hid (X7.ownsRow wr.heap.size 61 20 (.slice (some ⟨B7, 0, none⟩) 0 0) 0 [] ∧ B5 ≠ B7 ∧ wr.heap.size ≤ B7) := hide ⟨hO7, Nat.ne_of_lt (Nat.lt_of_lt_of_le ((unhide LL).lt _ (List.mem_singleton.2 rfl)) (Nat.le_of_eq hE7.symm)), Nat.le_trans (unhide LL).fr.size (Nat.le_of_eq hE7.symm)⟩; replace LL := hide ((unhide LL).on hb7); clear hE7 hO7 hb7; simp only [Act.put, List.setIfInBounds_toArray, List.set_cons_succ, List.set_cons_zero]) | ((refine rd (by rfl) (ex_load1 32 Tryz.isAgg32 rfl rfl ((unhide LL).get 0 rfl) rfl) ?_); simp only [Act.put, List.setIfInBounds_toArray, List.set_cons_succ, List.set_cons_zero]) | ((refine app_P (l := s.ps) (av := B5) (base := wr.heap.size) (by rfl) rfl rfl rfl (unhide HO).1 ((unhide HPS).fr ((unhide HF).trans (unhide LL).fr (by simp))) (unhide HC0) (unhide HZ) (unhide LL).fr.size (Ne.symm (unhide HO).2.1) ((unhide LL).lt _ (List.mem_singleton.2 rfl)) ?_); intro A8 c8 X8 hO8 hf8 hNB8; have LL8 := (unhide LL).step hf8 (fun b hb => .inr (by obtain rfl : b = B7 := (by simpa using hb); exact (unhide HO).2.2)) (fun q hq => by obtain rfl : q = _ := List.mem_singleton.1 hq; intro hm; exact (unhide HO).2.1 (by simpa using hm)); have HNB : Hid (∀ g, (Value.slice A8 s.ps.length c8).ownBlock = some g → g ∉ [B5]) := hide (fun g hg hm => absurd (hNB8 g hg) (by obtain rfl : g = B5 := (by simpa using hm); exact fun h => h rfl)); replace HO := hide hO8; replace LL := hide LL8; clear LL8 hO8 hf8 hNB8; simp only [Act.put, List.setIfInBounds_toArray, List.set_cons_succ, List.set_cons_zero]) | ((refine st (vs := [.slice A8 s.ps.length c8]) 0 32 (by rfl) rfl rfl rfl rfl (by simp [Value.oneCell']) szPs (unhide LL) rfl (by simp [cput, SH.cs, VV.cs, zeroS]) (Or.inr (unhide hB5)) ?_); intro X9 L9 hf9 hs9; have HO9 : Hid (X9.ownsRow wr.heap.size 61 20 (.slice A8 s.ps.length c8) s.ps.length (flatP s.ps) ∧ True) := hide ⟨own_blk (unhide HO) (fun g hg => hf9.block g (World.ownsRow.lt (unhide HO) g hg).2 (unhide HNB g hg)), trivial⟩; replace LL := hide L9; clear L9 hf9 hs9 HO; simp only [Act.put, List.setIfInBounds_toArray, List.set_cons_succ, List.set_cons_zero]) | ((refine rd (by rfl) (ex_loadN (vs := s.cs A8 c8) 34 8 rwS szS rfl rfl ((unhide LL).get 0 rfl) rfl rfl) ?_); simp only [Act.put, List.setIfInBounds_toArray, List.set_cons_succ, List.set_cons_zero]) | ((refine build_any (z := zeroS.agg none 0) (size := 8) (bytes := 88) (cs := s.cs A8 c8) (by rfl) rfl rfl Tryz.underlying22 inf28 (by omega) rfl rfl (by omega) (unhide LL) ?_); intro X10 B10 hE10 L10 hb10; replace HO9 := hide (And.intro (own_fr (unhide HO9).1 (Fr.of_below hb10 [])) trivial); replace LL := hide L10; clear L10 hb10 hE10; simp only [Act.put, List.setIfInBounds_toArray, List.set_cons_succ, List.set_cons_zero]) | ((with_reducible refine append_any (z := zeroS.agg none 0) (size := 8) (bytes := 88) (n := cl.length) (m := 1) (base := w.heap.size) (news := s.cs A8 c8) (by rfl) rfl rfl rfl Tryz.underlying22 inf28 rfl (by omega) (own_fr (unhide HC).own (unhide LL).fr) ((unhide LL).get 1 rfl) rfl (shcs_one s A8 c8) (by have := unhide HN; have := unhide HLT; omega) (by omega) (Nat.le_trans (unhide HF).size (unhide LL).fr.size) ?_); intro A11 c11 X11 hO11 hg11 hF11; have HCP := hide (own_cap (unhide HO9).1); have HNEW : Hid (CRow w X11 l (.slice A11 (cl.length + 1) c11) (cl ++ [⟨s, A8, c8⟩])) := hide (CRow.snoc ((unhide HC).on (unhide LL).fr) hO11 hg11 hF11 (unhide HS) (own_readsP (unhide HOKP) (unhide HO9).1) (fun b o hb => by subst hb; have h1 := World.ownsRow.lt (unhide HO9).1 b rfl; refine ⟨h1.2, fun h2 => ?_⟩; have h3 := World.ownsRow.lt (unhide HC).own b h2; omega)); clear hO11 hg11 hF11 HO9 LL; simp only [Act.put, List.setIfInBounds_toArray, List.set_cons_succ, List.set_cons_zero])))
      go_roundg (l.length - (i + 1))
      case measure => have := unhide HLT; omega
      case rel => exact ⟨i + 1, cl ++ [⟨s, A8, c8⟩], by go_num, by have := unhide HLT; omega, by omega, by rw [List.length_append, hcl]; rfl, hide (fun e he => by rcases List.mem_append.1 he with h | h; exact (unhide HCC) e h; obtain rfl : e = ⟨s, A8, c8⟩ := (by simpa using h); exact unhide HCP), HNEW⟩
    · obtain rfl : i = l.length := by omega
      obtain ⟨Ac, cc, hf⟩ := own_form (unhide HC).own
      rw [hcl] at hf
      subst hf
      clear hlt hil
      go_wp2_with (first | go_skip | ((with_reducible show wpList _ _ _ _ _ _); first | ((refine rd (by rfl) (ex_lenG 22 34 Tryz.underlying22 rfl rfl) ?_); simp only [Act.put, List.setIfInBounds_toArray, List.set_cons_succ, List.set_cons_zero])))
      go_ret
      exact ⟨Ac, cc, cl, rfl, unhide HC, hcl, unhide HCC⟩
end Go.Proofs.YtcflglloopgieaaGreatDoor

/-! Kf -/
namespace Go.Proofs.YtcflglloopgieaaGreatDoor
open Go Go.Proofs Go.Maps Go.RowKit FM
set_option linter.unusedSimpArgs false
set_option linter.unusedVariables false
set_option maxHeartbeats 1000000
theorem eqB_self' (v : VV) : eqB v v = true := by simp [eqB]
theorem eqD_selfN (d : DD) : eqDD d d = true := by simp [eqDD, eqB_self']
theorem samePs_self (l : List PR) : samePs l l = true := all_yes (fun j hj => by
  unfold sameAt
  rw [List.getElem?_eq_getElem hj]
  simp [eqD_selfN])
theorem sameS_self (s : SH) : sameS s s = true := by simp [sameS, eqB_self', samePs_self]
theorem sameL_self (l : List SH) : sameL l l = true := by
  unfold sameL
  rw [all_yes (fun j hj => by
    unfold sameLAt
    rw [List.getElem?_eq_getElem hj]
    simp [sameS_self])]
  simp
theorem bfr {w X : World} (h : Below w.heap.size w X) : Fr w X [] := Fr.of_below h []
theorem Hq.far0 {w X Y : World} (h : Hq w X [] []) (k : Fr X Y []) : Hq w Y [] [] := h.step k (by simp) (by simp)
set_option maxHeartbeats 4000000 in
set_option maxRecDepth 100000 in
theorem law_broken (A B : Option Addr) (ca cb : Nat) (la lb : List SH) (w : World) (hA : ReadsT w A la) (hB : ReadsT w B lb) (hT : Lib.Utf8Tabs 1 2 w) : Calls Tryz.prog 3 #[.slice A la.length ca, .slice B lb.length cb] w fun e w' => e = .returned (.bool true) ∧ Below w.heap.size w w' := by
  have LL := hide (Hq.nil w [])
  have HT := hide hT
  have HA := hide hA
  have HB := hide hB
  clear hT hA hB
  go_enter Tryz.func3, Tryz.ntmps3
  go_wp2_with fail
  refine (few_any A ca la _ ((unhide HA).s.fr (unhide LL).fr)).mono ?_
  rintro e Yla ⟨qla, rfl, hqla, hYla⟩
  have HQla := hide hqla
  replace LL := hide ((unhide LL).on hYla)
  clear hqla hYla
  cases qla
  · go_wp2
    go_ret
    exact ⟨by simp, (unhide LL).fr.below⟩
  · replace HQla := hide (unhide HQla rfl)
    go_wp2_with fail
    refine (few_any B cb lb _ ((unhide HB).s.fr (unhide LL).fr)).mono ?_
    rintro e Ylb ⟨qlb, rfl, hqlb, hYlb⟩
    have HQlb := hide hqlb
    replace LL := hide ((unhide LL).on hYlb)
    clear hqlb hYlb
    cases qlb
    · go_wp2
      go_ret
      exact ⟨by simp, (unhide LL).fr.below⟩
    · replace HQlb := hide (unhide HQlb rfl)
      go_wp2_with fail
      refine (copy_any A ca la _ ((unhide HA).fr (unhide LL).fr) (by have := (unhide HQla).1; omega)).mono ?_
      rintro e C1 ⟨A1, c1, cl1, rfl, hcr, hcl, hcc⟩
      have hF := hcr.fr
      replace LL := hide ((unhide LL).far0 hF)
      have HU1 := hide (copy_readsS hcr hcl (fun j s hs => ⟨((unhide HA) j s hs).1, ((unhide HA) j s hs).2.1⟩))
      clear hcr hcl hcc hF
      go_wp2_with fail
      refine (copy_any B cb lb _ ((unhide HB).fr (unhide LL).fr) (by have := (unhide HQlb).1; omega)).mono ?_
      rintro e C2 ⟨A2, c2, cl2, rfl, hcr, hcl, hcc⟩
      have hF := hcr.fr
      replace LL := hide ((unhide LL).far0 hF)
      replace HU1 := hide ((unhide HU1).fr hF)
      have HU2 := hide (copy_readsS hcr hcl (fun j s hs => ⟨((unhide HB) j s hs).1, ((unhide HB) j s hs).2.1⟩))
      clear hcr hcl hcc hF
      go_wp2_with fail
      refine (broken_any A1 A2 c1 c2 la lb _ (unhide HU1) (unhide HU2) (by have := (unhide HQla).1; omega) (by have := (unhide HQlb).1; omega) (tabs_below (unhide HT) (unhide LL).fr.below)).mono ?_
      rintro e D1 ⟨o1, r1, rfl, hbr, hb⟩
      have hF := bfr hb
      replace LL := hide ((unhide LL).far0 hF)
      replace HU1 := hide ((unhide HU1).fr hF)
      replace HU2 := hide ((unhide HU2).fr hF)
      have HBR := hide hbr
      clear hbr
      clear hF hb
      go_wp2_with fail
      refine (ref_broken A B ca cb la lb _ ((unhide HA).s.fr (unhide LL).fr) ((unhide HB).s.fr (unhide LL).fr) (by have := (unhide HQla).1; omega)).mono ?_
      rintro e D2 ⟨o2, r2, rfl, hbr, hb⟩
      have hF := bfr hb
      replace LL := hide ((unhide LL).far0 hF)
      replace HU1 := hide ((unhide HU1).fr hF)
      replace HU2 := hide ((unhide HU2).fr hF)
      obtain ⟨he, hr⟩ := (unhide HBR).same hbr
      obtain rfl := he
      obtain rfl := hr
      clear hbr
      clear hF hb
      have hne : (o2 != o2) = false := by simp
      have hne2 : (r2 != r2) = false := by simp
      clear HBR
      go_wp2_with (first | go_skip | ((with_reducible show wpList _ _ _ _ _ _); first | ((refine rd (by rfl) (ex_neI rfl rfl rfl hne) ?_); simp only [Act.put, List.setIfInBounds_toArray, List.set_cons_succ, List.set_cons_zero]) | ((refine rd (by rfl) (ex_neI rfl rfl rfl hne2) ?_); simp only [Act.put, List.setIfInBounds_toArray, List.set_cons_succ, List.set_cons_zero])))
      refine (invSame_any la lb A1 A2 c1 c2 _ (unhide HU1) (unhide HU2) (by have := (unhide HQla).1; omega) (tabs_below (unhide HT) (unhide LL).fr.below)).mono ?_
      rintro e S1 ⟨rfl, hb⟩
      have hF := bfr hb
      replace LL := hide ((unhide LL).far0 hF)
      replace HU1 := hide ((unhide HU1).fr hF)
      replace HU2 := hide ((unhide HU2).fr hF)
      clear hF hb
      go_wp2_with fail
      refine (refSameL la lb A B ca cb _ ((unhide HA).s.fr (unhide LL).fr) ((unhide HB).s.fr (unhide LL).fr) (by have := (unhide HQla).1; omega)).mono ?_
      rintro e S2 ⟨rfl, hb⟩
      have hF := bfr hb
      replace LL := hide ((unhide LL).far0 hF)
      replace HU1 := hide ((unhide HU1).fr hF)
      replace HU2 := hide ((unhide HU2).fr hF)
      clear hF hb
      generalize sameL la lb = q at *
      have hnq : (q != q) = false := by simp
      have hcq : q = q := rfl
      clear hcq
      go_wp2_with (first | go_skip | ((with_reducible show wpList _ _ _ _ _ _); first | ((refine rd (by rfl) (ex_neB2 rfl rfl rfl hnq) ?_); simp only [Act.put, List.setIfInBounds_toArray, List.set_cons_succ, List.set_cons_zero])))
      have HWZ := hide (unhide LL).fr
      have HA2 := hide ((unhide HA).s.fr (unhide LL).fr)
      have HB2 := hide ((unhide HB).s.fr (unhide LL).fr)
      replace LL := hide (Hq.nil S2 [])
      go_loopg [11] la.length (fun gm s11 wr => ∃ i : Nat, s11 = .int .i64 (i : Nat) ∧ i ≤ la.length ∧ la.length - i ≤ gm ∧ Hid (Hq S2 wr [] []))
      case atStart => exact ⟨0, rfl, by omega, by omega, LL⟩
      case round =>
        clear LL
        obtain ⟨i, rfl, hil, hgm, LL⟩ := hrel
        by_cases hlt : i < la.length
        · have dlt : decide ((i : Int) < (la.length : Int)) = true := decide_eq_true (by omega)
          have hw1 : IntKind.i64.wrap ((i : Int) + 1) = (i : Int) + 1 := by have := (unhide HQla).1; rw [IntKind.wrap_i64]; omega
          obtain ⟨s, hs⟩ : ∃ s, la[i]? = some s := ⟨_, List.getElem?_eq_getElem hlt⟩
          obtain ⟨hx64, hsl, b, off, SA, sa, hAe, hb, hrp, hrg⟩ := (unhide HU1) i s hs
          obtain ⟨_, _, b2, off2, SB, sb, hBe, hb2, hrp2, hrg2⟩ := (unhide HA2) i s hs
          have hSE := fun (X : World) (hX : Fr S2 X []) => sealed_any s SA sa X (hrp.fr hX) hsl
          have hRS := fun (X : World) (hX : Fr S2 X []) => refSealed s SB sb X (hrp2.fr hX) hsl
          have hFE := fun (X : World) (hX : Fr S2 X []) => frozen_any s SA sa X (hrp.fr hX) hsl
          have hRF := fun (X : World) (hX : Fr S2 X []) => refFrozen s SB sb X (hrp2.fr hX) hsl
          unfold SH.agg at hSE hRS hFE hRF
          have hn1 : (seV s != seV s) = false := by simp
          have hn2 : (frV s != frV s) = false := by simp
          generalize seV s = se at *
          generalize frV s = fz at *
          have HLT := hide hlt
          clear hil
          go_wp2_with (first | go_skip | ((with_reducible show wpList _ _ _ _ _ _); first | ((refine rd (by rfl) (ex_lenG 22 34 Tryz.underlying22 rfl rfl) ?_); simp only [Act.put, List.setIfInBounds_toArray, List.set_cons_succ, List.set_cons_zero])))
          have hq0 : Hq S2 _ [] [] := (unhide LL).drew
          refine wp_region_held_drew (P := Tryz.prog) (S := fun X => Hq S2 X [] []) (by kernel_rfl) hq0 (fun hS0 => ?_)
          refine gsem 0 (some 59) (.slice A1 la.length c1) rfl (by kernel_rfl) (by kernel_rfl) (by kernel_rfl) (fun _ _ _ h => h) (by kernel_rfl) (by kernel_rfl) (fun _ _ => by kernel_rfl) hq0 ?_
          simp only [Act.put, List.setIfInBounds_toArray, List.set_cons_succ, List.set_cons_zero]
          refine gsem 1 (some 60) (.int .i64 (i : Nat)) rfl (by kernel_rfl) (by kernel_rfl) (by kernel_rfl) (fun _ _ _ h => h) (by kernel_rfl) (by kernel_rfl) (fun _ _ => by kernel_rfl) hq0 ?_
          simp only [Act.put, List.setIfInBounds_toArray, List.set_cons_succ, List.set_cons_zero]
          refine gsem 2 (some 61) (.pointer (some ⟨b, off + i * 8, none⟩)) rfl (by kernel_rfl) (by kernel_rfl) (by kernel_rfl) (fun _ _ _ h => h) (by kernel_rfl) (by kernel_rfl) (fun X hX => ex_indexA 22 8 i unSs idSs rfl rfl hAe rfl hlt) hq0 ?_
          simp only [Act.put, List.setIfInBounds_toArray, List.set_cons_succ, List.set_cons_zero]
          refine gsem 3 (some 62) (.agg (s.cs SA sa).toArray) rfl (by kernel_rfl) (by kernel_rfl) (by kernel_rfl) (fun _ _ _ h => h) (by kernel_rfl) (by kernel_rfl) (fun X hX => ex_loadR (vs := s.cs SA sa) 34 8 rwS szS rfl rfl (rangeAt_fr hrg hb hX.fr) rfl) hq0 ?_
          simp only [Act.put, List.setIfInBounds_toArray, List.set_cons_succ, List.set_cons_zero]
          refine gsem 5 (some 64) (.slice A la.length ca) rfl (by kernel_rfl) (by kernel_rfl) (by kernel_rfl) (fun _ _ _ h => h) (by kernel_rfl) (by kernel_rfl) (fun _ _ => by kernel_rfl) hq0 ?_
          simp only [Act.put, List.setIfInBounds_toArray, List.set_cons_succ, List.set_cons_zero]
          refine gsem 6 (some 65) (.int .i64 (i : Nat)) rfl (by kernel_rfl) (by kernel_rfl) (by kernel_rfl) (fun _ _ _ h => h) (by kernel_rfl) (by kernel_rfl) (fun _ _ => by kernel_rfl) hq0 ?_
          simp only [Act.put, List.setIfInBounds_toArray, List.set_cons_succ, List.set_cons_zero]
          refine gsem 7 (some 66) (.pointer (some ⟨b2, off2 + i * 8, none⟩)) rfl (by kernel_rfl) (by kernel_rfl) (by kernel_rfl) (fun _ _ _ h => h) (by kernel_rfl) (by kernel_rfl) (fun X hX => ex_indexA 22 8 i unSs idSs rfl rfl hBe rfl hlt) hq0 ?_
          simp only [Act.put, List.setIfInBounds_toArray, List.set_cons_succ, List.set_cons_zero]
          refine gsem 8 (some 67) (.agg (s.cs SB sb).toArray) rfl (by kernel_rfl) (by kernel_rfl) (by kernel_rfl) (fun _ _ _ h => h) (by kernel_rfl) (by kernel_rfl) (fun X hX => ex_loadR (vs := s.cs SB sb) 34 8 rwS szS rfl rfl (rangeAt_fr hrg2 hb2 hX.fr) rfl) hq0 ?_
          simp only [Act.put, List.setIfInBounds_toArray, List.set_cons_succ, List.set_cons_zero]
          refine wpAnyH_ready (rs := [4]) (by kernel_rfl) (by simp) (gcallR 4 (some 63) rfl (by kernel_rfl) (by kernel_rfl) (by kernel_rfl) (hSE _ hq0.fr) ?_ AllReadyH.nil)
          rintro e Y4 ⟨rfl, hY4⟩
          have hq04 := Hq.on hq0 hY4
          refine ⟨_, rfl, hq04, ?_⟩
          simp only [Act.put, List.setIfInBounds_toArray, List.set_cons_succ, List.set_cons_zero]
          refine wpAnyH_ready (rs := [9]) (by kernel_rfl) (by simp) (gcallR 9 (some 68) rfl (by kernel_rfl) (by kernel_rfl) (by kernel_rfl) (hRS _ hq04.fr) ?_ AllReadyH.nil)
          rintro e Y9 ⟨rfl, hY9⟩
          have hq09 := Hq.on hq04 hY9
          refine ⟨_, rfl, hq09, ?_⟩
          simp only [Act.put, List.setIfInBounds_toArray, List.set_cons_succ, List.set_cons_zero]
          refine gsem 10 (some 69) (.bool false) rfl (by kernel_rfl) (by kernel_rfl) (by kernel_rfl) (fun _ _ _ h => h) (by kernel_rfl) (by kernel_rfl) (fun X hX => ex_neB2 rfl rfl rfl hn1) hq09 ?_
          simp only [Act.put, List.setIfInBounds_toArray, List.set_cons_succ, List.set_cons_zero]
          refine gsem 11 (some 70) (.bool false) rfl (by kernel_rfl) (by kernel_rfl) (by kernel_rfl) (fun _ _ _ h => h) (by kernel_rfl) (by kernel_rfl) (fun _ _ => by kernel_rfl) hq09 ?_
          simp only [Act.put, List.setIfInBounds_toArray, List.set_cons_succ, List.set_cons_zero]
          refine gsem 12 (some 71) (.slice A1 la.length c1) rfl (by kernel_rfl) (by kernel_rfl) (by kernel_rfl) (fun _ _ _ h => h) (by kernel_rfl) (by kernel_rfl) (fun _ _ => by kernel_rfl) hq09 ?_
          simp only [Act.put, List.setIfInBounds_toArray, List.set_cons_succ, List.set_cons_zero]
          refine gsem 13 (some 72) (.int .i64 (i : Nat)) rfl (by kernel_rfl) (by kernel_rfl) (by kernel_rfl) (fun _ _ _ h => h) (by kernel_rfl) (by kernel_rfl) (fun _ _ => by kernel_rfl) hq09 ?_
          simp only [Act.put, List.setIfInBounds_toArray, List.set_cons_succ, List.set_cons_zero]
          refine gsem 14 (some 73) (.pointer (some ⟨b, off + i * 8, none⟩)) rfl (by kernel_rfl) (by kernel_rfl) (by kernel_rfl) (fun _ _ _ h => h) (by kernel_rfl) (by kernel_rfl) (fun X hX => ex_indexA 22 8 i unSs idSs rfl rfl hAe rfl hlt) hq09 ?_
          simp only [Act.put, List.setIfInBounds_toArray, List.set_cons_succ, List.set_cons_zero]
          refine gsem 15 (some 74) (.agg (s.cs SA sa).toArray) rfl (by kernel_rfl) (by kernel_rfl) (by kernel_rfl) (fun _ _ _ h => h) (by kernel_rfl) (by kernel_rfl) (fun X hX => ex_loadR (vs := s.cs SA sa) 34 8 rwS szS rfl rfl (rangeAt_fr hrg hb hX.fr) rfl) hq09 ?_
          simp only [Act.put, List.setIfInBounds_toArray, List.set_cons_succ, List.set_cons_zero]
          refine gsem 17 (some 76) (.slice A la.length ca) rfl (by kernel_rfl) (by kernel_rfl) (by kernel_rfl) (fun _ _ _ h => h) (by kernel_rfl) (by kernel_rfl) (fun _ _ => by kernel_rfl) hq09 ?_
          simp only [Act.put, List.setIfInBounds_toArray, List.set_cons_succ, List.set_cons_zero]
          refine gsem 18 (some 77) (.int .i64 (i : Nat)) rfl (by kernel_rfl) (by kernel_rfl) (by kernel_rfl) (fun _ _ _ h => h) (by kernel_rfl) (by kernel_rfl) (fun _ _ => by kernel_rfl) hq09 ?_
          simp only [Act.put, List.setIfInBounds_toArray, List.set_cons_succ, List.set_cons_zero]
          refine gsem 19 (some 78) (.pointer (some ⟨b2, off2 + i * 8, none⟩)) rfl (by kernel_rfl) (by kernel_rfl) (by kernel_rfl) (fun _ _ _ h => h) (by kernel_rfl) (by kernel_rfl) (fun X hX => ex_indexA 22 8 i unSs idSs rfl rfl hBe rfl hlt) hq09 ?_
          simp only [Act.put, List.setIfInBounds_toArray, List.set_cons_succ, List.set_cons_zero]
          refine gsem 20 (some 79) (.agg (s.cs SB sb).toArray) rfl (by kernel_rfl) (by kernel_rfl) (by kernel_rfl) (fun _ _ _ h => h) (by kernel_rfl) (by kernel_rfl) (fun X hX => ex_loadR (vs := s.cs SB sb) 34 8 rwS szS rfl rfl (rangeAt_fr hrg2 hb2 hX.fr) rfl) hq09 ?_
          simp only [Act.put, List.setIfInBounds_toArray, List.set_cons_succ, List.set_cons_zero]
          refine wpAnyH_ready (rs := [16]) (by kernel_rfl) (by simp) (gcallR 16 (some 75) rfl (by kernel_rfl) (by kernel_rfl) (by kernel_rfl) (hFE _ hq09.fr) ?_ AllReadyH.nil)
          rintro e Y16 ⟨rfl, hY16⟩
          have hq016 := Hq.on hq09 hY16
          refine ⟨_, rfl, hq016, ?_⟩
          simp only [Act.put, List.setIfInBounds_toArray, List.set_cons_succ, List.set_cons_zero]
          refine wpAnyH_ready (rs := [21]) (by kernel_rfl) (by simp) (gcallR 21 (some 80) rfl (by kernel_rfl) (by kernel_rfl) (by kernel_rfl) (hRF _ hq016.fr) ?_ AllReadyH.nil)
          rintro e Y21 ⟨rfl, hY21⟩
          have hq021 := Hq.on hq016 hY21
          refine ⟨_, rfl, hq021, ?_⟩
          simp only [Act.put, List.setIfInBounds_toArray, List.set_cons_succ, List.set_cons_zero]
          refine gsem 22 (some 81) (.bool false) rfl (by kernel_rfl) (by kernel_rfl) (by kernel_rfl) (fun _ _ _ h => h) (by kernel_rfl) (by kernel_rfl) (fun X hX => ex_neB2 rfl rfl rfl hn2) hq021 ?_
          simp only [Act.put, List.setIfInBounds_toArray, List.set_cons_succ, List.set_cons_zero]
          refine gsem 23 (some 82) (.bool false) rfl (by kernel_rfl) (by kernel_rfl) (by kernel_rfl) (fun _ _ _ h => h) (by kernel_rfl) (by kernel_rfl) (fun _ _ => by kernel_rfl) hq021 ?_
          simp only [Act.put, List.setIfInBounds_toArray, List.set_cons_succ, List.set_cons_zero]
          refine wpAnyH_done (by kernel_rfl) ?_ _
          try simp only [Act.put, List.setIfInBounds_toArray, List.set_cons_succ, List.set_cons_zero]
          replace LL := hide hq021
          clear hq0 hq04 hq09 hq016 hq021 hS0 hY4 hY9 hY16 hY21 hSE hRS hFE hRF hs hb hrg hb2 hrg2 hlt hAe hBe hrp hrp2 hx64 hsl
          go_wp2
          go_roundg (la.length - (i + 1))
          case measure => have := unhide HLT; omega
          case rel => exact ⟨i + 1, by go_num, by have := unhide HLT; omega, by omega, LL⟩
        · obtain rfl : i = la.length := by omega
          clear hlt hil
          go_wp2_with (first | go_skip | ((with_reducible show wpList _ _ _ _ _ _); first | ((refine rd (by rfl) (ex_lenG 22 34 Tryz.underlying22 rfl rfl) ?_); simp only [Act.put, List.setIfInBounds_toArray, List.set_cons_succ, List.set_cons_zero])))
          refine (refSameL la la A1 A c1 ca _ ((unhide HU1).fr (unhide LL).fr) ((unhide HA2).fr (unhide LL).fr) (by have := (unhide HQla).1; omega)).mono ?_
          rintro e V1 ⟨rfl, hb⟩
          rw [sameL_self]
          replace LL := hide ((unhide LL).on hb)
          clear hb
          go_wp2_with fail
          refine (refSameL lb lb A2 B c2 cb _ ((unhide HU2).fr (unhide LL).fr) ((unhide HB2).fr (unhide LL).fr) (by have := (unhide HQlb).1; omega)).mono ?_
          rintro e V2 ⟨rfl, hb⟩
          rw [sameL_self]
          replace LL := hide ((unhide LL).on hb)
          clear hb
          go_wp2_with fail
          go_ret
          exact ⟨rfl, ((unhide HWZ).trans (unhide LL).fr (by simp)).below⟩
end Go.Proofs.YtcflglloopgieaaGreatDoor
