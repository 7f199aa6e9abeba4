import Derived.Test.YtcflglloopgieaaGreatDoorQx

/-! Ir -/
namespace Go.Proofs.YtcflglloopgieaaGreatDoor
open Go Go.Proofs Go.Maps Go.RowKit FM
set_option linter.unusedSimpArgs false
set_option linter.unusedVariables false
set_option maxHeartbeats 1000000
theorem ex_ltI {o : Oper} {a : Act} {w : World} {x y : Operand} {n m : Int} {r : Bool} (ho : o.op = .binOp .lss 3 x y 3) (hx : a.eval x = .int .i64 n) (hc : a.eval y = .int .i64 m) (h : decide (n < m) = r) : (execOp a.eval o).run Tryz.prog w = .ok (.value (.bool r)) w := by
  unfold execOp
  simp only [ho, hx, hc]
  simp [go_sem, eqGuard, h]
theorem SRow.drew {X Z : World} {t : Nat} {lw sv : Value} {Bs : List Nat} {st : List PR} (h : SRow X Z t lw Bs st sv) : SRow X Z.drew t lw Bs st sv := ⟨own_blk h.own (fun g hg => rfl), h.nt, h.nl, h.nb⟩
theorem SRow.nil (X Z : World) (t : Nat) (lw : Value) : SRow X Z t lw [] [] (.slice none 0 0) := ⟨⟨rfl, .inl ⟨rfl, rfl⟩⟩, by simp [Value.ownBlock], by simp [Value.ownBlock], by simp⟩
theorem in2 {B1 B3 : Nat} {c d : List Value} {q : Nat × List Value} (h : q ∈ [(B1, c), (B3, d)]) : q.1 ∈ [B3, B1] := by
  simp at h ⊢
  rcases h with rfl | rfl <;> simp
theorem lt2 {w Z : World} {E : List Nat} {B1 B3 b : Nat} {c d : List Value} (h : Hq w Z E [(B1, c), (B3, d)]) (hb : b ∈ [B3, B1]) : b < Z.heap.size := by
  simp at hb
  rcases hb with rfl | rfl
  · exact h.lt (b, d) (by simp)
  · exact h.lt (b, c) (by simp)
set_option maxHeartbeats 4000000 in
set_option maxRecDepth 100000 in
theorem props_any (was is : List PR) (WA IA : Option Addr) (wc ic : Nat) (b0 t : Nat) (o : Int) (xs : List DL) (lv : Value) (X : World) (hT : TI b0 X t o xs lv) (hW : ReadsP X WA was) (hI : ReadsP X IA is) (hNW : Out WA was (t :: lv.ownBlock.toList)) (hNI : Out IA is (t :: lv.ownBlock.toList)) (hic : is.length ≤ ic) (hx : xs.length + was.length + 2 * is.length ≤ 100000) (h0 : b0 ≤ X.heap.size) (hsW : ∀ p ∈ was, SP p) (hsI : ∀ p ∈ is, SP p) (hTb : ∀ Z, Fr X Z (t :: lv.ownBlock.toList) → Lib.Utf8Tabs 1 2 Z) : Calls Tryz.prog 54 #[.pointer (some ⟨t, 0, none⟩), .slice WA was.length wc, .slice IA is.length ic] X (TPost X b0 t o xs (propsL o was is) lv) := by
  have HX := hide hx
  have H0 := hide h0
  have HW := hide hW
  have HI := hide hI
  have HNW := hide hNW
  have HNI := hide hNI
  have HIC := hide hic
  have HSW := hide hsW
  have HSI := hide hsI
  have HTB := hide hTb
  have LL := hide (TS.start hT)
  have SR := hide (SRow.nil X X t lv)
  clear hx h0 hW hI hNW hNI hic hsW hsI hTb hT
  go_enter Tryz.func54, Tryz.ntmps54
  go_wp2_with (first | go_skip | ((with_reducible show wpList _ _ _ _ _ _); first | ((refine rd (by rfl) (ex_lenG 32 61 Tryz.underlying32 rfl rfl) ?_); simp only [Act.put, List.setIfInBounds_toArray, List.set_cons_succ, List.set_cons_zero])))
  go_loopg [6, 16] was.length (fun gm s6 s16 wr => ∃ i : Nat, s16 = .int .i64 (i : Nat) ∧ i ≤ was.length ∧ was.length - i ≤ gm ∧ ∃ (vA : Option Addr) (vc : Nat) (lw : Value), s6 = .slice vA (stayT is was i).length vc ∧ Hid (TS X wr (t :: lv.ownBlock.toList) b0 t o (xs ++ goT o is was i) lw []) ∧ Hid (SRow X wr t lw [] (stayT is was i) (.slice vA (stayT is was i).length vc)))
  case atStart => exact ⟨0, rfl, by omega, by omega, none, 0, lv, rfl, hide (by simpa [goT] using unhide LL), hide (by simpa [stayT] using unhide SR)⟩
  case round =>
    clear LL SR
    obtain ⟨i, rfl, hil, hgm, vA, vc, lw, rfl, LL, SR⟩ := hrel
    by_cases hlt : i < was.length
    · have dlt : decide ((i : Int) < (was.length : Int)) = true := decide_eq_true (by omega)
      have hw1 : IntKind.i64.wrap ((i : Int) + 1) = (i : Int) + 1 := by have := unhide HX; rw [IntKind.wrap_i64]; omega
      obtain ⟨p, hp⟩ : ∃ p, was[i]? = some p := ⟨_, List.getElem?_eq_getElem hlt⟩
      obtain ⟨_, b, off, hA, hb, hrg⟩ := (unhide HW) i p hp
      have HA := hide hA
      have HA2 : Hid (∀ Z, Fr X Z (t :: lv.ownBlock.toList) → Z.rangeAt b (off + i * 20) p.cs) := hide (fun Z hZ => rangeAt_far hrg hb hZ ((unhide HNW) i p hp b off hA))
      have HLT := hide hlt
      have HSP := hide ((unhide HSW) p (List.mem_of_getElem? hp))
      obtain ⟨hl1, hl2, hl3⟩ := stayT_len o is was i
      have hYES := stayT_yes (o := o) (is := is) hp
      have hNO := stayT_no (o := o) (is := is) hp
      have HSB : Hid ((stayT is was i).length + 1 ≤ 1000000) := hide (by have := unhide HX; omega)
      have HXL : Hid ((xs ++ goT o is was i).length ≤ 100000) := hide (by have := unhide HX; rw [List.length_append]; omega)
      generalize hst : stayT is was i = st at *
      generalize hgl : goT o is was i = gl at *
      generalize hys : xs ++ gl = ys at *
      have HYES := hide hYES
      have HNO := hide hNO
      clear hYES hNO hA hb hrg hil hp hst hgl hl2 hl3 hlt
      by_cases hnl : st.length < is.length
      · obtain ⟨q, hq⟩ : ∃ q, is[st.length]? = some q := ⟨_, List.getElem?_eq_getElem hnl⟩
        obtain ⟨_, b2, off2, hIA, hb2, hrg2⟩ := (unhide HI) st.length q hq
        have dnl : decide ((st.length : Int) < (is.length : Int)) = true := decide_eq_true (by omega)
        have hhit : hit is st p = decide (q.k = p.k) := by unfold hit; rw [hq]
        have hout2 := (unhide HNI) st.length q hq b2 off2 hIA
        have HH := hide (And.intro hIA (And.intro hb2 (And.intro hrg2 (And.intro hnl (And.intro dnl hout2)))))
        clear hIA hb2 hrg2 hnl dnl hq hout2
        go_wp2_with (first | go_skip | ((with_reducible show wpList _ _ _ _ _ _); first | ((refine rd (by rfl) (ex_indexA 32 20 i unPs idPs rfl rfl (unhide HA) rfl (unhide HLT)) ?_); simp only [Act.put, List.setIfInBounds_toArray, List.set_cons_succ, List.set_cons_zero]) | ((refine rd (by rfl) (ex_loadR (vs := p.cs) 61 20 rwP szP rfl rfl (unhide HA2 _ (unhide LL).hq.fr) rfl) ?_); simp only [Act.put, List.setIfInBounds_toArray, List.set_cons_succ, List.set_cons_zero]) | ((refine alT 61 (zeroP.cs) (by rfl) rfl (fun w => by kernel_rfl) (Nat.succ_pos _) (unhide LL) ?_); intro X8 B8 hE8 L8 hb8; have hB8 := hide (Nat.le_trans (unhide LL).hq.fr.size (Nat.le_of_eq hE8.symm)); replace SR := hide ((unhide SR).add hb8 hE8); replace LL := hide L8; clear L8 hb8 hE8; simp only [Act.put, List.setIfInBounds_toArray, List.set_cons_succ, List.set_cons_zero]) | ((refine stT (vs := p.cs) 0 61 (by rfl) rfl rfl rfl rfl (pcs_one p) szP (unhide LL) rfl (by simp [cput, PR.cs, SH.cs, VV.cs, KK.cs, DD.cs, CO.cs, DL.cs, zeroP, zeroS, zeroD, zeroV]) (Or.inr (unhide hB8)) ?_); intro X9 L9 hf9; replace SR := hide ((unhide SR).far hf9 (by simp)); replace LL := hide L9; clear L9 hf9; simp only [Act.put, List.setIfInBounds_toArray, List.set_cons_succ, List.set_cons_zero]) | ((refine rd (by rfl) (ex_loadN (vs := p.cs) 61 20 rwP szP rfl rfl ((unhide LL).hq.get 0 rfl) rfl rfl) ?_); simp only [Act.put, List.setIfInBounds_toArray, List.set_cons_succ, List.set_cons_zero]) | ((refine rd (by rfl) (ex_loadN (vs := p.k.cs) 56 2 rwK szK rfl rfl ((unhide LL).hq.get 0 rfl) rfl rfl) ?_); simp only [Act.put, List.setIfInBounds_toArray, List.set_cons_succ, List.set_cons_zero]) | ((refine rd (by rfl) (ex_lenG 32 61 Tryz.underlying32 rfl rfl) ?_); simp only [Act.put, List.setIfInBounds_toArray, List.set_cons_succ, List.set_cons_zero]) | ((refine buildT p (by rfl) rfl rfl (unhide LL) ?_); intro X3 B3 hE3 L3 hb3; have hB3 := hide (Nat.le_trans (unhide LL).hq.fr.size (Nat.le_of_eq hE3.symm)); replace SR := hide ((unhide SR).add hb3 hE3); replace LL := hide L3; clear L3 hb3 hE3; simp only [Act.put, List.setIfInBounds_toArray, List.set_cons_succ, List.set_cons_zero]) | ((refine append_any (base := X.heap.size) (size := 20) (bytes := 192) (n := st.length) (m := 1) (news := p.cs) (xs := flatP st) (v := .slice vA st.length vc) rfl rfl rfl rfl Tryz.underlying32 inf46 rfl (by decide) (unhide SR).own ((unhide LL).hq.get 1 rfl) rfl (pcs_one p) (unhide HSB) (by decide) (unhide LL).hq.fr.size ?_); intro A7 c7 X7 hO7 hg7 hF7; have hgr := (unhide SR).grow (unhide LL) (fun q hq => (unhide SR).nb q.1 (in2 hq)) hO7 hg7 hF7 (fun b hb => lt2 (unhide LL).hq hb); replace SR := hide hgr.1; replace LL := hide hgr.2; clear hgr hO7 hg7 hF7; simp only [Act.put, List.setIfInBounds_toArray, List.set_cons_succ, List.set_cons_zero])))
        obtain ⟨hIA, hb2, hrg2, hnl, dnl, hout2⟩ := unhide HH
        have ht0 : TS X _ (t :: lv.ownBlock.toList) b0 t o ys lw [(B8, p.cs)] := (unhide LL).drew
        refine wp_region_held_drew (P := Tryz.prog) (S := fun Z => TS X Z (t :: lv.ownBlock.toList) b0 t o ys lw [(B8, p.cs)]) (by kernel_rfl) ht0 (fun hS0 => ?_)
        refine gsem 0 (some 22) (.int .i64 (st.length : Nat)) rfl (by kernel_rfl) (by kernel_rfl) (by kernel_rfl) (fun _ _ _ h => h) (by kernel_rfl) (by kernel_rfl) (fun _ _ => by kernel_rfl) ht0 ?_
        simp only [Act.put, List.setIfInBounds_toArray, List.set_cons_succ, List.set_cons_zero]
        refine gsem 1 (some 23) (.slice IA is.length ic) rfl (by kernel_rfl) (by kernel_rfl) (by kernel_rfl) (fun _ _ _ h => h) (by kernel_rfl) (by kernel_rfl) (fun _ _ => by kernel_rfl) ht0 ?_
        simp only [Act.put, List.setIfInBounds_toArray, List.set_cons_succ, List.set_cons_zero]
        refine gsem 2 (some 24) (.int .i64 (is.length : Nat)) rfl (by kernel_rfl) (by kernel_rfl) (by kernel_rfl) (fun _ _ _ h => h) (by kernel_rfl) (by kernel_rfl) (fun X hX => ex_lenG 32 61 Tryz.underlying32 rfl rfl) ht0 ?_
        simp only [Act.put, List.setIfInBounds_toArray, List.set_cons_succ, List.set_cons_zero]
        refine gsem 3 (some 25) (.bool true) rfl (by kernel_rfl) (by kernel_rfl) (by kernel_rfl) (fun _ _ _ h => h) (by kernel_rfl) (by kernel_rfl) (fun X hX => ex_ltI rfl rfl rfl dnl) ht0 ?_
        simp only [Act.put, List.setIfInBounds_toArray, List.set_cons_succ, List.set_cons_zero]
        refine gsem 4 (some 26) (.bool true) rfl (by kernel_rfl) (by kernel_rfl) (by kernel_rfl) (fun _ _ _ h => h) (by kernel_rfl) (by kernel_rfl) (fun _ _ => by kernel_rfl) ht0 ?_
        simp only [Act.put, List.setIfInBounds_toArray, List.set_cons_succ, List.set_cons_zero]
        refine gsem 5 (some 27) (.slice IA is.length ic) rfl (by kernel_rfl) (by kernel_rfl) (by kernel_rfl) (fun _ _ _ h => h) (by kernel_rfl) (by kernel_rfl) (fun _ _ => by kernel_rfl) ht0 ?_
        simp only [Act.put, List.setIfInBounds_toArray, List.set_cons_succ, List.set_cons_zero]
        refine gsem 6 (some 28) (.int .i64 (st.length : Nat)) rfl (by kernel_rfl) (by kernel_rfl) (by kernel_rfl) (fun _ _ _ h => h) (by kernel_rfl) (by kernel_rfl) (fun _ _ => by kernel_rfl) ht0 ?_
        simp only [Act.put, List.setIfInBounds_toArray, List.set_cons_succ, List.set_cons_zero]
        refine gsem 7 (some 29) (.pointer (some ⟨b2, off2 + st.length * 20, none⟩)) rfl (by kernel_rfl) (by kernel_rfl) (by kernel_rfl) (fun _ _ _ h => h) (by kernel_rfl) (by kernel_rfl) (fun X hX => ex_indexA 32 20 st.length unPs idPs rfl rfl hIA rfl hnl) ht0 ?_
        simp only [Act.put, List.setIfInBounds_toArray, List.set_cons_succ, List.set_cons_zero]
        refine gsem 8 (some 30) (.pointer (some ⟨b2, off2 + st.length * 20, none⟩)) rfl (by kernel_rfl) (by kernel_rfl) (by kernel_rfl) (fun _ _ _ h => h) (by kernel_rfl) (by kernel_rfl) (fun _ _ => by kernel_rfl) ht0 ?_
        simp only [Act.put, List.setIfInBounds_toArray, List.set_cons_succ, List.set_cons_zero]
        refine gsem 9 (some 31) (.agg q.k.cs.toArray) rfl (by kernel_rfl) (by kernel_rfl) (by kernel_rfl) (fun _ _ _ h => h) (by kernel_rfl) (by kernel_rfl) (fun X hX => ex_loadR (vs := q.k.cs) 56 2 rwK szK rfl rfl (range_left (a := q.k.cs) (c := q.d.cs) (rangeAt_far hrg2 hb2 hX.hq.fr hout2)) rfl) ht0 ?_
        simp only [Act.put, List.setIfInBounds_toArray, List.set_cons_succ, List.set_cons_zero]
        refine gsem 10 (some 32) (.pointer (some ⟨B8, 0, none⟩)) rfl (by kernel_rfl) (by kernel_rfl) (by kernel_rfl) (fun _ _ _ h => h) (by kernel_rfl) (by kernel_rfl) (fun _ _ => by kernel_rfl) ht0 ?_
        simp only [Act.put, List.setIfInBounds_toArray, List.set_cons_succ, List.set_cons_zero]
        refine gsem 11 (some 33) (.agg p.k.cs.toArray) rfl (by kernel_rfl) (by kernel_rfl) (by kernel_rfl) (fun _ _ _ h => h) (by kernel_rfl) (by kernel_rfl) (fun X hX => ex_loadN (vs := p.k.cs) 56 2 rwK szK rfl rfl (hX.hq.get 0 rfl) rfl rfl) ht0 ?_
        simp only [Act.put, List.setIfInBounds_toArray, List.set_cons_succ, List.set_cons_zero]
        refine gsem 12 (some 34) (.bool (decide (q.k = p.k))) rfl (by kernel_rfl) (by kernel_rfl) (by kernel_rfl) (fun _ _ _ h => h) (by kernel_rfl) (by kernel_rfl) (fun X hX => ex_eql41 q.k p.k rfl rfl rfl) ht0 ?_
        simp only [Act.put, List.setIfInBounds_toArray, List.set_cons_succ, List.set_cons_zero]
        refine gsem 13 (some 35) (.bool (decide (q.k = p.k))) rfl (by kernel_rfl) (by kernel_rfl) (by kernel_rfl) (fun _ _ _ h => h) (by kernel_rfl) (by kernel_rfl) (fun _ _ => by kernel_rfl) ht0 ?_
        simp only [Act.put, List.setIfInBounds_toArray, List.set_cons_succ, List.set_cons_zero]
        refine wpAnyH_done (by kernel_rfl) ?_ _
        try simp only [Act.put, List.setIfInBounds_toArray, List.set_cons_succ, List.set_cons_zero]
        replace LL := hide ht0
        replace SR := hide (unhide SR).drew
        clear ht0 hS0 hIA hb2 hrg2 hnl dnl HH hout2
        by_cases hkk : q.k = p.k
        · rw [decide_eq_true hkk] at hhit ⊢
          clear hkk
          have HNX := hide ((unhide HYES) hhit)
          clear HNO HYES
          go_wp2_with (first | go_skip | ((with_reducible show wpList _ _ _ _ _ _); first | ((refine rd (by rfl) (ex_indexA 32 20 i unPs idPs rfl rfl (unhide HA) rfl (unhide HLT)) ?_); simp only [Act.put, List.setIfInBounds_toArray, List.set_cons_succ, List.set_cons_zero]) | ((refine rd (by rfl) (ex_loadR (vs := p.cs) 61 20 rwP szP rfl rfl (unhide HA2 _ (unhide LL).hq.fr) rfl) ?_); simp only [Act.put, List.setIfInBounds_toArray, List.set_cons_succ, List.set_cons_zero]) | ((refine alT 61 (zeroP.cs) (by rfl) rfl (fun w => by kernel_rfl) (Nat.succ_pos _) (unhide LL) ?_); intro X8 B8 hE8 L8 hb8; have hB8 := hide (Nat.le_trans (unhide LL).hq.fr.size (Nat.le_of_eq hE8.symm)); replace SR := hide ((unhide SR).add hb8 hE8); replace LL := hide L8; clear L8 hb8 hE8; simp only [Act.put, List.setIfInBounds_toArray, List.set_cons_succ, List.set_cons_zero]) | ((refine stT (vs := p.cs) 0 61 (by rfl) rfl rfl rfl rfl (pcs_one p) szP (unhide LL) rfl (by simp [cput, PR.cs, SH.cs, VV.cs, KK.cs, DD.cs, CO.cs, DL.cs, zeroP, zeroS, zeroD, zeroV]) (Or.inr (unhide hB8)) ?_); intro X9 L9 hf9; replace SR := hide ((unhide SR).far hf9 (by simp)); replace LL := hide L9; clear L9 hf9; simp only [Act.put, List.setIfInBounds_toArray, List.set_cons_succ, List.set_cons_zero]) | ((refine rd (by rfl) (ex_loadN (vs := p.cs) 61 20 rwP szP rfl rfl ((unhide LL).hq.get 0 rfl) rfl rfl) ?_); simp only [Act.put, List.setIfInBounds_toArray, List.set_cons_succ, List.set_cons_zero]) | ((refine rd (by rfl) (ex_loadN (vs := p.k.cs) 56 2 rwK szK rfl rfl ((unhide LL).hq.get 0 rfl) rfl rfl) ?_); simp only [Act.put, List.setIfInBounds_toArray, List.set_cons_succ, List.set_cons_zero]) | ((refine rd (by rfl) (ex_lenG 32 61 Tryz.underlying32 rfl rfl) ?_); simp only [Act.put, List.setIfInBounds_toArray, List.set_cons_succ, List.set_cons_zero]) | ((refine buildT p (by rfl) rfl rfl (unhide LL) ?_); intro X3 B3 hE3 L3 hb3; have hB3 := hide (Nat.le_trans (unhide LL).hq.fr.size (Nat.le_of_eq hE3.symm)); replace SR := hide ((unhide SR).add hb3 hE3); replace LL := hide L3; clear L3 hb3 hE3; simp only [Act.put, List.setIfInBounds_toArray, List.set_cons_succ, List.set_cons_zero]) | ((refine append_any (base := X.heap.size) (size := 20) (bytes := 192) (n := st.length) (m := 1) (news := p.cs) (xs := flatP st) (v := .slice vA st.length vc) rfl rfl rfl rfl Tryz.underlying32 inf46 rfl (by decide) (unhide SR).own ((unhide LL).hq.get 1 rfl) rfl (pcs_one p) (unhide HSB) (by decide) (unhide LL).hq.fr.size ?_); intro A7 c7 X7 hO7 hg7 hF7; have hgr := (unhide SR).grow (unhide LL) (fun q hq => (unhide SR).nb q.1 (in2 hq)) hO7 hg7 hF7 (fun b hb => lt2 (unhide LL).hq hb); replace SR := hide hgr.1; replace LL := hide hgr.2; clear hgr hO7 hg7 hF7; simp only [Act.put, List.setIfInBounds_toArray, List.set_cons_succ, List.set_cons_zero])))
          have LN : Hid (TS X X7 (t :: lv.ownBlock.toList) b0 t o (xs ++ goT o is was (i + 1)) lw []) := hide (by rw [(unhide HNX).2, hys]; exact TS.left (L := []) (unhide LL))
          have e6 : st.length + 1 = (stayT is was (i + 1)).length := by rw [(unhide HNX).1]; simp
          have SN : Hid (SRow X X7 t lw [] (stayT is was (i + 1)) (.slice A7 (stayT is was (i + 1)).length c7)) := hide (by rw [← e6, (unhide HNX).1]; exact (unhide SR).drop)
          clear LL SR HNX
          go_roundg (was.length - (i + 1))
          case measure => have := unhide HLT; omega
          case rel => exact ⟨i + 1, by go_num, by have := unhide HLT; omega, by omega, A7, c7, lw, by rw [← e6], LN, SN⟩
        · rw [decide_eq_false hkk] at hhit ⊢
          clear hkk
          have HNX := hide ((unhide HNO) hhit)
          clear HNO HYES
          go_wp2_with (first | go_skip | ((with_reducible show wpList _ _ _ _ _ _); first | ((refine rd (by rfl) (ex_indexA 32 20 i unPs idPs rfl rfl (unhide HA) rfl (unhide HLT)) ?_); simp only [Act.put, List.setIfInBounds_toArray, List.set_cons_succ, List.set_cons_zero]) | ((refine rd (by rfl) (ex_loadR (vs := p.cs) 61 20 rwP szP rfl rfl (unhide HA2 _ (unhide LL).hq.fr) rfl) ?_); simp only [Act.put, List.setIfInBounds_toArray, List.set_cons_succ, List.set_cons_zero]) | ((refine alT 61 (zeroP.cs) (by rfl) rfl (fun w => by kernel_rfl) (Nat.succ_pos _) (unhide LL) ?_); intro X8 B8 hE8 L8 hb8; have hB8 := hide (Nat.le_trans (unhide LL).hq.fr.size (Nat.le_of_eq hE8.symm)); replace SR := hide ((unhide SR).add hb8 hE8); replace LL := hide L8; clear L8 hb8 hE8; simp only [Act.put, List.setIfInBounds_toArray, List.set_cons_succ, List.set_cons_zero]) | ((refine stT (vs := p.cs) 0 61 (by rfl) rfl rfl rfl rfl (pcs_one p) szP (unhide LL) rfl (by simp [cput, PR.cs, SH.cs, VV.cs, KK.cs, DD.cs, CO.cs, DL.cs, zeroP, zeroS, zeroD, zeroV]) (Or.inr (unhide hB8)) ?_); intro X9 L9 hf9; replace SR := hide ((unhide SR).far hf9 (by simp)); replace LL := hide L9; clear L9 hf9; simp only [Act.put, List.setIfInBounds_toArray, List.set_cons_succ, List.set_cons_zero]) | ((refine rd (by rfl) (ex_loadN (vs := p.cs) 61 20 rwP szP rfl rfl ((unhide LL).hq.get 0 rfl) rfl rfl) ?_); simp only [Act.put, List.setIfInBounds_toArray, List.set_cons_succ, List.set_cons_zero]) | ((refine rd (by rfl) (ex_loadN (vs := p.k.cs) 56 2 rwK szK rfl rfl ((unhide LL).hq.get 0 rfl) rfl rfl) ?_); simp only [Act.put, List.setIfInBounds_toArray, List.set_cons_succ, List.set_cons_zero]) | ((refine rd (by rfl) (ex_lenG 32 61 Tryz.underlying32 rfl rfl) ?_); simp only [Act.put, List.setIfInBounds_toArray, List.set_cons_succ, List.set_cons_zero]) | ((refine buildT p (by rfl) rfl rfl (unhide LL) ?_); intro X3 B3 hE3 L3 hb3; have hB3 := hide (Nat.le_trans (unhide LL).hq.fr.size (Nat.le_of_eq hE3.symm)); replace SR := hide ((unhide SR).add hb3 hE3); replace LL := hide L3; clear L3 hb3 hE3; simp only [Act.put, List.setIfInBounds_toArray, List.set_cons_succ, List.set_cons_zero]) | ((refine append_any (base := X.heap.size) (size := 20) (bytes := 192) (n := st.length) (m := 1) (news := p.cs) (xs := flatP st) (v := .slice vA st.length vc) rfl rfl rfl rfl Tryz.underlying32 inf46 rfl (by decide) (unhide SR).own ((unhide LL).hq.get 1 rfl) rfl (pcs_one p) (unhide HSB) (by decide) (unhide LL).hq.fr.size ?_); intro A7 c7 X7 hO7 hg7 hF7; have hgr := (unhide SR).grow (unhide LL) (fun q hq => (unhide SR).nb q.1 (in2 hq)) hO7 hg7 hF7 (fun b hb => lt2 (unhide LL).hq hb); replace SR := hide hgr.1; replace LL := hide hgr.2; clear hgr hO7 hg7 hF7; simp only [Act.put, List.setIfInBounds_toArray, List.set_cons_succ, List.set_cons_zero])))
          have hgo := gone_any p.k b0 t o _ lw _ (unhide LL).ti (unhide HXL) (Nat.le_trans (unhide H0) (unhide LL).hq.fr.size) (unhide HSP).1
          rw [kagg] at hgo
          refine hgo.mono ?_
          clear hgo
          rintro e Y4 ⟨lv4, rfl, hY4⟩
          replace SR := hide ((unhide SR).tell hY4)
          replace LL := hide ((unhide LL).tell hY4)
          clear hY4
          have LN : Hid (TS X Y4 (t :: lv.ownBlock.toList) b0 t o (xs ++ goT o is was (i + 1)) lv4 []) := hide (by rw [(unhide HNX).2]; have := TS.left (L := []) (unhide LL); rw [← hys] at this; simpa using this)
          have SN : Hid (SRow X Y4 t lv4 [] (stayT is was (i + 1)) (.slice vA (stayT is was (i + 1)).length vc)) := hide (by rw [(unhide HNX).1]; exact (unhide SR).drop)
          have e6 : st = stayT is was (i + 1) := (unhide HNX).1.symm
          clear LL SR HNX
          go_wp2_with (first | go_skip | ((with_reducible show wpList _ _ _ _ _ _); first | ((refine rd (by rfl) (ex_indexA 32 20 i unPs idPs rfl rfl (unhide HA) rfl (unhide HLT)) ?_); simp only [Act.put, List.setIfInBounds_toArray, List.set_cons_succ, List.set_cons_zero]) | ((refine rd (by rfl) (ex_loadR (vs := p.cs) 61 20 rwP szP rfl rfl (unhide HA2 _ (unhide LL).hq.fr) rfl) ?_); simp only [Act.put, List.setIfInBounds_toArray, List.set_cons_succ, List.set_cons_zero]) | ((refine alT 61 (zeroP.cs) (by rfl) rfl (fun w => by kernel_rfl) (Nat.succ_pos _) (unhide LL) ?_); intro X8 B8 hE8 L8 hb8; have hB8 := hide (Nat.le_trans (unhide LL).hq.fr.size (Nat.le_of_eq hE8.symm)); replace SR := hide ((unhide SR).add hb8 hE8); replace LL := hide L8; clear L8 hb8 hE8; simp only [Act.put, List.setIfInBounds_toArray, List.set_cons_succ, List.set_cons_zero]) | ((refine stT (vs := p.cs) 0 61 (by rfl) rfl rfl rfl rfl (pcs_one p) szP (unhide LL) rfl (by simp [cput, PR.cs, SH.cs, VV.cs, KK.cs, DD.cs, CO.cs, DL.cs, zeroP, zeroS, zeroD, zeroV]) (Or.inr (unhide hB8)) ?_); intro X9 L9 hf9; replace SR := hide ((unhide SR).far hf9 (by simp)); replace LL := hide L9; clear L9 hf9; simp only [Act.put, List.setIfInBounds_toArray, List.set_cons_succ, List.set_cons_zero]) | ((refine rd (by rfl) (ex_loadN (vs := p.cs) 61 20 rwP szP rfl rfl ((unhide LL).hq.get 0 rfl) rfl rfl) ?_); simp only [Act.put, List.setIfInBounds_toArray, List.set_cons_succ, List.set_cons_zero]) | ((refine rd (by rfl) (ex_loadN (vs := p.k.cs) 56 2 rwK szK rfl rfl ((unhide LL).hq.get 0 rfl) rfl rfl) ?_); simp only [Act.put, List.setIfInBounds_toArray, List.set_cons_succ, List.set_cons_zero]) | ((refine rd (by rfl) (ex_lenG 32 61 Tryz.underlying32 rfl rfl) ?_); simp only [Act.put, List.setIfInBounds_toArray, List.set_cons_succ, List.set_cons_zero]) | ((refine buildT p (by rfl) rfl rfl (unhide LL) ?_); intro X3 B3 hE3 L3 hb3; have hB3 := hide (Nat.le_trans (unhide LL).hq.fr.size (Nat.le_of_eq hE3.symm)); replace SR := hide ((unhide SR).add hb3 hE3); replace LL := hide L3; clear L3 hb3 hE3; simp only [Act.put, List.setIfInBounds_toArray, List.set_cons_succ, List.set_cons_zero]) | ((refine append_any (base := X.heap.size) (size := 20) (bytes := 192) (n := st.length) (m := 1) (news := p.cs) (xs := flatP st) (v := .slice vA st.length vc) rfl rfl rfl rfl Tryz.underlying32 inf46 rfl (by decide) (unhide SR).own ((unhide LL).hq.get 1 rfl) rfl (pcs_one p) (unhide HSB) (by decide) (unhide LL).hq.fr.size ?_); intro A7 c7 X7 hO7 hg7 hF7; have hgr := (unhide SR).grow (unhide LL) (fun q hq => (unhide SR).nb q.1 (in2 hq)) hO7 hg7 hF7 (fun b hb => lt2 (unhide LL).hq hb); replace SR := hide hgr.1; replace LL := hide hgr.2; clear hgr hO7 hg7 hF7; simp only [Act.put, List.setIfInBounds_toArray, List.set_cons_succ, List.set_cons_zero])))
          go_roundg (was.length - (i + 1))
          case measure => have := unhide HLT; omega
          case rel => exact ⟨i + 1, by go_num, by have := unhide HLT; omega, by omega, vA, vc, lv4, by rw [← e6], LN, SN⟩
      · have dnl : decide ((st.length : Int) < (is.length : Int)) = false := decide_eq_false (by omega)
        have hhit : hit is st p = false := by unfold hit; rw [List.getElem?_eq_none (by omega)]
        have HH := hide dnl
        clear dnl
        go_wp2_with (first | go_skip | ((with_reducible show wpList _ _ _ _ _ _); first | ((refine rd (by rfl) (ex_indexA 32 20 i unPs idPs rfl rfl (unhide HA) rfl (unhide HLT)) ?_); simp only [Act.put, List.setIfInBounds_toArray, List.set_cons_succ, List.set_cons_zero]) | ((refine rd (by rfl) (ex_loadR (vs := p.cs) 61 20 rwP szP rfl rfl (unhide HA2 _ (unhide LL).hq.fr) rfl) ?_); simp only [Act.put, List.setIfInBounds_toArray, List.set_cons_succ, List.set_cons_zero]) | ((refine alT 61 (zeroP.cs) (by rfl) rfl (fun w => by kernel_rfl) (Nat.succ_pos _) (unhide LL) ?_); intro X8 B8 hE8 L8 hb8; have hB8 := hide (Nat.le_trans (unhide LL).hq.fr.size (Nat.le_of_eq hE8.symm)); replace SR := hide ((unhide SR).add hb8 hE8); replace LL := hide L8; clear L8 hb8 hE8; simp only [Act.put, List.setIfInBounds_toArray, List.set_cons_succ, List.set_cons_zero]) | ((refine stT (vs := p.cs) 0 61 (by rfl) rfl rfl rfl rfl (pcs_one p) szP (unhide LL) rfl (by simp [cput, PR.cs, SH.cs, VV.cs, KK.cs, DD.cs, CO.cs, DL.cs, zeroP, zeroS, zeroD, zeroV]) (Or.inr (unhide hB8)) ?_); intro X9 L9 hf9; replace SR := hide ((unhide SR).far hf9 (by simp)); replace LL := hide L9; clear L9 hf9; simp only [Act.put, List.setIfInBounds_toArray, List.set_cons_succ, List.set_cons_zero]) | ((refine rd (by rfl) (ex_loadN (vs := p.cs) 61 20 rwP szP rfl rfl ((unhide LL).hq.get 0 rfl) rfl rfl) ?_); simp only [Act.put, List.setIfInBounds_toArray, List.set_cons_succ, List.set_cons_zero]) | ((refine rd (by rfl) (ex_loadN (vs := p.k.cs) 56 2 rwK szK rfl rfl ((unhide LL).hq.get 0 rfl) rfl rfl) ?_); simp only [Act.put, List.setIfInBounds_toArray, List.set_cons_succ, List.set_cons_zero]) | ((refine rd (by rfl) (ex_lenG 32 61 Tryz.underlying32 rfl rfl) ?_); simp only [Act.put, List.setIfInBounds_toArray, List.set_cons_succ, List.set_cons_zero]) | ((refine buildT p (by rfl) rfl rfl (unhide LL) ?_); intro X3 B3 hE3 L3 hb3; have hB3 := hide (Nat.le_trans (unhide LL).hq.fr.size (Nat.le_of_eq hE3.symm)); replace SR := hide ((unhide SR).add hb3 hE3); replace LL := hide L3; clear L3 hb3 hE3; simp only [Act.put, List.setIfInBounds_toArray, List.set_cons_succ, List.set_cons_zero]) | ((refine append_any (base := X.heap.size) (size := 20) (bytes := 192) (n := st.length) (m := 1) (news := p.cs) (xs := flatP st) (v := .slice vA st.length vc) rfl rfl rfl rfl Tryz.underlying32 inf46 rfl (by decide) (unhide SR).own ((unhide LL).hq.get 1 rfl) rfl (pcs_one p) (unhide HSB) (by decide) (unhide LL).hq.fr.size ?_); intro A7 c7 X7 hO7 hg7 hF7; have hgr := (unhide SR).grow (unhide LL) (fun q hq => (unhide SR).nb q.1 (in2 hq)) hO7 hg7 hF7 (fun b hb => lt2 (unhide LL).hq hb); replace SR := hide hgr.1; replace LL := hide hgr.2; clear hgr hO7 hg7 hF7; simp only [Act.put, List.setIfInBounds_toArray, List.set_cons_succ, List.set_cons_zero])))
        have dnl := unhide HH
        have ht0 : TS X _ (t :: lv.ownBlock.toList) b0 t o ys lw [(B8, p.cs)] := (unhide LL).drew
        refine wp_region_held_drew (P := Tryz.prog) (S := fun Z => TS X Z (t :: lv.ownBlock.toList) b0 t o ys lw [(B8, p.cs)]) (by kernel_rfl) ht0 (fun hS0 => ?_)
        refine gsem 0 (some 22) (.int .i64 (st.length : Nat)) rfl (by kernel_rfl) (by kernel_rfl) (by kernel_rfl) (fun _ _ _ h => h) (by kernel_rfl) (by kernel_rfl) (fun _ _ => by kernel_rfl) ht0 ?_
        simp only [Act.put, List.setIfInBounds_toArray, List.set_cons_succ, List.set_cons_zero]
        refine gsem 1 (some 23) (.slice IA is.length ic) rfl (by kernel_rfl) (by kernel_rfl) (by kernel_rfl) (fun _ _ _ h => h) (by kernel_rfl) (by kernel_rfl) (fun _ _ => by kernel_rfl) ht0 ?_
        simp only [Act.put, List.setIfInBounds_toArray, List.set_cons_succ, List.set_cons_zero]
        refine gsem 2 (some 24) (.int .i64 (is.length : Nat)) rfl (by kernel_rfl) (by kernel_rfl) (by kernel_rfl) (fun _ _ _ h => h) (by kernel_rfl) (by kernel_rfl) (fun X hX => ex_lenG 32 61 Tryz.underlying32 rfl rfl) ht0 ?_
        simp only [Act.put, List.setIfInBounds_toArray, List.set_cons_succ, List.set_cons_zero]
        refine gsem 3 (some 25) (.bool false) rfl (by kernel_rfl) (by kernel_rfl) (by kernel_rfl) (fun _ _ _ h => h) (by kernel_rfl) (by kernel_rfl) (fun X hX => ex_ltI rfl rfl rfl dnl) ht0 ?_
        simp only [Act.put, List.setIfInBounds_toArray, List.set_cons_succ, List.set_cons_zero]
        refine gsem 4 (some 26) (.bool false) rfl (by kernel_rfl) (by kernel_rfl) (by kernel_rfl) (fun _ _ _ h => h) (by kernel_rfl) (by kernel_rfl) (fun _ _ => by kernel_rfl) ht0 ?_
        simp only [Act.put, List.setIfInBounds_toArray, List.set_cons_succ, List.set_cons_zero]
        refine gskipS 5 (some 27) rfl (by kernel_rfl) (by kernel_rfl) (by kernel_rfl) (fun _ _ _ h => h) (by kernel_rfl) (by kernel_rfl) ht0 ?_
        simp only [Act.put, List.setIfInBounds_toArray, List.set_cons_succ, List.set_cons_zero]
        refine gskipS 6 (some 28) rfl (by kernel_rfl) (by kernel_rfl) (by kernel_rfl) (fun _ _ _ h => h) (by kernel_rfl) (by kernel_rfl) ht0 ?_
        simp only [Act.put, List.setIfInBounds_toArray, List.set_cons_succ, List.set_cons_zero]
        refine gskipS 7 (some 29) rfl (by kernel_rfl) (by kernel_rfl) (by kernel_rfl) (fun _ _ _ h => h) (by kernel_rfl) (by kernel_rfl) ht0 ?_
        simp only [Act.put, List.setIfInBounds_toArray, List.set_cons_succ, List.set_cons_zero]
        refine gskipS 8 (some 30) rfl (by kernel_rfl) (by kernel_rfl) (by kernel_rfl) (fun _ _ _ h => h) (by kernel_rfl) (by kernel_rfl) ht0 ?_
        simp only [Act.put, List.setIfInBounds_toArray, List.set_cons_succ, List.set_cons_zero]
        refine gskipS 9 (some 31) rfl (by kernel_rfl) (by kernel_rfl) (by kernel_rfl) (fun _ _ _ h => h) (by kernel_rfl) (by kernel_rfl) ht0 ?_
        simp only [Act.put, List.setIfInBounds_toArray, List.set_cons_succ, List.set_cons_zero]
        refine gskipS 10 (some 32) rfl (by kernel_rfl) (by kernel_rfl) (by kernel_rfl) (fun _ _ _ h => h) (by kernel_rfl) (by kernel_rfl) ht0 ?_
        simp only [Act.put, List.setIfInBounds_toArray, List.set_cons_succ, List.set_cons_zero]
        refine gskipS 11 (some 33) rfl (by kernel_rfl) (by kernel_rfl) (by kernel_rfl) (fun _ _ _ h => h) (by kernel_rfl) (by kernel_rfl) ht0 ?_
        simp only [Act.put, List.setIfInBounds_toArray, List.set_cons_succ, List.set_cons_zero]
        refine gskipS 12 (some 34) rfl (by kernel_rfl) (by kernel_rfl) (by kernel_rfl) (fun _ _ _ h => h) (by kernel_rfl) (by kernel_rfl) ht0 ?_
        simp only [Act.put, List.setIfInBounds_toArray, List.set_cons_succ, List.set_cons_zero]
        refine gsem 13 (some 35) (.bool false) rfl (by kernel_rfl) (by kernel_rfl) (by kernel_rfl) (fun _ _ _ h => h) (by kernel_rfl) (by kernel_rfl) (fun _ _ => by kernel_rfl) ht0 ?_
        simp only [Act.put, List.setIfInBounds_toArray, List.set_cons_succ, List.set_cons_zero]
        refine wpAnyH_done (by kernel_rfl) ?_ _
        try simp only [Act.put, List.setIfInBounds_toArray, List.set_cons_succ, List.set_cons_zero]
        replace LL := hide ht0
        replace SR := hide (unhide SR).drew
        clear ht0 hS0 hnl dnl HH
        have HNX := hide ((unhide HNO) hhit)
        clear HNO HYES
        go_wp2_with (first | go_skip | ((with_reducible show wpList _ _ _ _ _ _); first | ((refine rd (by rfl) (ex_indexA 32 20 i unPs idPs rfl rfl (unhide HA) rfl (unhide HLT)) ?_); simp only [Act.put, List.setIfInBounds_toArray, List.set_cons_succ, List.set_cons_zero]) | ((refine rd (by rfl) (ex_loadR (vs := p.cs) 61 20 rwP szP rfl rfl (unhide HA2 _ (unhide LL).hq.fr) rfl) ?_); simp only [Act.put, List.setIfInBounds_toArray, List.set_cons_succ, List.set_cons_zero]) | ((refine alT 61 (zeroP.cs) (by rfl) rfl (fun w => by kernel_rfl) (Nat.succ_pos _) (unhide LL) ?_); intro X8 B8 hE8 L8 hb8; have hB8 := hide (Nat.le_trans (unhide LL).hq.fr.size (Nat.le_of_eq hE8.symm)); replace SR := hide ((unhide SR).add hb8 hE8); replace LL := hide L8; clear L8 hb8 hE8; simp only [Act.put, List.setIfInBounds_toArray, List.set_cons_succ, List.set_cons_zero]) | ((refine stT (vs := p.cs) 0 61 (by rfl) rfl rfl rfl rfl (pcs_one p) szP (unhide LL) rfl (by simp [cput, PR.cs, SH.cs, VV.cs, KK.cs, DD.cs, CO.cs, DL.cs, zeroP, zeroS, zeroD, zeroV]) (Or.inr (unhide hB8)) ?_); intro X9 L9 hf9; replace SR := hide ((unhide SR).far hf9 (by simp)); replace LL := hide L9; clear L9 hf9; simp only [Act.put, List.setIfInBounds_toArray, List.set_cons_succ, List.set_cons_zero]) | ((refine rd (by rfl) (ex_loadN (vs := p.cs) 61 20 rwP szP rfl rfl ((unhide LL).hq.get 0 rfl) rfl rfl) ?_); simp only [Act.put, List.setIfInBounds_toArray, List.set_cons_succ, List.set_cons_zero]) | ((refine rd (by rfl) (ex_loadN (vs := p.k.cs) 56 2 rwK szK rfl rfl ((unhide LL).hq.get 0 rfl) rfl rfl) ?_); simp only [Act.put, List.setIfInBounds_toArray, List.set_cons_succ, List.set_cons_zero]) | ((refine rd (by rfl) (ex_lenG 32 61 Tryz.underlying32 rfl rfl) ?_); simp only [Act.put, List.setIfInBounds_toArray, List.set_cons_succ, List.set_cons_zero]) | ((refine buildT p (by rfl) rfl rfl (unhide LL) ?_); intro X3 B3 hE3 L3 hb3; have hB3 := hide (Nat.le_trans (unhide LL).hq.fr.size (Nat.le_of_eq hE3.symm)); replace SR := hide ((unhide SR).add hb3 hE3); replace LL := hide L3; clear L3 hb3 hE3; simp only [Act.put, List.setIfInBounds_toArray, List.set_cons_succ, List.set_cons_zero]) | ((refine append_any (base := X.heap.size) (size := 20) (bytes := 192) (n := st.length) (m := 1) (news := p.cs) (xs := flatP st) (v := .slice vA st.length vc) rfl rfl rfl rfl Tryz.underlying32 inf46 rfl (by decide) (unhide SR).own ((unhide LL).hq.get 1 rfl) rfl (pcs_one p) (unhide HSB) (by decide) (unhide LL).hq.fr.size ?_); intro A7 c7 X7 hO7 hg7 hF7; have hgr := (unhide SR).grow (unhide LL) (fun q hq => (unhide SR).nb q.1 (in2 hq)) hO7 hg7 hF7 (fun b hb => lt2 (unhide LL).hq hb); replace SR := hide hgr.1; replace LL := hide hgr.2; clear hgr hO7 hg7 hF7; simp only [Act.put, List.setIfInBounds_toArray, List.set_cons_succ, List.set_cons_zero])))
        have hgo := gone_any p.k b0 t o _ lw _ (unhide LL).ti (unhide HXL) (Nat.le_trans (unhide H0) (unhide LL).hq.fr.size) (unhide HSP).1
        rw [kagg] at hgo
        refine hgo.mono ?_
        clear hgo
        rintro e Y4 ⟨lv4, rfl, hY4⟩
        replace SR := hide ((unhide SR).tell hY4)
        replace LL := hide ((unhide LL).tell hY4)
        clear hY4
        have LN : Hid (TS X Y4 (t :: lv.ownBlock.toList) b0 t o (xs ++ goT o is was (i + 1)) lv4 []) := hide (by rw [(unhide HNX).2]; have := TS.left (L := []) (unhide LL); rw [← hys] at this; simpa using this)
        have SN : Hid (SRow X Y4 t lv4 [] (stayT is was (i + 1)) (.slice vA (stayT is was (i + 1)).length vc)) := hide (by rw [(unhide HNX).1]; exact (unhide SR).drop)
        have e6 : st = stayT is was (i + 1) := (unhide HNX).1.symm
        clear LL SR HNX
        go_wp2_with (first | go_skip | ((with_reducible show wpList _ _ _ _ _ _); first | ((refine rd (by rfl) (ex_indexA 32 20 i unPs idPs rfl rfl (unhide HA) rfl (unhide HLT)) ?_); simp only [Act.put, List.setIfInBounds_toArray, List.set_cons_succ, List.set_cons_zero]) | ((refine rd (by rfl) (ex_loadR (vs := p.cs) 61 20 rwP szP rfl rfl (unhide HA2 _ (unhide LL).hq.fr) rfl) ?_); simp only [Act.put, List.setIfInBounds_toArray, List.set_cons_succ, List.set_cons_zero]) | ((refine alT 61 (zeroP.cs) (by rfl) rfl (fun w => by kernel_rfl) (Nat.succ_pos _) (unhide LL) ?_); intro X8 B8 hE8 L8 hb8; have hB8 := hide (Nat.le_trans (unhide LL).hq.fr.size (Nat.le_of_eq hE8.symm)); replace SR := hide ((unhide SR).add hb8 hE8); replace LL := hide L8; clear L8 hb8 hE8; simp only [Act.put, List.setIfInBounds_toArray, List.set_cons_succ, List.set_cons_zero]) | ((refine stT (vs := p.cs) 0 61 (by rfl) rfl rfl rfl rfl (pcs_one p) szP (unhide LL) rfl (by simp [cput, PR.cs, SH.cs, VV.cs, KK.cs, DD.cs, CO.cs, DL.cs, zeroP, zeroS, zeroD, zeroV]) (Or.inr (unhide hB8)) ?_); intro X9 L9 hf9; replace SR := hide ((unhide SR).far hf9 (by simp)); replace LL := hide L9; clear L9 hf9; simp only [Act.put, List.setIfInBounds_toArray, List.set_cons_succ, List.set_cons_zero]) | ((refine rd (by rfl) (ex_loadN (vs := p.cs) 61 20 rwP szP rfl rfl ((unhide LL).hq.get 0 rfl) rfl rfl) ?_); simp only [Act.put, List.setIfInBounds_toArray, List.set_cons_succ, List.set_cons_zero]) | ((refine rd (by rfl) (ex_loadN (vs := p.k.cs) 56 2 rwK szK rfl rfl ((unhide LL).hq.get 0 rfl) rfl rfl) ?_); simp only [Act.put, List.setIfInBounds_toArray, List.set_cons_succ, List.set_cons_zero]) | ((refine rd (by rfl) (ex_lenG 32 61 Tryz.underlying32 rfl rfl) ?_); simp only [Act.put, List.setIfInBounds_toArray, List.set_cons_succ, List.set_cons_zero]) | ((refine buildT p (by rfl) rfl rfl (unhide LL) ?_); intro X3 B3 hE3 L3 hb3; have hB3 := hide (Nat.le_trans (unhide LL).hq.fr.size (Nat.le_of_eq hE3.symm)); replace SR := hide ((unhide SR).add hb3 hE3); replace LL := hide L3; clear L3 hb3 hE3; simp only [Act.put, List.setIfInBounds_toArray, List.set_cons_succ, List.set_cons_zero]) | ((refine append_any (base := X.heap.size) (size := 20) (bytes := 192) (n := st.length) (m := 1) (news := p.cs) (xs := flatP st) (v := .slice vA st.length vc) rfl rfl rfl rfl Tryz.underlying32 inf46 rfl (by decide) (unhide SR).own ((unhide LL).hq.get 1 rfl) rfl (pcs_one p) (unhide HSB) (by decide) (unhide LL).hq.fr.size ?_); intro A7 c7 X7 hO7 hg7 hF7; have hgr := (unhide SR).grow (unhide LL) (fun q hq => (unhide SR).nb q.1 (in2 hq)) hO7 hg7 hF7 (fun b hb => lt2 (unhide LL).hq hb); replace SR := hide hgr.1; replace LL := hide hgr.2; clear hgr hO7 hg7 hF7; simp only [Act.put, List.setIfInBounds_toArray, List.set_cons_succ, List.set_cons_zero])))
        go_roundg (was.length - (i + 1))
        case measure => have := unhide HLT; omega
        case rel => exact ⟨i + 1, by go_num, by have := unhide HLT; omega, by omega, vA, vc, lv4, by rw [← e6], LN, SN⟩
    · obtain rfl : i = was.length := by omega
      obtain ⟨hl1, hl2, hl3⟩ := stayT_len o is was was.length
      have hPL : propsL o was is = goT o is was was.length ++ (chT o is (stayT is was was.length) (stayT is was was.length).length ++ (is.drop (stayT is was was.length).length).map (putL o)) := rfl
      have HPL := hide hPL
      clear hPL
      generalize stayT is was was.length = st at *
      generalize goT o is was was.length = gl at *
      have HL1 := hide hl1
      have HL3 := hide hl3
      have HL2 := hide hl2
      clear hlt hil hgm hl1 hl2 hl3
      go_wp2_with (first | go_skip | ((with_reducible show wpList _ _ _ _ _ _); first | ((refine rd (by rfl) (ex_lenG 32 61 Tryz.underlying32 rfl rfl) ?_); simp only [Act.put, List.setIfInBounds_toArray, List.set_cons_succ, List.set_cons_zero])))
      obtain ⟨w2, hw2⟩ : ∃ w2, w2 = wr := ⟨_, rfl⟩
      subst hw2
      go_loopg [47] st.length (fun gm s47 wr => ∃ i : Nat, s47 = .int .i64 (i : Nat) ∧ i ≤ st.length ∧ st.length - i ≤ gm ∧ ∃ lw : Value, Hid (TS X wr (t :: lv.ownBlock.toList) b0 t o (xs ++ (gl ++ chT o is st i)) lw []) ∧ Hid (SRow X wr t lw [] st (.slice vA st.length vc)))
      case atStart => exact ⟨0, rfl, by omega, by omega, lw, hide (by simpa [chT] using unhide LL), SR⟩
      case round =>
        clear LL SR
        obtain ⟨i, rfl, hil, hgm, lw, LL, SR⟩ := hrel
        by_cases hlt : i < st.length
        · have dlt : decide ((i : Int) < (st.length : Int)) = true := decide_eq_true (by omega)
          have hiis : i < is.length := by have := unhide HL1; omega
          have hw1 : IntKind.i64.wrap ((i : Int) + 1) = (i : Int) + 1 := by have := unhide HX; rw [IntKind.wrap_i64]; omega
          obtain ⟨p, hp⟩ : ∃ p, st[i]? = some p := ⟨_, List.getElem?_eq_getElem hlt⟩
          obtain ⟨q, hq⟩ : ∃ q, is[i]? = some q := ⟨_, List.getElem?_eq_getElem hiis⟩
          obtain ⟨_, b2, off2, hIA, hb2, hrg2⟩ := (unhide HI) i q hq
          obtain ⟨g, c3, hsv, _, _, hrg⟩ := own_row (f := PR.cs) (fun _ => rfl) (unhide SR).own rfl i hlt
          obtain ⟨hvA, rfl⟩ : vA = some ⟨g, 0, none⟩ ∧ vc = c3 := by simpa using hsv
          have hpe : st[i] = p := (List.getElem?_eq_some_iff.1 hp).2
          rw [hpe] at hrg
          have HA := hide hvA
          have HRG := hide hrg
          have HLT := hide hlt
          have HSQ := hide ((unhide HSI) q (List.mem_of_getElem? hq))
          have hsd := sameDesc_any p.d q.d
          simp only [dagg] at hsd
          have hcl := chT_len o is st i
          have hYES := chT_yes (o := o) hp hq
          have hNO := chT_no (o := o) hp hq
          have HXL : Hid ((xs ++ (gl ++ chT o is st i)).length ≤ 100000) := hide (by have := unhide HX; have := unhide HL3; have := unhide HL2; have := unhide HL1; rw [List.length_append, List.length_append]; omega)
          generalize hgl : chT o is st i = cl at *
          generalize hys : xs ++ (gl ++ cl) = ys at *
          generalize eqDD p.d q.d = eq at *
          have hout2 := (unhide HNI) i q hq b2 off2 hIA
          have HQ2 : Hid (∀ Z, Fr X Z (t :: lv.ownBlock.toList) → Z.rangeAt b2 (off2 + i * 20) q.cs) := hide (fun Z hZ => rangeAt_far hrg2 hb2 hZ hout2)
          have HH := hide (And.intro hIA (And.intro hb2 (And.intro hrg2 (And.intro hiis (And.intro hout2 hsd)))))
          have HIA := hide hIA
          have HIS := hide hiis
          have HYES := hide hYES
          have HNO := hide hNO
          clear hYES hNO hcl hgl hvA hsv hpe hrg hp hq hIA hb2 hrg2 hiis hsd hil hlt hout2
          cases eq
          · go_wp2_with (first | go_skip | ((with_reducible show wpList _ _ _ _ _ _); first | ((refine rd (by rfl) (ex_indexA 32 20 i unPs idPs rfl rfl (unhide HA) rfl (unhide HLT)) ?_); simp only [Act.put, List.setIfInBounds_toArray, List.set_cons_succ, List.set_cons_zero]) | ((refine rd (by rfl) (ex_loadR (vs := p.cs) 61 20 rwP szP rfl rfl (unhide HRG) rfl) ?_); simp only [Act.put, List.setIfInBounds_toArray, List.set_cons_succ, List.set_cons_zero]) | ((refine alT 61 (zeroP.cs) (by rfl) rfl (fun w => by kernel_rfl) (Nat.succ_pos _) (unhide LL) ?_); intro X11 B11 hE11 L11 hb11; have hB11 := hide (Nat.le_trans (unhide LL).hq.fr.size (Nat.le_of_eq hE11.symm)); replace SR := hide ((unhide SR).add hb11 hE11); replace LL := hide L11; clear L11 hb11 hE11; simp only [Act.put, List.setIfInBounds_toArray, List.set_cons_succ, List.set_cons_zero]) | ((refine stT (vs := p.cs) 0 61 (by rfl) rfl rfl rfl rfl (pcs_one p) szP (unhide LL) rfl (by simp [cput, PR.cs, SH.cs, VV.cs, KK.cs, DD.cs, CO.cs, DL.cs, zeroP, zeroS, zeroD, zeroV]) (Or.inr (unhide hB11)) ?_); intro X12 L12 hf12; replace SR := hide ((unhide SR).far hf12 (by simp)); replace LL := hide L12; clear L12 hf12; simp only [Act.put, List.setIfInBounds_toArray, List.set_cons_succ, List.set_cons_zero]) | ((refine rd (by rfl) (ex_lenG 32 61 Tryz.underlying32 rfl rfl) ?_); simp only [Act.put, List.setIfInBounds_toArray, List.set_cons_succ, List.set_cons_zero])))
            obtain ⟨hIA, hb2, hrg2, hiis, hout2, hsd⟩ := unhide HH
            have ht0 : TS X _ (t :: lv.ownBlock.toList) b0 t o ys lw [(B11, p.cs)] := (unhide LL).drew
            refine wp_region_held_drew (P := Tryz.prog) (S := fun Z => TS X Z (t :: lv.ownBlock.toList) b0 t o ys lw [(B11, p.cs)]) (by kernel_rfl) ht0 (fun hS0 => ?_)
            refine gsem 0 (some 52) (.pointer (some ⟨B11, 2, none⟩)) rfl (by kernel_rfl) (by kernel_rfl) (by kernel_rfl) (fun _ _ _ h => h) (by kernel_rfl) (by kernel_rfl) (fun _ _ => by kernel_rfl) ht0 ?_
            simp only [Act.put, List.setIfInBounds_toArray, List.set_cons_succ, List.set_cons_zero]
            refine gsem 1 (some 53) (.agg p.d.cs.toArray) rfl (by kernel_rfl) (by kernel_rfl) (by kernel_rfl) (fun _ _ _ h => h) (by kernel_rfl) (by kernel_rfl) (fun X hX => ex_loadN (vs := p.d.cs) 59 18 rwD szD rfl rfl (hX.hq.get 0 rfl) rfl rfl) ht0 ?_
            simp only [Act.put, List.setIfInBounds_toArray, List.set_cons_succ, List.set_cons_zero]
            refine gsem 2 (some 54) (.slice IA is.length ic) rfl (by kernel_rfl) (by kernel_rfl) (by kernel_rfl) (fun _ _ _ h => h) (by kernel_rfl) (by kernel_rfl) (fun _ _ => by kernel_rfl) ht0 ?_
            simp only [Act.put, List.setIfInBounds_toArray, List.set_cons_succ, List.set_cons_zero]
            refine gsem 3 (some 55) (.int .i64 (i : Nat)) rfl (by kernel_rfl) (by kernel_rfl) (by kernel_rfl) (fun _ _ _ h => h) (by kernel_rfl) (by kernel_rfl) (fun _ _ => by kernel_rfl) ht0 ?_
            simp only [Act.put, List.setIfInBounds_toArray, List.set_cons_succ, List.set_cons_zero]
            refine gsem 4 (some 56) (.pointer (some ⟨b2, off2 + i * 20, none⟩)) rfl (by kernel_rfl) (by kernel_rfl) (by kernel_rfl) (fun _ _ _ h => h) (by kernel_rfl) (by kernel_rfl) (fun X hX => ex_indexA 32 20 i unPs idPs rfl rfl hIA rfl hiis) ht0 ?_
            simp only [Act.put, List.setIfInBounds_toArray, List.set_cons_succ, List.set_cons_zero]
            refine gsem 5 (some 57) (.pointer (some ⟨b2, off2 + i * 20 + 2, none⟩)) rfl (by kernel_rfl) (by kernel_rfl) (by kernel_rfl) (fun _ _ _ h => h) (by kernel_rfl) (by kernel_rfl) (fun _ _ => by kernel_rfl) ht0 ?_
            simp only [Act.put, List.setIfInBounds_toArray, List.set_cons_succ, List.set_cons_zero]
            refine gsem 6 (some 58) (.agg q.d.cs.toArray) rfl (by kernel_rfl) (by kernel_rfl) (by kernel_rfl) (fun _ _ _ h => h) (by kernel_rfl) (by kernel_rfl) (fun X hX => ex_loadR (vs := q.d.cs) 59 18 rwD szD rfl rfl (range_right (a := q.k.cs) (c := q.d.cs) (rangeAt_far hrg2 hb2 hX.hq.fr hout2)) rfl) ht0 ?_
            simp only [Act.put, List.setIfInBounds_toArray, List.set_cons_succ, List.set_cons_zero]
            refine wpAnyH_ready (rs := [7]) (by kernel_rfl) (by simp) (gcallR 7 (some 59) rfl (by kernel_rfl) (by kernel_rfl) (by kernel_rfl) (hsd _ (unhide HTB _ ht0.hq.fr)) ?_ AllReadyH.nil)
            rintro e Y7 ⟨rfl, hY7⟩
            have ht7 := ht0.on hY7
            refine ⟨_, rfl, ht7, ?_⟩
            simp only [Act.put, List.setIfInBounds_toArray, List.set_cons_succ, List.set_cons_zero]
            refine gsem 8 (some 60) (.bool true) rfl (by kernel_rfl) (by kernel_rfl) (by kernel_rfl) (fun _ _ _ h => h) (by kernel_rfl) (by kernel_rfl) (fun _ _ => by kernel_rfl) ht7 ?_
            simp only [Act.put, List.setIfInBounds_toArray, List.set_cons_succ, List.set_cons_zero]
            refine wpAnyH_done (by kernel_rfl) ?_ _
            try simp only [Act.put, List.setIfInBounds_toArray, List.set_cons_succ, List.set_cons_zero]
            replace LL := hide ht7
            replace SR := hide ((unhide SR).drew.on hY7)
            clear ht0 ht7 hY7 hS0 hIA hb2 hrg2 hiis hsd hout2 HH
            have HNX := hide ((unhide HNO) (by simp))
            clear HYES HNO
            go_wp2_with (first | go_skip | ((with_reducible show wpList _ _ _ _ _ _); first | ((refine rd (by rfl) (ex_indexA 32 20 i unPs idPs rfl rfl (unhide HIA) rfl (unhide HIS)) ?_); simp only [Act.put, List.setIfInBounds_toArray, List.set_cons_succ, List.set_cons_zero]) | ((refine rd (by rfl) (ex_loadR (vs := q.cs) 61 20 rwP szP rfl rfl (unhide HQ2 _ (unhide LL).hq.fr) rfl) ?_); simp only [Act.put, List.setIfInBounds_toArray, List.set_cons_succ, List.set_cons_zero]) | ((refine rd (by rfl) (ex_lenG 32 61 Tryz.underlying32 rfl rfl) ?_); simp only [Act.put, List.setIfInBounds_toArray, List.set_cons_succ, List.set_cons_zero])))
            have hpu := put_anyT q b0 t o _ lw _ (unhide LL).ti (unhide HXL) (Nat.le_trans (unhide H0) (unhide LL).hq.fr.size) (unhide HSQ)
            rw [pagg] at hpu
            refine hpu.mono ?_
            clear hpu
            rintro e Y4 ⟨lv4, rfl, hY4⟩
            replace SR := hide ((unhide SR).tell hY4)
            replace LL := hide ((unhide LL).tell hY4)
            clear hY4
            have LN : Hid (TS X Y4 (t :: lv.ownBlock.toList) b0 t o (xs ++ (gl ++ chT o is st (i + 1))) lv4 []) := hide (by rw [unhide HNX]; have := TS.left (L := []) (unhide LL); rw [← hys] at this; simpa using this)
            replace SR := hide (unhide SR).drop
            clear LL HNX
            go_wp2
            go_roundg (st.length - (i + 1))
            case measure => have := unhide HLT; omega
            case rel => exact ⟨i + 1, by go_num, by have := unhide HLT; omega, by omega, lv4, LN, SR⟩
          · go_wp2_with (first | go_skip | ((with_reducible show wpList _ _ _ _ _ _); first | ((refine rd (by rfl) (ex_indexA 32 20 i unPs idPs rfl rfl (unhide HA) rfl (unhide HLT)) ?_); simp only [Act.put, List.setIfInBounds_toArray, List.set_cons_succ, List.set_cons_zero]) | ((refine rd (by rfl) (ex_loadR (vs := p.cs) 61 20 rwP szP rfl rfl (unhide HRG) rfl) ?_); simp only [Act.put, List.setIfInBounds_toArray, List.set_cons_succ, List.set_cons_zero]) | ((refine alT 61 (zeroP.cs) (by rfl) rfl (fun w => by kernel_rfl) (Nat.succ_pos _) (unhide LL) ?_); intro X11 B11 hE11 L11 hb11; have hB11 := hide (Nat.le_trans (unhide LL).hq.fr.size (Nat.le_of_eq hE11.symm)); replace SR := hide ((unhide SR).add hb11 hE11); replace LL := hide L11; clear L11 hb11 hE11; simp only [Act.put, List.setIfInBounds_toArray, List.set_cons_succ, List.set_cons_zero]) | ((refine stT (vs := p.cs) 0 61 (by rfl) rfl rfl rfl rfl (pcs_one p) szP (unhide LL) rfl (by simp [cput, PR.cs, SH.cs, VV.cs, KK.cs, DD.cs, CO.cs, DL.cs, zeroP, zeroS, zeroD, zeroV]) (Or.inr (unhide hB11)) ?_); intro X12 L12 hf12; replace SR := hide ((unhide SR).far hf12 (by simp)); replace LL := hide L12; clear L12 hf12; simp only [Act.put, List.setIfInBounds_toArray, List.set_cons_succ, List.set_cons_zero]) | ((refine rd (by rfl) (ex_lenG 32 61 Tryz.underlying32 rfl rfl) ?_); simp only [Act.put, List.setIfInBounds_toArray, List.set_cons_succ, List.set_cons_zero])))
            obtain ⟨hIA, hb2, hrg2, hiis, hout2, hsd⟩ := unhide HH
            have ht0 : TS X _ (t :: lv.ownBlock.toList) b0 t o ys lw [(B11, p.cs)] := (unhide LL).drew
            refine wp_region_held_drew (P := Tryz.prog) (S := fun Z => TS X Z (t :: lv.ownBlock.toList) b0 t o ys lw [(B11, p.cs)]) (by kernel_rfl) ht0 (fun hS0 => ?_)
            refine gsem 0 (some 52) (.pointer (some ⟨B11, 2, none⟩)) rfl (by kernel_rfl) (by kernel_rfl) (by kernel_rfl) (fun _ _ _ h => h) (by kernel_rfl) (by kernel_rfl) (fun _ _ => by kernel_rfl) ht0 ?_
            simp only [Act.put, List.setIfInBounds_toArray, List.set_cons_succ, List.set_cons_zero]
            refine gsem 1 (some 53) (.agg p.d.cs.toArray) rfl (by kernel_rfl) (by kernel_rfl) (by kernel_rfl) (fun _ _ _ h => h) (by kernel_rfl) (by kernel_rfl) (fun X hX => ex_loadN (vs := p.d.cs) 59 18 rwD szD rfl rfl (hX.hq.get 0 rfl) rfl rfl) ht0 ?_
            simp only [Act.put, List.setIfInBounds_toArray, List.set_cons_succ, List.set_cons_zero]
            refine gsem 2 (some 54) (.slice IA is.length ic) rfl (by kernel_rfl) (by kernel_rfl) (by kernel_rfl) (fun _ _ _ h => h) (by kernel_rfl) (by kernel_rfl) (fun _ _ => by kernel_rfl) ht0 ?_
            simp only [Act.put, List.setIfInBounds_toArray, List.set_cons_succ, List.set_cons_zero]
            refine gsem 3 (some 55) (.int .i64 (i : Nat)) rfl (by kernel_rfl) (by kernel_rfl) (by kernel_rfl) (fun _ _ _ h => h) (by kernel_rfl) (by kernel_rfl) (fun _ _ => by kernel_rfl) ht0 ?_
            simp only [Act.put, List.setIfInBounds_toArray, List.set_cons_succ, List.set_cons_zero]
            refine gsem 4 (some 56) (.pointer (some ⟨b2, off2 + i * 20, none⟩)) rfl (by kernel_rfl) (by kernel_rfl) (by kernel_rfl) (fun _ _ _ h => h) (by kernel_rfl) (by kernel_rfl) (fun X hX => ex_indexA 32 20 i unPs idPs rfl rfl hIA rfl hiis) ht0 ?_
            simp only [Act.put, List.setIfInBounds_toArray, List.set_cons_succ, List.set_cons_zero]
            refine gsem 5 (some 57) (.pointer (some ⟨b2, off2 + i * 20 + 2, none⟩)) rfl (by kernel_rfl) (by kernel_rfl) (by kernel_rfl) (fun _ _ _ h => h) (by kernel_rfl) (by kernel_rfl) (fun _ _ => by kernel_rfl) ht0 ?_
            simp only [Act.put, List.setIfInBounds_toArray, List.set_cons_succ, List.set_cons_zero]
            refine gsem 6 (some 58) (.agg q.d.cs.toArray) rfl (by kernel_rfl) (by kernel_rfl) (by kernel_rfl) (fun _ _ _ h => h) (by kernel_rfl) (by kernel_rfl) (fun X hX => ex_loadR (vs := q.d.cs) 59 18 rwD szD rfl rfl (range_right (a := q.k.cs) (c := q.d.cs) (rangeAt_far hrg2 hb2 hX.hq.fr hout2)) rfl) ht0 ?_
            simp only [Act.put, List.setIfInBounds_toArray, List.set_cons_succ, List.set_cons_zero]
            refine wpAnyH_ready (rs := [7]) (by kernel_rfl) (by simp) (gcallR 7 (some 59) rfl (by kernel_rfl) (by kernel_rfl) (by kernel_rfl) (hsd _ (unhide HTB _ ht0.hq.fr)) ?_ AllReadyH.nil)
            rintro e Y7 ⟨rfl, hY7⟩
            have ht7 := ht0.on hY7
            refine ⟨_, rfl, ht7, ?_⟩
            simp only [Act.put, List.setIfInBounds_toArray, List.set_cons_succ, List.set_cons_zero]
            refine gsem 8 (some 60) (.bool false) rfl (by kernel_rfl) (by kernel_rfl) (by kernel_rfl) (fun _ _ _ h => h) (by kernel_rfl) (by kernel_rfl) (fun _ _ => by kernel_rfl) ht7 ?_
            simp only [Act.put, List.setIfInBounds_toArray, List.set_cons_succ, List.set_cons_zero]
            refine wpAnyH_done (by kernel_rfl) ?_ _
            try simp only [Act.put, List.setIfInBounds_toArray, List.set_cons_succ, List.set_cons_zero]
            replace LL := hide ht7
            replace SR := hide ((unhide SR).drew.on hY7)
            clear ht0 ht7 hY7 hS0 hIA hb2 hrg2 hiis hsd hout2 HH
            have HNX := hide ((unhide HYES) (by simp))
            clear HYES HNO
            go_wp2
            have LN : Hid (TS X _ (t :: lv.ownBlock.toList) b0 t o (xs ++ (gl ++ chT o is st (i + 1))) lw []) := hide (by rw [unhide HNX, hys]; exact TS.left (L := []) (unhide LL))
            replace SR := hide (unhide SR).drop
            go_roundg (st.length - (i + 1))
            case measure => have := unhide HLT; omega
            case rel => exact ⟨i + 1, by go_num, by have := unhide HLT; omega, by omega, lw, LN, SR⟩
        · obtain rfl : i = st.length := by omega
          obtain ⟨A3, hA3, hsl⟩ := sliceU IA is.length ic st.length (unhide HL1) (unhide HIC) (fun hn => by obtain ⟨q, hq⟩ : ∃ q, is[0]? = some q := ⟨_, List.getElem?_eq_getElem (by omega)⟩; obtain ⟨_, b, off, h, _⟩ := (unhide HI) 0 q hq; exact ⟨b, off, h⟩) wr
          have HR3 := hide (reads_drop (unhide HI) hA3)
          have HO3 := hide (out_drop (unhide HNI) (unhide HI) hA3)
          have HS3 : Hid (∀ p ∈ is.drop st.length, SP p) := hide (fun p hp => (unhide HSI) p (List.mem_of_mem_drop hp))
          have hdl : is.length - st.length = (is.drop st.length).length := by simp
          rw [hdl] at hsl
          have HSL := hide hsl
          have hcl := chT_len o is st st.length
          generalize chT o is st st.length = cl at *
          have HDL : Hid (xs.length + gl.length + cl.length + (is.drop st.length).length ≤ 100000) := hide (by have := unhide HX; have := unhide HL3; have := unhide HL2; have := unhide HL1; rw [← hdl]; omega)
          generalize is.drop st.length = dr at *
          clear hlt hil hgm hA3 hdl hsl hcl
          go_wp2_with (first | go_skip | ((with_reducible show wpList _ _ _ _ _ _); first | ((refine rd (by rfl) (ex_lenG 32 61 Tryz.underlying32 rfl rfl) ?_); simp only [Act.put, List.setIfInBounds_toArray, List.set_cons_succ, List.set_cons_zero]) | ((refine rd (by rfl) (ex_sliceU rfl rfl rfl (unhide HSL)) ?_); simp only [Act.put, List.setIfInBounds_toArray, List.set_cons_succ, List.set_cons_zero])))
          obtain ⟨w3, hw3⟩ : ∃ w3, w3 = wr := ⟨_, rfl⟩
          subst hw3
          go_loopg [73] dr.length (fun gm s73 wr => ∃ i : Nat, s73 = .int .i64 (i : Nat) ∧ i ≤ dr.length ∧ dr.length - i ≤ gm ∧ ∃ lw : Value, Hid (TS X wr (t :: lv.ownBlock.toList) b0 t o (xs ++ (gl ++ (cl ++ (dr.take i).map (putL o)))) lw []))
          case atStart => exact ⟨0, rfl, by omega, by omega, lw, hide (by simpa using unhide LL)⟩
          case round =>
            clear LL SR
            obtain ⟨i, rfl, hil, hgm, lw, LL⟩ := hrel
            by_cases hlt : i < dr.length
            · have dlt : decide ((i : Int) < (dr.length : Int)) = true := decide_eq_true (by omega)
              have hw1 : IntKind.i64.wrap ((i : Int) + 1) = (i : Int) + 1 := by have := unhide HDL; rw [IntKind.wrap_i64]; omega
              obtain ⟨p, hp⟩ : ∃ p, dr[i]? = some p := ⟨_, List.getElem?_eq_getElem hlt⟩
              obtain ⟨_, b, off, hA, hb, hrg⟩ := (unhide HR3) i p hp
              have HA := hide hA
              have HA2 : Hid (∀ Z, Fr X Z (t :: lv.ownBlock.toList) → Z.rangeAt b (off + i * 20) p.cs) := hide (fun Z hZ => rangeAt_far hrg hb hZ ((unhide HO3) i p hp b off hA))
              have HLT := hide hlt
              have HSP := hide ((unhide HS3) p (List.mem_of_getElem? hp))
              have HTM := hide (take_map o hp)
              have HXL : Hid ((xs ++ (gl ++ (cl ++ (dr.take i).map (putL o)))).length ≤ 100000) := hide (by have := unhide HDL; simp; omega)
              clear hA hb hrg hlt hil hp
              go_wp2_with (first | go_skip | ((with_reducible show wpList _ _ _ _ _ _); first | ((refine rd (by rfl) (ex_indexA 32 20 i unPs idPs rfl rfl (unhide HA) rfl (unhide HLT)) ?_); simp only [Act.put, List.setIfInBounds_toArray, List.set_cons_succ, List.set_cons_zero]) | ((refine rd (by rfl) (ex_loadR (vs := p.cs) 61 20 rwP szP rfl rfl (unhide HA2 _ (unhide LL).hq.fr) rfl) ?_); simp only [Act.put, List.setIfInBounds_toArray, List.set_cons_succ, List.set_cons_zero]) | ((refine alT 61 (zeroP.cs) (by rfl) rfl (fun w => by kernel_rfl) (Nat.succ_pos _) (unhide LL) ?_); intro X13 B13 hE13 L13 hb13; have hB13 := hide (Nat.le_trans (unhide LL).hq.fr.size (Nat.le_of_eq hE13.symm)); replace LL := hide L13; clear L13 hb13 hE13; simp only [Act.put, List.setIfInBounds_toArray, List.set_cons_succ, List.set_cons_zero]) | ((refine stT (vs := p.cs) 0 61 (by rfl) rfl rfl rfl rfl (pcs_one p) szP (unhide LL) rfl (by simp [cput, PR.cs, SH.cs, VV.cs, KK.cs, DD.cs, CO.cs, DL.cs, zeroP, zeroS, zeroD, zeroV]) (Or.inr (unhide hB13)) ?_); intro X14 L14 hf14; replace LL := hide L14; clear L14 hf14; simp only [Act.put, List.setIfInBounds_toArray, List.set_cons_succ, List.set_cons_zero]) | ((refine rd (by rfl) (ex_loadN (vs := p.cs) 61 20 rwP szP rfl rfl ((unhide LL).hq.get 0 rfl) rfl rfl) ?_); simp only [Act.put, List.setIfInBounds_toArray, List.set_cons_succ, List.set_cons_zero]) | ((refine rd (by rfl) (ex_lenG 32 61 Tryz.underlying32 rfl rfl) ?_); simp only [Act.put, List.setIfInBounds_toArray, List.set_cons_succ, List.set_cons_zero])))
              have hpu := put_anyT p b0 t o _ lw _ (unhide LL).ti (unhide HXL) (Nat.le_trans (unhide H0) (unhide LL).hq.fr.size) (unhide HSP)
              rw [pagg] at hpu
              refine hpu.mono ?_
              clear hpu
              rintro e Y4 ⟨lv4, rfl, hY4⟩
              replace LL := hide ((unhide LL).tell hY4)
              clear hY4
              have LN : Hid (TS X Y4 (t :: lv.ownBlock.toList) b0 t o (xs ++ (gl ++ (cl ++ (dr.take (i + 1)).map (putL o)))) lv4 []) := hide (by rw [unhide HTM]; have := TS.left (L := []) (unhide LL); simpa using this)
              clear LL
              go_wp2_with (first | go_skip | ((with_reducible show wpList _ _ _ _ _ _); first | ((refine rd (by rfl) (ex_indexA 32 20 i unPs idPs rfl rfl (unhide HA) rfl (unhide HLT)) ?_); simp only [Act.put, List.setIfInBounds_toArray, List.set_cons_succ, List.set_cons_zero]) | ((refine rd (by rfl) (ex_loadR (vs := p.cs) 61 20 rwP szP rfl rfl (unhide HA2 _ (unhide LL).hq.fr) rfl) ?_); simp only [Act.put, List.setIfInBounds_toArray, List.set_cons_succ, List.set_cons_zero]) | ((refine alT 61 (zeroP.cs) (by rfl) rfl (fun w => by kernel_rfl) (Nat.succ_pos _) (unhide LL) ?_); intro X13 B13 hE13 L13 hb13; have hB13 := hide (Nat.le_trans (unhide LL).hq.fr.size (Nat.le_of_eq hE13.symm)); replace LL := hide L13; clear L13 hb13 hE13; simp only [Act.put, List.setIfInBounds_toArray, List.set_cons_succ, List.set_cons_zero]) | ((refine stT (vs := p.cs) 0 61 (by rfl) rfl rfl rfl rfl (pcs_one p) szP (unhide LL) rfl (by simp [cput, PR.cs, SH.cs, VV.cs, KK.cs, DD.cs, CO.cs, DL.cs, zeroP, zeroS, zeroD, zeroV]) (Or.inr (unhide hB13)) ?_); intro X14 L14 hf14; replace LL := hide L14; clear L14 hf14; simp only [Act.put, List.setIfInBounds_toArray, List.set_cons_succ, List.set_cons_zero]) | ((refine rd (by rfl) (ex_loadN (vs := p.cs) 61 20 rwP szP rfl rfl ((unhide LL).hq.get 0 rfl) rfl rfl) ?_); simp only [Act.put, List.setIfInBounds_toArray, List.set_cons_succ, List.set_cons_zero]) | ((refine rd (by rfl) (ex_lenG 32 61 Tryz.underlying32 rfl rfl) ?_); simp only [Act.put, List.setIfInBounds_toArray, List.set_cons_succ, List.set_cons_zero])))
              go_roundg (dr.length - (i + 1))
              case measure => have := unhide HLT; omega
              case rel => exact ⟨i + 1, by go_num, by have := unhide HLT; omega, by omega, lv4, LN⟩
            · obtain rfl : i = dr.length := by omega
              clear hlt hil
              have LF : Hid (TP X b0 t o xs (gl ++ (cl ++ dr.map (putL o))) lv lw wr) := hide (by have := (unhide LL).post; rw [List.take_length] at this; exact this)
              clear LL
              go_wp2
              go_end0
              exact ⟨_, rfl, by rw [unhide HPL]; exact unhide LF⟩
end Go.Proofs.YtcflglloopgieaaGreatDoor
