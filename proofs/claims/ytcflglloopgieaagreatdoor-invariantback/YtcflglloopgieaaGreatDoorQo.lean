import Derived.Test.YtcflglloopgieaaGreatDoorQn

/-! If -/
namespace Go.Proofs.YtcflglloopgieaaGreatDoor
open Go Go.Proofs Go.Maps Go.RowKit FM
set_option linter.unusedSimpArgs false
set_option linter.unusedVariables false
set_option maxHeartbeats 1000000
def fO (l : List PR) (k : KK) : Option Nat := l.findIdx? (fun p => decide (p.k = k))
def oI : Option Nat → Int
  | some j => (j : Int)
  | none => -1
theorem fO_succ {l : List PR} {i : Nat} {p : PR} (hp : l[i]? = some p) (q : KK) : fO (l.take (i + 1)) q = (fO (l.take i) q).or (if q = p.k then some i else none) := by
  obtain ⟨hi, rfl⟩ := List.getElem?_eq_some_iff.1 hp
  unfold fO
  rw [List.take_succ_eq_append_getElem hi, List.findIdx?_append]
  congr 1
  by_cases e : q = l[i].k
  · subst e
    simp [List.findIdx?_cons, Nat.min_eq_left (Nat.le_of_lt hi)]
  · simp [List.findIdx?_cons, e, Ne.symm e]
/-- How many keys there are among the first ones. -/
def cntK (l : List PR) : Nat → Nat
  | 0 => 0
  | i + 1 => match l[i]? with
    | none => cntK l i
    | some p => if (fO (l.take i) p.k).isSome then cntK l i else cntK l i + 1
theorem cntK_yes {l : List PR} {i : Nat} {p : PR} (hp : l[i]? = some p) (h : (fO (l.take i) p.k).isSome = true) : cntK l (i + 1) = cntK l i := by
  simp [cntK, hp, h]
theorem cntK_no {l : List PR} {i : Nat} {p : PR} (hp : l[i]? = some p) (h : fO (l.take i) p.k = none) : cntK l (i + 1) = cntK l i + 1 := by
  simp [cntK, hp, h]
theorem fO_yes {l : List PR} {i : Nat} {p : PR} (hp : l[i]? = some p) (h : (fO (l.take i) p.k).isSome = true) (q : KK) : fO (l.take i) q = fO (l.take (i + 1)) q := by
  rw [fO_succ hp]
  by_cases e : q = p.k
  · subst e
    obtain ⟨j, hj⟩ := Option.isSome_iff_exists.1 h
    simp [hj]
  · simp [e]
theorem fO_put {l : List PR} {i : Nat} {p : PR} (hp : l[i]? = some p) (h : fO (l.take i) p.k = none) (q : KK) : putF (fO (l.take i)) p.k i q = fO (l.take (i + 1)) q := by
  rw [fO_succ hp, putF]
  by_cases e : q = p.k
  · subst e
    simp [h]
  · simp [e]
def PlPost (w : World) (ps : List PR) (e : Ending) (X : World) : Prop := ∃ B n : Nat, e = .returned (.map (some B)) ∧ w.heap.size ≤ B ∧ MapI X B n (cntK ps ps.length) (fO ps) ∧ Below w.heap.size w X
set_option maxHeartbeats 2000000 in
set_option maxRecDepth 100000 in
theorem places_any (B : Option Addr) (cap : Nat) (ps : List PR) (w : World) (hR : ReadsP w B ps) (hz : ps.length ≤ 733007751850) : Calls Tryz.prog 51 #[.slice B ps.length cap] w (PlPost w ps) := by
  have LL := hide (Hq.nil w [])
  have HR := hide hR
  have HZ := hide hz
  clear hR hz
  go_enter Tryz.func51, Tryz.ntmps51
  go_wp2_with (first | go_skip | ((with_reducible show wpList _ _ _ _ _ _); first | ((refine rd (by rfl) (ex_lenG 32 61 Tryz.underlying32 rfl rfl) ?_); simp only [Act.put, List.setIfInBounds_toArray, List.set_cons_succ, List.set_cons_zero]) | ((refine mmI (by rfl) rfl rfl (unhide LL) ?_); intro X1 M1 hE1 L1 hM1 hb1; have HM := hide (And.intro hM1 (Nat.le_trans (unhide LL).fr.size (Nat.le_of_eq hE1.symm))); replace LL := hide L1; clear L1 hM1 hb1 hE1; simp only [Act.put, List.setIfInBounds_toArray, List.set_cons_succ, List.set_cons_zero])))
  go_loopg [13] ps.length (fun gm s13 wr => ∃ i : Nat, s13 = .int .i64 (i : Nat) ∧ i ≤ ps.length ∧ ps.length - i ≤ gm ∧ Hid ((∃ n, n ≤ i ∧ MapI wr M1 n (cntK ps i) (fO (ps.take i))) ∧ w.heap.size ≤ M1) ∧ Hid (Hq w wr [] []))
  case atStart => exact ⟨0, rfl, by omega, by omega, hide ⟨⟨0, Nat.le_refl _, (unhide HM).1.congr rfl (fun k => by simp [fO])⟩, (unhide HM).2⟩, LL⟩
  case round =>
    clear LL HM
    obtain ⟨i, rfl, hil, hgm, HM0, LL⟩ := hrel
    by_cases hlt : i < ps.length
    · have dlt : decide ((i : Int) < (ps.length : Int)) = true := decide_eq_true (by omega)
      have hw1 : IntKind.i64.wrap ((i : Int) + 1) = (i : Int) + 1 := by have := unhide HZ; rw [IntKind.wrap_i64]; omega
      obtain ⟨p, hp⟩ : ∃ p, ps[i]? = some p := ⟨_, List.getElem?_eq_getElem hlt⟩
      obtain ⟨hok, b, off, hA, hb, hrg⟩ := (unhide HR) i p hp
      subst hA
      have HA2 : Hid (∀ X, Fr w X [] → X.rangeAt b (off + i * 20) p.cs) := hide (fun X hX => rangeAt_fr hrg hb hX)
      have HLT := hide hlt
      obtain ⟨⟨n, hni, hm0⟩, hM0⟩ := unhide HM0
      have HM := hide (And.intro hm0 hM0)
      have HMX : Hid (n < maxLen) := hide (by have := unhide HZ; unfold maxLen; omega)
      have HNI := hide hni
      have HOK := hide hok.2
      clear HM0 hm0 hM0 hb hrg hlt hil hok hni
      cases hfo : fO (ps.take i) p.k
      · have HFO := hide hfo
        have HS := hide (cntK_no hp hfo)
        have HP := hide (fO_put hp hfo)
        clear hp hfo
        go_wp2_with (first | go_skip | ((with_reducible show wpList _ _ _ _ _ _); first | ((refine rd (by rfl) (ex_lenG 32 61 Tryz.underlying32 rfl rfl) ?_); simp only [Act.put, List.setIfInBounds_toArray, List.set_cons_succ, List.set_cons_zero]) | ((refine rd (by rfl) (ex_indexG 32 20 i unPs idPs rfl rfl rfl (unhide HLT)) ?_); simp only [Act.put, List.setIfInBounds_toArray, List.set_cons_succ, List.set_cons_zero]) | ((refine rd (by rfl) (ex_loadR (vs := p.cs) 61 20 rwP szP rfl rfl (unhide HA2 _ (unhide LL).fr) rfl) ?_); simp only [Act.put, List.setIfInBounds_toArray, List.set_cons_succ, List.set_cons_zero]) | ((refine alG 61 (zeroP.cs) (by rfl) rfl (fun w => by kernel_rfl) (Nat.succ_pos _) (unhide LL) ?_); intro X3 B3 hE3 L3 hb3; have hB3 := hide (Nat.le_trans (unhide LL).fr.size (Nat.le_of_eq hE3.symm)); have hNE : Hid (M1 ≠ B3) := hide (Nat.ne_of_lt (Nat.lt_of_lt_of_le (unhide HM).1.lt (Nat.le_of_eq hE3.symm))); replace HM := hide (And.intro ((unhide HM).1.on hb3) (unhide HM).2); replace LL := hide L3; clear L3 hb3 hE3; simp only [Act.put, List.setIfInBounds_toArray, List.set_cons_succ, List.set_cons_zero]) | ((refine st (vs := p.cs) 0 61 (by rfl) rfl rfl rfl rfl (pcs_one p) (szP) (unhide LL) rfl (by simp [cput, PR.cs, SH.cs, VV.cs, KK.cs, DD.cs, CO.cs, DL.cs, zeroP, zeroS, zeroD, zeroV]) (Or.inr (unhide hB3)) ?_); intro X4 L4 hf4 hs4; replace HM := hide (And.intro ((unhide HM).1.far hf4 (unhide hNE)) (unhide HM).2); replace LL := hide L4; clear L4 hf4 hs4; simp only [Act.put, List.setIfInBounds_toArray, List.set_cons_succ, List.set_cons_zero]) | ((refine rd (by rfl) (ex_loadN (vs := p.k.cs) 56 2 rwK szK rfl rfl ((unhide LL).get 0 rfl) rfl rfl) ?_); simp only [Act.put, List.setIfInBounds_toArray, List.set_cons_succ, List.set_cons_zero]) | ((refine rd (by rfl) (ex_lookI rfl rfl rfl (unhide HM).1 (unhide HOK) (unhide HFO)) ?_); simp only [Act.put, List.setIfInBounds_toArray, List.set_cons_succ, List.set_cons_zero]) | ((refine updI (k := p.k) (by rfl) rfl rfl rfl rfl (unhide HM).1 (unhide HOK) (unhide HMX) ?_); intro X6 hm6 hf6; have HM6 := hide (And.intro hm6 (And.intro (unhide HM).2 ((unhide LL).fr.trans hf6 (fun b hb => .inr (by obtain rfl : b = M1 := (by simpa using hb); exact (unhide HM).2))))); clear hm6 hf6 HM LL; simp only [Act.put, List.setIfInBounds_toArray, List.set_cons_succ, List.set_cons_zero])))
        unfold nz
        go_wp2_with (first | go_skip | ((with_reducible show wpList _ _ _ _ _ _); first | ((refine rd (by rfl) (ex_lenG 32 61 Tryz.underlying32 rfl rfl) ?_); simp only [Act.put, List.setIfInBounds_toArray, List.set_cons_succ, List.set_cons_zero]) | ((refine rd (by rfl) (ex_indexG 32 20 i unPs idPs rfl rfl rfl (unhide HLT)) ?_); simp only [Act.put, List.setIfInBounds_toArray, List.set_cons_succ, List.set_cons_zero]) | ((refine rd (by rfl) (ex_loadR (vs := p.cs) 61 20 rwP szP rfl rfl (unhide HA2 _ (unhide LL).fr) rfl) ?_); simp only [Act.put, List.setIfInBounds_toArray, List.set_cons_succ, List.set_cons_zero]) | ((refine alG 61 (zeroP.cs) (by rfl) rfl (fun w => by kernel_rfl) (Nat.succ_pos _) (unhide LL) ?_); intro X3 B3 hE3 L3 hb3; have hB3 := hide (Nat.le_trans (unhide LL).fr.size (Nat.le_of_eq hE3.symm)); have hNE : Hid (M1 ≠ B3) := hide (Nat.ne_of_lt (Nat.lt_of_lt_of_le (unhide HM).1.lt (Nat.le_of_eq hE3.symm))); replace HM := hide (And.intro ((unhide HM).1.on hb3) (unhide HM).2); replace LL := hide L3; clear L3 hb3 hE3; simp only [Act.put, List.setIfInBounds_toArray, List.set_cons_succ, List.set_cons_zero]) | ((refine st (vs := p.cs) 0 61 (by rfl) rfl rfl rfl rfl (pcs_one p) (szP) (unhide LL) rfl (by simp [cput, PR.cs, SH.cs, VV.cs, KK.cs, DD.cs, CO.cs, DL.cs, zeroP, zeroS, zeroD, zeroV]) (Or.inr (unhide hB3)) ?_); intro X4 L4 hf4 hs4; replace HM := hide (And.intro ((unhide HM).1.far hf4 (unhide hNE)) (unhide HM).2); replace LL := hide L4; clear L4 hf4 hs4; simp only [Act.put, List.setIfInBounds_toArray, List.set_cons_succ, List.set_cons_zero]) | ((refine rd (by rfl) (ex_loadN (vs := p.k.cs) 56 2 rwK szK rfl rfl ((unhide LL).get 0 rfl) rfl rfl) ?_); simp only [Act.put, List.setIfInBounds_toArray, List.set_cons_succ, List.set_cons_zero]) | ((refine rd (by rfl) (ex_lookI rfl rfl rfl (unhide HM).1 (unhide HOK) (unhide HFO)) ?_); simp only [Act.put, List.setIfInBounds_toArray, List.set_cons_succ, List.set_cons_zero]) | ((refine updI (k := p.k) (by rfl) rfl rfl rfl rfl (unhide HM).1 (unhide HOK) (unhide HMX) ?_); intro X6 hm6 hf6; have HM6 := hide (And.intro hm6 (And.intro (unhide HM).2 ((unhide LL).fr.trans hf6 (fun b hb => .inr (by obtain rfl : b = M1 := (by simpa using hb); exact (unhide HM).2))))); clear hm6 hf6 HM LL; simp only [Act.put, List.setIfInBounds_toArray, List.set_cons_succ, List.set_cons_zero])))
        have HMN : Hid ((∃ n, n ≤ i + 1 ∧ MapI _ M1 n (cntK ps (i + 1)) (fO (ps.take (i + 1)))) ∧ w.heap.size ≤ M1) := hide ⟨⟨n + 1, by have := unhide HNI; omega, (unhide HM6).1.congr (by rw [unhide HS, unhide HFO]; rfl) (unhide HP)⟩, (unhide HM6).2.1⟩
        have LN : Hid (Hq w _ [] []) := hide ⟨(unhide HM6).2.2, by simp, by simp⟩
        clear HM6
        go_wp2_with (first | go_skip | ((with_reducible show wpList _ _ _ _ _ _); first | ((refine rd (by rfl) (ex_lenG 32 61 Tryz.underlying32 rfl rfl) ?_); simp only [Act.put, List.setIfInBounds_toArray, List.set_cons_succ, List.set_cons_zero]) | ((refine rd (by rfl) (ex_indexG 32 20 i unPs idPs rfl rfl rfl (unhide HLT)) ?_); simp only [Act.put, List.setIfInBounds_toArray, List.set_cons_succ, List.set_cons_zero]) | ((refine rd (by rfl) (ex_loadR (vs := p.cs) 61 20 rwP szP rfl rfl (unhide HA2 _ (unhide LL).fr) rfl) ?_); simp only [Act.put, List.setIfInBounds_toArray, List.set_cons_succ, List.set_cons_zero]) | ((refine alG 61 (zeroP.cs) (by rfl) rfl (fun w => by kernel_rfl) (Nat.succ_pos _) (unhide LL) ?_); intro X3 B3 hE3 L3 hb3; have hB3 := hide (Nat.le_trans (unhide LL).fr.size (Nat.le_of_eq hE3.symm)); have hNE : Hid (M1 ≠ B3) := hide (Nat.ne_of_lt (Nat.lt_of_lt_of_le (unhide HM).1.lt (Nat.le_of_eq hE3.symm))); replace HM := hide (And.intro ((unhide HM).1.on hb3) (unhide HM).2); replace LL := hide L3; clear L3 hb3 hE3; simp only [Act.put, List.setIfInBounds_toArray, List.set_cons_succ, List.set_cons_zero]) | ((refine st (vs := p.cs) 0 61 (by rfl) rfl rfl rfl rfl (pcs_one p) (szP) (unhide LL) rfl (by simp [cput, PR.cs, SH.cs, VV.cs, KK.cs, DD.cs, CO.cs, DL.cs, zeroP, zeroS, zeroD, zeroV]) (Or.inr (unhide hB3)) ?_); intro X4 L4 hf4 hs4; replace HM := hide (And.intro ((unhide HM).1.far hf4 (unhide hNE)) (unhide HM).2); replace LL := hide L4; clear L4 hf4 hs4; simp only [Act.put, List.setIfInBounds_toArray, List.set_cons_succ, List.set_cons_zero]) | ((refine rd (by rfl) (ex_loadN (vs := p.k.cs) 56 2 rwK szK rfl rfl ((unhide LL).get 0 rfl) rfl rfl) ?_); simp only [Act.put, List.setIfInBounds_toArray, List.set_cons_succ, List.set_cons_zero]) | ((refine rd (by rfl) (ex_lookI rfl rfl rfl (unhide HM).1 (unhide HOK) (unhide HFO)) ?_); simp only [Act.put, List.setIfInBounds_toArray, List.set_cons_succ, List.set_cons_zero]) | ((refine updI (k := p.k) (by rfl) rfl rfl rfl rfl (unhide HM).1 (unhide HOK) (unhide HMX) ?_); intro X6 hm6 hf6; have HM6 := hide (And.intro hm6 (And.intro (unhide HM).2 ((unhide LL).fr.trans hf6 (fun b hb => .inr (by obtain rfl : b = M1 := (by simpa using hb); exact (unhide HM).2))))); clear hm6 hf6 HM LL; simp only [Act.put, List.setIfInBounds_toArray, List.set_cons_succ, List.set_cons_zero])))
        go_roundg (ps.length - (i + 1))
        case measure => have := unhide HLT; omega
        case rel => exact ⟨i + 1, by go_num, by have := unhide HLT; omega, by omega, HMN, LN⟩
      · rename_i jj
        have HFO := hide hfo
        have HS := hide (cntK_yes hp (by rw [hfo]; rfl))
        have HP := hide (fO_yes hp (by rw [hfo]; rfl))
        clear hp hfo
        go_wp2_with (first | go_skip | ((with_reducible show wpList _ _ _ _ _ _); first | ((refine rd (by rfl) (ex_lenG 32 61 Tryz.underlying32 rfl rfl) ?_); simp only [Act.put, List.setIfInBounds_toArray, List.set_cons_succ, List.set_cons_zero]) | ((refine rd (by rfl) (ex_indexG 32 20 i unPs idPs rfl rfl rfl (unhide HLT)) ?_); simp only [Act.put, List.setIfInBounds_toArray, List.set_cons_succ, List.set_cons_zero]) | ((refine rd (by rfl) (ex_loadR (vs := p.cs) 61 20 rwP szP rfl rfl (unhide HA2 _ (unhide LL).fr) rfl) ?_); simp only [Act.put, List.setIfInBounds_toArray, List.set_cons_succ, List.set_cons_zero]) | ((refine alG 61 (zeroP.cs) (by rfl) rfl (fun w => by kernel_rfl) (Nat.succ_pos _) (unhide LL) ?_); intro X3 B3 hE3 L3 hb3; have hB3 := hide (Nat.le_trans (unhide LL).fr.size (Nat.le_of_eq hE3.symm)); have hNE : Hid (M1 ≠ B3) := hide (Nat.ne_of_lt (Nat.lt_of_lt_of_le (unhide HM).1.lt (Nat.le_of_eq hE3.symm))); replace HM := hide (And.intro ((unhide HM).1.on hb3) (unhide HM).2); replace LL := hide L3; clear L3 hb3 hE3; simp only [Act.put, List.setIfInBounds_toArray, List.set_cons_succ, List.set_cons_zero]) | ((refine st (vs := p.cs) 0 61 (by rfl) rfl rfl rfl rfl (pcs_one p) (szP) (unhide LL) rfl (by simp [cput, PR.cs, SH.cs, VV.cs, KK.cs, DD.cs, CO.cs, DL.cs, zeroP, zeroS, zeroD, zeroV]) (Or.inr (unhide hB3)) ?_); intro X4 L4 hf4 hs4; replace HM := hide (And.intro ((unhide HM).1.far hf4 (unhide hNE)) (unhide HM).2); replace LL := hide L4; clear L4 hf4 hs4; simp only [Act.put, List.setIfInBounds_toArray, List.set_cons_succ, List.set_cons_zero]) | ((refine rd (by rfl) (ex_loadN (vs := p.k.cs) 56 2 rwK szK rfl rfl ((unhide LL).get 0 rfl) rfl rfl) ?_); simp only [Act.put, List.setIfInBounds_toArray, List.set_cons_succ, List.set_cons_zero]) | ((refine rd (by rfl) (ex_lookI rfl rfl rfl (unhide HM).1 (unhide HOK) (unhide HFO)) ?_); simp only [Act.put, List.setIfInBounds_toArray, List.set_cons_succ, List.set_cons_zero]) | ((refine updI (k := p.k) (by rfl) rfl rfl rfl rfl (unhide HM).1 (unhide HOK) (unhide HMX) ?_); intro X6 hm6 hf6; have HM6 := hide (And.intro hm6 (And.intro (unhide HM).2 ((unhide LL).fr.trans hf6 (fun b hb => .inr (by obtain rfl : b = M1 := (by simpa using hb); exact (unhide HM).2))))); clear hm6 hf6 HM LL; simp only [Act.put, List.setIfInBounds_toArray, List.set_cons_succ, List.set_cons_zero])))
        have HMN : Hid ((∃ n, n ≤ i + 1 ∧ MapI _ M1 n (cntK ps (i + 1)) (fO (ps.take (i + 1)))) ∧ w.heap.size ≤ M1) := hide ⟨⟨n, by have := unhide HNI; omega, (unhide HM).1.congr (unhide HS).symm (unhide HP)⟩, (unhide HM).2⟩
        replace LL := hide (Hq.left (L := []) (unhide LL))
        clear HM
        go_roundg (ps.length - (i + 1))
        case measure => have := unhide HLT; omega
        case rel => exact ⟨i + 1, by go_num, by have := unhide HLT; omega, by omega, HMN, LL⟩
    · obtain rfl : i = ps.length := by omega
      clear hlt hil
      go_wp2_with (first | go_skip | ((with_reducible show wpList _ _ _ _ _ _); first | ((refine rd (by rfl) (ex_lenG 32 61 Tryz.underlying32 rfl rfl) ?_); simp only [Act.put, List.setIfInBounds_toArray, List.set_cons_succ, List.set_cons_zero])))
      go_ret
      obtain ⟨⟨n, _, hm0⟩, hM0⟩ := unhide HM0
      exact ⟨M1, n, rfl, hM0, hm0.congr rfl (fun k => by rw [List.take_length]), (unhide LL).fr.below⟩
end Go.Proofs.YtcflglloopgieaaGreatDoor
