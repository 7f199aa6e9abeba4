import Derived.Test.YtcflglloopgieaaDoorQi

/-! Ii -/
namespace Go.Proofs.YtcflglloopgieaaDoor
open Go Go.Proofs Go.Maps Go.RowKit FM
set_option linter.unusedSimpArgs false
set_option linter.unusedVariables false
set_option maxHeartbeats 1000000
theorem ex_indexA {o : Oper} {a : Act} {w : World} {x ix : Operand} {g off n cap : Nat} {A : Option Addr} (t : TypeId) (sz j : Nat) (hk : Tryd.prog.underlying t = some (.slice (Tryd.prog.elem t))) (he : ∀ w, (sizeOf (Tryd.prog.elem t)).run Tryd.prog w = .ok sz w) (ho : o.op = .indexAddr t x ix) (hx : a.eval x = .slice A n cap) (hA : A = some ⟨g, off, none⟩) (hix : a.eval ix = .int .i64 (j : Nat)) (hj : j < n) : (execOp a.eval o).run Tryd.prog w = .ok (.value (.pointer (some ⟨g, off + j * sz, none⟩))) w := by
  subst hA
  exact ex_indexG t sz j hk he ho hx hix hj
def kept (is : List PR) (p : PR) : Bool := match fO is p.k with
  | none => false
  | some a => match is[a]? with
    | none => false
    | some r => keepB p.d r.d
def badAt (was is : List PR) (i : Nat) : Bool := match was[i]? with
  | none => false
  | some p => decide (fO was p.k = some i) && !looseP p && !kept is p
def prV (c : CO) : Bool := (List.range c.was.ps.length).any (badAt c.was.ps c.is.ps)
theorem prV_yes {c : CO} {i : Nat} (hi : i < c.was.ps.length) (h : badAt c.was.ps c.is.ps i = true) : prV c = true := by
  unfold prV
  rw [List.any_eq_true]
  exact ⟨i, List.mem_range.2 hi, h⟩
theorem prV_no {c : CO} (h : ∀ j, j < c.was.ps.length → badAt c.was.ps c.is.ps j = false) : prV c = false := by
  unfold prV
  rw [List.any_eq_false]
  intro j hj
  rw [h j (List.mem_range.1 hj)]
  simp
def NoB (was is : List PR) (i : Nat) : Prop := ∀ j, j < i → badAt was is j = false
theorem NoB.zero (was is : List PR) : NoB was is 0 := fun j hj => absurd hj (Nat.not_lt_zero _)
theorem NoB.step {was is : List PR} {i : Nat} (h : NoB was is i) (hk : badAt was is i = false) : NoB was is (i + 1) := fun j hj => by
  rcases Nat.lt_succ_iff_lt_or_eq.1 hj with h1 | h1
  · exact h j h1
  · subst h1
    exact hk
theorem fO_mem {l : List PR} {i : Nat} {p : PR} (hp : l[i]? = some p) : ∃ j, fO l p.k = some j ∧ j ≤ i := by
  obtain ⟨hi, rfl⟩ := List.getElem?_eq_some_iff.1 hp
  cases h : fO l l[i].k with
  | none =>
    exfalso
    unfold fO at h
    rw [List.findIdx?_eq_none_iff] at h
    have := h l[i] (List.getElem_mem hi)
    simp at this
  | some j =>
    refine ⟨j, rfl, ?_⟩
    unfold fO at h
    obtain ⟨hj, _, h3⟩ := List.findIdx?_eq_some_iff_getElem.1 h
    rcases Nat.lt_or_ge i j with h4 | h4
    · exfalso
      have := h3 i h4
      simp at this
    · exact h4
theorem fO_get {l : List PR} {k : KK} {a : Nat} (h : fO l k = some a) : ∃ r, l[a]? = some r ∧ r.k = k := by
  unfold fO at h
  obtain ⟨hj, h2, _⟩ := List.findIdx?_eq_some_iff_getElem.1 h
  exact ⟨_, List.getElem?_eq_getElem hj, by simpa using h2⟩
theorem bad_other {was is : List PR} {i j : Nat} {p : PR} (hp : was[i]? = some p) (hj : fO was p.k = some j) (hn : j ≠ i) : badAt was is i = false := by
  simp [badAt, hp, hj, hn]
theorem bad_loose {was is : List PR} {i : Nat} {p : PR} (hp : was[i]? = some p) (hl : looseP p = true) : badAt was is i = false := by
  simp [badAt, hp, hl]
theorem bad_kept {was is : List PR} {i : Nat} {p : PR} (hp : was[i]? = some p) (hl : kept is p = true) : badAt was is i = false := by
  simp [badAt, hp, hl]
theorem bad_yes {was is : List PR} {i : Nat} {p : PR} (hp : was[i]? = some p) (hj : fO was p.k = some i) (hl : looseP p = false) (hk : kept is p = false) : badAt was is i = true := by
  simp [badAt, hp, hj, hl, hk]
set_option maxHeartbeats 2000000 in
set_option maxRecDepth 100000 in
theorem otherProp_any (c : CO) (w : World) (hW : ReadsP w c.wA c.was.ps) (hI : ReadsP w c.iA c.is.ps) (hz : c.was.ps.length ≤ 733007751850) (hz2 : c.is.ps.length ≤ 733007751850) (hT : Lib.Utf8Tabs 1 2 w) : Calls Tryd.prog 50 #[c.agg] w fun e w' => e = .returned (.bool (prV c)) ∧ Below w.heap.size w w' := by
  have LL := hide (Hq.nil w [])
  have HW := hide hW
  have HI := hide hI
  have HZ := hide hz
  have HZ2 := hide hz2
  have HT := hide hT
  clear hW hI hz hz2 hT
  have H7 : Hid (c.cs[7]? = some (.slice c.wA c.was.ps.length c.wc)) := hide rfl
  rw [coagg]
  go_enter Tryd.func50, Tryd.ntmps50
  go_wp2_with (first | go_skip | ((with_reducible show wpList _ _ _ _ _ _); first | ((refine bx 69 c.cs (by rfl) rfl rfl rfl (Nat.succ_pos _) (unhide LL) ?_); intro X1 B1 hE1 L1 hb1; replace LL := hide L1; clear L1 hb1 hE1; simp only [Act.put, List.setIfInBounds_toArray, List.set_cons_succ, List.set_cons_zero])))
  have hq0 : Hq w _ [] [(B1, c.cs)] := (unhide LL).drew
  refine wp_region_held_drew (P := Tryd.prog) (S := fun X => Hq w X [] [(B1, c.cs)]) (by kernel_rfl) hq0 (fun hS0 => ?_)
  refine gsem 0 (some 9) (.pointer (some ⟨B1, 0, none⟩)) rfl (by kernel_rfl) (by kernel_rfl) (by kernel_rfl) (fun _ _ _ h => h) (by kernel_rfl) (by kernel_rfl) (fun _ _ => by kernel_rfl) hq0 ?_
  simp only [Act.put, List.setIfInBounds_toArray, List.set_cons_succ, List.set_cons_zero]
  refine gsem 1 (some 10) (.pointer (some ⟨B1, 7, none⟩)) rfl (by kernel_rfl) (by kernel_rfl) (by kernel_rfl) (fun _ _ _ h => h) (by kernel_rfl) (by kernel_rfl) (fun _ _ => by kernel_rfl) hq0 ?_
  simp only [Act.put, List.setIfInBounds_toArray, List.set_cons_succ, List.set_cons_zero]
  refine gsem 2 (some 11) (.slice c.wA c.was.ps.length c.wc) rfl (by kernel_rfl) (by kernel_rfl) (by kernel_rfl) (fun _ _ _ h => h) (by kernel_rfl) (by kernel_rfl) (fun X hX => ex_load1 48 Tryd.isAgg48 rfl rfl (hX.get 0 rfl) rfl) hq0 ?_
  simp only [Act.put, List.setIfInBounds_toArray, List.set_cons_succ, List.set_cons_zero]
  refine gsem 4 (some 13) (.pointer (some ⟨B1, 8, none⟩)) rfl (by kernel_rfl) (by kernel_rfl) (by kernel_rfl) (fun _ _ _ h => h) (by kernel_rfl) (by kernel_rfl) (fun _ _ => by kernel_rfl) hq0 ?_
  simp only [Act.put, List.setIfInBounds_toArray, List.set_cons_succ, List.set_cons_zero]
  refine gsem 5 (some 14) (.pointer (some ⟨B1, 15, none⟩)) rfl (by kernel_rfl) (by kernel_rfl) (by kernel_rfl) (fun _ _ _ h => h) (by kernel_rfl) (by kernel_rfl) (fun _ _ => by kernel_rfl) hq0 ?_
  simp only [Act.put, List.setIfInBounds_toArray, List.set_cons_succ, List.set_cons_zero]
  refine gsem 6 (some 15) (.slice c.iA c.is.ps.length c.ic) rfl (by kernel_rfl) (by kernel_rfl) (by kernel_rfl) (fun _ _ _ h => h) (by kernel_rfl) (by kernel_rfl) (fun X hX => ex_load1 48 Tryd.isAgg48 rfl rfl (hX.get 0 rfl) rfl) hq0 ?_
  simp only [Act.put, List.setIfInBounds_toArray, List.set_cons_succ, List.set_cons_zero]
  refine wpAnyH_ready (rs := [3]) (by kernel_rfl) (by simp) (gcallR 3 (some 12) rfl (by kernel_rfl) (by kernel_rfl) (by kernel_rfl) (places_any c.wA c.wc c.was.ps _ ((unhide HW).fr hq0.fr) (unhide HZ)) ?_ AllReadyH.nil)
  rintro e Y1 ⟨M1, n1, rfl, hM1, hm1, hY1⟩
  have hq1 := Hq.on hq0 hY1
  replace hM1 := Nat.le_trans hq0.fr.size hM1
  refine ⟨_, rfl, hq1, ?_⟩
  simp only [Act.put, List.setIfInBounds_toArray, List.set_cons_succ, List.set_cons_zero]
  refine wpAnyH_ready (rs := [7]) (by kernel_rfl) (by simp) (gcallR 7 (some 16) rfl (by kernel_rfl) (by kernel_rfl) (by kernel_rfl) (places_any c.iA c.ic c.is.ps _ ((unhide HI).fr hq1.fr) (unhide HZ2)) ?_ AllReadyH.nil)
  rintro e Y2 ⟨M2, n2, rfl, hM2, hm2, hY2⟩
  have hq2 := Hq.on hq1 hY2
  replace hM2 := Nat.le_trans hq1.fr.size hM2
  replace hm1 := hm1.on hY2
  refine ⟨_, rfl, hq2, ?_⟩
  simp only [Act.put, List.setIfInBounds_toArray, List.set_cons_succ, List.set_cons_zero]
  refine gsem 8 (some 3) (.map (some M1)) rfl (by kernel_rfl) (by kernel_rfl) (by kernel_rfl) (fun _ _ _ h => h) (by kernel_rfl) (by kernel_rfl) (fun _ _ => by kernel_rfl) hq2 ?_
  simp only [Act.put, List.setIfInBounds_toArray, List.set_cons_succ, List.set_cons_zero]
  refine gsem 9 (some 4) (.map (some M2)) rfl (by kernel_rfl) (by kernel_rfl) (by kernel_rfl) (fun _ _ _ h => h) (by kernel_rfl) (by kernel_rfl) (fun _ _ => by kernel_rfl) hq2 ?_
  simp only [Act.put, List.setIfInBounds_toArray, List.set_cons_succ, List.set_cons_zero]
  refine wpAnyH_done (by kernel_rfl) ?_ _
  try simp only [Act.put, List.setIfInBounds_toArray, List.set_cons_succ, List.set_cons_zero]
  replace LL := hide hq2
  have HM := hide (And.intro hm1 (And.intro hM1 (And.intro hm2 hM2)))
  clear hq0 hq1 hq2 hm1 hm2 hM1 hM2 hY1 hY2 hS0
  go_wp2_with (first | go_skip | ((with_reducible show wpList _ _ _ _ _ _); first | ((refine rd (by rfl) (ex_load1 48 Tryd.isAgg48 rfl rfl ((unhide LL).get 0 rfl) (unhide H7)) ?_); simp only [Act.put, List.setIfInBounds_toArray, List.set_cons_succ, List.set_cons_zero]) | ((refine rd (by rfl) (ex_lenG 48 55 Tryd.underlying48 rfl rfl) ?_); simp only [Act.put, List.setIfInBounds_toArray, List.set_cons_succ, List.set_cons_zero])))
  go_loopg [21] c.was.ps.length (fun gm s21 wr => ∃ i : Nat, s21 = .int .i64 (i : Nat) ∧ i ≤ c.was.ps.length ∧ c.was.ps.length - i ≤ gm ∧ Hid (NoB c.was.ps c.is.ps i) ∧ Hid (MapI wr M1 n1 (cntK c.was.ps c.was.ps.length) (fO c.was.ps) ∧ w.heap.size ≤ M1 ∧ MapI wr M2 n2 (cntK c.is.ps c.is.ps.length) (fO c.is.ps) ∧ w.heap.size ≤ M2) ∧ Hid (Hq w wr [] [(B1, c.cs)]))
  case atStart => exact ⟨0, rfl, by omega, by omega, hide (NoB.zero _ _), HM, LL⟩
  case round =>
    clear LL HM
    obtain ⟨i, rfl, hil, hgm, HD, HM, LL⟩ := hrel
    by_cases hlt : i < c.was.ps.length
    · have dlt : decide ((i : Int) < (c.was.ps.length : Int)) = true := decide_eq_true (by omega)
      have hw1 : IntKind.i64.wrap ((i : Int) + 1) = (i : Int) + 1 := by have := unhide HZ; rw [IntKind.wrap_i64]; omega
      obtain ⟨p, hp⟩ : ∃ p, c.was.ps[i]? = some p := ⟨_, List.getElem?_eq_getElem hlt⟩
      obtain ⟨hok, b, off, hA, hb, hrg⟩ := (unhide HW) i p hp
      have HA := hide hA
      have HA2 : Hid (∀ X, Fr w X [] → X.rangeAt b (off + i * 20) p.cs) := hide (fun X hX => rangeAt_fr hrg hb hX)
      have HLT := hide hlt
      have HOK := hide hok.2
      obtain ⟨j, hfj, hji⟩ := fO_mem hp
      have HFJ := hide hfj
      by_cases hij : i = j
      · subst hij
        have HNJ : Hid (((i : Int) != (i : Int)) = false) := hide (by simp)
        have HLO := hide (loose_any p)
        simp only [pagg] at HLO
        clear hb hrg hlt hil hA
        cases hlo : looseP p
        · cases hfi : fO c.is.ps p.k
          · have HFI := hide hfi
            have HF := hide (prV_yes (c := c) (unhide HLT) (bad_yes hp hfj hlo (by unfold kept; rw [hfi])))
            simp only [hlo] at HLO
            clear hp hfj hlo hfi HD hok hji
            go_wp2_with (first | go_skip | ((with_reducible show wpList _ _ _ _ _ _); first | ((refine rd (by rfl) (ex_lenG 48 55 Tryd.underlying48 rfl rfl) ?_); simp only [Act.put, List.setIfInBounds_toArray, List.set_cons_succ, List.set_cons_zero]) | ((refine rd (by rfl) (ex_indexA 48 20 i unPs idPs rfl rfl (unhide HA) rfl (unhide HLT)) ?_); simp only [Act.put, List.setIfInBounds_toArray, List.set_cons_succ, List.set_cons_zero]) | ((refine rd (by rfl) (ex_loadR (vs := p.cs) 55 20 rwP szP rfl rfl (unhide HA2 _ (unhide LL).fr) rfl) ?_); simp only [Act.put, List.setIfInBounds_toArray, List.set_cons_succ, List.set_cons_zero]) | ((refine alG 55 (zeroP.cs) (by rfl) rfl (fun w => by kernel_rfl) (Nat.succ_pos _) (unhide LL) ?_); intro X3 B3 hE3 L3 hb3; have hB3 := hide (Nat.le_trans (unhide LL).fr.size (Nat.le_of_eq hE3.symm)); have hNE : Hid (M1 ≠ B3 ∧ M2 ≠ B3) := hide ⟨Nat.ne_of_lt (Nat.lt_of_lt_of_le (unhide HM).1.lt (Nat.le_of_eq hE3.symm)), Nat.ne_of_lt (Nat.lt_of_lt_of_le (unhide HM).2.2.1.lt (Nat.le_of_eq hE3.symm))⟩; replace HM := hide (And.intro ((unhide HM).1.on hb3) (And.intro (unhide HM).2.1 (And.intro ((unhide HM).2.2.1.on hb3) (unhide HM).2.2.2))); replace LL := hide L3; clear L3 hb3 hE3; simp only [Act.put, List.setIfInBounds_toArray, List.set_cons_succ, List.set_cons_zero]) | ((refine st (vs := p.cs) 1 55 (by rfl) rfl rfl rfl rfl (pcs_one p) (szP) (unhide LL) rfl (by simp [cput, PR.cs, SH.cs, VV.cs, KK.cs, DD.cs, CO.cs, DL.cs, zeroP, zeroS, zeroD, zeroV]) (Or.inr (unhide hB3)) ?_); intro X4 L4 hf4 hs4; replace HM := hide (And.intro ((unhide HM).1.far hf4 (unhide hNE).1) (And.intro (unhide HM).2.1 (And.intro ((unhide HM).2.2.1.far hf4 (unhide hNE).2) (unhide HM).2.2.2))); replace LL := hide L4; clear L4 hf4 hs4; simp only [Act.put, List.setIfInBounds_toArray, List.set_cons_succ, List.set_cons_zero]) | ((refine rd (by rfl) (ex_loadN (vs := p.k.cs) 38 2 rwK szK rfl rfl ((unhide LL).get 1 rfl) rfl rfl) ?_); simp only [Act.put, List.setIfInBounds_toArray, List.set_cons_succ, List.set_cons_zero]) | ((refine rd (by rfl) (ex_loadN (vs := p.cs) 55 20 rwP szP rfl rfl ((unhide LL).get 1 rfl) rfl rfl) ?_); simp only [Act.put, List.setIfInBounds_toArray, List.set_cons_succ, List.set_cons_zero]) | ((refine rd (by rfl) (ex_look1 rfl rfl rfl (unhide HM).1 (unhide HOK) (unhide HFJ)) ?_); simp only [Act.put, List.setIfInBounds_toArray, List.set_cons_succ, List.set_cons_zero]) | ((refine rd (by rfl) (ex_neI rfl rfl rfl (unhide HNJ)) ?_); simp only [Act.put, List.setIfInBounds_toArray, List.set_cons_succ, List.set_cons_zero]) | ((refine rd (by rfl) (ex_lookI rfl rfl rfl (unhide HM).2.2.1 (unhide HOK) (unhide HFI)) ?_); simp only [Act.put, List.setIfInBounds_toArray, List.set_cons_succ, List.set_cons_zero])))
            refine (unhide HLO _).mono ?_
            rintro e X5 ⟨rfl, hb5⟩
            replace HM := hide (And.intro ((unhide HM).1.on hb5) (And.intro (unhide HM).2.1 (And.intro ((unhide HM).2.2.1.on hb5) (unhide HM).2.2.2)))
            replace LL := hide ((unhide LL).on hb5)
            clear hb5
            go_wp2_with (first | go_skip | ((with_reducible show wpList _ _ _ _ _ _); first | ((refine rd (by rfl) (ex_lenG 48 55 Tryd.underlying48 rfl rfl) ?_); simp only [Act.put, List.setIfInBounds_toArray, List.set_cons_succ, List.set_cons_zero]) | ((refine rd (by rfl) (ex_indexA 48 20 i unPs idPs rfl rfl (unhide HA) rfl (unhide HLT)) ?_); simp only [Act.put, List.setIfInBounds_toArray, List.set_cons_succ, List.set_cons_zero]) | ((refine rd (by rfl) (ex_loadR (vs := p.cs) 55 20 rwP szP rfl rfl (unhide HA2 _ (unhide LL).fr) rfl) ?_); simp only [Act.put, List.setIfInBounds_toArray, List.set_cons_succ, List.set_cons_zero]) | ((refine alG 55 (zeroP.cs) (by rfl) rfl (fun w => by kernel_rfl) (Nat.succ_pos _) (unhide LL) ?_); intro X3 B3 hE3 L3 hb3; have hB3 := hide (Nat.le_trans (unhide LL).fr.size (Nat.le_of_eq hE3.symm)); have hNE : Hid (M1 ≠ B3 ∧ M2 ≠ B3) := hide ⟨Nat.ne_of_lt (Nat.lt_of_lt_of_le (unhide HM).1.lt (Nat.le_of_eq hE3.symm)), Nat.ne_of_lt (Nat.lt_of_lt_of_le (unhide HM).2.2.1.lt (Nat.le_of_eq hE3.symm))⟩; replace HM := hide (And.intro ((unhide HM).1.on hb3) (And.intro (unhide HM).2.1 (And.intro ((unhide HM).2.2.1.on hb3) (unhide HM).2.2.2))); replace LL := hide L3; clear L3 hb3 hE3; simp only [Act.put, List.setIfInBounds_toArray, List.set_cons_succ, List.set_cons_zero]) | ((refine st (vs := p.cs) 1 55 (by rfl) rfl rfl rfl rfl (pcs_one p) (szP) (unhide LL) rfl (by simp [cput, PR.cs, SH.cs, VV.cs, KK.cs, DD.cs, CO.cs, DL.cs, zeroP, zeroS, zeroD, zeroV]) (Or.inr (unhide hB3)) ?_); intro X4 L4 hf4 hs4; replace HM := hide (And.intro ((unhide HM).1.far hf4 (unhide hNE).1) (And.intro (unhide HM).2.1 (And.intro ((unhide HM).2.2.1.far hf4 (unhide hNE).2) (unhide HM).2.2.2))); replace LL := hide L4; clear L4 hf4 hs4; simp only [Act.put, List.setIfInBounds_toArray, List.set_cons_succ, List.set_cons_zero]) | ((refine rd (by rfl) (ex_loadN (vs := p.k.cs) 38 2 rwK szK rfl rfl ((unhide LL).get 1 rfl) rfl rfl) ?_); simp only [Act.put, List.setIfInBounds_toArray, List.set_cons_succ, List.set_cons_zero]) | ((refine rd (by rfl) (ex_loadN (vs := p.cs) 55 20 rwP szP rfl rfl ((unhide LL).get 1 rfl) rfl rfl) ?_); simp only [Act.put, List.setIfInBounds_toArray, List.set_cons_succ, List.set_cons_zero]) | ((refine rd (by rfl) (ex_look1 rfl rfl rfl (unhide HM).1 (unhide HOK) (unhide HFJ)) ?_); simp only [Act.put, List.setIfInBounds_toArray, List.set_cons_succ, List.set_cons_zero]) | ((refine rd (by rfl) (ex_neI rfl rfl rfl (unhide HNJ)) ?_); simp only [Act.put, List.setIfInBounds_toArray, List.set_cons_succ, List.set_cons_zero]) | ((refine rd (by rfl) (ex_lookI rfl rfl rfl (unhide HM).2.2.1 (unhide HOK) (unhide HFI)) ?_); simp only [Act.put, List.setIfInBounds_toArray, List.set_cons_succ, List.set_cons_zero])))
            have hq0 : Hq w _ [] [(B1, c.cs), (B3, p.cs)] := (unhide LL).drew
            refine wp_region_held_drew (P := Tryd.prog) (S := fun X => Hq w X [] [(B1, c.cs), (B3, p.cs)]) (by kernel_rfl) hq0 (fun hS0 => ?_)
            refine gsem 0 (some 43) (.bool false) rfl (by kernel_rfl) (by kernel_rfl) (by kernel_rfl) (fun _ _ _ h => h) (by kernel_rfl) (by kernel_rfl) (fun _ _ => by kernel_rfl) hq0 ?_
            simp only [Act.put, List.setIfInBounds_toArray, List.set_cons_succ, List.set_cons_zero]
            refine gsem 1 (some 44) (.bool true) rfl (by kernel_rfl) (by kernel_rfl) (by kernel_rfl) (fun _ _ _ h => h) (by kernel_rfl) (by kernel_rfl) (fun _ _ => by kernel_rfl) hq0 ?_
            simp only [Act.put, List.setIfInBounds_toArray, List.set_cons_succ, List.set_cons_zero]
            refine gsem 2 (some 45) (.bool true) rfl (by kernel_rfl) (by kernel_rfl) (by kernel_rfl) (fun _ _ _ h => h) (by kernel_rfl) (by kernel_rfl) (fun _ _ => by kernel_rfl) hq0 ?_
            simp only [Act.put, List.setIfInBounds_toArray, List.set_cons_succ, List.set_cons_zero]
            refine gskipS 3 (some 46) rfl (by kernel_rfl) (by kernel_rfl) (by kernel_rfl) (fun _ _ _ h => h) (by kernel_rfl) (by kernel_rfl) hq0 ?_
            simp only [Act.put, List.setIfInBounds_toArray, List.set_cons_succ, List.set_cons_zero]
            refine gskipS 4 (some 47) rfl (by kernel_rfl) (by kernel_rfl) (by kernel_rfl) (fun _ _ _ h => h) (by kernel_rfl) (by kernel_rfl) hq0 ?_
            simp only [Act.put, List.setIfInBounds_toArray, List.set_cons_succ, List.set_cons_zero]
            refine gskipS 5 (some 48) rfl (by kernel_rfl) (by kernel_rfl) (by kernel_rfl) (fun _ _ _ h => h) (by kernel_rfl) (by kernel_rfl) hq0 ?_
            simp only [Act.put, List.setIfInBounds_toArray, List.set_cons_succ, List.set_cons_zero]
            refine gskipS 6 (some 49) rfl (by kernel_rfl) (by kernel_rfl) (by kernel_rfl) (fun _ _ _ h => h) (by kernel_rfl) (by kernel_rfl) hq0 ?_
            simp only [Act.put, List.setIfInBounds_toArray, List.set_cons_succ, List.set_cons_zero]
            refine gskipS 7 (some 50) rfl (by kernel_rfl) (by kernel_rfl) (by kernel_rfl) (fun _ _ _ h => h) (by kernel_rfl) (by kernel_rfl) hq0 ?_
            simp only [Act.put, List.setIfInBounds_toArray, List.set_cons_succ, List.set_cons_zero]
            refine gskipS 8 (some 51) rfl (by kernel_rfl) (by kernel_rfl) (by kernel_rfl) (fun _ _ _ h => h) (by kernel_rfl) (by kernel_rfl) hq0 ?_
            simp only [Act.put, List.setIfInBounds_toArray, List.set_cons_succ, List.set_cons_zero]
            refine gskipS 9 (some 52) rfl (by kernel_rfl) (by kernel_rfl) (by kernel_rfl) (fun _ _ _ h => h) (by kernel_rfl) (by kernel_rfl) hq0 ?_
            simp only [Act.put, List.setIfInBounds_toArray, List.set_cons_succ, List.set_cons_zero]
            refine gskipS 10 (some 53) rfl (by kernel_rfl) (by kernel_rfl) (by kernel_rfl) (fun _ _ _ h => h) (by kernel_rfl) (by kernel_rfl) hq0 ?_
            simp only [Act.put, List.setIfInBounds_toArray, List.set_cons_succ, List.set_cons_zero]
            refine gskipS 11 (some 54) rfl (by kernel_rfl) (by kernel_rfl) (by kernel_rfl) (fun _ _ _ h => h) (by kernel_rfl) (by kernel_rfl) hq0 ?_
            simp only [Act.put, List.setIfInBounds_toArray, List.set_cons_succ, List.set_cons_zero]
            refine gskipS 12 (some 55) rfl (by kernel_rfl) (by kernel_rfl) (by kernel_rfl) (fun _ _ _ h => h) (by kernel_rfl) (by kernel_rfl) hq0 ?_
            simp only [Act.put, List.setIfInBounds_toArray, List.set_cons_succ, List.set_cons_zero]
            refine gskipS 13 (some 56) rfl (by kernel_rfl) (by kernel_rfl) (by kernel_rfl) (fun _ _ _ h => h) (by kernel_rfl) (by kernel_rfl) hq0 ?_
            simp only [Act.put, List.setIfInBounds_toArray, List.set_cons_succ, List.set_cons_zero]
            refine gsem 14 (some 57) (.bool true) rfl (by kernel_rfl) (by kernel_rfl) (by kernel_rfl) (fun _ _ _ h => h) (by kernel_rfl) (by kernel_rfl) (fun _ _ => by kernel_rfl) hq0 ?_
            simp only [Act.put, List.setIfInBounds_toArray, List.set_cons_succ, List.set_cons_zero]
            refine wpAnyH_done (by kernel_rfl) ?_ _
            try simp only [Act.put, List.setIfInBounds_toArray, List.set_cons_succ, List.set_cons_zero]
            replace LL := hide hq0
            clear hq0 hS0
            go_wp2_with (first | go_skip | ((with_reducible show wpList _ _ _ _ _ _); first | ((refine rd (by rfl) (ex_lenG 48 55 Tryd.underlying48 rfl rfl) ?_); simp only [Act.put, List.setIfInBounds_toArray, List.set_cons_succ, List.set_cons_zero]) | ((refine rd (by rfl) (ex_indexA 48 20 i unPs idPs rfl rfl (unhide HA) rfl (unhide HLT)) ?_); simp only [Act.put, List.setIfInBounds_toArray, List.set_cons_succ, List.set_cons_zero]) | ((refine rd (by rfl) (ex_loadR (vs := p.cs) 55 20 rwP szP rfl rfl (unhide HA2 _ (unhide LL).fr) rfl) ?_); simp only [Act.put, List.setIfInBounds_toArray, List.set_cons_succ, List.set_cons_zero]) | ((refine alG 55 (zeroP.cs) (by rfl) rfl (fun w => by kernel_rfl) (Nat.succ_pos _) (unhide LL) ?_); intro X3 B3 hE3 L3 hb3; have hB3 := hide (Nat.le_trans (unhide LL).fr.size (Nat.le_of_eq hE3.symm)); have hNE : Hid (M1 ≠ B3 ∧ M2 ≠ B3) := hide ⟨Nat.ne_of_lt (Nat.lt_of_lt_of_le (unhide HM).1.lt (Nat.le_of_eq hE3.symm)), Nat.ne_of_lt (Nat.lt_of_lt_of_le (unhide HM).2.2.1.lt (Nat.le_of_eq hE3.symm))⟩; replace HM := hide (And.intro ((unhide HM).1.on hb3) (And.intro (unhide HM).2.1 (And.intro ((unhide HM).2.2.1.on hb3) (unhide HM).2.2.2))); replace LL := hide L3; clear L3 hb3 hE3; simp only [Act.put, List.setIfInBounds_toArray, List.set_cons_succ, List.set_cons_zero]) | ((refine st (vs := p.cs) 1 55 (by rfl) rfl rfl rfl rfl (pcs_one p) (szP) (unhide LL) rfl (by simp [cput, PR.cs, SH.cs, VV.cs, KK.cs, DD.cs, CO.cs, DL.cs, zeroP, zeroS, zeroD, zeroV]) (Or.inr (unhide hB3)) ?_); intro X4 L4 hf4 hs4; replace HM := hide (And.intro ((unhide HM).1.far hf4 (unhide hNE).1) (And.intro (unhide HM).2.1 (And.intro ((unhide HM).2.2.1.far hf4 (unhide hNE).2) (unhide HM).2.2.2))); replace LL := hide L4; clear L4 hf4 hs4; simp only [Act.put, List.setIfInBounds_toArray, List.set_cons_succ, List.set_cons_zero]) | ((refine rd (by rfl) (ex_loadN (vs := p.k.cs) 38 2 rwK szK rfl rfl ((unhide LL).get 1 rfl) rfl rfl) ?_); simp only [Act.put, List.setIfInBounds_toArray, List.set_cons_succ, List.set_cons_zero]) | ((refine rd (by rfl) (ex_loadN (vs := p.cs) 55 20 rwP szP rfl rfl ((unhide LL).get 1 rfl) rfl rfl) ?_); simp only [Act.put, List.setIfInBounds_toArray, List.set_cons_succ, List.set_cons_zero]) | ((refine rd (by rfl) (ex_look1 rfl rfl rfl (unhide HM).1 (unhide HOK) (unhide HFJ)) ?_); simp only [Act.put, List.setIfInBounds_toArray, List.set_cons_succ, List.set_cons_zero]) | ((refine rd (by rfl) (ex_neI rfl rfl rfl (unhide HNJ)) ?_); simp only [Act.put, List.setIfInBounds_toArray, List.set_cons_succ, List.set_cons_zero]) | ((refine rd (by rfl) (ex_lookI rfl rfl rfl (unhide HM).2.2.1 (unhide HOK) (unhide HFI)) ?_); simp only [Act.put, List.setIfInBounds_toArray, List.set_cons_succ, List.set_cons_zero])))
            go_ret
            exact ⟨by rw [unhide HF]; rfl, (unhide LL).fr.below⟩
          · rename_i a
            have HFI := hide hfi
            obtain ⟨r, hr, hrk⟩ := fO_get hfi
            obtain ⟨hokr, b2, off2, hA2, hb2, hrg2⟩ := (unhide HI) a r hr
            have halt : a < c.is.ps.length := (List.getElem?_eq_some_iff.1 hr).1
            have hKP := keeps65 p.d r.d hok.1 hokr.1
            simp only [dagg] at hKP
            have hkr : kept c.is.ps p = keepB p.d r.d := by unfold kept; rw [hfi]; simp only [hr]
            generalize keepB p.d r.d = kb at *
            simp only [hlo] at HLO
            cases kb
            · have HH := hide (And.intro hA2 (And.intro hb2 (And.intro hrg2 (And.intro halt hKP))))
              have HF := hide (prV_yes (c := c) (unhide HLT) (bad_yes hp hfj hlo hkr))
              clear hA2 hb2 hrg2 halt hKP hp hfj hlo hfi hr hrk hok hokr hkr hji HD
              go_wp2_with (first | go_skip | ((with_reducible show wpList _ _ _ _ _ _); first | ((refine rd (by rfl) (ex_lenG 48 55 Tryd.underlying48 rfl rfl) ?_); simp only [Act.put, List.setIfInBounds_toArray, List.set_cons_succ, List.set_cons_zero]) | ((refine rd (by rfl) (ex_indexA 48 20 i unPs idPs rfl rfl (unhide HA) rfl (unhide HLT)) ?_); simp only [Act.put, List.setIfInBounds_toArray, List.set_cons_succ, List.set_cons_zero]) | ((refine rd (by rfl) (ex_loadR (vs := p.cs) 55 20 rwP szP rfl rfl (unhide HA2 _ (unhide LL).fr) rfl) ?_); simp only [Act.put, List.setIfInBounds_toArray, List.set_cons_succ, List.set_cons_zero]) | ((refine alG 55 (zeroP.cs) (by rfl) rfl (fun w => by kernel_rfl) (Nat.succ_pos _) (unhide LL) ?_); intro X3 B3 hE3 L3 hb3; have hB3 := hide (Nat.le_trans (unhide LL).fr.size (Nat.le_of_eq hE3.symm)); have hNE : Hid (M1 ≠ B3 ∧ M2 ≠ B3) := hide ⟨Nat.ne_of_lt (Nat.lt_of_lt_of_le (unhide HM).1.lt (Nat.le_of_eq hE3.symm)), Nat.ne_of_lt (Nat.lt_of_lt_of_le (unhide HM).2.2.1.lt (Nat.le_of_eq hE3.symm))⟩; replace HM := hide (And.intro ((unhide HM).1.on hb3) (And.intro (unhide HM).2.1 (And.intro ((unhide HM).2.2.1.on hb3) (unhide HM).2.2.2))); replace LL := hide L3; clear L3 hb3 hE3; simp only [Act.put, List.setIfInBounds_toArray, List.set_cons_succ, List.set_cons_zero]) | ((refine st (vs := p.cs) 1 55 (by rfl) rfl rfl rfl rfl (pcs_one p) (szP) (unhide LL) rfl (by simp [cput, PR.cs, SH.cs, VV.cs, KK.cs, DD.cs, CO.cs, DL.cs, zeroP, zeroS, zeroD, zeroV]) (Or.inr (unhide hB3)) ?_); intro X4 L4 hf4 hs4; replace HM := hide (And.intro ((unhide HM).1.far hf4 (unhide hNE).1) (And.intro (unhide HM).2.1 (And.intro ((unhide HM).2.2.1.far hf4 (unhide hNE).2) (unhide HM).2.2.2))); replace LL := hide L4; clear L4 hf4 hs4; simp only [Act.put, List.setIfInBounds_toArray, List.set_cons_succ, List.set_cons_zero]) | ((refine rd (by rfl) (ex_loadN (vs := p.k.cs) 38 2 rwK szK rfl rfl ((unhide LL).get 1 rfl) rfl rfl) ?_); simp only [Act.put, List.setIfInBounds_toArray, List.set_cons_succ, List.set_cons_zero]) | ((refine rd (by rfl) (ex_loadN (vs := p.cs) 55 20 rwP szP rfl rfl ((unhide LL).get 1 rfl) rfl rfl) ?_); simp only [Act.put, List.setIfInBounds_toArray, List.set_cons_succ, List.set_cons_zero]) | ((refine rd (by rfl) (ex_look1 rfl rfl rfl (unhide HM).1 (unhide HOK) (unhide HFJ)) ?_); simp only [Act.put, List.setIfInBounds_toArray, List.set_cons_succ, List.set_cons_zero]) | ((refine rd (by rfl) (ex_neI rfl rfl rfl (unhide HNJ)) ?_); simp only [Act.put, List.setIfInBounds_toArray, List.set_cons_succ, List.set_cons_zero]) | ((refine rd (by rfl) (ex_lookI rfl rfl rfl (unhide HM).2.2.1 (unhide HOK) (unhide HFI)) ?_); simp only [Act.put, List.setIfInBounds_toArray, List.set_cons_succ, List.set_cons_zero])))
              refine (unhide HLO _).mono ?_
              rintro e X5 ⟨rfl, hb5⟩
              replace HM := hide (And.intro ((unhide HM).1.on hb5) (And.intro (unhide HM).2.1 (And.intro ((unhide HM).2.2.1.on hb5) (unhide HM).2.2.2)))
              replace LL := hide ((unhide LL).on hb5)
              clear hb5
              go_wp2_with (first | go_skip | ((with_reducible show wpList _ _ _ _ _ _); first | ((refine rd (by rfl) (ex_lenG 48 55 Tryd.underlying48 rfl rfl) ?_); simp only [Act.put, List.setIfInBounds_toArray, List.set_cons_succ, List.set_cons_zero]) | ((refine rd (by rfl) (ex_indexA 48 20 i unPs idPs rfl rfl (unhide HA) rfl (unhide HLT)) ?_); simp only [Act.put, List.setIfInBounds_toArray, List.set_cons_succ, List.set_cons_zero]) | ((refine rd (by rfl) (ex_loadR (vs := p.cs) 55 20 rwP szP rfl rfl (unhide HA2 _ (unhide LL).fr) rfl) ?_); simp only [Act.put, List.setIfInBounds_toArray, List.set_cons_succ, List.set_cons_zero]) | ((refine alG 55 (zeroP.cs) (by rfl) rfl (fun w => by kernel_rfl) (Nat.succ_pos _) (unhide LL) ?_); intro X3 B3 hE3 L3 hb3; have hB3 := hide (Nat.le_trans (unhide LL).fr.size (Nat.le_of_eq hE3.symm)); have hNE : Hid (M1 ≠ B3 ∧ M2 ≠ B3) := hide ⟨Nat.ne_of_lt (Nat.lt_of_lt_of_le (unhide HM).1.lt (Nat.le_of_eq hE3.symm)), Nat.ne_of_lt (Nat.lt_of_lt_of_le (unhide HM).2.2.1.lt (Nat.le_of_eq hE3.symm))⟩; replace HM := hide (And.intro ((unhide HM).1.on hb3) (And.intro (unhide HM).2.1 (And.intro ((unhide HM).2.2.1.on hb3) (unhide HM).2.2.2))); replace LL := hide L3; clear L3 hb3 hE3; simp only [Act.put, List.setIfInBounds_toArray, List.set_cons_succ, List.set_cons_zero]) | ((refine st (vs := p.cs) 1 55 (by rfl) rfl rfl rfl rfl (pcs_one p) (szP) (unhide LL) rfl (by simp [cput, PR.cs, SH.cs, VV.cs, KK.cs, DD.cs, CO.cs, DL.cs, zeroP, zeroS, zeroD, zeroV]) (Or.inr (unhide hB3)) ?_); intro X4 L4 hf4 hs4; replace HM := hide (And.intro ((unhide HM).1.far hf4 (unhide hNE).1) (And.intro (unhide HM).2.1 (And.intro ((unhide HM).2.2.1.far hf4 (unhide hNE).2) (unhide HM).2.2.2))); replace LL := hide L4; clear L4 hf4 hs4; simp only [Act.put, List.setIfInBounds_toArray, List.set_cons_succ, List.set_cons_zero]) | ((refine rd (by rfl) (ex_loadN (vs := p.k.cs) 38 2 rwK szK rfl rfl ((unhide LL).get 1 rfl) rfl rfl) ?_); simp only [Act.put, List.setIfInBounds_toArray, List.set_cons_succ, List.set_cons_zero]) | ((refine rd (by rfl) (ex_loadN (vs := p.cs) 55 20 rwP szP rfl rfl ((unhide LL).get 1 rfl) rfl rfl) ?_); simp only [Act.put, List.setIfInBounds_toArray, List.set_cons_succ, List.set_cons_zero]) | ((refine rd (by rfl) (ex_look1 rfl rfl rfl (unhide HM).1 (unhide HOK) (unhide HFJ)) ?_); simp only [Act.put, List.setIfInBounds_toArray, List.set_cons_succ, List.set_cons_zero]) | ((refine rd (by rfl) (ex_neI rfl rfl rfl (unhide HNJ)) ?_); simp only [Act.put, List.setIfInBounds_toArray, List.set_cons_succ, List.set_cons_zero]) | ((refine rd (by rfl) (ex_lookI rfl rfl rfl (unhide HM).2.2.1 (unhide HOK) (unhide HFI)) ?_); simp only [Act.put, List.setIfInBounds_toArray, List.set_cons_succ, List.set_cons_zero])))
              simp only [nz]
              try go_wp2_with (first | go_skip | ((with_reducible show wpList _ _ _ _ _ _); first | ((refine rd (by rfl) (ex_lenG 48 55 Tryd.underlying48 rfl rfl) ?_); simp only [Act.put, List.setIfInBounds_toArray, List.set_cons_succ, List.set_cons_zero]) | ((refine rd (by rfl) (ex_indexA 48 20 i unPs idPs rfl rfl (unhide HA) rfl (unhide HLT)) ?_); simp only [Act.put, List.setIfInBounds_toArray, List.set_cons_succ, List.set_cons_zero]) | ((refine rd (by rfl) (ex_loadR (vs := p.cs) 55 20 rwP szP rfl rfl (unhide HA2 _ (unhide LL).fr) rfl) ?_); simp only [Act.put, List.setIfInBounds_toArray, List.set_cons_succ, List.set_cons_zero]) | ((refine alG 55 (zeroP.cs) (by rfl) rfl (fun w => by kernel_rfl) (Nat.succ_pos _) (unhide LL) ?_); intro X3 B3 hE3 L3 hb3; have hB3 := hide (Nat.le_trans (unhide LL).fr.size (Nat.le_of_eq hE3.symm)); have hNE : Hid (M1 ≠ B3 ∧ M2 ≠ B3) := hide ⟨Nat.ne_of_lt (Nat.lt_of_lt_of_le (unhide HM).1.lt (Nat.le_of_eq hE3.symm)), Nat.ne_of_lt (Nat.lt_of_lt_of_le (unhide HM).2.2.1.lt (Nat.le_of_eq hE3.symm))⟩; replace HM := hide (And.intro ((unhide HM).1.on hb3) (And.intro (unhide HM).2.1 (And.intro ((unhide HM).2.2.1.on hb3) (unhide HM).2.2.2))); replace LL := hide L3; clear L3 hb3 hE3; simp only [Act.put, List.setIfInBounds_toArray, List.set_cons_succ, List.set_cons_zero]) | ((refine st (vs := p.cs) 1 55 (by rfl) rfl rfl rfl rfl (pcs_one p) (szP) (unhide LL) rfl (by simp [cput, PR.cs, SH.cs, VV.cs, KK.cs, DD.cs, CO.cs, DL.cs, zeroP, zeroS, zeroD, zeroV]) (Or.inr (unhide hB3)) ?_); intro X4 L4 hf4 hs4; replace HM := hide (And.intro ((unhide HM).1.far hf4 (unhide hNE).1) (And.intro (unhide HM).2.1 (And.intro ((unhide HM).2.2.1.far hf4 (unhide hNE).2) (unhide HM).2.2.2))); replace LL := hide L4; clear L4 hf4 hs4; simp only [Act.put, List.setIfInBounds_toArray, List.set_cons_succ, List.set_cons_zero]) | ((refine rd (by rfl) (ex_loadN (vs := p.k.cs) 38 2 rwK szK rfl rfl ((unhide LL).get 1 rfl) rfl rfl) ?_); simp only [Act.put, List.setIfInBounds_toArray, List.set_cons_succ, List.set_cons_zero]) | ((refine rd (by rfl) (ex_loadN (vs := p.cs) 55 20 rwP szP rfl rfl ((unhide LL).get 1 rfl) rfl rfl) ?_); simp only [Act.put, List.setIfInBounds_toArray, List.set_cons_succ, List.set_cons_zero]) | ((refine rd (by rfl) (ex_look1 rfl rfl rfl (unhide HM).1 (unhide HOK) (unhide HFJ)) ?_); simp only [Act.put, List.setIfInBounds_toArray, List.set_cons_succ, List.set_cons_zero]) | ((refine rd (by rfl) (ex_neI rfl rfl rfl (unhide HNJ)) ?_); simp only [Act.put, List.setIfInBounds_toArray, List.set_cons_succ, List.set_cons_zero]) | ((refine rd (by rfl) (ex_lookI rfl rfl rfl (unhide HM).2.2.1 (unhide HOK) (unhide HFI)) ?_); simp only [Act.put, List.setIfInBounds_toArray, List.set_cons_succ, List.set_cons_zero])))
              obtain ⟨hA2, hb2, hrg2, halt, hKP⟩ := unhide HH
              have hq0 : Hq w _ [] [(B1, c.cs), (B3, p.cs)] := (unhide LL).drew
              refine wp_region_held_drew (P := Tryd.prog) (S := fun X => Hq w X [] [(B1, c.cs), (B3, p.cs)]) (by kernel_rfl) hq0 (fun hS0 => ?_)
              refine gsem 0 (some 43) (.bool true) rfl (by kernel_rfl) (by kernel_rfl) (by kernel_rfl) (fun _ _ _ h => h) (by kernel_rfl) (by kernel_rfl) (fun _ _ => by kernel_rfl) hq0 ?_
              simp only [Act.put, List.setIfInBounds_toArray, List.set_cons_succ, List.set_cons_zero]
              refine gsem 1 (some 44) (.bool false) rfl (by kernel_rfl) (by kernel_rfl) (by kernel_rfl) (fun _ _ _ h => h) (by kernel_rfl) (by kernel_rfl) (fun _ _ => by kernel_rfl) hq0 ?_
              simp only [Act.put, List.setIfInBounds_toArray, List.set_cons_succ, List.set_cons_zero]
              refine gsem 2 (some 45) (.bool false) rfl (by kernel_rfl) (by kernel_rfl) (by kernel_rfl) (fun _ _ _ h => h) (by kernel_rfl) (by kernel_rfl) (fun _ _ => by kernel_rfl) hq0 ?_
              simp only [Act.put, List.setIfInBounds_toArray, List.set_cons_succ, List.set_cons_zero]
              refine gsem 3 (some 46) (.pointer (some ⟨B3, 2, none⟩)) rfl (by kernel_rfl) (by kernel_rfl) (by kernel_rfl) (fun _ _ _ h => h) (by kernel_rfl) (by kernel_rfl) (fun _ _ => by kernel_rfl) hq0 ?_
              simp only [Act.put, List.setIfInBounds_toArray, List.set_cons_succ, List.set_cons_zero]
              refine gsem 4 (some 47) (.agg p.d.cs.toArray) rfl (by kernel_rfl) (by kernel_rfl) (by kernel_rfl) (fun _ _ _ h => h) (by kernel_rfl) (by kernel_rfl) (fun X hX => ex_loadN (vs := p.d.cs) 41 18 rwD szD rfl rfl (hX.get 1 rfl) rfl rfl) hq0 ?_
              simp only [Act.put, List.setIfInBounds_toArray, List.set_cons_succ, List.set_cons_zero]
              refine gsem 5 (some 48) (.pointer (some ⟨B1, 8, none⟩)) rfl (by kernel_rfl) (by kernel_rfl) (by kernel_rfl) (fun _ _ _ h => h) (by kernel_rfl) (by kernel_rfl) (fun _ _ => by kernel_rfl) hq0 ?_
              simp only [Act.put, List.setIfInBounds_toArray, List.set_cons_succ, List.set_cons_zero]
              refine gsem 6 (some 49) (.pointer (some ⟨B1, 15, none⟩)) rfl (by kernel_rfl) (by kernel_rfl) (by kernel_rfl) (fun _ _ _ h => h) (by kernel_rfl) (by kernel_rfl) (fun _ _ => by kernel_rfl) hq0 ?_
              simp only [Act.put, List.setIfInBounds_toArray, List.set_cons_succ, List.set_cons_zero]
              refine gsem 7 (some 50) (.slice c.iA c.is.ps.length c.ic) rfl (by kernel_rfl) (by kernel_rfl) (by kernel_rfl) (fun _ _ _ h => h) (by kernel_rfl) (by kernel_rfl) (fun X hX => ex_load1 48 Tryd.isAgg48 rfl rfl (hX.get 0 rfl) rfl) hq0 ?_
              simp only [Act.put, List.setIfInBounds_toArray, List.set_cons_succ, List.set_cons_zero]
              refine gsem 8 (some 51) (.int .i64 (a : Nat)) rfl (by kernel_rfl) (by kernel_rfl) (by kernel_rfl) (fun _ _ _ h => h) (by kernel_rfl) (by kernel_rfl) (fun _ _ => by kernel_rfl) hq0 ?_
              simp only [Act.put, List.setIfInBounds_toArray, List.set_cons_succ, List.set_cons_zero]
              refine gsem 9 (some 52) (.pointer (some ⟨b2, off2 + a * 20, none⟩)) rfl (by kernel_rfl) (by kernel_rfl) (by kernel_rfl) (fun _ _ _ h => h) (by kernel_rfl) (by kernel_rfl) (fun X hX => ex_indexA 48 20 a unPs idPs rfl rfl hA2 rfl halt) hq0 ?_
              simp only [Act.put, List.setIfInBounds_toArray, List.set_cons_succ, List.set_cons_zero]
              refine gsem 10 (some 53) (.pointer (some ⟨b2, off2 + a * 20 + 2, none⟩)) rfl (by kernel_rfl) (by kernel_rfl) (by kernel_rfl) (fun _ _ _ h => h) (by kernel_rfl) (by kernel_rfl) (fun _ _ => by kernel_rfl) hq0 ?_
              simp only [Act.put, List.setIfInBounds_toArray, List.set_cons_succ, List.set_cons_zero]
              refine gsem 11 (some 54) (.agg r.d.cs.toArray) rfl (by kernel_rfl) (by kernel_rfl) (by kernel_rfl) (fun _ _ _ h => h) (by kernel_rfl) (by kernel_rfl) (fun X hX => ex_loadR (vs := r.d.cs) 41 18 rwD szD rfl rfl (range_right (a := r.k.cs) (c := r.d.cs) (rangeAt_fr hrg2 hb2 hX.fr)) rfl) hq0 ?_
              simp only [Act.put, List.setIfInBounds_toArray, List.set_cons_succ, List.set_cons_zero]
              refine wpAnyH_ready (rs := [12]) (by kernel_rfl) (by simp) (gcallR 12 (some 55) rfl (by kernel_rfl) (by kernel_rfl) (by kernel_rfl) (hKP _ (tabs_below (unhide HT) hq0.fr.below)) ?_ AllReadyH.nil)
              rintro e Y5 ⟨rfl, hY5⟩
              have hq05 := Hq.on hq0 hY5
              refine ⟨_, rfl, hq05, ?_⟩
              simp only [Act.put, List.setIfInBounds_toArray, List.set_cons_succ, List.set_cons_zero]
              refine gsem 13 (some 56) (.bool true) rfl (by kernel_rfl) (by kernel_rfl) (by kernel_rfl) (fun _ _ _ h => h) (by kernel_rfl) (by kernel_rfl) (fun _ _ => by kernel_rfl) hq05 ?_
              simp only [Act.put, List.setIfInBounds_toArray, List.set_cons_succ, List.set_cons_zero]
              refine gsem 14 (some 57) (.bool true) rfl (by kernel_rfl) (by kernel_rfl) (by kernel_rfl) (fun _ _ _ h => h) (by kernel_rfl) (by kernel_rfl) (fun _ _ => by kernel_rfl) hq05 ?_
              simp only [Act.put, List.setIfInBounds_toArray, List.set_cons_succ, List.set_cons_zero]
              refine wpAnyH_done (by kernel_rfl) ?_ _
              try simp only [Act.put, List.setIfInBounds_toArray, List.set_cons_succ, List.set_cons_zero]
              replace LL := hide hq05
              replace HM := hide (And.intro ((unhide HM).1.block (hY5.block _ (unhide HM).1.lt)) (And.intro (unhide HM).2.1 (And.intro ((unhide HM).2.2.1.block (hY5.block _ (unhide HM).2.2.1.lt)) (unhide HM).2.2.2)))
              clear hA2 hb2 hrg2 halt hKP hq0 hq05 hY5 hS0
              go_wp2_with (first | go_skip | ((with_reducible show wpList _ _ _ _ _ _); first | ((refine rd (by rfl) (ex_lenG 48 55 Tryd.underlying48 rfl rfl) ?_); simp only [Act.put, List.setIfInBounds_toArray, List.set_cons_succ, List.set_cons_zero]) | ((refine rd (by rfl) (ex_indexA 48 20 i unPs idPs rfl rfl (unhide HA) rfl (unhide HLT)) ?_); simp only [Act.put, List.setIfInBounds_toArray, List.set_cons_succ, List.set_cons_zero]) | ((refine rd (by rfl) (ex_loadR (vs := p.cs) 55 20 rwP szP rfl rfl (unhide HA2 _ (unhide LL).fr) rfl) ?_); simp only [Act.put, List.setIfInBounds_toArray, List.set_cons_succ, List.set_cons_zero]) | ((refine alG 55 (zeroP.cs) (by rfl) rfl (fun w => by kernel_rfl) (Nat.succ_pos _) (unhide LL) ?_); intro X3 B3 hE3 L3 hb3; have hB3 := hide (Nat.le_trans (unhide LL).fr.size (Nat.le_of_eq hE3.symm)); have hNE : Hid (M1 ≠ B3 ∧ M2 ≠ B3) := hide ⟨Nat.ne_of_lt (Nat.lt_of_lt_of_le (unhide HM).1.lt (Nat.le_of_eq hE3.symm)), Nat.ne_of_lt (Nat.lt_of_lt_of_le (unhide HM).2.2.1.lt (Nat.le_of_eq hE3.symm))⟩; replace HM := hide (And.intro ((unhide HM).1.on hb3) (And.intro (unhide HM).2.1 (And.intro ((unhide HM).2.2.1.on hb3) (unhide HM).2.2.2))); replace LL := hide L3; clear L3 hb3 hE3; simp only [Act.put, List.setIfInBounds_toArray, List.set_cons_succ, List.set_cons_zero]) | ((refine st (vs := p.cs) 1 55 (by rfl) rfl rfl rfl rfl (pcs_one p) (szP) (unhide LL) rfl (by simp [cput, PR.cs, SH.cs, VV.cs, KK.cs, DD.cs, CO.cs, DL.cs, zeroP, zeroS, zeroD, zeroV]) (Or.inr (unhide hB3)) ?_); intro X4 L4 hf4 hs4; replace HM := hide (And.intro ((unhide HM).1.far hf4 (unhide hNE).1) (And.intro (unhide HM).2.1 (And.intro ((unhide HM).2.2.1.far hf4 (unhide hNE).2) (unhide HM).2.2.2))); replace LL := hide L4; clear L4 hf4 hs4; simp only [Act.put, List.setIfInBounds_toArray, List.set_cons_succ, List.set_cons_zero]) | ((refine rd (by rfl) (ex_loadN (vs := p.k.cs) 38 2 rwK szK rfl rfl ((unhide LL).get 1 rfl) rfl rfl) ?_); simp only [Act.put, List.setIfInBounds_toArray, List.set_cons_succ, List.set_cons_zero]) | ((refine rd (by rfl) (ex_loadN (vs := p.cs) 55 20 rwP szP rfl rfl ((unhide LL).get 1 rfl) rfl rfl) ?_); simp only [Act.put, List.setIfInBounds_toArray, List.set_cons_succ, List.set_cons_zero]) | ((refine rd (by rfl) (ex_look1 rfl rfl rfl (unhide HM).1 (unhide HOK) (unhide HFJ)) ?_); simp only [Act.put, List.setIfInBounds_toArray, List.set_cons_succ, List.set_cons_zero]) | ((refine rd (by rfl) (ex_neI rfl rfl rfl (unhide HNJ)) ?_); simp only [Act.put, List.setIfInBounds_toArray, List.set_cons_succ, List.set_cons_zero]) | ((refine rd (by rfl) (ex_lookI rfl rfl rfl (unhide HM).2.2.1 (unhide HOK) (unhide HFI)) ?_); simp only [Act.put, List.setIfInBounds_toArray, List.set_cons_succ, List.set_cons_zero])))
              go_ret
              exact ⟨by rw [unhide HF]; rfl, (unhide LL).fr.below⟩
            · have HH := hide (And.intro hA2 (And.intro hb2 (And.intro hrg2 (And.intro halt hKP))))
              have HD2 := hide ((unhide HD).step (bad_kept hp hkr))
              clear hA2 hb2 hrg2 halt hKP hp hfj hlo hfi hr hrk hok hokr hkr hji HD
              go_wp2_with (first | go_skip | ((with_reducible show wpList _ _ _ _ _ _); first | ((refine rd (by rfl) (ex_lenG 48 55 Tryd.underlying48 rfl rfl) ?_); simp only [Act.put, List.setIfInBounds_toArray, List.set_cons_succ, List.set_cons_zero]) | ((refine rd (by rfl) (ex_indexA 48 20 i unPs idPs rfl rfl (unhide HA) rfl (unhide HLT)) ?_); simp only [Act.put, List.setIfInBounds_toArray, List.set_cons_succ, List.set_cons_zero]) | ((refine rd (by rfl) (ex_loadR (vs := p.cs) 55 20 rwP szP rfl rfl (unhide HA2 _ (unhide LL).fr) rfl) ?_); simp only [Act.put, List.setIfInBounds_toArray, List.set_cons_succ, List.set_cons_zero]) | ((refine alG 55 (zeroP.cs) (by rfl) rfl (fun w => by kernel_rfl) (Nat.succ_pos _) (unhide LL) ?_); intro X3 B3 hE3 L3 hb3; have hB3 := hide (Nat.le_trans (unhide LL).fr.size (Nat.le_of_eq hE3.symm)); have hNE : Hid (M1 ≠ B3 ∧ M2 ≠ B3) := hide ⟨Nat.ne_of_lt (Nat.lt_of_lt_of_le (unhide HM).1.lt (Nat.le_of_eq hE3.symm)), Nat.ne_of_lt (Nat.lt_of_lt_of_le (unhide HM).2.2.1.lt (Nat.le_of_eq hE3.symm))⟩; replace HM := hide (And.intro ((unhide HM).1.on hb3) (And.intro (unhide HM).2.1 (And.intro ((unhide HM).2.2.1.on hb3) (unhide HM).2.2.2))); replace LL := hide L3; clear L3 hb3 hE3; simp only [Act.put, List.setIfInBounds_toArray, List.set_cons_succ, List.set_cons_zero]) | ((refine st (vs := p.cs) 1 55 (by rfl) rfl rfl rfl rfl (pcs_one p) (szP) (unhide LL) rfl (by simp [cput, PR.cs, SH.cs, VV.cs, KK.cs, DD.cs, CO.cs, DL.cs, zeroP, zeroS, zeroD, zeroV]) (Or.inr (unhide hB3)) ?_); intro X4 L4 hf4 hs4; replace HM := hide (And.intro ((unhide HM).1.far hf4 (unhide hNE).1) (And.intro (unhide HM).2.1 (And.intro ((unhide HM).2.2.1.far hf4 (unhide hNE).2) (unhide HM).2.2.2))); replace LL := hide L4; clear L4 hf4 hs4; simp only [Act.put, List.setIfInBounds_toArray, List.set_cons_succ, List.set_cons_zero]) | ((refine rd (by rfl) (ex_loadN (vs := p.k.cs) 38 2 rwK szK rfl rfl ((unhide LL).get 1 rfl) rfl rfl) ?_); simp only [Act.put, List.setIfInBounds_toArray, List.set_cons_succ, List.set_cons_zero]) | ((refine rd (by rfl) (ex_loadN (vs := p.cs) 55 20 rwP szP rfl rfl ((unhide LL).get 1 rfl) rfl rfl) ?_); simp only [Act.put, List.setIfInBounds_toArray, List.set_cons_succ, List.set_cons_zero]) | ((refine rd (by rfl) (ex_look1 rfl rfl rfl (unhide HM).1 (unhide HOK) (unhide HFJ)) ?_); simp only [Act.put, List.setIfInBounds_toArray, List.set_cons_succ, List.set_cons_zero]) | ((refine rd (by rfl) (ex_neI rfl rfl rfl (unhide HNJ)) ?_); simp only [Act.put, List.setIfInBounds_toArray, List.set_cons_succ, List.set_cons_zero]) | ((refine rd (by rfl) (ex_lookI rfl rfl rfl (unhide HM).2.2.1 (unhide HOK) (unhide HFI)) ?_); simp only [Act.put, List.setIfInBounds_toArray, List.set_cons_succ, List.set_cons_zero])))
              refine (unhide HLO _).mono ?_
              rintro e X5 ⟨rfl, hb5⟩
              replace HM := hide (And.intro ((unhide HM).1.on hb5) (And.intro (unhide HM).2.1 (And.intro ((unhide HM).2.2.1.on hb5) (unhide HM).2.2.2)))
              replace LL := hide ((unhide LL).on hb5)
              clear hb5
              go_wp2_with (first | go_skip | ((with_reducible show wpList _ _ _ _ _ _); first | ((refine rd (by rfl) (ex_lenG 48 55 Tryd.underlying48 rfl rfl) ?_); simp only [Act.put, List.setIfInBounds_toArray, List.set_cons_succ, List.set_cons_zero]) | ((refine rd (by rfl) (ex_indexA 48 20 i unPs idPs rfl rfl (unhide HA) rfl (unhide HLT)) ?_); simp only [Act.put, List.setIfInBounds_toArray, List.set_cons_succ, List.set_cons_zero]) | ((refine rd (by rfl) (ex_loadR (vs := p.cs) 55 20 rwP szP rfl rfl (unhide HA2 _ (unhide LL).fr) rfl) ?_); simp only [Act.put, List.setIfInBounds_toArray, List.set_cons_succ, List.set_cons_zero]) | ((refine alG 55 (zeroP.cs) (by rfl) rfl (fun w => by kernel_rfl) (Nat.succ_pos _) (unhide LL) ?_); intro X3 B3 hE3 L3 hb3; have hB3 := hide (Nat.le_trans (unhide LL).fr.size (Nat.le_of_eq hE3.symm)); have hNE : Hid (M1 ≠ B3 ∧ M2 ≠ B3) := hide ⟨Nat.ne_of_lt (Nat.lt_of_lt_of_le (unhide HM).1.lt (Nat.le_of_eq hE3.symm)), Nat.ne_of_lt (Nat.lt_of_lt_of_le (unhide HM).2.2.1.lt (Nat.le_of_eq hE3.symm))⟩; replace HM := hide (And.intro ((unhide HM).1.on hb3) (And.intro (unhide HM).2.1 (And.intro ((unhide HM).2.2.1.on hb3) (unhide HM).2.2.2))); replace LL := hide L3; clear L3 hb3 hE3; simp only [Act.put, List.setIfInBounds_toArray, List.set_cons_succ, List.set_cons_zero]) | ((refine st (vs := p.cs) 1 55 (by rfl) rfl rfl rfl rfl (pcs_one p) (szP) (unhide LL) rfl (by simp [cput, PR.cs, SH.cs, VV.cs, KK.cs, DD.cs, CO.cs, DL.cs, zeroP, zeroS, zeroD, zeroV]) (Or.inr (unhide hB3)) ?_); intro X4 L4 hf4 hs4; replace HM := hide (And.intro ((unhide HM).1.far hf4 (unhide hNE).1) (And.intro (unhide HM).2.1 (And.intro ((unhide HM).2.2.1.far hf4 (unhide hNE).2) (unhide HM).2.2.2))); replace LL := hide L4; clear L4 hf4 hs4; simp only [Act.put, List.setIfInBounds_toArray, List.set_cons_succ, List.set_cons_zero]) | ((refine rd (by rfl) (ex_loadN (vs := p.k.cs) 38 2 rwK szK rfl rfl ((unhide LL).get 1 rfl) rfl rfl) ?_); simp only [Act.put, List.setIfInBounds_toArray, List.set_cons_succ, List.set_cons_zero]) | ((refine rd (by rfl) (ex_loadN (vs := p.cs) 55 20 rwP szP rfl rfl ((unhide LL).get 1 rfl) rfl rfl) ?_); simp only [Act.put, List.setIfInBounds_toArray, List.set_cons_succ, List.set_cons_zero]) | ((refine rd (by rfl) (ex_look1 rfl rfl rfl (unhide HM).1 (unhide HOK) (unhide HFJ)) ?_); simp only [Act.put, List.setIfInBounds_toArray, List.set_cons_succ, List.set_cons_zero]) | ((refine rd (by rfl) (ex_neI rfl rfl rfl (unhide HNJ)) ?_); simp only [Act.put, List.setIfInBounds_toArray, List.set_cons_succ, List.set_cons_zero]) | ((refine rd (by rfl) (ex_lookI rfl rfl rfl (unhide HM).2.2.1 (unhide HOK) (unhide HFI)) ?_); simp only [Act.put, List.setIfInBounds_toArray, List.set_cons_succ, List.set_cons_zero])))
              simp only [nz]
              try go_wp2_with (first | go_skip | ((with_reducible show wpList _ _ _ _ _ _); first | ((refine rd (by rfl) (ex_lenG 48 55 Tryd.underlying48 rfl rfl) ?_); simp only [Act.put, List.setIfInBounds_toArray, List.set_cons_succ, List.set_cons_zero]) | ((refine rd (by rfl) (ex_indexA 48 20 i unPs idPs rfl rfl (unhide HA) rfl (unhide HLT)) ?_); simp only [Act.put, List.setIfInBounds_toArray, List.set_cons_succ, List.set_cons_zero]) | ((refine rd (by rfl) (ex_loadR (vs := p.cs) 55 20 rwP szP rfl rfl (unhide HA2 _ (unhide LL).fr) rfl) ?_); simp only [Act.put, List.setIfInBounds_toArray, List.set_cons_succ, List.set_cons_zero]) | ((refine alG 55 (zeroP.cs) (by rfl) rfl (fun w => by kernel_rfl) (Nat.succ_pos _) (unhide LL) ?_); intro X3 B3 hE3 L3 hb3; have hB3 := hide (Nat.le_trans (unhide LL).fr.size (Nat.le_of_eq hE3.symm)); have hNE : Hid (M1 ≠ B3 ∧ M2 ≠ B3) := hide ⟨Nat.ne_of_lt (Nat.lt_of_lt_of_le (unhide HM).1.lt (Nat.le_of_eq hE3.symm)), Nat.ne_of_lt (Nat.lt_of_lt_of_le (unhide HM).2.2.1.lt (Nat.le_of_eq hE3.symm))⟩; replace HM := hide (And.intro ((unhide HM).1.on hb3) (And.intro (unhide HM).2.1 (And.intro ((unhide HM).2.2.1.on hb3) (unhide HM).2.2.2))); replace LL := hide L3; clear L3 hb3 hE3; simp only [Act.put, List.setIfInBounds_toArray, List.set_cons_succ, List.set_cons_zero]) | ((refine st (vs := p.cs) 1 55 (by rfl) rfl rfl rfl rfl (pcs_one p) (szP) (unhide LL) rfl (by simp [cput, PR.cs, SH.cs, VV.cs, KK.cs, DD.cs, CO.cs, DL.cs, zeroP, zeroS, zeroD, zeroV]) (Or.inr (unhide hB3)) ?_); intro X4 L4 hf4 hs4; replace HM := hide (And.intro ((unhide HM).1.far hf4 (unhide hNE).1) (And.intro (unhide HM).2.1 (And.intro ((unhide HM).2.2.1.far hf4 (unhide hNE).2) (unhide HM).2.2.2))); replace LL := hide L4; clear L4 hf4 hs4; simp only [Act.put, List.setIfInBounds_toArray, List.set_cons_succ, List.set_cons_zero]) | ((refine rd (by rfl) (ex_loadN (vs := p.k.cs) 38 2 rwK szK rfl rfl ((unhide LL).get 1 rfl) rfl rfl) ?_); simp only [Act.put, List.setIfInBounds_toArray, List.set_cons_succ, List.set_cons_zero]) | ((refine rd (by rfl) (ex_loadN (vs := p.cs) 55 20 rwP szP rfl rfl ((unhide LL).get 1 rfl) rfl rfl) ?_); simp only [Act.put, List.setIfInBounds_toArray, List.set_cons_succ, List.set_cons_zero]) | ((refine rd (by rfl) (ex_look1 rfl rfl rfl (unhide HM).1 (unhide HOK) (unhide HFJ)) ?_); simp only [Act.put, List.setIfInBounds_toArray, List.set_cons_succ, List.set_cons_zero]) | ((refine rd (by rfl) (ex_neI rfl rfl rfl (unhide HNJ)) ?_); simp only [Act.put, List.setIfInBounds_toArray, List.set_cons_succ, List.set_cons_zero]) | ((refine rd (by rfl) (ex_lookI rfl rfl rfl (unhide HM).2.2.1 (unhide HOK) (unhide HFI)) ?_); simp only [Act.put, List.setIfInBounds_toArray, List.set_cons_succ, List.set_cons_zero])))
              obtain ⟨hA2, hb2, hrg2, halt, hKP⟩ := unhide HH
              have hq0 : Hq w _ [] [(B1, c.cs), (B3, p.cs)] := (unhide LL).drew
              refine wp_region_held_drew (P := Tryd.prog) (S := fun X => Hq w X [] [(B1, c.cs), (B3, p.cs)]) (by kernel_rfl) hq0 (fun hS0 => ?_)
              refine gsem 0 (some 43) (.bool true) rfl (by kernel_rfl) (by kernel_rfl) (by kernel_rfl) (fun _ _ _ h => h) (by kernel_rfl) (by kernel_rfl) (fun _ _ => by kernel_rfl) hq0 ?_
              simp only [Act.put, List.setIfInBounds_toArray, List.set_cons_succ, List.set_cons_zero]
              refine gsem 1 (some 44) (.bool false) rfl (by kernel_rfl) (by kernel_rfl) (by kernel_rfl) (fun _ _ _ h => h) (by kernel_rfl) (by kernel_rfl) (fun _ _ => by kernel_rfl) hq0 ?_
              simp only [Act.put, List.setIfInBounds_toArray, List.set_cons_succ, List.set_cons_zero]
              refine gsem 2 (some 45) (.bool false) rfl (by kernel_rfl) (by kernel_rfl) (by kernel_rfl) (fun _ _ _ h => h) (by kernel_rfl) (by kernel_rfl) (fun _ _ => by kernel_rfl) hq0 ?_
              simp only [Act.put, List.setIfInBounds_toArray, List.set_cons_succ, List.set_cons_zero]
              refine gsem 3 (some 46) (.pointer (some ⟨B3, 2, none⟩)) rfl (by kernel_rfl) (by kernel_rfl) (by kernel_rfl) (fun _ _ _ h => h) (by kernel_rfl) (by kernel_rfl) (fun _ _ => by kernel_rfl) hq0 ?_
              simp only [Act.put, List.setIfInBounds_toArray, List.set_cons_succ, List.set_cons_zero]
              refine gsem 4 (some 47) (.agg p.d.cs.toArray) rfl (by kernel_rfl) (by kernel_rfl) (by kernel_rfl) (fun _ _ _ h => h) (by kernel_rfl) (by kernel_rfl) (fun X hX => ex_loadN (vs := p.d.cs) 41 18 rwD szD rfl rfl (hX.get 1 rfl) rfl rfl) hq0 ?_
              simp only [Act.put, List.setIfInBounds_toArray, List.set_cons_succ, List.set_cons_zero]
              refine gsem 5 (some 48) (.pointer (some ⟨B1, 8, none⟩)) rfl (by kernel_rfl) (by kernel_rfl) (by kernel_rfl) (fun _ _ _ h => h) (by kernel_rfl) (by kernel_rfl) (fun _ _ => by kernel_rfl) hq0 ?_
              simp only [Act.put, List.setIfInBounds_toArray, List.set_cons_succ, List.set_cons_zero]
              refine gsem 6 (some 49) (.pointer (some ⟨B1, 15, none⟩)) rfl (by kernel_rfl) (by kernel_rfl) (by kernel_rfl) (fun _ _ _ h => h) (by kernel_rfl) (by kernel_rfl) (fun _ _ => by kernel_rfl) hq0 ?_
              simp only [Act.put, List.setIfInBounds_toArray, List.set_cons_succ, List.set_cons_zero]
              refine gsem 7 (some 50) (.slice c.iA c.is.ps.length c.ic) rfl (by kernel_rfl) (by kernel_rfl) (by kernel_rfl) (fun _ _ _ h => h) (by kernel_rfl) (by kernel_rfl) (fun X hX => ex_load1 48 Tryd.isAgg48 rfl rfl (hX.get 0 rfl) rfl) hq0 ?_
              simp only [Act.put, List.setIfInBounds_toArray, List.set_cons_succ, List.set_cons_zero]
              refine gsem 8 (some 51) (.int .i64 (a : Nat)) rfl (by kernel_rfl) (by kernel_rfl) (by kernel_rfl) (fun _ _ _ h => h) (by kernel_rfl) (by kernel_rfl) (fun _ _ => by kernel_rfl) hq0 ?_
              simp only [Act.put, List.setIfInBounds_toArray, List.set_cons_succ, List.set_cons_zero]
              refine gsem 9 (some 52) (.pointer (some ⟨b2, off2 + a * 20, none⟩)) rfl (by kernel_rfl) (by kernel_rfl) (by kernel_rfl) (fun _ _ _ h => h) (by kernel_rfl) (by kernel_rfl) (fun X hX => ex_indexA 48 20 a unPs idPs rfl rfl hA2 rfl halt) hq0 ?_
              simp only [Act.put, List.setIfInBounds_toArray, List.set_cons_succ, List.set_cons_zero]
              refine gsem 10 (some 53) (.pointer (some ⟨b2, off2 + a * 20 + 2, none⟩)) rfl (by kernel_rfl) (by kernel_rfl) (by kernel_rfl) (fun _ _ _ h => h) (by kernel_rfl) (by kernel_rfl) (fun _ _ => by kernel_rfl) hq0 ?_
              simp only [Act.put, List.setIfInBounds_toArray, List.set_cons_succ, List.set_cons_zero]
              refine gsem 11 (some 54) (.agg r.d.cs.toArray) rfl (by kernel_rfl) (by kernel_rfl) (by kernel_rfl) (fun _ _ _ h => h) (by kernel_rfl) (by kernel_rfl) (fun X hX => ex_loadR (vs := r.d.cs) 41 18 rwD szD rfl rfl (range_right (a := r.k.cs) (c := r.d.cs) (rangeAt_fr hrg2 hb2 hX.fr)) rfl) hq0 ?_
              simp only [Act.put, List.setIfInBounds_toArray, List.set_cons_succ, List.set_cons_zero]
              refine wpAnyH_ready (rs := [12]) (by kernel_rfl) (by simp) (gcallR 12 (some 55) rfl (by kernel_rfl) (by kernel_rfl) (by kernel_rfl) (hKP _ (tabs_below (unhide HT) hq0.fr.below)) ?_ AllReadyH.nil)
              rintro e Y5 ⟨rfl, hY5⟩
              have hq05 := Hq.on hq0 hY5
              refine ⟨_, rfl, hq05, ?_⟩
              simp only [Act.put, List.setIfInBounds_toArray, List.set_cons_succ, List.set_cons_zero]
              refine gsem 13 (some 56) (.bool false) rfl (by kernel_rfl) (by kernel_rfl) (by kernel_rfl) (fun _ _ _ h => h) (by kernel_rfl) (by kernel_rfl) (fun _ _ => by kernel_rfl) hq05 ?_
              simp only [Act.put, List.setIfInBounds_toArray, List.set_cons_succ, List.set_cons_zero]
              refine gsem 14 (some 57) (.bool false) rfl (by kernel_rfl) (by kernel_rfl) (by kernel_rfl) (fun _ _ _ h => h) (by kernel_rfl) (by kernel_rfl) (fun _ _ => by kernel_rfl) hq05 ?_
              simp only [Act.put, List.setIfInBounds_toArray, List.set_cons_succ, List.set_cons_zero]
              refine wpAnyH_done (by kernel_rfl) ?_ _
              try simp only [Act.put, List.setIfInBounds_toArray, List.set_cons_succ, List.set_cons_zero]
              replace LL := hide hq05
              replace HM := hide (And.intro ((unhide HM).1.block (hY5.block _ (unhide HM).1.lt)) (And.intro (unhide HM).2.1 (And.intro ((unhide HM).2.2.1.block (hY5.block _ (unhide HM).2.2.1.lt)) (unhide HM).2.2.2)))
              clear hA2 hb2 hrg2 halt hKP hq0 hq05 hY5 hS0
              go_wp2_with (first | go_skip | ((with_reducible show wpList _ _ _ _ _ _); first | ((refine rd (by rfl) (ex_lenG 48 55 Tryd.underlying48 rfl rfl) ?_); simp only [Act.put, List.setIfInBounds_toArray, List.set_cons_succ, List.set_cons_zero]) | ((refine rd (by rfl) (ex_indexA 48 20 i unPs idPs rfl rfl (unhide HA) rfl (unhide HLT)) ?_); simp only [Act.put, List.setIfInBounds_toArray, List.set_cons_succ, List.set_cons_zero]) | ((refine rd (by rfl) (ex_loadR (vs := p.cs) 55 20 rwP szP rfl rfl (unhide HA2 _ (unhide LL).fr) rfl) ?_); simp only [Act.put, List.setIfInBounds_toArray, List.set_cons_succ, List.set_cons_zero]) | ((refine alG 55 (zeroP.cs) (by rfl) rfl (fun w => by kernel_rfl) (Nat.succ_pos _) (unhide LL) ?_); intro X3 B3 hE3 L3 hb3; have hB3 := hide (Nat.le_trans (unhide LL).fr.size (Nat.le_of_eq hE3.symm)); have hNE : Hid (M1 ≠ B3 ∧ M2 ≠ B3) := hide ⟨Nat.ne_of_lt (Nat.lt_of_lt_of_le (unhide HM).1.lt (Nat.le_of_eq hE3.symm)), Nat.ne_of_lt (Nat.lt_of_lt_of_le (unhide HM).2.2.1.lt (Nat.le_of_eq hE3.symm))⟩; replace HM := hide (And.intro ((unhide HM).1.on hb3) (And.intro (unhide HM).2.1 (And.intro ((unhide HM).2.2.1.on hb3) (unhide HM).2.2.2))); replace LL := hide L3; clear L3 hb3 hE3; simp only [Act.put, List.setIfInBounds_toArray, List.set_cons_succ, List.set_cons_zero]) | ((refine st (vs := p.cs) 1 55 (by rfl) rfl rfl rfl rfl (pcs_one p) (szP) (unhide LL) rfl (by simp [cput, PR.cs, SH.cs, VV.cs, KK.cs, DD.cs, CO.cs, DL.cs, zeroP, zeroS, zeroD, zeroV]) (Or.inr (unhide hB3)) ?_); intro X4 L4 hf4 hs4; replace HM := hide (And.intro ((unhide HM).1.far hf4 (unhide hNE).1) (And.intro (unhide HM).2.1 (And.intro ((unhide HM).2.2.1.far hf4 (unhide hNE).2) (unhide HM).2.2.2))); replace LL := hide L4; clear L4 hf4 hs4; simp only [Act.put, List.setIfInBounds_toArray, List.set_cons_succ, List.set_cons_zero]) | ((refine rd (by rfl) (ex_loadN (vs := p.k.cs) 38 2 rwK szK rfl rfl ((unhide LL).get 1 rfl) rfl rfl) ?_); simp only [Act.put, List.setIfInBounds_toArray, List.set_cons_succ, List.set_cons_zero]) | ((refine rd (by rfl) (ex_loadN (vs := p.cs) 55 20 rwP szP rfl rfl ((unhide LL).get 1 rfl) rfl rfl) ?_); simp only [Act.put, List.setIfInBounds_toArray, List.set_cons_succ, List.set_cons_zero]) | ((refine rd (by rfl) (ex_look1 rfl rfl rfl (unhide HM).1 (unhide HOK) (unhide HFJ)) ?_); simp only [Act.put, List.setIfInBounds_toArray, List.set_cons_succ, List.set_cons_zero]) | ((refine rd (by rfl) (ex_neI rfl rfl rfl (unhide HNJ)) ?_); simp only [Act.put, List.setIfInBounds_toArray, List.set_cons_succ, List.set_cons_zero]) | ((refine rd (by rfl) (ex_lookI rfl rfl rfl (unhide HM).2.2.1 (unhide HOK) (unhide HFI)) ?_); simp only [Act.put, List.setIfInBounds_toArray, List.set_cons_succ, List.set_cons_zero])))
              replace LL := hide (Hq.left (L := [(B1, c.cs)]) (unhide LL))
              go_roundg (c.was.ps.length - (i + 1))
              case measure => have := unhide HLT; omega
              case rel => exact ⟨i + 1, by go_num, by have := unhide HLT; omega, by omega, HD2, HM, LL⟩
        · have HD2 := hide ((unhide HD).step (bad_loose hp hlo))
          simp only [hlo] at HLO
          clear hp hfj hlo HD hok hji
          go_wp2_with (first | go_skip | ((with_reducible show wpList _ _ _ _ _ _); first | ((refine rd (by rfl) (ex_lenG 48 55 Tryd.underlying48 rfl rfl) ?_); simp only [Act.put, List.setIfInBounds_toArray, List.set_cons_succ, List.set_cons_zero]) | ((refine rd (by rfl) (ex_indexA 48 20 i unPs idPs rfl rfl (unhide HA) rfl (unhide HLT)) ?_); simp only [Act.put, List.setIfInBounds_toArray, List.set_cons_succ, List.set_cons_zero]) | ((refine rd (by rfl) (ex_loadR (vs := p.cs) 55 20 rwP szP rfl rfl (unhide HA2 _ (unhide LL).fr) rfl) ?_); simp only [Act.put, List.setIfInBounds_toArray, List.set_cons_succ, List.set_cons_zero]) | ((refine alG 55 (zeroP.cs) (by rfl) rfl (fun w => by kernel_rfl) (Nat.succ_pos _) (unhide LL) ?_); intro X3 B3 hE3 L3 hb3; have hB3 := hide (Nat.le_trans (unhide LL).fr.size (Nat.le_of_eq hE3.symm)); have hNE : Hid (M1 ≠ B3 ∧ M2 ≠ B3) := hide ⟨Nat.ne_of_lt (Nat.lt_of_lt_of_le (unhide HM).1.lt (Nat.le_of_eq hE3.symm)), Nat.ne_of_lt (Nat.lt_of_lt_of_le (unhide HM).2.2.1.lt (Nat.le_of_eq hE3.symm))⟩; replace HM := hide (And.intro ((unhide HM).1.on hb3) (And.intro (unhide HM).2.1 (And.intro ((unhide HM).2.2.1.on hb3) (unhide HM).2.2.2))); replace LL := hide L3; clear L3 hb3 hE3; simp only [Act.put, List.setIfInBounds_toArray, List.set_cons_succ, List.set_cons_zero]) | ((refine st (vs := p.cs) 1 55 (by rfl) rfl rfl rfl rfl (pcs_one p) (szP) (unhide LL) rfl (by simp [cput, PR.cs, SH.cs, VV.cs, KK.cs, DD.cs, CO.cs, DL.cs, zeroP, zeroS, zeroD, zeroV]) (Or.inr (unhide hB3)) ?_); intro X4 L4 hf4 hs4; replace HM := hide (And.intro ((unhide HM).1.far hf4 (unhide hNE).1) (And.intro (unhide HM).2.1 (And.intro ((unhide HM).2.2.1.far hf4 (unhide hNE).2) (unhide HM).2.2.2))); replace LL := hide L4; clear L4 hf4 hs4; simp only [Act.put, List.setIfInBounds_toArray, List.set_cons_succ, List.set_cons_zero]) | ((refine rd (by rfl) (ex_loadN (vs := p.k.cs) 38 2 rwK szK rfl rfl ((unhide LL).get 1 rfl) rfl rfl) ?_); simp only [Act.put, List.setIfInBounds_toArray, List.set_cons_succ, List.set_cons_zero]) | ((refine rd (by rfl) (ex_loadN (vs := p.cs) 55 20 rwP szP rfl rfl ((unhide LL).get 1 rfl) rfl rfl) ?_); simp only [Act.put, List.setIfInBounds_toArray, List.set_cons_succ, List.set_cons_zero]) | ((refine rd (by rfl) (ex_look1 rfl rfl rfl (unhide HM).1 (unhide HOK) (unhide HFJ)) ?_); simp only [Act.put, List.setIfInBounds_toArray, List.set_cons_succ, List.set_cons_zero]) | ((refine rd (by rfl) (ex_neI rfl rfl rfl (unhide HNJ)) ?_); simp only [Act.put, List.setIfInBounds_toArray, List.set_cons_succ, List.set_cons_zero]) | ((refine rd (by rfl) (ex_lookI rfl rfl rfl (unhide HM).2.2.1 (unhide HOK) (unhide HFI)) ?_); simp only [Act.put, List.setIfInBounds_toArray, List.set_cons_succ, List.set_cons_zero])))
          refine (unhide HLO _).mono ?_
          rintro e X5 ⟨rfl, hb5⟩
          replace HM := hide (And.intro ((unhide HM).1.on hb5) (And.intro (unhide HM).2.1 (And.intro ((unhide HM).2.2.1.on hb5) (unhide HM).2.2.2)))
          replace LL := hide ((unhide LL).on hb5)
          clear hb5
          go_wp2_with (first | go_skip | ((with_reducible show wpList _ _ _ _ _ _); first | ((refine rd (by rfl) (ex_lenG 48 55 Tryd.underlying48 rfl rfl) ?_); simp only [Act.put, List.setIfInBounds_toArray, List.set_cons_succ, List.set_cons_zero]) | ((refine rd (by rfl) (ex_indexA 48 20 i unPs idPs rfl rfl (unhide HA) rfl (unhide HLT)) ?_); simp only [Act.put, List.setIfInBounds_toArray, List.set_cons_succ, List.set_cons_zero]) | ((refine rd (by rfl) (ex_loadR (vs := p.cs) 55 20 rwP szP rfl rfl (unhide HA2 _ (unhide LL).fr) rfl) ?_); simp only [Act.put, List.setIfInBounds_toArray, List.set_cons_succ, List.set_cons_zero]) | ((refine alG 55 (zeroP.cs) (by rfl) rfl (fun w => by kernel_rfl) (Nat.succ_pos _) (unhide LL) ?_); intro X3 B3 hE3 L3 hb3; have hB3 := hide (Nat.le_trans (unhide LL).fr.size (Nat.le_of_eq hE3.symm)); have hNE : Hid (M1 ≠ B3 ∧ M2 ≠ B3) := hide ⟨Nat.ne_of_lt (Nat.lt_of_lt_of_le (unhide HM).1.lt (Nat.le_of_eq hE3.symm)), Nat.ne_of_lt (Nat.lt_of_lt_of_le (unhide HM).2.2.1.lt (Nat.le_of_eq hE3.symm))⟩; replace HM := hide (And.intro ((unhide HM).1.on hb3) (And.intro (unhide HM).2.1 (And.intro ((unhide HM).2.2.1.on hb3) (unhide HM).2.2.2))); replace LL := hide L3; clear L3 hb3 hE3; simp only [Act.put, List.setIfInBounds_toArray, List.set_cons_succ, List.set_cons_zero]) | ((refine st (vs := p.cs) 1 55 (by rfl) rfl rfl rfl rfl (pcs_one p) (szP) (unhide LL) rfl (by simp [cput, PR.cs, SH.cs, VV.cs, KK.cs, DD.cs, CO.cs, DL.cs, zeroP, zeroS, zeroD, zeroV]) (Or.inr (unhide hB3)) ?_); intro X4 L4 hf4 hs4; replace HM := hide (And.intro ((unhide HM).1.far hf4 (unhide hNE).1) (And.intro (unhide HM).2.1 (And.intro ((unhide HM).2.2.1.far hf4 (unhide hNE).2) (unhide HM).2.2.2))); replace LL := hide L4; clear L4 hf4 hs4; simp only [Act.put, List.setIfInBounds_toArray, List.set_cons_succ, List.set_cons_zero]) | ((refine rd (by rfl) (ex_loadN (vs := p.k.cs) 38 2 rwK szK rfl rfl ((unhide LL).get 1 rfl) rfl rfl) ?_); simp only [Act.put, List.setIfInBounds_toArray, List.set_cons_succ, List.set_cons_zero]) | ((refine rd (by rfl) (ex_loadN (vs := p.cs) 55 20 rwP szP rfl rfl ((unhide LL).get 1 rfl) rfl rfl) ?_); simp only [Act.put, List.setIfInBounds_toArray, List.set_cons_succ, List.set_cons_zero]) | ((refine rd (by rfl) (ex_look1 rfl rfl rfl (unhide HM).1 (unhide HOK) (unhide HFJ)) ?_); simp only [Act.put, List.setIfInBounds_toArray, List.set_cons_succ, List.set_cons_zero]) | ((refine rd (by rfl) (ex_neI rfl rfl rfl (unhide HNJ)) ?_); simp only [Act.put, List.setIfInBounds_toArray, List.set_cons_succ, List.set_cons_zero]) | ((refine rd (by rfl) (ex_lookI rfl rfl rfl (unhide HM).2.2.1 (unhide HOK) (unhide HFI)) ?_); simp only [Act.put, List.setIfInBounds_toArray, List.set_cons_succ, List.set_cons_zero])))
          replace LL := hide (Hq.left (L := [(B1, c.cs)]) (unhide LL))
          go_roundg (c.was.ps.length - (i + 1))
          case measure => have := unhide HLT; omega
          case rel => exact ⟨i + 1, by go_num, by have := unhide HLT; omega, by omega, HD2, HM, LL⟩
      · have HNJ : Hid (((j : Int) != (i : Int)) = true) := hide (by simp; omega)
        have HD2 := hide ((unhide HD).step (bad_other hp hfj (fun h => hij h.symm)))
        clear hp hfj HD hok hji hij hb hrg hlt hil hA
        go_wp2_with (first | go_skip | ((with_reducible show wpList _ _ _ _ _ _); first | ((refine rd (by rfl) (ex_lenG 48 55 Tryd.underlying48 rfl rfl) ?_); simp only [Act.put, List.setIfInBounds_toArray, List.set_cons_succ, List.set_cons_zero]) | ((refine rd (by rfl) (ex_indexA 48 20 i unPs idPs rfl rfl (unhide HA) rfl (unhide HLT)) ?_); simp only [Act.put, List.setIfInBounds_toArray, List.set_cons_succ, List.set_cons_zero]) | ((refine rd (by rfl) (ex_loadR (vs := p.cs) 55 20 rwP szP rfl rfl (unhide HA2 _ (unhide LL).fr) rfl) ?_); simp only [Act.put, List.setIfInBounds_toArray, List.set_cons_succ, List.set_cons_zero]) | ((refine alG 55 (zeroP.cs) (by rfl) rfl (fun w => by kernel_rfl) (Nat.succ_pos _) (unhide LL) ?_); intro X3 B3 hE3 L3 hb3; have hB3 := hide (Nat.le_trans (unhide LL).fr.size (Nat.le_of_eq hE3.symm)); have hNE : Hid (M1 ≠ B3 ∧ M2 ≠ B3) := hide ⟨Nat.ne_of_lt (Nat.lt_of_lt_of_le (unhide HM).1.lt (Nat.le_of_eq hE3.symm)), Nat.ne_of_lt (Nat.lt_of_lt_of_le (unhide HM).2.2.1.lt (Nat.le_of_eq hE3.symm))⟩; replace HM := hide (And.intro ((unhide HM).1.on hb3) (And.intro (unhide HM).2.1 (And.intro ((unhide HM).2.2.1.on hb3) (unhide HM).2.2.2))); replace LL := hide L3; clear L3 hb3 hE3; simp only [Act.put, List.setIfInBounds_toArray, List.set_cons_succ, List.set_cons_zero]) | ((refine st (vs := p.cs) 1 55 (by rfl) rfl rfl rfl rfl (pcs_one p) (szP) (unhide LL) rfl (by simp [cput, PR.cs, SH.cs, VV.cs, KK.cs, DD.cs, CO.cs, DL.cs, zeroP, zeroS, zeroD, zeroV]) (Or.inr (unhide hB3)) ?_); intro X4 L4 hf4 hs4; replace HM := hide (And.intro ((unhide HM).1.far hf4 (unhide hNE).1) (And.intro (unhide HM).2.1 (And.intro ((unhide HM).2.2.1.far hf4 (unhide hNE).2) (unhide HM).2.2.2))); replace LL := hide L4; clear L4 hf4 hs4; simp only [Act.put, List.setIfInBounds_toArray, List.set_cons_succ, List.set_cons_zero]) | ((refine rd (by rfl) (ex_loadN (vs := p.k.cs) 38 2 rwK szK rfl rfl ((unhide LL).get 1 rfl) rfl rfl) ?_); simp only [Act.put, List.setIfInBounds_toArray, List.set_cons_succ, List.set_cons_zero]) | ((refine rd (by rfl) (ex_loadN (vs := p.cs) 55 20 rwP szP rfl rfl ((unhide LL).get 1 rfl) rfl rfl) ?_); simp only [Act.put, List.setIfInBounds_toArray, List.set_cons_succ, List.set_cons_zero]) | ((refine rd (by rfl) (ex_look1 rfl rfl rfl (unhide HM).1 (unhide HOK) (unhide HFJ)) ?_); simp only [Act.put, List.setIfInBounds_toArray, List.set_cons_succ, List.set_cons_zero]) | ((refine rd (by rfl) (ex_neI rfl rfl rfl (unhide HNJ)) ?_); simp only [Act.put, List.setIfInBounds_toArray, List.set_cons_succ, List.set_cons_zero]) | ((refine rd (by rfl) (ex_lookI rfl rfl rfl (unhide HM).2.2.1 (unhide HOK) (unhide HFI)) ?_); simp only [Act.put, List.setIfInBounds_toArray, List.set_cons_succ, List.set_cons_zero])))
        replace LL := hide (Hq.left (L := [(B1, c.cs)]) (unhide LL))
        go_roundg (c.was.ps.length - (i + 1))
        case measure => have := unhide HLT; omega
        case rel => exact ⟨i + 1, by go_num, by have := unhide HLT; omega, by omega, HD2, HM, LL⟩
    · obtain rfl : i = c.was.ps.length := by omega
      have HF := hide (prV_no (unhide HD))
      clear hlt hil HD
      go_wp2_with (first | go_skip | ((with_reducible show wpList _ _ _ _ _ _); first | ((refine rd (by rfl) (ex_lenG 48 55 Tryd.underlying48 rfl rfl) ?_); simp only [Act.put, List.setIfInBounds_toArray, List.set_cons_succ, List.set_cons_zero])))
      go_ret
      exact ⟨by rw [unhide HF]; rfl, (unhide LL).fr.below⟩
end Go.Proofs.YtcflglloopgieaaDoor

/-! Ij -/
namespace Go.Proofs.YtcflglloopgieaaDoor
open Go Go.Proofs Go.Maps Go.RowKit FM
set_option linter.unusedSimpArgs false
set_option linter.unusedVariables false
set_option maxHeartbeats 1000000
theorem bC1 (s : SH) (A : Option Addr) (c : Nat) (w : World) : (Instr.build 69 #[(0, .agg (s.cs A c).toArray), (2, .bool true)]).run Tryd.prog w = .ok (.agg (CO.cs ⟨s, A, c, zeroS, none, 0, true⟩).toArray) w := by kernel_rfl
theorem bC2 (s r : SH) (A B : Option Addr) (c d : Nat) (w : World) : (Instr.build 69 #[(0, .agg (s.cs A c).toArray), (1, .agg (r.cs B d).toArray)]).run Tryd.prog w = .ok (.agg (CO.cs ⟨s, A, c, r, B, d, false⟩).toArray) w := by kernel_rfl
theorem ex_bC1 {o : Oper} {a : Act} {w : World} {x y : Operand} {s : SH} {A : Option Addr} {c : Nat} (ho : o.op = .build 69 #[(0, x), (2, y)]) (hx : a.eval x = .agg (s.cs A c).toArray) (hy : a.eval y = .bool true) : (execOp a.eval o).run Tryd.prog w = .ok (.value (.agg (CO.cs ⟨s, A, c, zeroS, none, 0, true⟩).toArray)) w := by
  have e := bC1 s A c w
  unfold execOp
  simp only [ho, List.map_toArray, List.map_cons, List.map_nil, hx, hy]
  simp [e]
theorem ex_bC2 {o : Oper} {a : Act} {w : World} {x y : Operand} {s r : SH} {A B : Option Addr} {c d : Nat} (ho : o.op = .build 69 #[(0, x), (1, y)]) (hx : a.eval x = .agg (s.cs A c).toArray) (hy : a.eval y = .agg (r.cs B d).toArray) : (execOp a.eval o).run Tryd.prog w = .ok (.value (.agg (CO.cs ⟨s, A, c, r, B, d, false⟩).toArray)) w := by
  have e := bC2 s r A B c d w
  unfold execOp
  simp only [ho, List.map_toArray, List.map_cons, List.map_nil, hx, hy]
  simp [e]
def zeroC : CO := ⟨zeroS, none, 0, zeroS, none, 0, false⟩
/-- The course of an object. -/
def CoPost (w0 w : World) (bs ns : List SH) (i : Nat) (e : Ending) (X : World) : Prop := ∃ c : CO, e = .returned c.agg ∧ bs[i]? = some c.was ∧ ReadsP w0 c.wA c.was.ps ∧ ReadsP w0 c.iA c.is.ps ∧ c.was.ps.length ≤ 733007751850 ∧ c.is.ps.length ≤ 733007751850 ∧ c.was.p.x < 2 ^ 64 ∧ c.is.p.x < 2 ^ 64 ∧ ((c.gone = true ∧ ns[i]? = none ∧ c.is = zeroS) ∨ (c.gone = false ∧ ns[i]? = some c.is)) ∧ Below w.heap.size w X
set_option maxHeartbeats 2000000 in
set_option maxRecDepth 100000 in
theorem courseOf_any (A B : Option Addr) (cap cap2 : Nat) (bs ns : List SH) (i : Nat) (w0 w : World) (hB : ReadsS w0 A bs) (hC : ReadsS w0 B ns) (hf : Fr w0 w []) (hi : i < bs.length) (hz : bs.length ≤ 100000) (hz2 : ns.length ≤ 100000) : Calls Tryd.prog 30 #[.slice A bs.length cap, .slice B ns.length cap2, .int .i64 (i : Nat)] w (CoPost w0 w bs ns i) := by
  have LL := hide (Hq.nil w [])
  obtain ⟨s, hs⟩ : ∃ s, bs[i]? = some s := ⟨_, List.getElem?_eq_getElem hi⟩
  obtain ⟨hx, hl, b, off, SA, sc, hA, hb, hrp, hrg⟩ := hB i s hs
  have HA := hide hA
  have HA2 : Hid (∀ X, Fr w X [] → X.rangeAt b (off + i * 8) (s.cs SA sc)) := hide (fun X hX => rangeAt_fr hrg hb (hf.trans hX (by simp)))
  have HLT := hide hi
  by_cases hia : i < ns.length
  · obtain ⟨r, hr⟩ : ∃ r, ns[i]? = some r := ⟨_, List.getElem?_eq_getElem hia⟩
    obtain ⟨hx2, hl2, b2, off2, RA, rc, hA3, hb2, hrp2, hrg2⟩ := hC i r hr
    have dge : decide ((ns.length : Int) ≤ (i : Int)) = false := decide_eq_false (by omega)
    go_enter Tryd.func30, Tryd.ntmps30
    go_wp2_with (first | go_skip | ((with_reducible show wpList _ _ _ _ _ _); first | ((refine alG 69 (zeroC.cs) (by rfl) rfl (fun w => by kernel_rfl) (Nat.succ_pos _) (unhide LL) ?_); intro X1 B1 hE1 L1 hb1; have hB1 := hide (Nat.le_trans (unhide LL).fr.size (Nat.le_of_eq hE1.symm)); replace LL := hide L1; clear L1 hb1 hE1; simp only [Act.put, List.setIfInBounds_toArray, List.set_cons_succ, List.set_cons_zero]) | ((refine rd (by rfl) (ex_lenG 22 50 Tryd.underlying22 rfl rfl) ?_); simp only [Act.put, List.setIfInBounds_toArray, List.set_cons_succ, List.set_cons_zero])))
    have hq0 : Hq w _ [] [(B1, zeroC.cs)] := (unhide LL).drew
    have hq1 := hq0.put 0 rfl 0 (CO.cs ⟨s, SA, sc, r, RA, rc, false⟩) (by simp [CO.cs, SH.cs, VV.cs, zeroC, zeroS, zeroV]) (.inr (unhide hB1))
    have e1 : cput zeroC.cs 0 (CO.cs ⟨s, SA, sc, r, RA, rc, false⟩) = CO.cs ⟨s, SA, sc, r, RA, rc, false⟩ := by simp [cput, CO.cs, SH.cs, VV.cs, zeroC, zeroS, zeroV]
    rw [e1] at hq1
    have hf0 : Fr w _ [] := hq0.fr
    refine wp_region_held_drew (P := Tryd.prog) (S := fun X => Fr w X []) (by kernel_rfl) hf0 (fun hS0 => ?_)
    refine gsem 0 (some 16) (.slice A bs.length cap) rfl (by kernel_rfl) (by kernel_rfl) (by kernel_rfl) (fun _ _ _ h => h) (by kernel_rfl) (by kernel_rfl) (fun _ _ => by kernel_rfl) hf0 ?_
    simp only [Act.put, List.setIfInBounds_toArray, List.set_cons_succ, List.set_cons_zero]
    refine gsem 1 (some 17) (.int .i64 (i : Nat)) rfl (by kernel_rfl) (by kernel_rfl) (by kernel_rfl) (fun _ _ _ h => h) (by kernel_rfl) (by kernel_rfl) (fun _ _ => by kernel_rfl) hf0 ?_
    simp only [Act.put, List.setIfInBounds_toArray, List.set_cons_succ, List.set_cons_zero]
    refine gsem 2 (some 18) (.pointer (some ⟨b, off + i * 8, none⟩)) rfl (by kernel_rfl) (by kernel_rfl) (by kernel_rfl) (fun _ _ _ h => h) (by kernel_rfl) (by kernel_rfl) (fun X hX => ex_indexA 22 8 i unSs idSs rfl rfl hA rfl hi) hf0 ?_
    simp only [Act.put, List.setIfInBounds_toArray, List.set_cons_succ, List.set_cons_zero]
    refine gsem 3 (some 19) (.agg (s.cs SA sc).toArray) rfl (by kernel_rfl) (by kernel_rfl) (by kernel_rfl) (fun _ _ _ h => h) (by kernel_rfl) (by kernel_rfl) (fun X hX => ex_loadR (vs := s.cs SA sc) 50 8 rwS szS rfl rfl (rangeAt_fr hrg hb (hf.trans hX (by simp))) rfl) hf0 ?_
    simp only [Act.put, List.setIfInBounds_toArray, List.set_cons_succ, List.set_cons_zero]
    refine gsem 4 (some 20) (.slice B ns.length cap2) rfl (by kernel_rfl) (by kernel_rfl) (by kernel_rfl) (fun _ _ _ h => h) (by kernel_rfl) (by kernel_rfl) (fun _ _ => by kernel_rfl) hf0 ?_
    simp only [Act.put, List.setIfInBounds_toArray, List.set_cons_succ, List.set_cons_zero]
    refine gsem 5 (some 21) (.int .i64 (i : Nat)) rfl (by kernel_rfl) (by kernel_rfl) (by kernel_rfl) (fun _ _ _ h => h) (by kernel_rfl) (by kernel_rfl) (fun _ _ => by kernel_rfl) hf0 ?_
    simp only [Act.put, List.setIfInBounds_toArray, List.set_cons_succ, List.set_cons_zero]
    refine gsem 6 (some 22) (.pointer (some ⟨b2, off2 + i * 8, none⟩)) rfl (by kernel_rfl) (by kernel_rfl) (by kernel_rfl) (fun _ _ _ h => h) (by kernel_rfl) (by kernel_rfl) (fun X hX => ex_indexA 22 8 i unSs idSs rfl rfl hA3 rfl hia) hf0 ?_
    simp only [Act.put, List.setIfInBounds_toArray, List.set_cons_succ, List.set_cons_zero]
    refine gsem 7 (some 23) (.agg (r.cs RA rc).toArray) rfl (by kernel_rfl) (by kernel_rfl) (by kernel_rfl) (fun _ _ _ h => h) (by kernel_rfl) (by kernel_rfl) (fun X hX => ex_loadR (vs := r.cs RA rc) 50 8 rwS szS rfl rfl (rangeAt_fr hrg2 hb2 (hf.trans hX (by simp))) rfl) hf0 ?_
    simp only [Act.put, List.setIfInBounds_toArray, List.set_cons_succ, List.set_cons_zero]
    refine gsem 8 (some 24) (.agg (CO.cs ⟨s, SA, sc, r, RA, rc, false⟩).toArray) rfl (by kernel_rfl) (by kernel_rfl) (by kernel_rfl) (fun _ _ _ h => h) (by kernel_rfl) (by kernel_rfl) (fun X hX => ex_bC2 rfl rfl rfl) hf0 ?_
    simp only [Act.put, List.setIfInBounds_toArray, List.set_cons_succ, List.set_cons_zero]
    refine wpAnyH_ready (rs := [9]) (by kernel_rfl) (by simp) (gskp 9 none rfl (by kernel_rfl) (by kernel_rfl) (ex_store (t := 69) (vs := CO.cs ⟨s, SA, sc, r, RA, rc, false⟩) rfl rfl rfl rfl (cocs_one _) szC (hq0.get 0 rfl) (by simp [CO.cs, SH.cs, VV.cs, zeroC, zeroS, zeroV])) (hq0.put 0 rfl 0 _ (by simp [CO.cs, SH.cs, VV.cs, zeroC, zeroS, zeroV]) (.inr (unhide hB1))).fr ?_ AllReadyH.nil)
    simp only [Act.put, List.setIfInBounds_toArray, List.set_cons_succ, List.set_cons_zero]
    refine wpAnyH_done (by kernel_rfl) ?_ _
    try simp only [Act.put, List.setIfInBounds_toArray, List.set_cons_succ, List.set_cons_zero]
    go_wp2
    refine ret_c (cs := CO.cs ⟨s, SA, sc, r, RA, rc, false⟩) rwC szC rfl rfl rfl (hq1.get 0 rfl) rfl ?_
    exact ⟨⟨s, SA, sc, r, RA, rc, false⟩, rfl, hs, hrp, hrp2, hl, hl2, hx, hx2, .inr ⟨rfl, hr⟩, hq1.fr.below⟩
  · have dge : decide ((ns.length : Int) ≤ (i : Int)) = true := decide_eq_true (by omega)
    go_enter Tryd.func30, Tryd.ntmps30
    go_wp2_with (first | go_skip | ((with_reducible show wpList _ _ _ _ _ _); first | ((refine alG 69 (zeroC.cs) (by rfl) rfl (fun w => by kernel_rfl) (Nat.succ_pos _) (unhide LL) ?_); intro X1 B1 hE1 L1 hb1; have hB1 := hide (Nat.le_trans (unhide LL).fr.size (Nat.le_of_eq hE1.symm)); replace LL := hide L1; clear L1 hb1 hE1; simp only [Act.put, List.setIfInBounds_toArray, List.set_cons_succ, List.set_cons_zero]) | ((refine rd (by rfl) (ex_lenG 22 50 Tryd.underlying22 rfl rfl) ?_); simp only [Act.put, List.setIfInBounds_toArray, List.set_cons_succ, List.set_cons_zero]) | ((refine rd (by rfl) (ex_indexA 22 8 i unSs idSs rfl rfl (unhide HA) rfl (unhide HLT)) ?_); simp only [Act.put, List.setIfInBounds_toArray, List.set_cons_succ, List.set_cons_zero]) | ((refine rd (by rfl) (ex_loadR (vs := s.cs SA sc) 50 8 rwS szS rfl rfl (unhide HA2 _ (unhide LL).fr) rfl) ?_); simp only [Act.put, List.setIfInBounds_toArray, List.set_cons_succ, List.set_cons_zero]) | ((refine rd (by rfl) (ex_bC1 rfl rfl rfl) ?_); simp only [Act.put, List.setIfInBounds_toArray, List.set_cons_succ, List.set_cons_zero]) | ((refine st (vs := CO.cs ⟨s, SA, sc, zeroS, none, 0, true⟩) 0 69 (by rfl) rfl rfl rfl rfl (cocs_one _) szC (unhide LL) rfl (by simp [cput, CO.cs, SH.cs, VV.cs, zeroC, zeroS, zeroV]) (Or.inr (unhide hB1)) ?_); intro X4 L4 hf4 hs4; replace LL := hide L4; clear L4 hf4 hs4; simp only [Act.put, List.setIfInBounds_toArray, List.set_cons_succ, List.set_cons_zero])))
    refine ret_c (cs := CO.cs ⟨s, SA, sc, zeroS, none, 0, true⟩) rwC szC rfl rfl rfl ((unhide LL).get 0 rfl) rfl ?_
    exact ⟨⟨s, SA, sc, zeroS, none, 0, true⟩, rfl, hs, hrp, (fun j p hp => by simp [zeroS] at hp), hl, (by simp [zeroS]), hx, (by simp [zeroS, zeroV]), .inl ⟨rfl, List.getElem?_eq_none (by omega), rfl⟩, (unhide LL).fr.below⟩
def ruleCs : List Value := [.int .i64 1, .func (.func 45) #[] #[], .int .i64 2, .func (.func 46) #[] #[], .int .i64 3, .func (.func 47) #[] #[], .int .i64 4, .func (.func 48) #[] #[], .int .i64 5, .func (.func 49) #[] #[], .int .i64 6, .func (.func 50) #[] #[]]
theorem bR0 (w : World) : (Instr.build 73 #[(0, .int .i64 1), (1, .func (.func 45) #[] #[])]).run Tryd.prog w = .ok (.agg #[.int .i64 1, .func (.func 45) #[] #[]]) w := by kernel_rfl
theorem bR1 (w : World) : (Instr.build 73 #[(0, .int .i64 2), (1, .func (.func 46) #[] #[])]).run Tryd.prog w = .ok (.agg #[.int .i64 2, .func (.func 46) #[] #[]]) w := by kernel_rfl
theorem bR2 (w : World) : (Instr.build 73 #[(0, .int .i64 3), (1, .func (.func 47) #[] #[])]).run Tryd.prog w = .ok (.agg #[.int .i64 3, .func (.func 47) #[] #[]]) w := by kernel_rfl
theorem bR3 (w : World) : (Instr.build 73 #[(0, .int .i64 4), (1, .func (.func 48) #[] #[])]).run Tryd.prog w = .ok (.agg #[.int .i64 4, .func (.func 48) #[] #[]]) w := by kernel_rfl
theorem bR4 (w : World) : (Instr.build 73 #[(0, .int .i64 5), (1, .func (.func 49) #[] #[])]).run Tryd.prog w = .ok (.agg #[.int .i64 5, .func (.func 49) #[] #[]]) w := by kernel_rfl
theorem bR5 (w : World) : (Instr.build 73 #[(0, .int .i64 6), (1, .func (.func 50) #[] #[])]).run Tryd.prog w = .ok (.agg #[.int .i64 6, .func (.func 50) #[] #[]]) w := by kernel_rfl
theorem infR : (Tryd.prog.info? 73).map (fun i => (i.zero, i.size, i.bytes)) = some (some (.agg #[.int .i64 0, .nilFunc]), 2, 16) := by kernel_rfl
theorem fill6 : Instr.fill (fun i => some (i * 2, 2)) ((Array.range (6 * 2)).map ((Value.agg #[.int .i64 0, .nilFunc]).cells[· % (Value.agg #[.int .i64 0, .nilFunc]).cells.size]!)) [(0, .agg #[.int .i64 1, .func (.func 45) #[] #[]]), (1, .agg #[.int .i64 2, .func (.func 46) #[] #[]]), (2, .agg #[.int .i64 3, .func (.func 47) #[] #[]]), (3, .agg #[.int .i64 4, .func (.func 48) #[] #[]]), (4, .agg #[.int .i64 5, .func (.func 49) #[] #[]]), (5, .agg #[.int .i64 6, .func (.func 50) #[] #[]])] = some ruleCs.toArray := by kernel_rfl
theorem build6 {ops : Array Oper} {rest : List Oper} {Q : Exit → Act → World → Prop} {w w0 : World} {a : Act} {o : Oper} {x0 x1 x2 x3 x4 x5 : Operand} {E : List Nat} {L : List (Nat × List Value)} (hw : Region.wanted o (yielded ops a.tmps) = true) (ho : o.op = .buildSlice 66 6 #[(0, x0), (1, x1), (2, x2), (3, x3), (4, x4), (5, x5)]) (h0 : a.eval x0 = .agg #[.int .i64 1, .func (.func 45) #[] #[]]) (h1 : a.eval x1 = .agg #[.int .i64 2, .func (.func 46) #[] #[]]) (h2 : a.eval x2 = .agg #[.int .i64 3, .func (.func 47) #[] #[]]) (h3 : a.eval x3 = .agg #[.int .i64 4, .func (.func 48) #[] #[]]) (h4 : a.eval x4 = .agg #[.int .i64 5, .func (.func 49) #[] #[]]) (h5 : a.eval x5 = .agg #[.int .i64 6, .func (.func 50) #[] #[]]) (hL : Hq w0 w E L)
    (h : ∀ X B, B = w.heap.size → Hq w0 X E (L ++ [(B, ruleCs)]) → Below w.heap.size w X → wpList Tryd.prog ops Q rest (a.put o.dst (.slice (some ⟨B, 0, none⟩) 6 6)) X) : wpList Tryd.prog ops Q (o :: rest) a w := by
  refine BigFrame.wpList_want hw fun K hK => ?_
  obtain ⟨i0, hi, hz0, hz1, hz2⟩ := info_parts infR
  refine wp_buildSlice 66 73 6 _ ho ruleCs.toArray i0 _ Tryd.underlying66 hi hz0 (by rw [hz1]; omega) (by rw [hz1]; omega) ?_ (hK _ _ (h _ _ rfl (hL.new _ 73 (by decide)) ((Below.refl _ _).alloc (Nat.le_refl _) _)))
  rw [hz1]
  simp only [List.map_toArray, List.map_cons, List.map_nil, h0, h1, h2, h3, h4, h5]
  exact fill6
def RuPost (w : World) (e : Ending) (X : World) : Prop := ∃ B : Nat, e = .returned (.slice (some ⟨B, 0, none⟩) 6 6) ∧ w.heap.size ≤ B ∧ Hq w X [] [(B, ruleCs)]
attribute [local go_sem] bR0 bR1 bR2 bR3 bR4 bR5
set_option maxRecDepth 100000 in
theorem rules_any (w : World) : Calls Tryd.prog 29 #[] w (RuPost w) := by
  have LL := hide (Hq.nil w [])
  go_enter Tryd.func29, Tryd.ntmps29
  go_wp2_with (first | go_skip | ((with_reducible show wpList _ _ _ _ _ _); first | ((refine build6 (by rfl) rfl rfl rfl rfl rfl rfl rfl (unhide LL) ?_); intro X1 B1 hE1 L1 hb1; have hB1 := hide (Nat.le_trans (unhide LL).fr.size (Nat.le_of_eq hE1.symm)); replace LL := hide L1; clear L1 hb1 hE1; simp only [Act.put, List.setIfInBounds_toArray, List.set_cons_succ, List.set_cons_zero])))
  go_ret
  exact ⟨B1, rfl, unhide hB1, unhide LL⟩
end Go.Proofs.YtcflglloopgieaaDoor
