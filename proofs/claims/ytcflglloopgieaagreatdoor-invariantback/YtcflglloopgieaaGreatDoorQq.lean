import Derived.Test.YtcflglloopgieaaGreatDoorQp

/-! Ii -/
namespace Go.Proofs.YtcflglloopgieaaGreatDoor
open Go Go.Proofs Go.Maps Go.RowKit FM
set_option linter.unusedSimpArgs false
set_option linter.unusedVariables false
set_option maxHeartbeats 1000000
theorem ex_indexA {o : Oper} {a : Act} {w : World} {x ix : Operand} {g off n cap : Nat} {A : Option Addr} (t : TypeId) (sz j : Nat) (hk : Tryz.prog.underlying t = some (.slice (Tryz.prog.elem t))) (he : ∀ w, (sizeOf (Tryz.prog.elem t)).run Tryz.prog w = .ok sz w) (ho : o.op = .indexAddr t x ix) (hx : a.eval x = .slice A n cap) (hA : A = some ⟨g, off, none⟩) (hix : a.eval ix = .int .i64 (j : Nat)) (hj : j < n) : (execOp a.eval o).run Tryz.prog w = .ok (.value (.pointer (some ⟨g, off + j * sz, none⟩))) w := by
  subst hA
  exact ex_indexG t sz j hk he ho hx hix hj
def kept (is : List PR) (p : PR) : Bool := match fO is p.k with
  | none => false
  | some a => match is[a]? with
    | none => false
    | some r => keepB p.d r.d
def badAt (was is : List PR) (i : Nat) : Bool := match was[i]? with
  | none => false
  | some p => decide (fO was p.k = some i) && !looseP p && !kept is p
def prV (c : CO) : Bool := (List.range c.was.ps.length).any (badAt c.was.ps c.is.ps)
theorem prV_yes {c : CO} {i : Nat} (hi : i < c.was.ps.length) (h : badAt c.was.ps c.is.ps i = true) : prV c = true := by
  unfold prV
  rw [List.any_eq_true]
  exact ⟨i, List.mem_range.2 hi, h⟩
theorem prV_no {c : CO} (h : ∀ j, j < c.was.ps.length → badAt c.was.ps c.is.ps j = false) : prV c = false := by
  unfold prV
  rw [List.any_eq_false]
  intro j hj
  rw [h j (List.mem_range.1 hj)]
  simp
def NoB (was is : List PR) (i : Nat) : Prop := ∀ j, j < i → badAt was is j = false
theorem NoB.zero (was is : List PR) : NoB was is 0 := fun j hj => absurd hj (Nat.not_lt_zero _)
theorem NoB.step {was is : List PR} {i : Nat} (h : NoB was is i) (hk : badAt was is i = false) : NoB was is (i + 1) := fun j hj => by
  rcases Nat.lt_succ_iff_lt_or_eq.1 hj with h1 | h1
  · exact h j h1
  · subst h1
    exact hk
theorem fO_mem {l : List PR} {i : Nat} {p : PR} (hp : l[i]? = some p) : ∃ j, fO l p.k = some j ∧ j ≤ i := by
  obtain ⟨hi, rfl⟩ := List.getElem?_eq_some_iff.1 hp
  cases h : fO l l[i].k with
  | none =>
    exfalso
    unfold fO at h
    rw [List.findIdx?_eq_none_iff] at h
    have := h l[i] (List.getElem_mem hi)
    simp at this
  | some j =>
    refine ⟨j, rfl, ?_⟩
    unfold fO at h
    obtain ⟨hj, _, h3⟩ := List.findIdx?_eq_some_iff_getElem.1 h
    rcases Nat.lt_or_ge i j with h4 | h4
    · exfalso
      have := h3 i h4
      simp at this
    · exact h4
theorem fO_get {l : List PR} {k : KK} {a : Nat} (h : fO l k = some a) : ∃ r, l[a]? = some r ∧ r.k = k := by
  unfold fO at h
  obtain ⟨hj, h2, _⟩ := List.findIdx?_eq_some_iff_getElem.1 h
  exact ⟨_, List.getElem?_eq_getElem hj, by simpa using h2⟩
theorem bad_other {was is : List PR} {i j : Nat} {p : PR} (hp : was[i]? = some p) (hj : fO was p.k = some j) (hn : j ≠ i) : badAt was is i = false := by
  simp [badAt, hp, hj, hn]
theorem bad_loose {was is : List PR} {i : Nat} {p : PR} (hp : was[i]? = some p) (hl : looseP p = true) : badAt was is i = false := by
  simp [badAt, hp, hl]
theorem bad_kept {was is : List PR} {i : Nat} {p : PR} (hp : was[i]? = some p) (hl : kept is p = true) : badAt was is i = false := by
  simp [badAt, hp, hl]
theorem bad_yes {was is : List PR} {i : Nat} {p : PR} (hp : was[i]? = some p) (hj : fO was p.k = some i) (hl : looseP p = false) (hk : kept is p = false) : badAt was is i = true := by
  simp [badAt, hp, hj, hl, hk]
set_option maxHeartbeats 2000000 in
set_option maxRecDepth 100000 in
theorem otherProp_any (c : CO) (w : World) (hW : ReadsP w c.wA c.was.ps) (hI : ReadsP w c.iA c.is.ps) (hz : c.was.ps.length ≤ 733007751850) (hz2 : c.is.ps.length ≤ 733007751850) (hT : Lib.Utf8Tabs 1 2 w) : Calls Tryz.prog 41 #[c.agg] w fun e w' => e = .returned (.bool (prV c)) ∧ Below w.heap.size w w' := by
  have LL := hide (Hq.nil w [])
  have HW := hide hW
  have HI := hide hI
  have HZ := hide hz
  have HZ2 := hide hz2
  have HT := hide hT
  clear hW hI hz hz2 hT
  have H7 : Hid (c.cs[7]? = some (.slice c.wA c.was.ps.length c.wc)) := hide rfl
  rw [coagg]
  go_enter Tryz.func41, Tryz.ntmps41
  go_wp2_with (first | go_skip | ((with_reducible show wpList _ _ _ _ _ _); first | ((refine bx 46 c.cs (by rfl) rfl rfl rfl (Nat.succ_pos _) (unhide LL) ?_); intro X1 B1 hE1 L1 hb1; replace LL := hide L1; clear L1 hb1 hE1; simp only [Act.put, List.setIfInBounds_toArray, List.set_cons_succ, List.set_cons_zero])))
  have hq0 : Hq w _ [] [(B1, c.cs)] := (unhide LL).drew
  refine wp_region_held_drew (P := Tryz.prog) (S := fun X => Hq w X [] [(B1, c.cs)]) (by kernel_rfl) hq0 (fun hS0 => ?_)
  refine gsem 0 (some 9) (.pointer (some ⟨B1, 0, none⟩)) rfl (by kernel_rfl) (by kernel_rfl) (by kernel_rfl) (fun _ _ _ h => h) (by kernel_rfl) (by kernel_rfl) (fun _ _ => by kernel_rfl) hq0 ?_
  simp only [Act.put, List.setIfInBounds_toArray, List.set_cons_succ, List.set_cons_zero]
  refine gsem 1 (some 10) (.pointer (some ⟨B1, 7, none⟩)) rfl (by kernel_rfl) (by kernel_rfl) (by kernel_rfl) (fun _ _ _ h => h) (by kernel_rfl) (by kernel_rfl) (fun _ _ => by kernel_rfl) hq0 ?_
  simp only [Act.put, List.setIfInBounds_toArray, List.set_cons_succ, List.set_cons_zero]
  refine gsem 2 (some 11) (.slice c.wA c.was.ps.length c.wc) rfl (by kernel_rfl) (by kernel_rfl) (by kernel_rfl) (fun _ _ _ h => h) (by kernel_rfl) (by kernel_rfl) (fun X hX => ex_load1 32 Tryz.isAgg32 rfl rfl (hX.get 0 rfl) rfl) hq0 ?_
  simp only [Act.put, List.setIfInBounds_toArray, List.set_cons_succ, List.set_cons_zero]
  refine gsem 4 (some 13) (.pointer (some ⟨B1, 8, none⟩)) rfl (by kernel_rfl) (by kernel_rfl) (by kernel_rfl) (fun _ _ _ h => h) (by kernel_rfl) (by kernel_rfl) (fun _ _ => by kernel_rfl) hq0 ?_
  simp only [Act.put, List.setIfInBounds_toArray, List.set_cons_succ, List.set_cons_zero]
  refine gsem 5 (some 14) (.pointer (some ⟨B1, 15, none⟩)) rfl (by kernel_rfl) (by kernel_rfl) (by kernel_rfl) (fun _ _ _ h => h) (by kernel_rfl) (by kernel_rfl) (fun _ _ => by kernel_rfl) hq0 ?_
  simp only [Act.put, List.setIfInBounds_toArray, List.set_cons_succ, List.set_cons_zero]
  refine gsem 6 (some 15) (.slice c.iA c.is.ps.length c.ic) rfl (by kernel_rfl) (by kernel_rfl) (by kernel_rfl) (fun _ _ _ h => h) (by kernel_rfl) (by kernel_rfl) (fun X hX => ex_load1 32 Tryz.isAgg32 rfl rfl (hX.get 0 rfl) rfl) hq0 ?_
  simp only [Act.put, List.setIfInBounds_toArray, List.set_cons_succ, List.set_cons_zero]
  refine wpAnyH_ready (rs := [3]) (by kernel_rfl) (by simp) (gcallR 3 (some 12) rfl (by kernel_rfl) (by kernel_rfl) (by kernel_rfl) (places_any c.wA c.wc c.was.ps _ ((unhide HW).fr hq0.fr) (unhide HZ)) ?_ AllReadyH.nil)
  rintro e Y1 ⟨M1, n1, rfl, hM1, hm1, hY1⟩
  have hq1 := Hq.on hq0 hY1
  replace hM1 := Nat.le_trans hq0.fr.size hM1
  refine ⟨_, rfl, hq1, ?_⟩
  simp only [Act.put, List.setIfInBounds_toArray, List.set_cons_succ, List.set_cons_zero]
  refine wpAnyH_ready (rs := [7]) (by kernel_rfl) (by simp) (gcallR 7 (some 16) rfl (by kernel_rfl) (by kernel_rfl) (by kernel_rfl) (places_any c.iA c.ic c.is.ps _ ((unhide HI).fr hq1.fr) (unhide HZ2)) ?_ AllReadyH.nil)
  rintro e Y2 ⟨M2, n2, rfl, hM2, hm2, hY2⟩
  have hq2 := Hq.on hq1 hY2
  replace hM2 := Nat.le_trans hq1.fr.size hM2
  replace hm1 := hm1.on hY2
  refine ⟨_, rfl, hq2, ?_⟩
  simp only [Act.put, List.setIfInBounds_toArray, List.set_cons_succ, List.set_cons_zero]
  refine gsem 8 (some 3) (.map (some M1)) rfl (by kernel_rfl) (by kernel_rfl) (by kernel_rfl) (fun _ _ _ h => h) (by kernel_rfl) (by kernel_rfl) (fun _ _ => by kernel_rfl) hq2 ?_
  simp only [Act.put, List.setIfInBounds_toArray, List.set_cons_succ, List.set_cons_zero]
  refine gsem 9 (some 4) (.map (some M2)) rfl (by kernel_rfl) (by kernel_rfl) (by kernel_rfl) (fun _ _ _ h => h) (by kernel_rfl) (by kernel_rfl) (fun _ _ => by kernel_rfl) hq2 ?_
  simp only [Act.put, List.setIfInBounds_toArray, List.set_cons_succ, List.set_cons_zero]
  refine wpAnyH_done (by kernel_rfl) ?_ _
  try simp only [Act.put, List.setIfInBounds_toArray, List.set_cons_succ, List.set_cons_zero]
  replace LL := hide hq2
  have HM := hide (And.intro hm1 (And.intro hM1 (And.intro hm2 hM2)))
  clear hq0 hq1 hq2 hm1 hm2 hM1 hM2 hY1 hY2 hS0
  go_wp2_with (first | go_skip | ((with_reducible show wpList _ _ _ _ _ _); first | ((refine rd (by rfl) (ex_load1 32 Tryz.isAgg32 rfl rfl ((unhide LL).get 0 rfl) (unhide H7)) ?_); simp only [Act.put, List.setIfInBounds_toArray, List.set_cons_succ, List.set_cons_zero]) | ((refine rd (by rfl) (ex_lenG 32 61 Tryz.underlying32 rfl rfl) ?_); simp only [Act.put, List.setIfInBounds_toArray, List.set_cons_succ, List.set_cons_zero])))
  go_loopg [21] c.was.ps.length (fun gm s21 wr => ∃ i : Nat, s21 = .int .i64 (i : Nat) ∧ i ≤ c.was.ps.length ∧ c.was.ps.length - i ≤ gm ∧ Hid (NoB c.was.ps c.is.ps i) ∧ Hid (MapI wr M1 n1 (cntK c.was.ps c.was.ps.length) (fO c.was.ps) ∧ w.heap.size ≤ M1 ∧ MapI wr M2 n2 (cntK c.is.ps c.is.ps.length) (fO c.is.ps) ∧ w.heap.size ≤ M2) ∧ Hid (Hq w wr [] [(B1, c.cs)]))
  case atStart => exact ⟨0, rfl, by omega, by omega, hide (NoB.zero _ _), HM, LL⟩
  case round =>
    clear LL HM
    obtain ⟨i, rfl, hil, hgm, HD, HM, LL⟩ := hrel
    by_cases hlt : i < c.was.ps.length
    · have dlt : decide ((i : Int) < (c.was.ps.length : Int)) = true := decide_eq_true (by omega)
      have hw1 : IntKind.i64.wrap ((i : Int) + 1) = (i : Int) + 1 := by have := unhide HZ; rw [IntKind.wrap_i64]; omega
      obtain ⟨p, hp⟩ : ∃ p, c.was.ps[i]? = some p := ⟨_, List.getElem?_eq_getElem hlt⟩
      obtain ⟨hok, b, off, hA, hb, hrg⟩ := (unhide HW) i p hp
      have HA := hide hA
      have HA2 : Hid (∀ X, Fr w X [] → X.rangeAt b (off + i * 20) p.cs) := hide (fun X hX => rangeAt_fr hrg hb hX)
      have HLT := hide hlt
      have HOK := hide hok.2
      obtain ⟨j, hfj, hji⟩ := fO_mem hp
      have HFJ := hide hfj
      by_cases hij : i = j
      · subst hij
        have HNJ : Hid (((i : Int) != (i : Int)) = false) := hide (by simp)
        have HLO := hide (loose_any p)
        simp only [pagg] at HLO
        clear hb hrg hlt hil hA
        cases hlo : looseP p
        · cases hfi : fO c.is.ps p.k
          · have HFI := hide hfi
            have HF := hide (prV_yes (c := c) (unhide HLT) (bad_yes hp hfj hlo (by unfold kept; rw [hfi])))
            simp only [hlo] at HLO
            clear hp hfj hlo hfi HD hok hji
            go_wp2_with (first | go_skip | ((with_reducible show wpList _ _ _ _ _ _); first | ((refine rd (by rfl) (ex_lenG 32 61 Tryz.underlying32 rfl rfl) ?_); simp only [Act.put, List.setIfInBounds_toArray, List.set_cons_succ, List.set_cons_zero]) | ((refine rd (by rfl) (ex_indexA 32 20 i unPs idPs rfl rfl (unhide HA) rfl (unhide HLT)) ?_); simp only [Act.put, List.setIfInBounds_toArray, List.set_cons_succ, List.set_cons_zero]) | ((refine rd (by rfl) (ex_loadR (vs := p.cs) 61 20 rwP szP rfl rfl (unhide HA2 _ (unhide LL).fr) rfl) ?_); simp only [Act.put, List.setIfInBounds_toArray, List.set_cons_succ, List.set_cons_zero]) | ((refine alG 61 (zeroP.cs) (by rfl) rfl (fun w => by kernel_rfl) (Nat.succ_pos _) (unhide LL) ?_); intro X3 B3 hE3 L3 hb3; have hB3 := hide (Nat.le_trans (unhide LL).fr.size (Nat.le_of_eq hE3.symm)); have hNE : Hid (M1 ≠ B3 ∧ M2 ≠ B3) := hide ⟨Nat.ne_of_lt (Nat.lt_of_lt_of_le (unhide HM).1.lt (Nat.le_of_eq hE3.symm)), Nat.ne_of_lt (Nat.lt_of_lt_of_le (unhide HM).2.2.1.lt (Nat.le_of_eq hE3.symm))⟩; replace HM := hide (And.intro ((unhide HM).1.on hb3) (And.intro (unhide HM).2.1 (And.intro ((unhide HM).2.2.1.on hb3) (unhide HM).2.2.2))); replace LL := hide L3; clear L3 hb3 hE3; simp only [Act.put, List.setIfInBounds_toArray, List.set_cons_succ, List.set_cons_zero]) | ((refine st (vs := p.cs) 1 61 (by rfl) rfl rfl rfl rfl (pcs_one p) (szP) (unhide LL) rfl (by simp [cput, PR.cs, SH.cs, VV.cs, KK.cs, DD.cs, CO.cs, DL.cs, zeroP, zeroS, zeroD, zeroV]) (Or.inr (unhide hB3)) ?_); intro X4 L4 hf4 hs4; replace HM := hide (And.intro ((unhide HM).1.far hf4 (unhide hNE).1) (And.intro (unhide HM).2.1 (And.intro ((unhide HM).2.2.1.far hf4 (unhide hNE).2) (unhide HM).2.2.2))); replace LL := hide L4; clear L4 hf4 hs4; simp only [Act.put, List.setIfInBounds_toArray, List.set_cons_succ, List.set_cons_zero]) | ((refine rd (by rfl) (ex_loadN (vs := p.k.cs) 56 2 rwK szK rfl rfl ((unhide LL).get 1 rfl) rfl rfl) ?_); simp only [Act.put, List.setIfInBounds_toArray, List.set_cons_succ, List.set_cons_zero]) | ((refine rd (by rfl) (ex_loadN (vs := p.cs) 61 20 rwP szP rfl rfl ((unhide LL).get 1 rfl) rfl rfl) ?_); simp only [Act.put, List.setIfInBounds_toArray, List.set_cons_succ, List.set_cons_zero]) | ((refine rd (by rfl) (ex_look1 rfl rfl rfl (unhide HM).1 (unhide HOK) (unhide HFJ)) ?_); simp only [Act.put, List.setIfInBounds_toArray, List.set_cons_succ, List.set_cons_zero]) | ((refine rd (by rfl) (ex_neI rfl rfl rfl (unhide HNJ)) ?_); simp only [Act.put, List.setIfInBounds_toArray, List.set_cons_succ, List.set_cons_zero]) | ((refine rd (by rfl) (ex_lookI rfl rfl rfl (unhide HM).2.2.1 (unhide HOK) (unhide HFI)) ?_); simp only [Act.put, List.setIfInBounds_toArray, List.set_cons_succ, List.set_cons_zero])))
            refine (unhide HLO _).mono ?_
            rintro e X5 ⟨rfl, hb5⟩
            replace HM := hide (And.intro ((unhide HM).1.on hb5) (And.intro (unhide HM).2.1 (And.intro ((unhide HM).2.2.1.on hb5) (unhide HM).2.2.2)))
            replace LL := hide ((unhide LL).on hb5)
            clear hb5
            go_wp2_with (first | go_skip | ((with_reducible show wpList _ _ _ _ _ _); first | ((refine rd (by rfl) (ex_lenG 32 61 Tryz.underlying32 rfl rfl) ?_); simp only [Act.put, List.setIfInBounds_toArray, List.set_cons_succ, List.set_cons_zero]) | ((refine rd (by rfl) (ex_indexA 32 20 i unPs idPs rfl rfl (unhide HA) rfl (unhide HLT)) ?_); simp only [Act.put, List.setIfInBounds_toArray, List.set_cons_succ, List.set_cons_zero]) | ((refine rd (by rfl) (ex_loadR (vs := p.cs) 61 20 rwP szP rfl rfl (unhide HA2 _ (unhide LL).fr) rfl) ?_); simp only [Act.put, List.setIfInBounds_toArray, List.set_cons_succ, List.set_cons_zero]) | ((refine alG 61 (zeroP.cs) (by rfl) rfl (fun w => by kernel_rfl) (Nat.succ_pos _) (unhide LL) ?_); intro X3 B3 hE3 L3 hb3; have hB3 := hide (Nat.le_trans (unhide LL).fr.size (Nat.le_of_eq hE3.symm)); have hNE : Hid (M1 ≠ B3 ∧ M2 ≠ B3) := hide ⟨Nat.ne_of_lt (Nat.lt_of_lt_of_le (unhide HM).1.lt (Nat.le_of_eq hE3.symm)), Nat.ne_of_lt (Nat.lt_of_lt_of_le (unhide HM).2.2.1.lt (Nat.le_of_eq hE3.symm))⟩; replace HM := hide (And.intro ((unhide HM).1.on hb3) (And.intro (unhide HM).2.1 (And.intro ((unhide HM).2.2.1.on hb3) (unhide HM).2.2.2))); replace LL := hide L3; clear L3 hb3 hE3; simp only [Act.put, List.setIfInBounds_toArray, List.set_cons_succ, List.set_cons_zero]) | ((refine st (vs := p.cs) 1 61 (by rfl) rfl rfl rfl rfl (pcs_one p) (szP) (unhide LL) rfl (by simp [cput, PR.cs, SH.cs, VV.cs, KK.cs, DD.cs, CO.cs, DL.cs, zeroP, zeroS, zeroD, zeroV]) (Or.inr (unhide hB3)) ?_); intro X4 L4 hf4 hs4; replace HM := hide (And.intro ((unhide HM).1.far hf4 (unhide hNE).1) (And.intro (unhide HM).2.1 (And.intro ((unhide HM).2.2.1.far hf4 (unhide hNE).2) (unhide HM).2.2.2))); replace LL := hide L4; clear L4 hf4 hs4; simp only [Act.put, List.setIfInBounds_toArray, List.set_cons_succ, List.set_cons_zero]) | ((refine rd (by rfl) (ex_loadN (vs := p.k.cs) 56 2 rwK szK rfl rfl ((unhide LL).get 1 rfl) rfl rfl) ?_); simp only [Act.put, List.setIfInBounds_toArray, List.set_cons_succ, List.set_cons_zero]) | ((refine rd (by rfl) (ex_loadN (vs := p.cs) 61 20 rwP szP rfl rfl ((unhide LL).get 1 rfl) rfl rfl) ?_); simp only [Act.put, List.setIfInBounds_toArray, List.set_cons_succ, List.set_cons_zero]) | ((refine rd (by rfl) (ex_look1 rfl rfl rfl (unhide HM).1 (unhide HOK) (unhide HFJ)) ?_); simp only [Act.put, List.setIfInBounds_toArray, List.set_cons_succ, List.set_cons_zero]) | ((refine rd (by rfl) (ex_neI rfl rfl rfl (unhide HNJ)) ?_); simp only [Act.put, List.setIfInBounds_toArray, List.set_cons_succ, List.set_cons_zero]) | ((refine rd (by rfl) (ex_lookI rfl rfl rfl (unhide HM).2.2.1 (unhide HOK) (unhide HFI)) ?_); simp only [Act.put, List.setIfInBounds_toArray, List.set_cons_succ, List.set_cons_zero])))
            have hq0 : Hq w _ [] [(B1, c.cs), (B3, p.cs)] := (unhide LL).drew
            refine wp_region_held_drew (P := Tryz.prog) (S := fun X => Hq w X [] [(B1, c.cs), (B3, p.cs)]) (by kernel_rfl) hq0 (fun hS0 => ?_)
            refine gsem 0 (some 43) (.bool false) rfl (by kernel_rfl) (by kernel_rfl) (by kernel_rfl) (fun _ _ _ h => h) (by kernel_rfl) (by kernel_rfl) (fun _ _ => by kernel_rfl) hq0 ?_
            simp only [Act.put, List.setIfInBounds_toArray, List.set_cons_succ, List.set_cons_zero]
            refine gsem 1 (some 44) (.bool true) rfl (by kernel_rfl) (by kernel_rfl) (by kernel_rfl) (fun _ _ _ h => h) (by kernel_rfl) (by kernel_rfl) (fun _ _ => by kernel_rfl) hq0 ?_
            simp only [Act.put, List.setIfInBounds_toArray, List.set_cons_succ, List.set_cons_zero]
            refine gsem 2 (some 45) (.bool true) rfl (by kernel_rfl) (by kernel_rfl) (by kernel_rfl) (fun _ _ _ h => h) (by kernel_rfl) (by kernel_rfl) (fun _ _ => by kernel_rfl) hq0 ?_
            simp only [Act.put, List.setIfInBounds_toArray, List.set_cons_succ, List.set_cons_zero]
            refine gskipS 3 (some 46) rfl (by kernel_rfl) (by kernel_rfl) (by kernel_rfl) (fun _ _ _ h => h) (by kernel_rfl) (by kernel_rfl) hq0 ?_
            simp only [Act.put, List.setIfInBounds_toArray, List.set_cons_succ, List.set_cons_zero]
            refine gskipS 4 (some 47) rfl (by kernel_rfl) (by kernel_rfl) (by kernel_rfl) (fun _ _ _ h => h) (by kernel_rfl) (by kernel_rfl) hq0 ?_
            simp only [Act.put, List.setIfInBounds_toArray, List.set_cons_succ, List.set_cons_zero]
            refine gskipS 5 (some 48) rfl (by kernel_rfl) (by kernel_rfl) (by kernel_rfl) (fun _ _ _ h => h) (by kernel_rfl) (by kernel_rfl) hq0 ?_
            simp only [Act.put, List.setIfInBounds_toArray, List.set_cons_succ, List.set_cons_zero]
            refine gskipS 6 (some 49) rfl (by kernel_rfl) (by kernel_rfl) (by kernel_rfl) (fun _ _ _ h => h) (by kernel_rfl) (by kernel_rfl) hq0 ?_
            simp only [Act.put, List.setIfInBounds_toArray, List.set_cons_succ, List.set_cons_zero]
            refine gskipS 7 (some 50) rfl (by kernel_rfl) (by kernel_rfl) (by kernel_rfl) (fun _ _ _ h => h) (by kernel_rfl) (by kernel_rfl) hq0 ?_
            simp only [Act.put, List.setIfInBounds_toArray, List.set_cons_succ, List.set_cons_zero]
            refine gskipS 8 (some 51) rfl (by kernel_rfl) (by kernel_rfl) (by kernel_rfl) (fun _ _ _ h => h) (by kernel_rfl) (by kernel_rfl) hq0 ?_
            simp only [Act.put, List.setIfInBounds_toArray, List.set_cons_succ, List.set_cons_zero]
            refine gskipS 9 (some 52) rfl (by kernel_rfl) (by kernel_rfl) (by kernel_rfl) (fun _ _ _ h => h) (by kernel_rfl) (by kernel_rfl) hq0 ?_
            simp only [Act.put, List.setIfInBounds_toArray, List.set_cons_succ, List.set_cons_zero]
            refine gskipS 10 (some 53) rfl (by kernel_rfl) (by kernel_rfl) (by kernel_rfl) (fun _ _ _ h => h) (by kernel_rfl) (by kernel_rfl) hq0 ?_
            simp only [Act.put, List.setIfInBounds_toArray, List.set_cons_succ, List.set_cons_zero]
            refine gskipS 11 (some 54) rfl (by kernel_rfl) (by kernel_rfl) (by kernel_rfl) (fun _ _ _ h => h) (by kernel_rfl) (by kernel_rfl) hq0 ?_
            simp only [Act.put, List.setIfInBounds_toArray, List.set_cons_succ, List.set_cons_zero]
            refine gskipS 12 (some 55) rfl (by kernel_rfl) (by kernel_rfl) (by kernel_rfl) (fun _ _ _ h => h) (by kernel_rfl) (by kernel_rfl) hq0 ?_
            simp only [Act.put, List.setIfInBounds_toArray, List.set_cons_succ, List.set_cons_zero]
            refine gskipS 13 (some 56) rfl (by kernel_rfl) (by kernel_rfl) (by kernel_rfl) (fun _ _ _ h => h) (by kernel_rfl) (by kernel_rfl) hq0 ?_
            simp only [Act.put, List.setIfInBounds_toArray, List.set_cons_succ, List.set_cons_zero]
            refine gsem 14 (some 57) (.bool true) rfl (by kernel_rfl) (by kernel_rfl) (by kernel_rfl) (fun _ _ _ h => h) (by kernel_rfl) (by kernel_rfl) (fun _ _ => by kernel_rfl) hq0 ?_
            simp only [Act.put, List.setIfInBounds_toArray, List.set_cons_succ, List.set_cons_zero]
            refine wpAnyH_done (by kernel_rfl) ?_ _
            try simp only [Act.put, List.setIfInBounds_toArray, List.set_cons_succ, List.set_cons_zero]
            replace LL := hide hq0
            clear hq0 hS0
            go_wp2_with (first | go_skip | ((with_reducible show wpList _ _ _ _ _ _); first | ((refine rd (by rfl) (ex_lenG 32 61 Tryz.underlying32 rfl rfl) ?_); simp only [Act.put, List.setIfInBounds_toArray, List.set_cons_succ, List.set_cons_zero]) | ((refine rd (by rfl) (ex_indexA 32 20 i unPs idPs rfl rfl (unhide HA) rfl (unhide HLT)) ?_); simp only [Act.put, List.setIfInBounds_toArray, List.set_cons_succ, List.set_cons_zero]) | ((refine rd (by rfl) (ex_loadR (vs := p.cs) 61 20 rwP szP rfl rfl (unhide HA2 _ (unhide LL).fr) rfl) ?_); simp only [Act.put, List.setIfInBounds_toArray, List.set_cons_succ, List.set_cons_zero]) | ((refine alG 61 (zeroP.cs) (by rfl) rfl (fun w => by kernel_rfl) (Nat.succ_pos _) (unhide LL) ?_); intro X3 B3 hE3 L3 hb3; have hB3 := hide (Nat.le_trans (unhide LL).fr.size (Nat.le_of_eq hE3.symm)); have hNE : Hid (M1 ≠ B3 ∧ M2 ≠ B3) := hide ⟨Nat.ne_of_lt (Nat.lt_of_lt_of_le (unhide HM).1.lt (Nat.le_of_eq hE3.symm)), Nat.ne_of_lt (Nat.lt_of_lt_of_le (unhide HM).2.2.1.lt (Nat.le_of_eq hE3.symm))⟩; replace HM := hide (And.intro ((unhide HM).1.on hb3) (And.intro (unhide HM).2.1 (And.intro ((unhide HM).2.2.1.on hb3) (unhide HM).2.2.2))); replace LL := hide L3; clear L3 hb3 hE3; simp only [Act.put, List.setIfInBounds_toArray, List.set_cons_succ, List.set_cons_zero]) | ((refine st (vs := p.cs) 1 61 (by rfl) rfl rfl rfl rfl (pcs_one p) (szP) (unhide LL) rfl (by simp [cput, PR.cs, SH.cs, VV.cs, KK.cs, DD.cs, CO.cs, DL.cs, zeroP, zeroS, zeroD, zeroV]) (Or.inr (unhide hB3)) ?_); intro X4 L4 hf4 hs4; replace HM := hide (And.intro ((unhide HM).1.far hf4 (unhide hNE).1) (And.intro (unhide HM).2.1 (And.intro ((unhide HM).2.2.1.far hf4 (unhide hNE).2) (unhide HM).2.2.2))); replace LL := hide L4; clear L4 hf4 hs4; simp only [Act.put, List.setIfInBounds_toArray, List.set_cons_succ, List.set_cons_zero]) | ((refine rd (by rfl) (ex_loadN (vs := p.k.cs) 56 2 rwK szK rfl rfl ((unhide LL).get 1 rfl) rfl rfl) ?_); simp only [Act.put, List.setIfInBounds_toArray, List.set_cons_succ, List.set_cons_zero]) | ((refine rd (by rfl) (ex_loadN (vs := p.cs) 61 20 rwP szP rfl rfl ((unhide LL).get 1 rfl) rfl rfl) ?_); simp only [Act.put, List.setIfInBounds_toArray, List.set_cons_succ, List.set_cons_zero]) | ((refine rd (by rfl) (ex_look1 rfl rfl rfl (unhide HM).1 (unhide HOK) (unhide HFJ)) ?_); simp only [Act.put, List.setIfInBounds_toArray, List.set_cons_succ, List.set_cons_zero]) | ((refine rd (by rfl) (ex_neI rfl rfl rfl (unhide HNJ)) ?_); simp only [Act.put, List.setIfInBounds_toArray, List.set_cons_succ, List.set_cons_zero]) | ((refine rd (by rfl) (ex_lookI rfl rfl rfl (unhide HM).2.2.1 (unhide HOK) (unhide HFI)) ?_); simp only [Act.put, List.setIfInBounds_toArray, List.set_cons_succ, List.set_cons_zero])))
            go_ret
            exact ⟨by rw [unhide HF]; rfl, (unhide LL).fr.below⟩
          · rename_i a
            have HFI := hide hfi
            obtain ⟨r, hr, hrk⟩ := fO_get hfi
            obtain ⟨hokr, b2, off2, hA2, hb2, hrg2⟩ := (unhide HI) a r hr
            have halt : a < c.is.ps.length := (List.getElem?_eq_some_iff.1 hr).1
            have hKP := keeps65 p.d r.d hok.1 hokr.1
            simp only [dagg] at hKP
            have hkr : kept c.is.ps p = keepB p.d r.d := by unfold kept; rw [hfi]; simp only [hr]
            generalize keepB p.d r.d = kb at *
            simp only [hlo] at HLO
            cases kb
            · have HH := hide (And.intro hA2 (And.intro hb2 (And.intro hrg2 (And.intro halt hKP))))
              have HF := hide (prV_yes (c := c) (unhide HLT) (bad_yes hp hfj hlo hkr))
              clear hA2 hb2 hrg2 halt hKP hp hfj hlo hfi hr hrk hok hokr hkr hji HD
              go_wp2_with (first | go_skip | ((with_reducible show wpList _ _ _ _ _ _); first | ((refine rd (by rfl) (ex_lenG 32 61 Tryz.underlying32 rfl rfl) ?_); simp only [Act.put, List.setIfInBounds_toArray, List.set_cons_succ, List.set_cons_zero]) | ((refine rd (by rfl) (ex_indexA 32 20 i unPs idPs rfl rfl (unhide HA) rfl (unhide HLT)) ?_); simp only [Act.put, List.setIfInBounds_toArray, List.set_cons_succ, List.set_cons_zero]) | ((refine rd (by rfl) (ex_loadR (vs := p.cs) 61 20 rwP szP rfl rfl (unhide HA2 _ (unhide LL).fr) rfl) ?_); simp only [Act.put, List.setIfInBounds_toArray, List.set_cons_succ, List.set_cons_zero]) | ((refine alG 61 (zeroP.cs) (by rfl) rfl (fun w => by kernel_rfl) (Nat.succ_pos _) (unhide LL) ?_); intro X3 B3 hE3 L3 hb3; have hB3 := hide (Nat.le_trans (unhide LL).fr.size (Nat.le_of_eq hE3.symm)); have hNE : Hid (M1 ≠ B3 ∧ M2 ≠ B3) := hide ⟨Nat.ne_of_lt (Nat.lt_of_lt_of_le (unhide HM).1.lt (Nat.le_of_eq hE3.symm)), Nat.ne_of_lt (Nat.lt_of_lt_of_le (unhide HM).2.2.1.lt (Nat.le_of_eq hE3.symm))⟩; replace HM := hide (And.intro ((unhide HM).1.on hb3) (And.intro (unhide HM).2.1 (And.intro ((unhide HM).2.2.1.on hb3) (unhide HM).2.2.2))); replace LL := hide L3; clear L3 hb3 hE3; simp only [Act.put, List.setIfInBounds_toArray, List.set_cons_succ, List.set_cons_zero]) | ((refine st (vs := p.cs) 1 61 (by rfl) rfl rfl rfl rfl (pcs_one p) (szP) (unhide LL) rfl (by simp [cput, PR.cs, SH.cs, VV.cs, KK.cs, DD.cs, CO.cs, DL.cs, zeroP, zeroS, zeroD, zeroV]) (Or.inr (unhide hB3)) ?_); intro X4 L4 hf4 hs4; replace HM := hide (And.intro ((unhide HM).1.far hf4 (unhide hNE).1) (And.intro (unhide HM).2.1 (And.intro ((unhide HM).2.2.1.far hf4 (unhide hNE).2) (unhide HM).2.2.2))); replace LL := hide L4; clear L4 hf4 hs4; simp only [Act.put, List.setIfInBounds_toArray, List.set_cons_succ, List.set_cons_zero]) | ((refine rd (by rfl) (ex_loadN (vs := p.k.cs) 56 2 rwK szK rfl rfl ((unhide LL).get 1 rfl) rfl rfl) ?_); simp only [Act.put, List.setIfInBounds_toArray, List.set_cons_succ, List.set_cons_zero]) | ((refine rd (by rfl) (ex_loadN (vs := p.cs) 61 20 rwP szP rfl rfl ((unhide LL).get 1 rfl) rfl rfl) ?_); simp only [Act.put, List.setIfInBounds_toArray, List.set_cons_succ, List.set_cons_zero]) | ((refine rd (by rfl) (ex_look1 rfl rfl rfl (unhide HM).1 (unhide HOK) (unhide HFJ)) ?_); simp only [Act.put, List.setIfInBounds_toArray, List.set_cons_succ, List.set_cons_zero]) | ((refine rd (by rfl) (ex_neI rfl rfl rfl (unhide HNJ)) ?_); simp only [Act.put, List.setIfInBounds_toArray, List.set_cons_succ, List.set_cons_zero]) | ((refine rd (by rfl) (ex_lookI rfl rfl rfl (unhide HM).2.2.1 (unhide HOK) (unhide HFI)) ?_); simp only [Act.put, List.setIfInBounds_toArray, List.set_cons_succ, List.set_cons_zero])))
              refine (unhide HLO _).mono ?_
              rintro e X5 ⟨rfl, hb5⟩
              replace HM := hide (And.intro ((unhide HM).1.on hb5) (And.intro (unhide HM).2.1 (And.intro ((unhide HM).2.2.1.on hb5) (unhide HM).2.2.2)))
              replace LL := hide ((unhide LL).on hb5)
              clear hb5
              go_wp2_with (first | go_skip | ((with_reducible show wpList _ _ _ _ _ _); first | ((refine rd (by rfl) (ex_lenG 32 61 Tryz.underlying32 rfl rfl) ?_); simp only [Act.put, List.setIfInBounds_toArray, List.set_cons_succ, List.set_cons_zero]) | ((refine rd (by rfl) (ex_indexA 32 20 i unPs idPs rfl rfl (unhide HA) rfl (unhide HLT)) ?_); simp only [Act.put, List.setIfInBounds_toArray, List.set_cons_succ, List.set_cons_zero]) | ((refine rd (by rfl) (ex_loadR (vs := p.cs) 61 20 rwP szP rfl rfl (unhide HA2 _ (unhide LL).fr) rfl) ?_); simp only [Act.put, List.setIfInBounds_toArray, List.set_cons_succ, List.set_cons_zero]) | ((refine alG 61 (zeroP.cs) (by rfl) rfl (fun w => by kernel_rfl) (Nat.succ_pos _) (unhide LL) ?_); intro X3 B3 hE3 L3 hb3; have hB3 := hide (Nat.le_trans (unhide LL).fr.size (Nat.le_of_eq hE3.symm)); have hNE : Hid (M1 ≠ B3 ∧ M2 ≠ B3) := hide ⟨Nat.ne_of_lt (Nat.lt_of_lt_of_le (unhide HM).1.lt (Nat.le_of_eq hE3.symm)), Nat.ne_of_lt (Nat.lt_of_lt_of_le (unhide HM).2.2.1.lt (Nat.le_of_eq hE3.symm))⟩; replace HM := hide (And.intro ((unhide HM).1.on hb3) (And.intro (unhide HM).2.1 (And.intro ((unhide HM).2.2.1.on hb3) (unhide HM).2.2.2))); replace LL := hide L3; clear L3 hb3 hE3; simp only [Act.put, List.setIfInBounds_toArray, List.set_cons_succ, List.set_cons_zero]) | ((refine st (vs := p.cs) 1 61 (by rfl) rfl rfl rfl rfl (pcs_one p) (szP) (unhide LL) rfl (by simp [cput, PR.cs, SH.cs, VV.cs, KK.cs, DD.cs, CO.cs, DL.cs, zeroP, zeroS, zeroD, zeroV]) (Or.inr (unhide hB3)) ?_); intro X4 L4 hf4 hs4; replace HM := hide (And.intro ((unhide HM).1.far hf4 (unhide hNE).1) (And.intro (unhide HM).2.1 (And.intro ((unhide HM).2.2.1.far hf4 (unhide hNE).2) (unhide HM).2.2.2))); replace LL := hide L4; clear L4 hf4 hs4; simp only [Act.put, List.setIfInBounds_toArray, List.set_cons_succ, List.set_cons_zero]) | ((refine rd (by rfl) (ex_loadN (vs := p.k.cs) 56 2 rwK szK rfl rfl ((unhide LL).get 1 rfl) rfl rfl) ?_); simp only [Act.put, List.setIfInBounds_toArray, List.set_cons_succ, List.set_cons_zero]) | ((refine rd (by rfl) (ex_loadN (vs := p.cs) 61 20 rwP szP rfl rfl ((unhide LL).get 1 rfl) rfl rfl) ?_); simp only [Act.put, List.setIfInBounds_toArray, List.set_cons_succ, List.set_cons_zero]) | ((refine rd (by rfl) (ex_look1 rfl rfl rfl (unhide HM).1 (unhide HOK) (unhide HFJ)) ?_); simp only [Act.put, List.setIfInBounds_toArray, List.set_cons_succ, List.set_cons_zero]) | ((refine rd (by rfl) (ex_neI rfl rfl rfl (unhide HNJ)) ?_); simp only [Act.put, List.setIfInBounds_toArray, List.set_cons_succ, List.set_cons_zero]) | ((refine rd (by rfl) (ex_lookI rfl rfl rfl (unhide HM).2.2.1 (unhide HOK) (unhide HFI)) ?_); simp only [Act.put, List.setIfInBounds_toArray, List.set_cons_succ, List.set_cons_zero])))
              simp only [nz]
              try go_wp2_with (first | go_skip | ((with_reducible show wpList _ _ _ _ _ _); first | ((refine rd (by rfl) (ex_lenG 32 61 Tryz.underlying32 rfl rfl) ?_); simp only [Act.put, List.setIfInBounds_toArray, List.set_cons_succ, List.set_cons_zero]) | ((refine rd (by rfl) (ex_indexA 32 20 i unPs idPs rfl rfl (unhide HA) rfl (unhide HLT)) ?_); simp only [Act.put, List.setIfInBounds_toArray, List.set_cons_succ, List.set_cons_zero]) | ((refine rd (by rfl) (ex_loadR (vs := p.cs) 61 20 rwP szP rfl rfl (unhide HA2 _ (unhide LL).fr) rfl) ?_); simp only [Act.put, List.setIfInBounds_toArray, List.set_cons_succ, List.set_cons_zero]) | ((refine alG 61 (zeroP.cs) (by rfl) rfl (fun w => by kernel_rfl) (Nat.succ_pos _) (unhide LL) ?_); intro X3 B3 hE3 L3 hb3; have hB3 := hide (Nat.le_trans (unhide LL).fr.size (Nat.le_of_eq hE3.symm)); have hNE : Hid (M1 ≠ B3 ∧ M2 ≠ B3) := hide ⟨Nat.ne_of_lt (Nat.lt_of_lt_of_le (unhide HM).1.lt (Nat.le_of_eq hE3.symm)), Nat.ne_of_lt (Nat.lt_of_lt_of_le (unhide HM).2.2.1.lt (Nat.le_of_eq hE3.symm))⟩; replace HM := hide (And.intro ((unhide HM).1.on hb3) (And.intro (unhide HM).2.1 (And.intro ((unhide HM).2.2.1.on hb3) (unhide HM).2.2.2))); replace LL := hide L3; clear L3 hb3 hE3; simp only [Act.put, List.setIfInBounds_toArray, List.set_cons_succ, List.set_cons_zero]) | ((refine st (vs := p.cs) 1 61 (by rfl) rfl rfl rfl rfl (pcs_one p) (szP) (unhide LL) rfl (by simp [cput, PR.cs, SH.cs, VV.cs, KK.cs, DD.cs, CO.cs, DL.cs, zeroP, zeroS, zeroD, zeroV]) (Or.inr (unhide hB3)) ?_); intro X4 L4 hf4 hs4; replace HM := hide (And.intro ((unhide HM).1.far hf4 (unhide hNE).1) (And.intro (unhide HM).2.1 (And.intro ((unhide HM).2.2.1.far hf4 (unhide hNE).2) (unhide HM).2.2.2))); replace LL := hide L4; clear L4 hf4 hs4; simp only [Act.put, List.setIfInBounds_toArray, List.set_cons_succ, List.set_cons_zero]) | ((refine rd (by rfl) (ex_loadN (vs := p.k.cs) 56 2 rwK szK rfl rfl ((unhide LL).get 1 rfl) rfl rfl) ?_); simp only [Act.put, List.setIfInBounds_toArray, List.set_cons_succ, List.set_cons_zero]) | ((refine rd (by rfl) (ex_loadN (vs := p.cs) 61 20 rwP szP rfl rfl ((unhide LL).get 1 rfl) rfl rfl) ?_); simp only [Act.put, List.setIfInBounds_toArray, List.set_cons_succ, List.set_cons_zero]) | ((refine rd (by rfl) (ex_look1 rfl rfl rfl (unhide HM).1 (unhide HOK) (unhide HFJ)) ?_); simp only [Act.put, List.setIfInBounds_toArray, List.set_cons_succ, List.set_cons_zero]) | ((refine rd (by rfl) (ex_neI rfl rfl rfl (unhide HNJ)) ?_); simp only [Act.put, List.setIfInBounds_toArray, List.set_cons_succ, List.set_cons_zero]) | ((refine rd (by rfl) (ex_lookI rfl rfl rfl (unhide HM).2.2.1 (unhide HOK) (unhide HFI)) ?_); simp only [Act.put, List.setIfInBounds_toArray, List.set_cons_succ, List.set_cons_zero])))
              obtain ⟨hA2, hb2, hrg2, halt, hKP⟩ := unhide HH
              have hq0 : Hq w _ [] [(B1, c.cs), (B3, p.cs)] := (unhide LL).drew
              refine wp_region_held_drew (P := Tryz.prog) (S := fun X => Hq w X [] [(B1, c.cs), (B3, p.cs)]) (by kernel_rfl) hq0 (fun hS0 => ?_)
              refine gsem 0 (some 43) (.bool true) rfl (by kernel_rfl) (by kernel_rfl) (by kernel_rfl) (fun _ _ _ h => h) (by kernel_rfl) (by kernel_rfl) (fun _ _ => by kernel_rfl) hq0 ?_
              simp only [Act.put, List.setIfInBounds_toArray, List.set_cons_succ, List.set_cons_zero]
              refine gsem 1 (some 44) (.bool false) rfl (by kernel_rfl) (by kernel_rfl) (by kernel_rfl) (fun _ _ _ h => h) (by kernel_rfl) (by kernel_rfl) (fun _ _ => by kernel_rfl) hq0 ?_
              simp only [Act.put, List.setIfInBounds_toArray, List.set_cons_succ, List.set_cons_zero]
              refine gsem 2 (some 45) (.bool false) rfl (by kernel_rfl) (by kernel_rfl) (by kernel_rfl) (fun _ _ _ h => h) (by kernel_rfl) (by kernel_rfl) (fun _ _ => by kernel_rfl) hq0 ?_
              simp only [Act.put, List.setIfInBounds_toArray, List.set_cons_succ, List.set_cons_zero]
              refine gsem 3 (some 46) (.pointer (some ⟨B3, 2, none⟩)) rfl (by kernel_rfl) (by kernel_rfl) (by kernel_rfl) (fun _ _ _ h => h) (by kernel_rfl) (by kernel_rfl) (fun _ _ => by kernel_rfl) hq0 ?_
              simp only [Act.put, List.setIfInBounds_toArray, List.set_cons_succ, List.set_cons_zero]
              refine gsem 4 (some 47) (.agg p.d.cs.toArray) rfl (by kernel_rfl) (by kernel_rfl) (by kernel_rfl) (fun _ _ _ h => h) (by kernel_rfl) (by kernel_rfl) (fun X hX => ex_loadN (vs := p.d.cs) 59 18 rwD szD rfl rfl (hX.get 1 rfl) rfl rfl) hq0 ?_
              simp only [Act.put, List.setIfInBounds_toArray, List.set_cons_succ, List.set_cons_zero]
              refine gsem 5 (some 48) (.pointer (some ⟨B1, 8, none⟩)) rfl (by kernel_rfl) (by kernel_rfl) (by kernel_rfl) (fun _ _ _ h => h) (by kernel_rfl) (by kernel_rfl) (fun _ _ => by kernel_rfl) hq0 ?_
              simp only [Act.put, List.setIfInBounds_toArray, List.set_cons_succ, List.set_cons_zero]
              refine gsem 6 (some 49) (.pointer (some ⟨B1, 15, none⟩)) rfl (by kernel_rfl) (by kernel_rfl) (by kernel_rfl) (fun _ _ _ h => h) (by kernel_rfl) (by kernel_rfl) (fun _ _ => by kernel_rfl) hq0 ?_
              simp only [Act.put, List.setIfInBounds_toArray, List.set_cons_succ, List.set_cons_zero]
              refine gsem 7 (some 50) (.slice c.iA c.is.ps.length c.ic) rfl (by kernel_rfl) (by kernel_rfl) (by kernel_rfl) (fun _ _ _ h => h) (by kernel_rfl) (by kernel_rfl) (fun X hX => ex_load1 32 Tryz.isAgg32 rfl rfl (hX.get 0 rfl) rfl) hq0 ?_
              simp only [Act.put, List.setIfInBounds_toArray, List.set_cons_succ, List.set_cons_zero]
              refine gsem 8 (some 51) (.int .i64 (a : Nat)) rfl (by kernel_rfl) (by kernel_rfl) (by kernel_rfl) (fun _ _ _ h => h) (by kernel_rfl) (by kernel_rfl) (fun _ _ => by kernel_rfl) hq0 ?_
              simp only [Act.put, List.setIfInBounds_toArray, List.set_cons_succ, List.set_cons_zero]
              refine gsem 9 (some 52) (.pointer (some ⟨b2, off2 + a * 20, none⟩)) rfl (by kernel_rfl) (by kernel_rfl) (by kernel_rfl) (fun _ _ _ h => h) (by kernel_rfl) (by kernel_rfl) (fun X hX => ex_indexA 32 20 a unPs idPs rfl rfl hA2 rfl halt) hq0 ?_
              simp only [Act.put, List.setIfInBounds_toArray, List.set_cons_succ, List.set_cons_zero]
              refine gsem 10 (some 53) (.pointer (some ⟨b2, off2 + a * 20 + 2, none⟩)) rfl (by kernel_rfl) (by kernel_rfl) (by kernel_rfl) (fun _ _ _ h => h) (by kernel_rfl) (by kernel_rfl) (fun _ _ => by kernel_rfl) hq0 ?_
              simp only [Act.put, List.setIfInBounds_toArray, List.set_cons_succ, List.set_cons_zero]
              refine gsem 11 (some 54) (.agg r.d.cs.toArray) rfl (by kernel_rfl) (by kernel_rfl) (by kernel_rfl) (fun _ _ _ h => h) (by kernel_rfl) (by kernel_rfl) (fun X hX => ex_loadR (vs := r.d.cs) 59 18 rwD szD rfl rfl (range_right (a := r.k.cs) (c := r.d.cs) (rangeAt_fr hrg2 hb2 hX.fr)) rfl) hq0 ?_
              simp only [Act.put, List.setIfInBounds_toArray, List.set_cons_succ, List.set_cons_zero]
              refine wpAnyH_ready (rs := [12]) (by kernel_rfl) (by simp) (gcallR 12 (some 55) rfl (by kernel_rfl) (by kernel_rfl) (by kernel_rfl) (hKP _ (tabs_below (unhide HT) hq0.fr.below)) ?_ AllReadyH.nil)
              rintro e Y5 ⟨rfl, hY5⟩
              have hq05 := Hq.on hq0 hY5
              refine ⟨_, rfl, hq05, ?_⟩
              simp only [Act.put, List.setIfInBounds_toArray, List.set_cons_succ, List.set_cons_zero]
              refine gsem 13 (some 56) (.bool true) rfl (by kernel_rfl) (by kernel_rfl) (by kernel_rfl) (fun _ _ _ h => h) (by kernel_rfl) (by kernel_rfl) (fun _ _ => by kernel_rfl) hq05 ?_
              simp only [Act.put, List.setIfInBounds_toArray, List.set_cons_succ, List.set_cons_zero]
              refine gsem 14 (some 57) (.bool true) rfl (by kernel_rfl) (by kernel_rfl) (by kernel_rfl) (fun _ _ _ h => h) (by kernel_rfl) (by kernel_rfl) (fun _ _ => by kernel_rfl) hq05 ?_
              simp only [Act.put, List.setIfInBounds_toArray, List.set_cons_succ, List.set_cons_zero]
              refine wpAnyH_done (by kernel_rfl) ?_ _
              try simp only [Act.put, List.setIfInBounds_toArray, List.set_cons_succ, List.set_cons_zero]
              replace LL := hide hq05
              replace HM := hide (And.intro ((unhide HM).1.block (hY5.block _ (unhide HM).1.lt)) (And.intro (unhide HM).2.1 (And.intro ((unhide HM).2.2.1.block (hY5.block _ (unhide HM).2.2.1.lt)) (unhide HM).2.2.2)))
              clear hA2 hb2 hrg2 halt hKP hq0 hq05 hY5 hS0
              go_wp2_with (first | go_skip | ((with_reducible show wpList _ _ _ _ _ _); first | ((refine rd (by rfl) (ex_lenG 32 61 Tryz.underlying32 rfl rfl) ?_); simp only [Act.put, List.setIfInBounds_toArray, List.set_cons_succ, List.set_cons_zero]) | ((refine rd (by rfl) (ex_indexA 32 20 i unPs idPs rfl rfl (unhide HA) rfl (unhide HLT)) ?_); simp only [Act.put, List.setIfInBounds_toArray, List.set_cons_succ, List.set_cons_zero]) | ((refine rd (by rfl) (ex_loadR (vs := p.cs) 61 20 rwP szP rfl rfl (unhide HA2 _ (unhide LL).fr) rfl) ?_); simp only [Act.put, List.setIfInBounds_toArray, List.set_cons_succ, List.set_cons_zero]) | ((refine alG 61 (zeroP.cs) (by rfl) rfl (fun w => by kernel_rfl) (Nat.succ_pos _) (unhide LL) ?_); intro X3 B3 hE3 L3 hb3; have hB3 := hide (Nat.le_trans (unhide LL).fr.size (Nat.le_of_eq hE3.symm)); have hNE : Hid (M1 ≠ B3 ∧ M2 ≠ B3) := hide ⟨Nat.ne_of_lt (Nat.lt_of_lt_of_le (unhide HM).1.lt (Nat.le_of_eq hE3.symm)), Nat.ne_of_lt (Nat.lt_of_lt_of_le (unhide HM).2.2.1.lt (Nat.le_of_eq hE3.symm))⟩; replace HM := hide (And.intro ((unhide HM).1.on hb3) (And.intro (unhide HM).2.1 (And.intro ((unhide HM).2.2.1.on hb3) (unhide HM).2.2.2))); replace LL := hide L3; clear L3 hb3 hE3; simp only [Act.put, List.setIfInBounds_toArray, List.set_cons_succ, List.set_cons_zero]) | ((refine st (vs := p.cs) 1 61 (by rfl) rfl rfl rfl rfl (pcs_one p) (szP) (unhide LL) rfl (by simp [cput, PR.cs, SH.cs, VV.cs, KK.cs, DD.cs, CO.cs, DL.cs, zeroP, zeroS, zeroD, zeroV]) (Or.inr (unhide hB3)) ?_); intro X4 L4 hf4 hs4; replace HM := hide (And.intro ((unhide HM).1.far hf4 (unhide hNE).1) (And.intro (unhide HM).2.1 (And.intro ((unhide HM).2.2.1.far hf4 (unhide hNE).2) (unhide HM).2.2.2))); replace LL := hide L4; clear L4 hf4 hs4; simp only [Act.put, List.setIfInBounds_toArray, List.set_cons_succ, List.set_cons_zero]) | ((refine rd (by rfl) (ex_loadN (vs := p.k.cs) 56 2 rwK szK rfl rfl ((unhide LL).get 1 rfl) rfl rfl) ?_); simp only [Act.put, List.setIfInBounds_toArray, List.set_cons_succ, List.set_cons_zero]) | ((refine rd (by rfl) (ex_loadN (vs := p.cs) 61 20 rwP szP rfl rfl ((unhide LL).get 1 rfl) rfl rfl) ?_); simp only [Act.put, List.setIfInBounds_toArray, List.set_cons_succ, List.set_cons_zero]) | ((refine rd (by rfl) (ex_look1 rfl rfl rfl (unhide HM).1 (unhide HOK) (unhide HFJ)) ?_); simp only [Act.put, List.setIfInBounds_toArray, List.set_cons_succ, List.set_cons_zero]) | ((refine rd (by rfl) (ex_neI rfl rfl rfl (unhide HNJ)) ?_); simp only [Act.put, List.setIfInBounds_toArray, List.set_cons_succ, List.set_cons_zero]) | ((refine rd (by rfl) (ex_lookI rfl rfl rfl (unhide HM).2.2.1 (unhide HOK) (unhide HFI)) ?_); simp only [Act.put, List.setIfInBounds_toArray, List.set_cons_succ, List.set_cons_zero])))
              go_ret
              exact ⟨by rw [unhide HF]; rfl, (unhide LL).fr.below⟩
            · have HH := hide (And.intro hA2 (And.intro hb2 (And.intro hrg2 (And.intro halt hKP))))
              have HD2 := hide ((unhide HD).step (bad_kept hp hkr))
              clear hA2 hb2 hrg2 halt hKP hp hfj hlo hfi hr hrk hok hokr hkr hji HD
              go_wp2_with (first | go_skip | ((with_reducible show wpList _ _ _ _ _ _); first | ((refine rd (by rfl) (ex_lenG 32 61 Tryz.underlying32 rfl rfl) ?_); simp only [Act.put, List.setIfInBounds_toArray, List.set_cons_succ, List.set_cons_zero]) | ((refine rd (by rfl) (ex_indexA 32 20 i unPs idPs rfl rfl (unhide HA) rfl (unhide HLT)) ?_); simp only [Act.put, List.setIfInBounds_toArray, List.set_cons_succ, List.set_cons_zero]) | ((refine rd (by rfl) (ex_loadR (vs := p.cs) 61 20 rwP szP rfl rfl (unhide HA2 _ (unhide LL).fr) rfl) ?_); simp only [Act.put, List.setIfInBounds_toArray, List.set_cons_succ, List.set_cons_zero]) | ((refine alG 61 (zeroP.cs) (by rfl) rfl (fun w => by kernel_rfl) (Nat.succ_pos _) (unhide LL) ?_); intro X3 B3 hE3 L3 hb3; have hB3 := hide (Nat.le_trans (unhide LL).fr.size (Nat.le_of_eq hE3.symm)); have hNE : Hid (M1 ≠ B3 ∧ M2 ≠ B3) := hide ⟨Nat.ne_of_lt (Nat.lt_of_lt_of_le (unhide HM).1.lt (Nat.le_of_eq hE3.symm)), Nat.ne_of_lt (Nat.lt_of_lt_of_le (unhide HM).2.2.1.lt (Nat.le_of_eq hE3.symm))⟩; replace HM := hide (And.intro ((unhide HM).1.on hb3) (And.intro (unhide HM).2.1 (And.intro ((unhide HM).2.2.1.on hb3) (unhide HM).2.2.2))); replace LL := hide L3; clear L3 hb3 hE3; simp only [Act.put, List.setIfInBounds_toArray, List.set_cons_succ, List.set_cons_zero]) | ((refine st (vs := p.cs) 1 61 (by rfl) rfl rfl rfl rfl (pcs_one p) (szP) (unhide LL) rfl (by simp [cput, PR.cs, SH.cs, VV.cs, KK.cs, DD.cs, CO.cs, DL.cs, zeroP, zeroS, zeroD, zeroV]) (Or.inr (unhide hB3)) ?_); intro X4 L4 hf4 hs4; replace HM := hide (And.intro ((unhide HM).1.far hf4 (unhide hNE).1) (And.intro (unhide HM).2.1 (And.intro ((unhide HM).2.2.1.far hf4 (unhide hNE).2) (unhide HM).2.2.2))); replace LL := hide L4; clear L4 hf4 hs4; simp only [Act.put, List.setIfInBounds_toArray, List.set_cons_succ, List.set_cons_zero]) | ((refine rd (by rfl) (ex_loadN (vs := p.k.cs) 56 2 rwK szK rfl rfl ((unhide LL).get 1 rfl) rfl rfl) ?_); simp only [Act.put, List.setIfInBounds_toArray, List.set_cons_succ, List.set_cons_zero]) | ((refine rd (by rfl) (ex_loadN (vs := p.cs) 61 20 rwP szP rfl rfl ((unhide LL).get 1 rfl) rfl rfl) ?_); simp only [Act.put, List.setIfInBounds_toArray, List.set_cons_succ, List.set_cons_zero]) | ((refine rd (by rfl) (ex_look1 rfl rfl rfl (unhide HM).1 (unhide HOK) (unhide HFJ)) ?_); simp only [Act.put, List.setIfInBounds_toArray, List.set_cons_succ, List.set_cons_zero]) | ((refine rd (by rfl) (ex_neI rfl rfl rfl (unhide HNJ)) ?_); simp only [Act.put, List.setIfInBounds_toArray, List.set_cons_succ, List.set_cons_zero]) | ((refine rd (by rfl) (ex_lookI rfl rfl rfl (unhide HM).2.2.1 (unhide HOK) (unhide HFI)) ?_); simp only [Act.put, List.setIfInBounds_toArray, List.set_cons_succ, List.set_cons_zero])))
              refine (unhide HLO _).mono ?_
              rintro e X5 ⟨rfl, hb5⟩
              replace HM := hide (And.intro ((unhide HM).1.on hb5) (And.intro (unhide HM).2.1 (And.intro ((unhide HM).2.2.1.on hb5) (unhide HM).2.2.2)))
              replace LL := hide ((unhide LL).on hb5)
              clear hb5
              go_wp2_with (first | go_skip | ((with_reducible show wpList _ _ _ _ _ _); first | ((refine rd (by rfl) (ex_lenG 32 61 Tryz.underlying32 rfl rfl) ?_); simp only [Act.put, List.setIfInBounds_toArray, List.set_cons_succ, List.set_cons_zero]) | ((refine rd (by rfl) (ex_indexA 32 20 i unPs idPs rfl rfl (unhide HA) rfl (unhide HLT)) ?_); simp only [Act.put, List.setIfInBounds_toArray, List.set_cons_succ, List.set_cons_zero]) | ((refine rd (by rfl) (ex_loadR (vs := p.cs) 61 20 rwP szP rfl rfl (unhide HA2 _ (unhide LL).fr) rfl) ?_); simp only [Act.put, List.setIfInBounds_toArray, List.set_cons_succ, List.set_cons_zero]) | ((refine alG 61 (zeroP.cs) (by rfl) rfl (fun w => by kernel_rfl) (Nat.succ_pos _) (unhide LL) ?_); intro X3 B3 hE3 L3 hb3; have hB3 := hide (Nat.le_trans (unhide LL).fr.size (Nat.le_of_eq hE3.symm)); have hNE : Hid (M1 ≠ B3 ∧ M2 ≠ B3) := hide ⟨Nat.ne_of_lt (Nat.lt_of_lt_of_le (unhide HM).1.lt (Nat.le_of_eq hE3.symm)), Nat.ne_of_lt (Nat.lt_of_lt_of_le (unhide HM).2.2.1.lt (Nat.le_of_eq hE3.symm))⟩; replace HM := hide (And.intro ((unhide HM).1.on hb3) (And.intro (unhide HM).2.1 (And.intro ((unhide HM).2.2.1.on hb3) (unhide HM).2.2.2))); replace LL := hide L3; clear L3 hb3 hE3; simp only [Act.put, List.setIfInBounds_toArray, List.set_cons_succ, List.set_cons_zero]) | ((refine st (vs := p.cs) 1 61 (by rfl) rfl rfl rfl rfl (pcs_one p) (szP) (unhide LL) rfl (by simp [cput, PR.cs, SH.cs, VV.cs, KK.cs, DD.cs, CO.cs, DL.cs, zeroP, zeroS, zeroD, zeroV]) (Or.inr (unhide hB3)) ?_); intro X4 L4 hf4 hs4; replace HM := hide (And.intro ((unhide HM).1.far hf4 (unhide hNE).1) (And.intro (unhide HM).2.1 (And.intro ((unhide HM).2.2.1.far hf4 (unhide hNE).2) (unhide HM).2.2.2))); replace LL := hide L4; clear L4 hf4 hs4; simp only [Act.put, List.setIfInBounds_toArray, List.set_cons_succ, List.set_cons_zero]) | ((refine rd (by rfl) (ex_loadN (vs := p.k.cs) 56 2 rwK szK rfl rfl ((unhide LL).get 1 rfl) rfl rfl) ?_); simp only [Act.put, List.setIfInBounds_toArray, List.set_cons_succ, List.set_cons_zero]) | ((refine rd (by rfl) (ex_loadN (vs := p.cs) 61 20 rwP szP rfl rfl ((unhide LL).get 1 rfl) rfl rfl) ?_); simp only [Act.put, List.setIfInBounds_toArray, List.set_cons_succ, List.set_cons_zero]) | ((refine rd (by rfl) (ex_look1 rfl rfl rfl (unhide HM).1 (unhide HOK) (unhide HFJ)) ?_); simp only [Act.put, List.setIfInBounds_toArray, List.set_cons_succ, List.set_cons_zero]) | ((refine rd (by rfl) (ex_neI rfl rfl rfl (unhide HNJ)) ?_); simp only [Act.put, List.setIfInBounds_toArray, List.set_cons_succ, List.set_cons_zero]) | ((refine rd (by rfl) (ex_lookI rfl rfl rfl (unhide HM).2.2.1 (unhide HOK) (unhide HFI)) ?_); simp only [Act.put, List.setIfInBounds_toArray, List.set_cons_succ, List.set_cons_zero])))
              simp only [nz]
              try go_wp2_with (first | go_skip | ((with_reducible show wpList _ _ _ _ _ _); first | ((refine rd (by rfl) (ex_lenG 32 61 Tryz.underlying32 rfl rfl) ?_); simp only [Act.put, List.setIfInBounds_toArray, List.set_cons_succ, List.set_cons_zero]) | ((refine rd (by rfl) (ex_indexA 32 20 i unPs idPs rfl rfl (unhide HA) rfl (unhide HLT)) ?_); simp only [Act.put, List.setIfInBounds_toArray, List.set_cons_succ, List.set_cons_zero]) | ((refine rd (by rfl) (ex_loadR (vs := p.cs) 61 20 rwP szP rfl rfl (unhide HA2 _ (unhide LL).fr) rfl) ?_); simp only [Act.put, List.setIfInBounds_toArray, List.set_cons_succ, List.set_cons_zero]) | ((refine alG 61 (zeroP.cs) (by rfl) rfl (fun w => by kernel_rfl) (Nat.succ_pos _) (unhide LL) ?_); intro X3 B3 hE3 L3 hb3; have hB3 := hide (Nat.le_trans (unhide LL).fr.size (Nat.le_of_eq hE3.symm)); have hNE : Hid (M1 ≠ B3 ∧ M2 ≠ B3) := hide ⟨Nat.ne_of_lt (Nat.lt_of_lt_of_le (unhide HM).1.lt (Nat.le_of_eq hE3.symm)), Nat.ne_of_lt (Nat.lt_of_lt_of_le (unhide HM).2.2.1.lt (Nat.le_of_eq hE3.symm))⟩; replace HM := hide (And.intro ((unhide HM).1.on hb3) (And.intro (unhide HM).2.1 (And.intro ((unhide HM).2.2.1.on hb3) (unhide HM).2.2.2))); replace LL := hide L3; clear L3 hb3 hE3; simp only [Act.put, List.setIfInBounds_toArray, List.set_cons_succ, List.set_cons_zero]) | ((refine st (vs := p.cs) 1 61 (by rfl) rfl rfl rfl rfl (pcs_one p) (szP) (unhide LL) rfl (by simp [cput, PR.cs, SH.cs, VV.cs, KK.cs, DD.cs, CO.cs, DL.cs, zeroP, zeroS, zeroD, zeroV]) (Or.inr (unhide hB3)) ?_); intro X4 L4 hf4 hs4; replace HM := hide (And.intro ((unhide HM).1.far hf4 (unhide hNE).1) (And.intro (unhide HM).2.1 (And.intro ((unhide HM).2.2.1.far hf4 (unhide hNE).2) (unhide HM).2.2.2))); replace LL := hide L4; clear L4 hf4 hs4; simp only [Act.put, List.setIfInBounds_toArray, List.set_cons_succ, List.set_cons_zero]) | ((refine rd (by rfl) (ex_loadN (vs := p.k.cs) 56 2 rwK szK rfl rfl ((unhide LL).get 1 rfl) rfl rfl) ?_); simp only [Act.put, List.setIfInBounds_toArray, List.set_cons_succ, List.set_cons_zero]) | ((refine rd (by rfl) (ex_loadN (vs := p.cs) 61 20 rwP szP rfl rfl ((unhide LL).get 1 rfl) rfl rfl) ?_); simp only [Act.put, List.setIfInBounds_toArray, List.set_cons_succ, List.set_cons_zero]) | ((refine rd (by rfl) (ex_look1 rfl rfl rfl (unhide HM).1 (unhide HOK) (unhide HFJ)) ?_); simp only [Act.put, List.setIfInBounds_toArray, List.set_cons_succ, List.set_cons_zero]) | ((refine rd (by rfl) (ex_neI rfl rfl rfl (unhide HNJ)) ?_); simp only [Act.put, List.setIfInBounds_toArray, List.set_cons_succ, List.set_cons_zero]) | ((refine rd (by rfl) (ex_lookI rfl rfl rfl (unhide HM).2.2.1 (unhide HOK) (unhide HFI)) ?_); simp only [Act.put, List.setIfInBounds_toArray, List.set_cons_succ, List.set_cons_zero])))
              obtain ⟨hA2, hb2, hrg2, halt, hKP⟩ := unhide HH
              have hq0 : Hq w _ [] [(B1, c.cs), (B3, p.cs)] := (unhide LL).drew
              refine wp_region_held_drew (P := Tryz.prog) (S := fun X => Hq w X [] [(B1, c.cs), (B3, p.cs)]) (by kernel_rfl) hq0 (fun hS0 => ?_)
              refine gsem 0 (some 43) (.bool true) rfl (by kernel_rfl) (by kernel_rfl) (by kernel_rfl) (fun _ _ _ h => h) (by kernel_rfl) (by kernel_rfl) (fun _ _ => by kernel_rfl) hq0 ?_
              simp only [Act.put, List.setIfInBounds_toArray, List.set_cons_succ, List.set_cons_zero]
              refine gsem 1 (some 44) (.bool false) rfl (by kernel_rfl) (by kernel_rfl) (by kernel_rfl) (fun _ _ _ h => h) (by kernel_rfl) (by kernel_rfl) (fun _ _ => by kernel_rfl) hq0 ?_
              simp only [Act.put, List.setIfInBounds_toArray, List.set_cons_succ, List.set_cons_zero]
              refine gsem 2 (some 45) (.bool false) rfl (by kernel_rfl) (by kernel_rfl) (by kernel_rfl) (fun _ _ _ h => h) (by kernel_rfl) (by kernel_rfl) (fun _ _ => by kernel_rfl) hq0 ?_
              simp only [Act.put, List.setIfInBounds_toArray, List.set_cons_succ, List.set_cons_zero]
              refine gsem 3 (some 46) (.pointer (some ⟨B3, 2, none⟩)) rfl (by kernel_rfl) (by kernel_rfl) (by kernel_rfl) (fun _ _ _ h => h) (by kernel_rfl) (by kernel_rfl) (fun _ _ => by kernel_rfl) hq0 ?_
              simp only [Act.put, List.setIfInBounds_toArray, List.set_cons_succ, List.set_cons_zero]
              refine gsem 4 (some 47) (.agg p.d.cs.toArray) rfl (by kernel_rfl) (by kernel_rfl) (by kernel_rfl) (fun _ _ _ h => h) (by kernel_rfl) (by kernel_rfl) (fun X hX => ex_loadN (vs := p.d.cs) 59 18 rwD szD rfl rfl (hX.get 1 rfl) rfl rfl) hq0 ?_
              simp only [Act.put, List.setIfInBounds_toArray, List.set_cons_succ, List.set_cons_zero]
              refine gsem 5 (some 48) (.pointer (some ⟨B1, 8, none⟩)) rfl (by kernel_rfl) (by kernel_rfl) (by kernel_rfl) (fun _ _ _ h => h) (by kernel_rfl) (by kernel_rfl) (fun _ _ => by kernel_rfl) hq0 ?_
              simp only [Act.put, List.setIfInBounds_toArray, List.set_cons_succ, List.set_cons_zero]
              refine gsem 6 (some 49) (.pointer (some ⟨B1, 15, none⟩)) rfl (by kernel_rfl) (by kernel_rfl) (by kernel_rfl) (fun _ _ _ h => h) (by kernel_rfl) (by kernel_rfl) (fun _ _ => by kernel_rfl) hq0 ?_
              simp only [Act.put, List.setIfInBounds_toArray, List.set_cons_succ, List.set_cons_zero]
              refine gsem 7 (some 50) (.slice c.iA c.is.ps.length c.ic) rfl (by kernel_rfl) (by kernel_rfl) (by kernel_rfl) (fun _ _ _ h => h) (by kernel_rfl) (by kernel_rfl) (fun X hX => ex_load1 32 Tryz.isAgg32 rfl rfl (hX.get 0 rfl) rfl) hq0 ?_
              simp only [Act.put, List.setIfInBounds_toArray, List.set_cons_succ, List.set_cons_zero]
              refine gsem 8 (some 51) (.int .i64 (a : Nat)) rfl (by kernel_rfl) (by kernel_rfl) (by kernel_rfl) (fun _ _ _ h => h) (by kernel_rfl) (by kernel_rfl) (fun _ _ => by kernel_rfl) hq0 ?_
              simp only [Act.put, List.setIfInBounds_toArray, List.set_cons_succ, List.set_cons_zero]
              refine gsem 9 (some 52) (.pointer (some ⟨b2, off2 + a * 20, none⟩)) rfl (by kernel_rfl) (by kernel_rfl) (by kernel_rfl) (fun _ _ _ h => h) (by kernel_rfl) (by kernel_rfl) (fun X hX => ex_indexA 32 20 a unPs idPs rfl rfl hA2 rfl halt) hq0 ?_
              simp only [Act.put, List.setIfInBounds_toArray, List.set_cons_succ, List.set_cons_zero]
              refine gsem 10 (some 53) (.pointer (some ⟨b2, off2 + a * 20 + 2, none⟩)) rfl (by kernel_rfl) (by kernel_rfl) (by kernel_rfl) (fun _ _ _ h => h) (by kernel_rfl) (by kernel_rfl) (fun _ _ => by kernel_rfl) hq0 ?_
              simp only [Act.put, List.setIfInBounds_toArray, List.set_cons_succ, List.set_cons_zero]
              refine gsem 11 (some 54) (.agg r.d.cs.toArray) rfl (by kernel_rfl) (by kernel_rfl) (by kernel_rfl) (fun _ _ _ h => h) (by kernel_rfl) (by kernel_rfl) (fun X hX => ex_loadR (vs := r.d.cs) 59 18 rwD szD rfl rfl (range_right (a := r.k.cs) (c := r.d.cs) (rangeAt_fr hrg2 hb2 hX.fr)) rfl) hq0 ?_
              simp only [Act.put, List.setIfInBounds_toArray, List.set_cons_succ, List.set_cons_zero]
              refine wpAnyH_ready (rs := [12]) (by kernel_rfl) (by simp) (gcallR 12 (some 55) rfl (by kernel_rfl) (by kernel_rfl) (by kernel_rfl) (hKP _ (tabs_below (unhide HT) hq0.fr.below)) ?_ AllReadyH.nil)
              rintro e Y5 ⟨rfl, hY5⟩
              have hq05 := Hq.on hq0 hY5
              refine ⟨_, rfl, hq05, ?_⟩
              simp only [Act.put, List.setIfInBounds_toArray, List.set_cons_succ, List.set_cons_zero]
              refine gsem 13 (some 56) (.bool false) rfl (by kernel_rfl) (by kernel_rfl) (by kernel_rfl) (fun _ _ _ h => h) (by kernel_rfl) (by kernel_rfl) (fun _ _ => by kernel_rfl) hq05 ?_
              simp only [Act.put, List.setIfInBounds_toArray, List.set_cons_succ, List.set_cons_zero]
              refine gsem 14 (some 57) (.bool false) rfl (by kernel_rfl) (by kernel_rfl) (by kernel_rfl) (fun _ _ _ h => h) (by kernel_rfl) (by kernel_rfl) (fun _ _ => by kernel_rfl) hq05 ?_
              simp only [Act.put, List.setIfInBounds_toArray, List.set_cons_succ, List.set_cons_zero]
              refine wpAnyH_done (by kernel_rfl) ?_ _
              try simp only [Act.put, List.setIfInBounds_toArray, List.set_cons_succ, List.set_cons_zero]
              replace LL := hide hq05
              replace HM := hide (And.intro ((unhide HM).1.block (hY5.block _ (unhide HM).1.lt)) (And.intro (unhide HM).2.1 (And.intro ((unhide HM).2.2.1.block (hY5.block _ (unhide HM).2.2.1.lt)) (unhide HM).2.2.2)))
              clear hA2 hb2 hrg2 halt hKP hq0 hq05 hY5 hS0
              go_wp2_with (first | go_skip | ((with_reducible show wpList _ _ _ _ _ _); first | ((refine rd (by rfl) (ex_lenG 32 61 Tryz.underlying32 rfl rfl) ?_); simp only [Act.put, List.setIfInBounds_toArray, List.set_cons_succ, List.set_cons_zero]) | ((refine rd (by rfl) (ex_indexA 32 20 i unPs idPs rfl rfl (unhide HA) rfl (unhide HLT)) ?_); simp only [Act.put, List.setIfInBounds_toArray, List.set_cons_succ, List.set_cons_zero]) | ((refine rd (by rfl) (ex_loadR (vs := p.cs) 61 20 rwP szP rfl rfl (unhide HA2 _ (unhide LL).fr) rfl) ?_); simp only [Act.put, List.setIfInBounds_toArray, List.set_cons_succ, List.set_cons_zero]) | ((refine alG 61 (zeroP.cs) (by rfl) rfl (fun w => by kernel_rfl) (Nat.succ_pos _) (unhide LL) ?_); intro X3 B3 hE3 L3 hb3; have hB3 := hide (Nat.le_trans (unhide LL).fr.size (Nat.le_of_eq hE3.symm)); have hNE : Hid (M1 ≠ B3 ∧ M2 ≠ B3) := hide ⟨Nat.ne_of_lt (Nat.lt_of_lt_of_le (unhide HM).1.lt (Nat.le_of_eq hE3.symm)), Nat.ne_of_lt (Nat.lt_of_lt_of_le (unhide HM).2.2.1.lt (Nat.le_of_eq hE3.symm))⟩; replace HM := hide (And.intro ((unhide HM).1.on hb3) (And.intro (unhide HM).2.1 (And.intro ((unhide HM).2.2.1.on hb3) (unhide HM).2.2.2))); replace LL := hide L3; clear L3 hb3 hE3; simp only [Act.put, List.setIfInBounds_toArray, List.set_cons_succ, List.set_cons_zero]) | ((refine st (vs := p.cs) 1 61 (by rfl) rfl rfl rfl rfl (pcs_one p) (szP) (unhide LL) rfl (by simp [cput, PR.cs, SH.cs, VV.cs, KK.cs, DD.cs, CO.cs, DL.cs, zeroP, zeroS, zeroD, zeroV]) (Or.inr (unhide hB3)) ?_); intro X4 L4 hf4 hs4; replace HM := hide (And.intro ((unhide HM).1.far hf4 (unhide hNE).1) (And.intro (unhide HM).2.1 (And.intro ((unhide HM).2.2.1.far hf4 (unhide hNE).2) (unhide HM).2.2.2))); replace LL := hide L4; clear L4 hf4 hs4; simp only [Act.put, List.setIfInBounds_toArray, List.set_cons_succ, List.set_cons_zero]) | ((refine rd (by rfl) (ex_loadN (vs := p.k.cs) 56 2 rwK szK rfl rfl ((unhide LL).get 1 rfl) rfl rfl) ?_); simp only [Act.put, List.setIfInBounds_toArray, List.set_cons_succ, List.set_cons_zero]) | ((refine rd (by rfl) (ex_loadN (vs := p.cs) 61 20 rwP szP rfl rfl ((unhide LL).get 1 rfl) rfl rfl) ?_); simp only [Act.put, List.setIfInBounds_toArray, List.set_cons_succ, List.set_cons_zero]) | ((refine rd (by rfl) (ex_look1 rfl rfl rfl (unhide HM).1 (unhide HOK) (unhide HFJ)) ?_); simp only [Act.put, List.setIfInBounds_toArray, List.set_cons_succ, List.set_cons_zero]) | ((refine rd (by rfl) (ex_neI rfl rfl rfl (unhide HNJ)) ?_); simp only [Act.put, List.setIfInBounds_toArray, List.set_cons_succ, List.set_cons_zero]) | ((refine rd (by rfl) (ex_lookI rfl rfl rfl (unhide HM).2.2.1 (unhide HOK) (unhide HFI)) ?_); simp only [Act.put, List.setIfInBounds_toArray, List.set_cons_succ, List.set_cons_zero])))
              replace LL := hide (Hq.left (L := [(B1, c.cs)]) (unhide LL))
              go_roundg (c.was.ps.length - (i + 1))
              case measure => have := unhide HLT; omega
              case rel => exact ⟨i + 1, by go_num, by have := unhide HLT; omega, by omega, HD2, HM, LL⟩
        · have HD2 := hide ((unhide HD).step (bad_loose hp hlo))
          simp only [hlo] at HLO
          clear hp hfj hlo HD hok hji
          go_wp2_with (first | go_skip | ((with_reducible show wpList _ _ _ _ _ _); first | ((refine rd (by rfl) (ex_lenG 32 61 Tryz.underlying32 rfl rfl) ?_); simp only [Act.put, List.setIfInBounds_toArray, List.set_cons_succ, List.set_cons_zero]) | ((refine rd (by rfl) (ex_indexA 32 20 i unPs idPs rfl rfl (unhide HA) rfl (unhide HLT)) ?_); simp only [Act.put, List.setIfInBounds_toArray, List.set_cons_succ, List.set_cons_zero]) | ((refine rd (by rfl) (ex_loadR (vs := p.cs) 61 20 rwP szP rfl rfl (unhide HA2 _ (unhide LL).fr) rfl) ?_); simp only [Act.put, List.setIfInBounds_toArray, List.set_cons_succ, List.set_cons_zero]) | ((refine alG 61 (zeroP.cs) (by rfl) rfl (fun w => by kernel_rfl) (Nat.succ_pos _) (unhide LL) ?_); intro X3 B3 hE3 L3 hb3; have hB3 := hide (Nat.le_trans (unhide LL).fr.size (Nat.le_of_eq hE3.symm)); have hNE : Hid (M1 ≠ B3 ∧ M2 ≠ B3) := hide ⟨Nat.ne_of_lt (Nat.lt_of_lt_of_le (unhide HM).1.lt (Nat.le_of_eq hE3.symm)), Nat.ne_of_lt (Nat.lt_of_lt_of_le (unhide HM).2.2.1.lt (Nat.le_of_eq hE3.symm))⟩; replace HM := hide (And.intro ((unhide HM).1.on hb3) (And.intro (unhide HM).2.1 (And.intro ((unhide HM).2.2.1.on hb3) (unhide HM).2.2.2))); replace LL := hide L3; clear L3 hb3 hE3; simp only [Act.put, List.setIfInBounds_toArray, List.set_cons_succ, List.set_cons_zero]) | ((refine st (vs := p.cs) 1 61 (by rfl) rfl rfl rfl rfl (pcs_one p) (szP) (unhide LL) rfl (by simp [cput, PR.cs, SH.cs, VV.cs, KK.cs, DD.cs, CO.cs, DL.cs, zeroP, zeroS, zeroD, zeroV]) (Or.inr (unhide hB3)) ?_); intro X4 L4 hf4 hs4; replace HM := hide (And.intro ((unhide HM).1.far hf4 (unhide hNE).1) (And.intro (unhide HM).2.1 (And.intro ((unhide HM).2.2.1.far hf4 (unhide hNE).2) (unhide HM).2.2.2))); replace LL := hide L4; clear L4 hf4 hs4; simp only [Act.put, List.setIfInBounds_toArray, List.set_cons_succ, List.set_cons_zero]) | ((refine rd (by rfl) (ex_loadN (vs := p.k.cs) 56 2 rwK szK rfl rfl ((unhide LL).get 1 rfl) rfl rfl) ?_); simp only [Act.put, List.setIfInBounds_toArray, List.set_cons_succ, List.set_cons_zero]) | ((refine rd (by rfl) (ex_loadN (vs := p.cs) 61 20 rwP szP rfl rfl ((unhide LL).get 1 rfl) rfl rfl) ?_); simp only [Act.put, List.setIfInBounds_toArray, List.set_cons_succ, List.set_cons_zero]) | ((refine rd (by rfl) (ex_look1 rfl rfl rfl (unhide HM).1 (unhide HOK) (unhide HFJ)) ?_); simp only [Act.put, List.setIfInBounds_toArray, List.set_cons_succ, List.set_cons_zero]) | ((refine rd (by rfl) (ex_neI rfl rfl rfl (unhide HNJ)) ?_); simp only [Act.put, List.setIfInBounds_toArray, List.set_cons_succ, List.set_cons_zero]) | ((refine rd (by rfl) (ex_lookI rfl rfl rfl (unhide HM).2.2.1 (unhide HOK) (unhide HFI)) ?_); simp only [Act.put, List.setIfInBounds_toArray, List.set_cons_succ, List.set_cons_zero])))
          refine (unhide HLO _).mono ?_
          rintro e X5 ⟨rfl, hb5⟩
          replace HM := hide (And.intro ((unhide HM).1.on hb5) (And.intro (unhide HM).2.1 (And.intro ((unhide HM).2.2.1.on hb5) (unhide HM).2.2.2)))
          replace LL := hide ((unhide LL).on hb5)
          clear hb5
          go_wp2_with (first | go_skip | ((with_reducible show wpList _ _ _ _ _ _); first | ((refine rd (by rfl) (ex_lenG 32 61 Tryz.underlying32 rfl rfl) ?_); simp only [Act.put, List.setIfInBounds_toArray, List.set_cons_succ, List.set_cons_zero]) | ((refine rd (by rfl) (ex_indexA 32 20 i unPs idPs rfl rfl (unhide HA) rfl (unhide HLT)) ?_); simp only [Act.put, List.setIfInBounds_toArray, List.set_cons_succ, List.set_cons_zero]) | ((refine rd (by rfl) (ex_loadR (vs := p.cs) 61 20 rwP szP rfl rfl (unhide HA2 _ (unhide LL).fr) rfl) ?_); simp only [Act.put, List.setIfInBounds_toArray, List.set_cons_succ, List.set_cons_zero]) | ((refine alG 61 (zeroP.cs) (by rfl) rfl (fun w => by kernel_rfl) (Nat.succ_pos _) (unhide LL) ?_); intro X3 B3 hE3 L3 hb3; have hB3 := hide (Nat.le_trans (unhide LL).fr.size (Nat.le_of_eq hE3.symm)); have hNE : Hid (M1 ≠ B3 ∧ M2 ≠ B3) := hide ⟨Nat.ne_of_lt (Nat.lt_of_lt_of_le (unhide HM).1.lt (Nat.le_of_eq hE3.symm)), Nat.ne_of_lt (Nat.lt_of_lt_of_le (unhide HM).2.2.1.lt (Nat.le_of_eq hE3.symm))⟩; replace HM := hide (And.intro ((unhide HM).1.on hb3) (And.intro (unhide HM).2.1 (And.intro ((unhide HM).2.2.1.on hb3) (unhide HM).2.2.2))); replace LL := hide L3; clear L3 hb3 hE3; simp only [Act.put, List.setIfInBounds_toArray, List.set_cons_succ, List.set_cons_zero]) | ((refine st (vs := p.cs) 1 61 (by rfl) rfl rfl rfl rfl (pcs_one p) (szP) (unhide LL) rfl (by simp [cput, PR.cs, SH.cs, VV.cs, KK.cs, DD.cs, CO.cs, DL.cs, zeroP, zeroS, zeroD, zeroV]) (Or.inr (unhide hB3)) ?_); intro X4 L4 hf4 hs4; replace HM := hide (And.intro ((unhide HM).1.far hf4 (unhide hNE).1) (And.intro (unhide HM).2.1 (And.intro ((unhide HM).2.2.1.far hf4 (unhide hNE).2) (unhide HM).2.2.2))); replace LL := hide L4; clear L4 hf4 hs4; simp only [Act.put, List.setIfInBounds_toArray, List.set_cons_succ, List.set_cons_zero]) | ((refine rd (by rfl) (ex_loadN (vs := p.k.cs) 56 2 rwK szK rfl rfl ((unhide LL).get 1 rfl) rfl rfl) ?_); simp only [Act.put, List.setIfInBounds_toArray, List.set_cons_succ, List.set_cons_zero]) | ((refine rd (by rfl) (ex_loadN (vs := p.cs) 61 20 rwP szP rfl rfl ((unhide LL).get 1 rfl) rfl rfl) ?_); simp only [Act.put, List.setIfInBounds_toArray, List.set_cons_succ, List.set_cons_zero]) | ((refine rd (by rfl) (ex_look1 rfl rfl rfl (unhide HM).1 (unhide HOK) (unhide HFJ)) ?_); simp only [Act.put, List.setIfInBounds_toArray, List.set_cons_succ, List.set_cons_zero]) | ((refine rd (by rfl) (ex_neI rfl rfl rfl (unhide HNJ)) ?_); simp only [Act.put, List.setIfInBounds_toArray, List.set_cons_succ, List.set_cons_zero]) | ((refine rd (by rfl) (ex_lookI rfl rfl rfl (unhide HM).2.2.1 (unhide HOK) (unhide HFI)) ?_); simp only [Act.put, List.setIfInBounds_toArray, List.set_cons_succ, List.set_cons_zero])))
          replace LL := hide (Hq.left (L := [(B1, c.cs)]) (unhide LL))
          go_roundg (c.was.ps.length - (i + 1))
          case measure => have := unhide HLT; omega
          case rel => exact ⟨i + 1, by go_num, by have := unhide HLT; omega, by omega, HD2, HM, LL⟩
      · have HNJ : Hid (((j : Int) != (i : Int)) = true) := hide (by simp; omega)
        have HD2 := hide ((unhide HD).step (bad_other hp hfj (fun h => hij h.symm)))
        clear hp hfj HD hok hji hij hb hrg hlt hil hA
        go_wp2_with (first | go_skip | ((with_reducible show wpList _ _ _ _ _ _); first | ((refine rd (by rfl) (ex_lenG 32 61 Tryz.underlying32 rfl rfl) ?_); simp only [Act.put, List.setIfInBounds_toArray, List.set_cons_succ, List.set_cons_zero]) | ((refine rd (by rfl) (ex_indexA 32 20 i unPs idPs rfl rfl (unhide HA) rfl (unhide HLT)) ?_); simp only [Act.put, List.setIfInBounds_toArray, List.set_cons_succ, List.set_cons_zero]) | ((refine rd (by rfl) (ex_loadR (vs := p.cs) 61 20 rwP szP rfl rfl (unhide HA2 _ (unhide LL).fr) rfl) ?_); simp only [Act.put, List.setIfInBounds_toArray, List.set_cons_succ, List.set_cons_zero]) | ((refine alG 61 (zeroP.cs) (by rfl) rfl (fun w => by kernel_rfl) (Nat.succ_pos _) (unhide LL) ?_); intro X3 B3 hE3 L3 hb3; have hB3 := hide (Nat.le_trans (unhide LL).fr.size (Nat.le_of_eq hE3.symm)); have hNE : Hid (M1 ≠ B3 ∧ M2 ≠ B3) := hide ⟨Nat.ne_of_lt (Nat.lt_of_lt_of_le (unhide HM).1.lt (Nat.le_of_eq hE3.symm)), Nat.ne_of_lt (Nat.lt_of_lt_of_le (unhide HM).2.2.1.lt (Nat.le_of_eq hE3.symm))⟩; replace HM := hide (And.intro ((unhide HM).1.on hb3) (And.intro (unhide HM).2.1 (And.intro ((unhide HM).2.2.1.on hb3) (unhide HM).2.2.2))); replace LL := hide L3; clear L3 hb3 hE3; simp only [Act.put, List.setIfInBounds_toArray, List.set_cons_succ, List.set_cons_zero]) | ((refine st (vs := p.cs) 1 61 (by rfl) rfl rfl rfl rfl (pcs_one p) (szP) (unhide LL) rfl (by simp [cput, PR.cs, SH.cs, VV.cs, KK.cs, DD.cs, CO.cs, DL.cs, zeroP, zeroS, zeroD, zeroV]) (Or.inr (unhide hB3)) ?_); intro X4 L4 hf4 hs4; replace HM := hide (And.intro ((unhide HM).1.far hf4 (unhide hNE).1) (And.intro (unhide HM).2.1 (And.intro ((unhide HM).2.2.1.far hf4 (unhide hNE).2) (unhide HM).2.2.2))); replace LL := hide L4; clear L4 hf4 hs4; simp only [Act.put, List.setIfInBounds_toArray, List.set_cons_succ, List.set_cons_zero]) | ((refine rd (by rfl) (ex_loadN (vs := p.k.cs) 56 2 rwK szK rfl rfl ((unhide LL).get 1 rfl) rfl rfl) ?_); simp only [Act.put, List.setIfInBounds_toArray, List.set_cons_succ, List.set_cons_zero]) | ((refine rd (by rfl) (ex_loadN (vs := p.cs) 61 20 rwP szP rfl rfl ((unhide LL).get 1 rfl) rfl rfl) ?_); simp only [Act.put, List.setIfInBounds_toArray, List.set_cons_succ, List.set_cons_zero]) | ((refine rd (by rfl) (ex_look1 rfl rfl rfl (unhide HM).1 (unhide HOK) (unhide HFJ)) ?_); simp only [Act.put, List.setIfInBounds_toArray, List.set_cons_succ, List.set_cons_zero]) | ((refine rd (by rfl) (ex_neI rfl rfl rfl (unhide HNJ)) ?_); simp only [Act.put, List.setIfInBounds_toArray, List.set_cons_succ, List.set_cons_zero]) | ((refine rd (by rfl) (ex_lookI rfl rfl rfl (unhide HM).2.2.1 (unhide HOK) (unhide HFI)) ?_); simp only [Act.put, List.setIfInBounds_toArray, List.set_cons_succ, List.set_cons_zero])))
        replace LL := hide (Hq.left (L := [(B1, c.cs)]) (unhide LL))
        go_roundg (c.was.ps.length - (i + 1))
        case measure => have := unhide HLT; omega
        case rel => exact ⟨i + 1, by go_num, by have := unhide HLT; omega, by omega, HD2, HM, LL⟩
    · obtain rfl : i = c.was.ps.length := by omega
      have HF := hide (prV_no (unhide HD))
      clear hlt hil HD
      go_wp2_with (first | go_skip | ((with_reducible show wpList _ _ _ _ _ _); first | ((refine rd (by rfl) (ex_lenG 32 61 Tryz.underlying32 rfl rfl) ?_); simp only [Act.put, List.setIfInBounds_toArray, List.set_cons_succ, List.set_cons_zero])))
      go_ret
      exact ⟨by rw [unhide HF]; rfl, (unhide LL).fr.below⟩
end Go.Proofs.YtcflglloopgieaaGreatDoor
