import Derived.Test.YtcflglloopgieaaDoorQp
import Derived.Test.YtcflglloopgieaaDoorQf

/-! Iv -/
namespace Go.Proofs.YtcflglloopgieaaDoor
open Go Go.Proofs Go.Maps Go.RowKit FM
set_option linter.unusedSimpArgs false
set_option linter.unusedVariables false
set_option maxHeartbeats 1000000
/-- Whole descriptors, each key once. -/
def PlS (s : SH) : Prop := ∀ (k : Nat) (p : PR), s.ps[k]? = some p → wholeV p.d = true ∧ fO s.ps p.k = some k
theorem pl_parts {l : List SH} {i : Nat} {s : SH} (h : plV l = true) (hs : l[i]? = some s) : PlS s := fun k p hp => by
  unfold plV at h
  simp only [Bool.and_eq_true, Bool.not_eq_true'] at h
  have hk := (List.getElem?_eq_some_iff.1 hp).1
  refine ⟨?_, ?_⟩
  · cases hw : wholeV p.d with
    | true => rfl
    | false =>
      have := anyS_yes (bp := badD) hs hk (by unfold badD; rw [hp]; simp [hw])
      rw [h.1] at this
      cases this
  · cases hd : dupAt s.ps k with
    | false =>
      unfold dupAt at hd
      rw [hp] at hd
      simpa using hd
    | true =>
      have := anyS_yes (bp := dupAt) hs hk hd
      have h2 := h.2
      unfold twV at h2
      rw [h2] at this
      cases this
theorem eqB_self (v : VV) : eqB v v = true := by simp [eqB]
theorem eqB_trans {a b c : VV} (h1 : eqB a b = true) (h2 : eqB b c = true) : eqB a c = true := by
  unfold eqB at *
  simp only [Bool.and_eq_true, Bool.or_eq_true, decide_eq_true_eq, beq_iff_eq] at *
  obtain ⟨⟨⟨⟨a1, a2⟩, a3⟩, a4⟩, a5⟩ := h1
  obtain ⟨⟨⟨⟨b1, b2⟩, b3⟩, b4⟩, b5⟩ := h2
  refine ⟨⟨⟨⟨?_, a2.trans b2⟩, a3.trans b3⟩, a4.trans b4⟩, a5.trans b5⟩
  rcases a1 with e | ⟨e1, e2⟩
  · rcases b1 with f | ⟨f1, f2⟩
    · exact .inl (e.trans f)
    · exact .inr ⟨by rw [e]; exact f1, f2⟩
  · rcases b1 with f | ⟨f1, f2⟩
    · exact .inr ⟨e1, by rw [← f]; exact e2⟩
    · exact .inr ⟨e1, f2⟩
theorem whole_st {d : DD} (h : wholeV d = true) : stV d = true := by unfold stV; rw [h]; simp
theorem six {P : Nat → Prop} (h0 : P 0) (h1 : P 1) (h2 : P 2) (h3 : P 3) (h4 : P 4) (h5 : P 5) : ∀ j, j < 6 → P j := fun j hj => by
  have : j = 0 ∨ j = 1 ∨ j = 2 ∨ j = 3 ∨ j = 4 ∨ j = 5 := by omega
  rcases this with rfl | rfl | rfl | rfl | rfl | rfl <;> assumption
/-- What the six rules say of an object at two moments. -/
structure Six (s t : SH) : Prop where
  c : t.c = s.c
  x : s.x = false → t.x = false
  p : s.x = false → eqB s.p t.p = true
  k : s.x = false → ∀ r ∈ t.ps, (fO s.ps r.k).isSome = true
  d : ∀ (k : Nat) (p : PR), s.ps[k]? = some p → fO s.ps p.k = some k → looseP p = false → kept t.ps p = true
theorem six_of {c : CO} (h : NoR c 6) : c.gone = false ∧ Six c.was c.is := by
  have h0 := h 0 (by omega)
  have h1 := h 1 (by omega)
  have h2 := h 2 (by omega)
  have h3 := h 3 (by omega)
  have h4 := h 4 (by omega)
  have h5 := h 5 (by omega)
  simp only [rbV] at h0 h1 h2 h3 h4 h5
  refine ⟨h0, ⟨?_, fun hx => ?_, fun hx => ?_, fun hx r hr => ?_, fun k p hp hf hl => ?_⟩⟩
  · simpa [clV] using h1
  · simpa [oaV, hx] using h2
  · simpa [opV, hx] using h3
  · simp only [mkV, hx, Bool.not_false, Bool.true_and, List.any_eq_false] at h4
    rw [Option.isSome_iff_ne_none]
    simpa using h4 r hr
  · have hk := (List.getElem?_eq_some_iff.1 hp).1
    simp only [prV, List.any_eq_false] at h5
    have := h5 k (List.mem_range.2 hk)
    simpa [badAt, hp, hf, hl] using this
theorem of_six {c : CO} (h0 : c.gone = false) (h : Six c.was c.is) : NoR c 6 := by
  refine six h0 ?_ ?_ ?_ ?_ ?_
  · show clV c = false
    simp [clV, h.c]
  · show oaV c = false
    cases hx : c.was.x with
    | false => simp [oaV, h.x hx]
    | true => simp [oaV, hx]
  · show opV c = false
    cases hx : c.was.x with
    | false => simp [opV, h.p hx]
    | true => simp [opV, hx]
  · show mkV c = false
    cases hx : c.was.x with
    | false =>
      simp only [mkV, hx, Bool.not_false, Bool.true_and, List.any_eq_false]
      intro r hr
      simp [h.k hx r hr]
    | true => simp [mkV, hx]
  · show prV c = false
    simp only [prV, List.any_eq_false]
    intro k hk
    obtain ⟨p, hp⟩ : ∃ p, c.was.ps[k]? = some p := ⟨_, List.getElem?_eq_getElem (List.mem_range.1 hk)⟩
    by_cases hf : fO c.was.ps p.k = some k
    · cases hl : looseP p with
      | false => simp [badAt, hp, hf, hl, h.d k p hp hf hl]
      | true => simp [badAt, hp, hl]
    · simp [badAt, hp, hf]
theorem kept_iff {is : List PR} {p : PR} : kept is p = true ↔ ∃ (m : Nat) (r : PR), fO is p.k = some m ∧ is[m]? = some r ∧ r.k = p.k ∧ keepB p.d r.d = true := by
  unfold kept
  cases hf : fO is p.k with
  | none => simp
  | some m =>
    obtain ⟨r, hr, hk⟩ := fO_get hf
    simp [hr, hk]
theorem six_self {s : SH} (h : PlS s) : Six s s := by
  refine ⟨rfl, id, fun _ => eqB_self _, fun _ r hr => ?_, fun k p hp hf hl => ?_⟩
  · obtain ⟨j, hj⟩ := List.getElem?_of_mem hr
    rw [(h j r hj).2]
    rfl
  · exact kept_iff.2 ⟨k, p, hf, hp, rfl, keep_self (whole_st (h k p hp).1)⟩
theorem kept_c {a b : DD} (ha : wholeV a = true) (hc : a.c = 1) (h : keepB a b = true) : keptV a b = true := by
  unfold keepB at h
  have hn : noV a = false := by
    obtain ⟨_, ne, _⟩ := (whole_iff a).1 ha
    unfold noV
    simp [ne]
  cases hst : (!stV a || !stV b) with
  | true => rw [hst] at h; cases h
  | false =>
    rw [hst] at h
    simpa [hn, hc] using h
theorem kept_c1 {a b : DD} (h : keptV a b = true) : b.c = 1 := by
  unfold keptV at h
  cases hq : (b.c != 1 || b.e != a.e || shapeV b != shapeV a)
  · simp only [Bool.or_eq_false_iff, bne_eq_false_iff_eq] at hq
    exact hq.1.1
  · rw [hq] at h
    cases h
theorem six_trans {s t u : SH} (hs : PlS s) (ht : PlS t) (hu : PlS u) (h1 : Six s t) (h2 : Six t u) : Six s u := by
  refine ⟨h2.c.trans h1.c, fun hx => h2.x (h1.x hx), fun hx => eqB_trans (h1.p hx) (h2.p (h1.x hx)), fun hx r hr => ?_, fun k p hp hf hl => ?_⟩
  · obtain ⟨j, hj⟩ := Option.isSome_iff_exists.1 (h2.k (h1.x hx) r hr)
    obtain ⟨q, hq, hqk⟩ := fO_get hj
    rw [← hqk]
    exact h1.k hx q (List.mem_of_getElem? hq)
  · obtain ⟨m, r, hm, hr, hrk, hk1⟩ := kept_iff.1 (h1.d k p hp hf hl)
    have hc : p.d.c = 1 := by simpa [looseP] using hl
    have hrc : r.d.c = 1 := kept_c1 (kept_c (hs k p hp).1 hc hk1)
    obtain ⟨n, q, hn, hq, hqk, hk2⟩ := kept_iff.1 (h2.d m r hr (by rw [hrk]; exact hm) (by simp [looseP, hrc]))
    exact kept_iff.2 ⟨n, q, by rw [← hrk]; exact hn, hq, hqk.trans hrk, keep_trans (whole_st (hu n q hq).1) hk1 hk2⟩
theorem br_zero {bs ns : List SH} {o r : Int} (h : BrP bs ns o r) (h0 : o = 0) : NoC bs ns bs.length := by
  rcases h with ⟨_, _, h⟩ | ⟨i, j, _, _, rfl, _⟩
  · exact h
  · omega
theorem br_of {bs ns : List SH} {o r : Int} (h : BrP bs ns o r) (hn : NoC bs ns bs.length) : o = 0 ∧ r = 0 := by
  rcases h with ⟨h1, h2, _⟩ | ⟨i, j, hi, hj, _, _, hb, _⟩
  · exact ⟨h1, h2⟩
  · rw [hn i hi j hj] at hb
    cases hb
theorem noc_six {bs ns : List SH} (h : NoC bs ns bs.length) {i : Nat} {s : SH} (hs : bs[i]? = some s) : ∃ t, ns[i]? = some t ∧ Six s t := by
  obtain ⟨hg, h6⟩ := six_of (h i (List.getElem?_eq_some_iff.1 hs).1)
  have e1 : (coA bs ns i).was = s := by simp [coA, hs]
  cases ht : ns[i]? with
  | none => simp [coA, ht] at hg
  | some t =>
    have e2 : (coA bs ns i).is = t := by simp [coA, ht]
    rw [e1, e2] at h6
    exact ⟨t, rfl, h6⟩
theorem six_noc {bs ns : List SH} (h : ∀ (i : Nat) (s : SH), bs[i]? = some s → ∃ t, ns[i]? = some t ∧ Six s t) : NoC bs ns bs.length := fun i hi => by
  obtain ⟨s, hs⟩ : ∃ s, bs[i]? = some s := ⟨_, List.getElem?_eq_getElem hi⟩
  obtain ⟨t, ht, h6⟩ := h i s hs
  refine of_six (by simp [coA, ht]) ?_
  have e1 : (coA bs ns i).was = s := by simp [coA, hs]
  have e2 : (coA bs ns i).is = t := by simp [coA, ht]
  rw [e1, e2]
  exact h6
theorem goes_self {a : List SH} {o r : Int} (hp : plV a = true) (h : BrP a a o r) : o = 0 := (br_of h (six_noc (fun i s hs => ⟨s, hs, six_self (pl_parts hp hs)⟩))).1
theorem goes_on {a b c : List SH} {x y z r1 r2 r3 : Int} (pa : plV a = true) (pb : plV b = true) (pc : plV c = true) (h1 : BrP a b x r1) (h2 : BrP b c y r2) (h3 : BrP a c z r3) (hx : x = 0) (hy : y = 0) : z = 0 := by
  refine (br_of h3 (six_noc (fun i s hs => ?_))).1
  obtain ⟨t, ht, h6⟩ := noc_six (br_zero h1 hx) hs
  obtain ⟨u, hu, h7⟩ := noc_six (br_zero h2 hy) ht
  exact ⟨u, hu, six_trans (pl_parts pa hs) (pl_parts pb ht) (pl_parts pc hu) h6 h7⟩
set_option maxHeartbeats 2000000 in
set_option maxRecDepth 100000 in
theorem law_goes (A B C : Option Addr) (ca cb cc : Nat) (la lb lc : List SH) (w : World) (hA : ReadsS w A la) (hB : ReadsS w B lb) (hC : ReadsS w C lc) (hT : Lib.Utf8Tabs 1 2 w) : Calls Tryd.prog 4 #[.slice A la.length ca, .slice B lb.length cb, .slice C lc.length cc] w fun e w' => e = .returned (.bool true) ∧ Below w.heap.size w w' := by
  have LL := hide (Hq.nil w [])
  have HT := hide hT
  have HA := hide hA
  have HB := hide hB
  have HC := hide hC
  clear hT hA hB hC
  go_enter Tryd.func4, Tryd.ntmps4
  go_wp2_with fail
  refine (works_any _ (tabs_below (unhide HT) (unhide LL).fr.below)).mono ?_
  rintro e Y0 ⟨rfl, hY0⟩
  replace LL := hide ((unhide LL).on hY0)
  clear hY0
  go_wp2_with fail
  refine (few_any A ca la _ ((unhide HA).fr (unhide LL).fr)).mono ?_
  rintro e Yla ⟨qla, rfl, hqla, hYla⟩
  have HQla := hide hqla
  replace LL := hide ((unhide LL).on hYla)
  clear hqla hYla
  cases qla
  · go_wp2
    go_ret
    exact ⟨by simp, (unhide LL).fr.below⟩
  · replace HQla := hide (unhide HQla rfl)
    go_wp2_with fail
    refine (few_any B cb lb _ ((unhide HB).fr (unhide LL).fr)).mono ?_
    rintro e Ylb ⟨qlb, rfl, hqlb, hYlb⟩
    have HQlb := hide hqlb
    replace LL := hide ((unhide LL).on hYlb)
    clear hqlb hYlb
    cases qlb
    · go_wp2
      go_ret
      exact ⟨by simp, (unhide LL).fr.below⟩
    · replace HQlb := hide (unhide HQlb rfl)
      go_wp2_with fail
      refine (few_any C cc lc _ ((unhide HC).fr (unhide LL).fr)).mono ?_
      rintro e Ylc ⟨qlc, rfl, hqlc, hYlc⟩
      have HQlc := hide hqlc
      replace LL := hide ((unhide LL).on hYlc)
      clear hqlc hYlc
      cases qlc
      · go_wp2
        go_ret
        exact ⟨by simp, (unhide LL).fr.below⟩
      · replace HQlc := hide (unhide HQlc rfl)
        go_wp2_with fail
        refine (broken_any A A ca ca la la _ ((unhide HA).fr (unhide LL).fr) ((unhide HA).fr (unhide LL).fr) (by have := (unhide HQla).1; omega) (by have := (unhide HQla).1; omega) (tabs_below (unhide HT) (unhide LL).fr.below)).mono ?_
        rintro e Y1 ⟨o1, r1, rfl, hbr1, hY1⟩
        have HBR1 := hide hbr1
        replace LL := hide ((unhide LL).on hY1)
        clear hbr1 hY1
        go_wp2_with fail
        refine (plain_any A ca la _ ((unhide HA).fr (unhide LL).fr) (by have := (unhide HQla).1; omega) (tabs_below (unhide HT) (unhide LL).fr.below)).mono ?_
        rintro e Yp1 ⟨rfl, hYp1⟩
        replace LL := hide ((unhide LL).on hYp1)
        clear hYp1
        cases hpa : plV la
        · have HPA := hide hpa
          clear hpa
          go_wp2_with fail
          refine (broken_any A B ca cb la lb _ ((unhide HA).fr (unhide LL).fr) ((unhide HB).fr (unhide LL).fr) (by have := (unhide HQla).1; omega) (by have := (unhide HQlb).1; omega) (tabs_below (unhide HT) (unhide LL).fr.below)).mono ?_
          rintro e Y2 ⟨o2, r2, rfl, hbr2, hY2⟩
          have HBR2 := hide hbr2
          replace LL := hide ((unhide LL).on hY2)
          clear hbr2 hY2
          go_wp2_with fail
          refine (broken_any B C cb cc lb lc _ ((unhide HB).fr (unhide LL).fr) ((unhide HC).fr (unhide LL).fr) (by have := (unhide HQlb).1; omega) (by have := (unhide HQlc).1; omega) (tabs_below (unhide HT) (unhide LL).fr.below)).mono ?_
          rintro e Y3 ⟨o3, r3, rfl, hbr3, hY3⟩
          have HBR3 := hide hbr3
          replace LL := hide ((unhide LL).on hY3)
          clear hbr3 hY3
          go_wp2_with fail
          refine (broken_any A C ca cc la lc _ ((unhide HA).fr (unhide LL).fr) ((unhide HC).fr (unhide LL).fr) (by have := (unhide HQla).1; omega) (by have := (unhide HQlc).1; omega) (tabs_below (unhide HT) (unhide LL).fr.below)).mono ?_
          rintro e Y4 ⟨o4, r4, rfl, hbr4, hY4⟩
          have HBR4 := hide hbr4
          replace LL := hide ((unhide LL).on hY4)
          clear hbr4 hY4
          by_cases h2 : o2 = 0
          · have H2 := hide h2
            have hn2 : (o2 != 0) = false := by simp [h2]
            clear h2
            by_cases h3 : o3 = 0
            · have H3 := hide h3
              have hn3 : (o3 != 0) = false := by simp [h3]
              clear h3
              by_cases h4 : o4 = 0
              · have hn4 : (o4 == 0) = true := by simp [h4]
                clear h4
                go_wp2_with (first | go_skip | ((with_reducible show wpList _ _ _ _ _ _); first | ((refine rd (by rfl) (ex_neI rfl rfl rfl hn2) ?_); simp only [Act.put, List.setIfInBounds_toArray, List.set_cons_succ, List.set_cons_zero]) | ((refine rd (by rfl) (ex_neI rfl rfl rfl hn3) ?_); simp only [Act.put, List.setIfInBounds_toArray, List.set_cons_succ, List.set_cons_zero]) | ((refine rd (by rfl) (ex_eqI rfl rfl rfl hn4) ?_); simp only [Act.put, List.setIfInBounds_toArray, List.set_cons_succ, List.set_cons_zero])))
                go_ret
                exact ⟨by simp, (unhide LL).fr.below⟩
              · have H4 := hide h4
                have hn4 : (o4 == 0) = false := by simp [h4]
                clear h4
                go_wp2_with (first | go_skip | ((with_reducible show wpList _ _ _ _ _ _); first | ((refine rd (by rfl) (ex_neI rfl rfl rfl hn2) ?_); simp only [Act.put, List.setIfInBounds_toArray, List.set_cons_succ, List.set_cons_zero]) | ((refine rd (by rfl) (ex_neI rfl rfl rfl hn3) ?_); simp only [Act.put, List.setIfInBounds_toArray, List.set_cons_succ, List.set_cons_zero]) | ((refine rd (by rfl) (ex_eqI rfl rfl rfl hn4) ?_); simp only [Act.put, List.setIfInBounds_toArray, List.set_cons_succ, List.set_cons_zero])))
                refine (plain_any A ca la _ ((unhide HA).fr (unhide LL).fr) (by have := (unhide HQla).1; omega) (tabs_below (unhide HT) (unhide LL).fr.below)).mono ?_
                rintro e Yp2 ⟨rfl, hYp2⟩
                replace LL := hide ((unhide LL).on hYp2)
                clear hYp2
                rw [unhide HPA]
                go_wp2_with (first | go_skip | ((with_reducible show wpList _ _ _ _ _ _); first | ((refine rd (by rfl) (ex_neI rfl rfl rfl hn2) ?_); simp only [Act.put, List.setIfInBounds_toArray, List.set_cons_succ, List.set_cons_zero]) | ((refine rd (by rfl) (ex_neI rfl rfl rfl hn3) ?_); simp only [Act.put, List.setIfInBounds_toArray, List.set_cons_succ, List.set_cons_zero]) | ((refine rd (by rfl) (ex_eqI rfl rfl rfl hn4) ?_); simp only [Act.put, List.setIfInBounds_toArray, List.set_cons_succ, List.set_cons_zero])))
                go_ret
                exact ⟨by simp, (unhide LL).fr.below⟩
            · have hn3 : (o3 != 0) = true := by simp [h3]
              clear h3
              go_wp2_with (first | go_skip | ((with_reducible show wpList _ _ _ _ _ _); first | ((refine rd (by rfl) (ex_neI rfl rfl rfl hn2) ?_); simp only [Act.put, List.setIfInBounds_toArray, List.set_cons_succ, List.set_cons_zero]) | ((refine rd (by rfl) (ex_neI rfl rfl rfl hn3) ?_); simp only [Act.put, List.setIfInBounds_toArray, List.set_cons_succ, List.set_cons_zero])))
              go_ret
              exact ⟨by simp, (unhide LL).fr.below⟩
          · have hn2 : (o2 != 0) = true := by simp [h2]
            clear h2
            go_wp2_with (first | go_skip | ((with_reducible show wpList _ _ _ _ _ _); first | ((refine rd (by rfl) (ex_neI rfl rfl rfl hn2) ?_); simp only [Act.put, List.setIfInBounds_toArray, List.set_cons_succ, List.set_cons_zero])))
            go_ret
            exact ⟨by simp, (unhide LL).fr.below⟩
        · have HPA := hide hpa
          have ho1 := goes_self hpa (unhide HBR1)
          have hn1 : (o1 != 0) = false := by simp [ho1]
          clear hpa ho1
          go_wp2_with (first | go_skip | ((with_reducible show wpList _ _ _ _ _ _); first | ((refine rd (by rfl) (ex_neI rfl rfl rfl hn1) ?_); simp only [Act.put, List.setIfInBounds_toArray, List.set_cons_succ, List.set_cons_zero])))
          refine (broken_any A B ca cb la lb _ ((unhide HA).fr (unhide LL).fr) ((unhide HB).fr (unhide LL).fr) (by have := (unhide HQla).1; omega) (by have := (unhide HQlb).1; omega) (tabs_below (unhide HT) (unhide LL).fr.below)).mono ?_
          rintro e Y2 ⟨o2, r2, rfl, hbr2, hY2⟩
          have HBR2 := hide hbr2
          replace LL := hide ((unhide LL).on hY2)
          clear hbr2 hY2
          go_wp2_with fail
          refine (broken_any B C cb cc lb lc _ ((unhide HB).fr (unhide LL).fr) ((unhide HC).fr (unhide LL).fr) (by have := (unhide HQlb).1; omega) (by have := (unhide HQlc).1; omega) (tabs_below (unhide HT) (unhide LL).fr.below)).mono ?_
          rintro e Y3 ⟨o3, r3, rfl, hbr3, hY3⟩
          have HBR3 := hide hbr3
          replace LL := hide ((unhide LL).on hY3)
          clear hbr3 hY3
          go_wp2_with fail
          refine (broken_any A C ca cc la lc _ ((unhide HA).fr (unhide LL).fr) ((unhide HC).fr (unhide LL).fr) (by have := (unhide HQla).1; omega) (by have := (unhide HQlc).1; omega) (tabs_below (unhide HT) (unhide LL).fr.below)).mono ?_
          rintro e Y4 ⟨o4, r4, rfl, hbr4, hY4⟩
          have HBR4 := hide hbr4
          replace LL := hide ((unhide LL).on hY4)
          clear hbr4 hY4
          by_cases h2 : o2 = 0
          · have H2 := hide h2
            have hn2 : (o2 != 0) = false := by simp [h2]
            clear h2
            by_cases h3 : o3 = 0
            · have H3 := hide h3
              have hn3 : (o3 != 0) = false := by simp [h3]
              clear h3
              by_cases h4 : o4 = 0
              · have hn4 : (o4 == 0) = true := by simp [h4]
                clear h4
                go_wp2_with (first | go_skip | ((with_reducible show wpList _ _ _ _ _ _); first | ((refine rd (by rfl) (ex_neI rfl rfl rfl hn2) ?_); simp only [Act.put, List.setIfInBounds_toArray, List.set_cons_succ, List.set_cons_zero]) | ((refine rd (by rfl) (ex_neI rfl rfl rfl hn3) ?_); simp only [Act.put, List.setIfInBounds_toArray, List.set_cons_succ, List.set_cons_zero]) | ((refine rd (by rfl) (ex_eqI rfl rfl rfl hn4) ?_); simp only [Act.put, List.setIfInBounds_toArray, List.set_cons_succ, List.set_cons_zero])))
                go_ret
                exact ⟨by simp, (unhide LL).fr.below⟩
              · have H4 := hide h4
                have hn4 : (o4 == 0) = false := by simp [h4]
                clear h4
                go_wp2_with (first | go_skip | ((with_reducible show wpList _ _ _ _ _ _); first | ((refine rd (by rfl) (ex_neI rfl rfl rfl hn2) ?_); simp only [Act.put, List.setIfInBounds_toArray, List.set_cons_succ, List.set_cons_zero]) | ((refine rd (by rfl) (ex_neI rfl rfl rfl hn3) ?_); simp only [Act.put, List.setIfInBounds_toArray, List.set_cons_succ, List.set_cons_zero]) | ((refine rd (by rfl) (ex_eqI rfl rfl rfl hn4) ?_); simp only [Act.put, List.setIfInBounds_toArray, List.set_cons_succ, List.set_cons_zero])))
                refine (plain_any A ca la _ ((unhide HA).fr (unhide LL).fr) (by have := (unhide HQla).1; omega) (tabs_below (unhide HT) (unhide LL).fr.below)).mono ?_
                rintro e Yp2 ⟨rfl, hYp2⟩
                replace LL := hide ((unhide LL).on hYp2)
                clear hYp2
                rw [unhide HPA]
                go_wp2_with (first | go_skip | ((with_reducible show wpList _ _ _ _ _ _); first | ((refine rd (by rfl) (ex_neI rfl rfl rfl hn2) ?_); simp only [Act.put, List.setIfInBounds_toArray, List.set_cons_succ, List.set_cons_zero]) | ((refine rd (by rfl) (ex_neI rfl rfl rfl hn3) ?_); simp only [Act.put, List.setIfInBounds_toArray, List.set_cons_succ, List.set_cons_zero]) | ((refine rd (by rfl) (ex_eqI rfl rfl rfl hn4) ?_); simp only [Act.put, List.setIfInBounds_toArray, List.set_cons_succ, List.set_cons_zero])))
                refine (plain_any B cb lb _ ((unhide HB).fr (unhide LL).fr) (by have := (unhide HQlb).1; omega) (tabs_below (unhide HT) (unhide LL).fr.below)).mono ?_
                rintro e Yp3 ⟨rfl, hYp3⟩
                replace LL := hide ((unhide LL).on hYp3)
                clear hYp3
                cases hpb : plV lb
                · clear hpb
                  go_wp2_with (first | go_skip | ((with_reducible show wpList _ _ _ _ _ _); first | ((refine rd (by rfl) (ex_neI rfl rfl rfl hn2) ?_); simp only [Act.put, List.setIfInBounds_toArray, List.set_cons_succ, List.set_cons_zero]) | ((refine rd (by rfl) (ex_neI rfl rfl rfl hn3) ?_); simp only [Act.put, List.setIfInBounds_toArray, List.set_cons_succ, List.set_cons_zero]) | ((refine rd (by rfl) (ex_eqI rfl rfl rfl hn4) ?_); simp only [Act.put, List.setIfInBounds_toArray, List.set_cons_succ, List.set_cons_zero])))
                  go_ret
                  exact ⟨by simp, (unhide LL).fr.below⟩
                · have HPB := hide hpb
                  clear hpb
                  go_wp2_with (first | go_skip | ((with_reducible show wpList _ _ _ _ _ _); first | ((refine rd (by rfl) (ex_neI rfl rfl rfl hn2) ?_); simp only [Act.put, List.setIfInBounds_toArray, List.set_cons_succ, List.set_cons_zero]) | ((refine rd (by rfl) (ex_neI rfl rfl rfl hn3) ?_); simp only [Act.put, List.setIfInBounds_toArray, List.set_cons_succ, List.set_cons_zero]) | ((refine rd (by rfl) (ex_eqI rfl rfl rfl hn4) ?_); simp only [Act.put, List.setIfInBounds_toArray, List.set_cons_succ, List.set_cons_zero])))
                  refine (plain_any C cc lc _ ((unhide HC).fr (unhide LL).fr) (by have := (unhide HQlc).1; omega) (tabs_below (unhide HT) (unhide LL).fr.below)).mono ?_
                  rintro e Yp4 ⟨rfl, hYp4⟩
                  replace LL := hide ((unhide LL).on hYp4)
                  clear hYp4
                  cases hpc : plV lc
                  · clear hpc
                    go_wp2_with (first | go_skip | ((with_reducible show wpList _ _ _ _ _ _); first | ((refine rd (by rfl) (ex_neI rfl rfl rfl hn2) ?_); simp only [Act.put, List.setIfInBounds_toArray, List.set_cons_succ, List.set_cons_zero]) | ((refine rd (by rfl) (ex_neI rfl rfl rfl hn3) ?_); simp only [Act.put, List.setIfInBounds_toArray, List.set_cons_succ, List.set_cons_zero]) | ((refine rd (by rfl) (ex_eqI rfl rfl rfl hn4) ?_); simp only [Act.put, List.setIfInBounds_toArray, List.set_cons_succ, List.set_cons_zero])))
                    go_ret
                    exact ⟨by simp, (unhide LL).fr.below⟩
                  · exact absurd (goes_on (unhide HPA) (unhide HPB) hpc (unhide HBR2) (unhide HBR3) (unhide HBR4) (unhide H2) (unhide H3)) (unhide H4)
            · have hn3 : (o3 != 0) = true := by simp [h3]
              clear h3
              go_wp2_with (first | go_skip | ((with_reducible show wpList _ _ _ _ _ _); first | ((refine rd (by rfl) (ex_neI rfl rfl rfl hn2) ?_); simp only [Act.put, List.setIfInBounds_toArray, List.set_cons_succ, List.set_cons_zero]) | ((refine rd (by rfl) (ex_neI rfl rfl rfl hn3) ?_); simp only [Act.put, List.setIfInBounds_toArray, List.set_cons_succ, List.set_cons_zero])))
              go_ret
              exact ⟨by simp, (unhide LL).fr.below⟩
          · have hn2 : (o2 != 0) = true := by simp [h2]
            clear h2
            go_wp2_with (first | go_skip | ((with_reducible show wpList _ _ _ _ _ _); first | ((refine rd (by rfl) (ex_neI rfl rfl rfl hn2) ?_); simp only [Act.put, List.setIfInBounds_toArray, List.set_cons_succ, List.set_cons_zero])))
            go_ret
            exact ⟨by simp, (unhide LL).fr.below⟩
end Go.Proofs.YtcflglloopgieaaDoor
