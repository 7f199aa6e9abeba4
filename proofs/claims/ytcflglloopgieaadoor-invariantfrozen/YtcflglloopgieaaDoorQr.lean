import Derived.Test.YtcflglloopgieaaDoorQq

/-! Iw -/
namespace Go.Proofs.YtcflglloopgieaaDoor
open Go Go.Proofs Go.Maps Go.RowKit FM
set_option linter.unusedSimpArgs false
set_option linter.unusedVariables false
set_option maxHeartbeats 1000000
/-- A sealed object: no key more, none fewer. -/
theorem sealed_iff (s : SH) : seV s = true ↔ s.x = false ∧ ∀ p ∈ s.ps, looseP p = false := by
  unfold seV
  simp only [Bool.and_eq_true, Bool.not_eq_true', List.any_eq_false]
  exact ⟨fun h => ⟨h.1, fun p hp => by simpa using h.2 p hp⟩, fun h => ⟨h.1, fun p hp => by simp [h.2 p hp]⟩⟩
theorem frozen_iff (s : SH) : frV s = true ↔ seV s = true ∧ ∀ p ∈ s.ps, chgP p = false := by
  unfold frV
  simp only [Bool.and_eq_true, Bool.not_eq_true', List.any_eq_false]
  exact ⟨fun h => ⟨h.1, fun p hp => by simpa using h.2 p hp⟩, fun h => ⟨h.1, fun p hp => by simp [h.2 p hp]⟩⟩
theorem nodup_le {α : Type} [DecidableEq α] : ∀ {A B : List α}, A.Nodup → A ⊆ B → A.length ≤ B.length
  | [], _, _, _ => Nat.zero_le _
  | x :: A, B, hn, hs => by
    have hx : x ∈ B := hs (by simp)
    obtain ⟨hxA, hnA⟩ := List.nodup_cons.1 hn
    have h2 : A ⊆ B.erase x := fun y hy => by
      have hne : y ≠ x := fun e => hxA (e ▸ hy)
      exact (List.mem_erase_of_ne hne).2 (hs (List.mem_cons_of_mem _ hy))
    have := nodup_le hnA h2
    have hl := List.length_erase_of_mem hx
    have hp : 0 < B.length := List.length_pos_of_mem hx
    simp only [List.length_cons]
    omega
/-- Keys that stand once, and all of them among others: no more of them. -/
theorem keys_le (l : List PR) : ∀ (m : List PR), (∀ (k : Nat) (p : PR), m[k]? = some p → fO m p.k = some k) → (∀ p ∈ m, (fO l p.k).isSome = true) → m.length ≤ l.length := by
  intro m hm hsub
  have hinj : ∀ (i j : Nat) (p q : PR), m[i]? = some p → m[j]? = some q → p.k = q.k → i = j := fun i j p q hi hj e => by
    have h1 := hm i p hi
    have h2 := hm j q hj
    rw [e, h2] at h1
    exact (Option.some.inj h1).symm
  have hex : ∀ i : Fin m.length, ∃ j : Nat, j < l.length ∧ ∃ r, l[j]? = some r ∧ r.k = m[i].k := fun i => by
    obtain ⟨j, hj⟩ := Option.isSome_iff_exists.1 (hsub m[i] (List.getElem_mem i.2))
    obtain ⟨r, hr, hk⟩ := fO_get hj
    exact ⟨j, (List.getElem?_eq_some_iff.1 hr).1, r, hr, hk⟩
  have key : ∀ (n : Nat) (A : List KK), A.length = n → A.Nodup → (∀ k ∈ A, ∃ p ∈ l, p.k = k) → n ≤ l.length := fun n A hA hnd hs => by
    have hsub2 : A ⊆ l.map (·.k) := fun k hk => by
      obtain ⟨p, hp, e⟩ := hs k hk
      exact List.mem_map.2 ⟨p, hp, e⟩
    have := nodup_le hnd hsub2
    rw [List.length_map, hA] at this
    exact this
  refine key m.length (m.map (·.k)) (by simp) ?_ (fun k hk => ?_)
  · refine List.pairwise_iff_getElem.2 fun i j hi hj hij e => ?_
    rw [List.length_map] at hi hj
    have := hinj i j _ _ (List.getElem?_eq_getElem hi) (List.getElem?_eq_getElem hj) (by simpa using e)
    omega
  · obtain ⟨p, hp, rfl⟩ := List.mem_map.1 hk
    obtain ⟨j, hj⟩ := Option.isSome_iff_exists.1 (hsub p hp)
    obtain ⟨r, hr, hk⟩ := fO_get hj
    exact ⟨r, List.mem_of_getElem? hr, hk⟩
/-- What a sealed object keeps. -/
theorem sealed_on {s t : SH} (hs : PlS s) (ht : PlS t) (h : Six s t) (hx : seV s = true) : seV t = true ∧ t.ps.length = s.ps.length ∧ eqB s.p t.p = true ∧ ∀ (k : Nat) (p : PR), s.ps[k]? = some p → ∃ (m : Nat) (r : PR), fO t.ps p.k = some m ∧ t.ps[m]? = some r ∧ r.k = p.k ∧ keptV p.d r.d = true := by
  obtain ⟨h1, h2⟩ := (sealed_iff s).1 hx
  have hall : ∀ (k : Nat) (p : PR), s.ps[k]? = some p → ∃ (m : Nat) (r : PR), fO t.ps p.k = some m ∧ t.ps[m]? = some r ∧ r.k = p.k ∧ keptV p.d r.d = true := fun k p hp => by
    have hl := h2 p (List.mem_of_getElem? hp)
    obtain ⟨m, r, e1, e2, e3, e4⟩ := kept_iff.1 (h.d k p hp (hs k p hp).2 hl)
    exact ⟨m, r, e1, e2, e3, kept_c (hs k p hp).1 (by simpa [looseP] using hl) e4⟩
  have hkeys : ∀ r ∈ t.ps, (fO s.ps r.k).isSome = true := h.k h1
  refine ⟨(sealed_iff t).2 ⟨h.x h1, fun r hr => ?_⟩, Nat.le_antisymm (keys_le s.ps t.ps (fun k p hp => (ht k p hp).2) hkeys) (keys_le t.ps s.ps (fun k p hp => (hs k p hp).2) (fun p hp => ?_)), h.p h1, hall⟩
  · obtain ⟨j, hj⟩ := Option.isSome_iff_exists.1 (hkeys r hr)
    obtain ⟨p, hp, hpk⟩ := fO_get hj
    obtain ⟨m, q, e1, e2, e3, e4⟩ := hall j p hp
    obtain ⟨n, hn⟩ := List.getElem?_of_mem hr
    have hrn := (ht n r hn).2
    rw [← hpk, e1] at hrn
    obtain rfl := Option.some.inj hrn
    rw [hn] at e2
    cases e2
    simp [looseP, kept_c1 e4]
  · obtain ⟨k, hk⟩ := List.getElem?_of_mem hp
    obtain ⟨m, q, e1, _⟩ := hall k p hk
    rw [e1]
    rfl
theorem kept_un {a b : DD} (h : keptV a b = true) : b.c = 1 ∧ b.e = a.e ∧ shapeV b = shapeV a ∧ (shapeV a = 3 → samV a.g b.g = true ∧ samV a.s b.s = true) ∧ (¬ shapeV a = 3 → a.w = 2 ∨ b.w = 1 ∧ samV a.v b.v = true) := by
  unfold keptV at h
  cases hq : (b.c != 1 || b.e != a.e || shapeV b != shapeV a)
  · rw [hq] at h
    simp only [Bool.or_eq_false_iff, bne_eq_false_iff_eq] at hq
    refine ⟨hq.1.1, hq.1.2, hq.2, fun h3 => ?_, fun h3 => ?_⟩
    · simpa [h3] using h
    · simpa [h3] using h
  · rw [hq] at h
    simp at h
theorem sam_none {a b : VV} (ha : thV a = false) (hb : thV b = false) : samV a b = true := by
  unfold samV
  rw [ha, hb]
  rfl
theorem data_shape {a : DD} (h1 : thV a.g = false) (h2 : thV a.s = false) : ¬ shapeV a = 3 := by
  unfold shapeV
  rw [h1, h2]
  cases (thV a.v || a.w != 0) <;> simp
theorem acc_shape {a : DD} (h1 : thV a.v = false) (h2 : (a.w != 0) = false) (h3 : thV a.g = true) : shapeV a = 3 := by
  unfold shapeV
  rw [h1, h2, h3]
  rfl
theorem sm_of {p r : PR} (ha : wholeV p.d = true) (hb : wholeV r.d = true) (h : keptV p.d r.d = true) (hl : looseP p = false) (hw : chgP p = false) : smB r.d p.d = true ∧ smE r.d p.d = 0 := by
  have hc : p.d.c = 1 := by simpa [looseP] using hl
  obtain ⟨k1, k2, k3, k4, k5⟩ := kept_un h
  obtain ⟨sa, _, _, na⟩ := (whole_iff p.d).1 ha
  obtain ⟨sb, _, _, nb⟩ := (whole_iff r.d).1 hb
  have ka : (kindV p.d == 0) = false := by
    rcases whole_23 ha with e | e <;> rw [e] <;> rfl
  have kb : (kindV r.d == 0) = false := by
    rcases whole_23 hb with e | e <;> rw [e] <;> rfl
  unfold smB smE
  rw [ka, kb]
  refine ⟨?_, rfl⟩
  show samD r.d p.d = true
  unfold samD
  rcases na with ⟨a1, a2, a3, a4⟩ | ⟨a3, a4, a1, a2⟩
  · have hn3 := data_shape a3 a4
    have hg : (p.d.g.k != 0) = false := k_of_none a3
    have hs : (p.d.s.k != 0) = false := k_of_none a4
    have hw1 : p.d.w = 1 := by
      unfold chgP at hw
      simp only [bne_eq_false_iff_eq] at hg hs
      simpa [hg, hs] using hw
    rcases nb with ⟨b1, b2, b3, b4⟩ | ⟨b3, b4, b1, b2⟩
    · rcases k5 hn3 with e | ⟨e1, e2⟩
      · omega
      · rw [sam_symm r.d.v, e2, sam_none b3 a3, sam_none b4 a4, e1, hw1, k2, k1, hc]
        simp
    · exact absurd (k3 ▸ acc_shape b1 b2 b3) hn3
  · have h3 := acc_shape a1 a2 a3
    obtain ⟨e1, e2⟩ := k4 h3
    rcases nb with ⟨b1, b2, b3, b4⟩ | ⟨b3, b4, b1, b2⟩
    · exact absurd (k3.trans h3) (data_shape b3 b4)
    · simp only [bne_eq_false_iff_eq] at a2 b2
      rw [sam_none b1 a1, sam_symm r.d.g, e1, sam_symm r.d.s, e2, a2, b2, k2, k1, hc]
      simp
/-- A frozen object stays frozen. -/
theorem frozen_on {s t : SH} (hs : PlS s) (ht : PlS t) (h : Six s t) (hx : frV s = true) : frV t = true := by
  obtain ⟨hse, hch⟩ := (frozen_iff s).1 hx
  obtain ⟨h1, h2, h3, h4⟩ := sealed_on hs ht h hse
  refine (frozen_iff t).2 ⟨h1, fun r hr => ?_⟩
  obtain ⟨hsx, hlo⟩ := (sealed_iff s).1 hse
  obtain ⟨j, hj⟩ := Option.isSome_iff_exists.1 (h.k hsx r hr)
  obtain ⟨p, hp, hpk⟩ := fO_get hj
  obtain ⟨m, q, e1, e2, e3, e4⟩ := h4 j p hp
  obtain ⟨n, hn⟩ := List.getElem?_of_mem hr
  have hrn := (ht n r hn).2
  rw [← hpk, e1] at hrn
  obtain rfl := Option.some.inj hrn
  rw [hn] at e2
  cases e2
  obtain ⟨k1, k2, k3, k4, k5⟩ := kept_un e4
  have hpc := hch p (List.mem_of_getElem? hp)
  obtain ⟨sa, _, _, na⟩ := (whole_iff p.d).1 (hs j p hp).1
  obtain ⟨sb, _, _, nb⟩ := (whole_iff r.d).1 (ht m r hn).1
  rcases na with ⟨a1, a2, a3, a4⟩ | ⟨a3, a4, a1, a2⟩
  · have hn3 := data_shape a3 a4
    have hg : (p.d.g.k != 0) = false := k_of_none a3
    have hs2 : (p.d.s.k != 0) = false := k_of_none a4
    have hw1 : p.d.w = 1 := by
      unfold chgP at hpc
      simp only [bne_eq_false_iff_eq] at hg hs2
      simpa [hg, hs2] using hpc
    rcases k5 hn3 with e | ⟨e1, e2⟩
    · omega
    · simp [chgP, e1]
  · have h3 := acc_shape a1 a2 a3
    rcases nb with ⟨b1, b2, b3, b4⟩ | ⟨b3, b4, b1, b2⟩
    · exact absurd (k3.trans h3) (data_shape b3 b4)
    · have hg := ((okG sb).1).trans b3
      have : r.d.g.k ≠ 0 := by simpa using hg
      simp [chgP, this]
end Go.Proofs.YtcflglloopgieaaDoor

/-! Ix -/
namespace Go.Proofs.YtcflglloopgieaaDoor
open Go Go.Proofs Go.Maps Go.RowKit FM
set_option linter.unusedSimpArgs false
set_option linter.unusedVariables false
set_option maxHeartbeats 1000000
theorem eqB_symm (a b : VV) (h : eqB a b = true) : eqB b a = true := by
  unfold eqB at *
  simp only [Bool.and_eq_true, Bool.or_eq_true, decide_eq_true_eq, beq_iff_eq] at *
  obtain ⟨⟨⟨⟨a1, a2⟩, a3⟩, a4⟩, a5⟩ := h
  exact ⟨⟨⟨⟨a1.elim (fun e => .inl e.symm) (fun e => .inr ⟨e.2, e.1⟩), a2.symm⟩, a3.symm⟩, a4.symm⟩, a5.symm⟩
theorem ex_ltC {o : Oper} {a : Act} {w : World} {x y : Operand} {n m : Int} (ho : o.op = .binOp .lss 3 x y 3) (hx : a.eval x = .int .i64 n) (hc : a.eval y = .int .i64 m) (h : ¬ n < m) : (execOp a.eval o).run Tryd.prog w = .ok (.value (.bool false)) w := by
  have h2 : decide (n < m) = false := decide_eq_false h
  unfold execOp
  simp only [ho, hx, hc]
  simp [go_sem, eqGuard, h2]
set_option maxHeartbeats 4000000 in
set_option maxRecDepth 100000 in
theorem law_frozen (A B : Option Addr) (ca cb : Nat) (la lb : List SH) (w : World) (hA : ReadsS w A la) (hB : ReadsS w B lb) (hT : Lib.Utf8Tabs 1 2 w) : Calls Tryd.prog 5 #[.slice A la.length ca, .slice B lb.length cb] w fun e w' => e = .returned (.bool true) ∧ Below w.heap.size w w' := by
  have LL := hide (Hq.nil w [])
  have HT := hide hT
  have HA := hide hA
  have HB := hide hB
  clear hT hA hB
  go_enter Tryd.func5, Tryd.ntmps5
  go_wp2_with fail
  refine (works_any _ (tabs_below (unhide HT) (unhide LL).fr.below)).mono ?_
  rintro e Y0 ⟨rfl, hY0⟩
  replace LL := hide ((unhide LL).on hY0)
  clear hY0
  go_wp2_with fail
  refine (few_any A ca la _ ((unhide HA).fr (unhide LL).fr)).mono ?_
  rintro e Yla ⟨qla, rfl, hqla, hYla⟩
  have HQla := hide hqla
  replace LL := hide ((unhide LL).on hYla)
  clear hqla hYla
  cases qla
  · go_wp2
    go_ret
    exact ⟨by simp, (unhide LL).fr.below⟩
  · replace HQla := hide (unhide HQla rfl)
    go_wp2_with fail
    refine (few_any B cb lb _ ((unhide HB).fr (unhide LL).fr)).mono ?_
    rintro e Ylb ⟨qlb, rfl, hqlb, hYlb⟩
    have HQlb := hide hqlb
    replace LL := hide ((unhide LL).on hYlb)
    clear hqlb hYlb
    cases qlb
    · go_wp2
      go_ret
      exact ⟨by simp, (unhide LL).fr.below⟩
    · replace HQlb := hide (unhide HQlb rfl)
      go_wp2_with fail
      refine (plain_any A ca la _ ((unhide HA).fr (unhide LL).fr) (by have := (unhide HQla).1; omega) (tabs_below (unhide HT) (unhide LL).fr.below)).mono ?_
      rintro e Y3 ⟨rfl, hY3⟩
      replace LL := hide ((unhide LL).on hY3)
      clear hY3
      cases hpla : plV la
      · clear hpla
        go_wp2
        go_ret
        exact ⟨by simp, (unhide LL).fr.below⟩
      · have HPla := hide hpla
        clear hpla
        go_wp2_with fail
        refine (plain_any B cb lb _ ((unhide HB).fr (unhide LL).fr) (by have := (unhide HQlb).1; omega) (tabs_below (unhide HT) (unhide LL).fr.below)).mono ?_
        rintro e Y4 ⟨rfl, hY4⟩
        replace LL := hide ((unhide LL).on hY4)
        clear hY4
        cases hplb : plV lb
        · clear hplb
          go_wp2
          go_ret
          exact ⟨by simp, (unhide LL).fr.below⟩
        · have HPlb := hide hplb
          clear hplb
          go_wp2_with fail
          refine (broken_any A B ca cb la lb _ ((unhide HA).fr (unhide LL).fr) ((unhide HB).fr (unhide LL).fr) (by have := (unhide HQla).1; omega) (by have := (unhide HQlb).1; omega) (tabs_below (unhide HT) (unhide LL).fr.below)).mono ?_
          rintro e Y1 ⟨o, ru, rfl, hbr, hY1⟩
          have HBR := hide hbr
          replace LL := hide ((unhide LL).on hY1)
          clear hbr hY1
          go_wp2_with (first | go_skip | ((with_reducible show wpList _ _ _ _ _ _); first | ((refine rd (by rfl) (ex_lenG 22 50 Tryd.underlying22 rfl rfl) ?_); simp only [Act.put, List.setIfInBounds_toArray, List.set_cons_succ, List.set_cons_zero])))
          go_loopg [7] la.length (fun gm s7 wr => ∃ i : Nat, s7 = .int .i64 (i : Nat) ∧ i ≤ la.length ∧ la.length - i ≤ gm ∧ Hid (Hq w wr [] []))
          case atStart => exact ⟨0, rfl, by omega, by omega, LL⟩
          case round =>
            clear LL
            obtain ⟨i, rfl, hil, hgm, LL⟩ := hrel
            by_cases hlt : i < la.length
            · have dlt : decide ((i : Int) < (la.length : Int)) = true := decide_eq_true (by omega)
              have hw1 : IntKind.i64.wrap ((i : Int) + 1) = (i : Int) + 1 := by have := (unhide HQla).1; rw [IntKind.wrap_i64]; omega
              obtain ⟨s, hs⟩ : ∃ s, la[i]? = some s := ⟨_, List.getElem?_eq_getElem hlt⟩
              obtain ⟨hx, hl, b, off, SA, sc, hAe, hb, hrp, hrg⟩ := (unhide HA) i s hs
              have HAe := hide hAe
              have HA2 : Hid (∀ X, Fr w X [] → X.rangeAt b (off + i * 8) (s.cs SA sc)) := hide (fun X hX => rangeAt_fr hrg hb hX)
              have HLT := hide hlt
              have HRP := hide hrp
              have HL := hide hl
              have HX := hide hx
              have HPS := hide (pl_parts (unhide HPla) hs)
              have HSI := hide hs
              have hFB := fun (X : World) (hX : Fr w X []) => frozen_any s SA sc X (hrp.fr hX) hl
              have hSB := fun (X : World) (hX : Fr w X []) => sealed_any s SA sc X (hrp.fr hX) hl
              simp only [sagg] at hFB hSB
              have hfi := frozen_iff s
              clear hAe hb hrg hlt hil hrp hl hx hs
              cases hfz : frV s
              · rw [hfz] at hFB
                cases hse : seV s
                · rw [hse] at hSB
                  by_cases ho : o = 0
                  · have hno : (o != 0) = false := by simp [ho]
                    clear ho hfz hse
                    have HFB := hide hFB
                    have HSB := hide hSB
                    clear hFB hSB hfi
                    go_wp2_with (first | go_skip | ((with_reducible show wpList _ _ _ _ _ _); first | ((refine rd (by rfl) (ex_lenG 22 50 Tryd.underlying22 rfl rfl) ?_); simp only [Act.put, List.setIfInBounds_toArray, List.set_cons_succ, List.set_cons_zero]) | ((refine rd (by rfl) (ex_indexA 22 8 i unSs idSs rfl rfl (unhide HAe) rfl (unhide HLT)) ?_); simp only [Act.put, List.setIfInBounds_toArray, List.set_cons_succ, List.set_cons_zero]) | ((refine rd (by rfl) (ex_loadR (vs := s.cs SA sc) 50 8 rwS szS rfl rfl (unhide HA2 _ (unhide LL).fr) rfl) ?_); simp only [Act.put, List.setIfInBounds_toArray, List.set_cons_succ, List.set_cons_zero]) | ((refine alG 50 (zeroS.cs none 0) (by rfl) rfl (fun w => by kernel_rfl) (Nat.succ_pos _) (show Hq w _ [] [] from unhide LL) ?_); intro X8 B8 hE8 L8 hb8; have hB8 := hide (Nat.le_trans (unhide LL).fr.size (Nat.le_of_eq hE8.symm)); replace LL := hide L8; clear L8 hb8 hE8; simp only [Act.put, List.setIfInBounds_toArray, List.set_cons_succ, List.set_cons_zero]) | ((refine st (vs := s.cs SA sc) 0 50 (by rfl) rfl rfl rfl rfl (shcs_one _ _ _) szS (unhide LL) rfl (by simp [cput, SH.cs, VV.cs, zeroS, zeroV]) (Or.inr (unhide hB8)) ?_); intro X9 L9 hf9 hs9; replace LL := hide L9; clear L9 hf9 hs9; simp only [Act.put, List.setIfInBounds_toArray, List.set_cons_succ, List.set_cons_zero]) | ((refine rd (by rfl) (ex_loadN (vs := s.cs SA sc) 50 8 rwS szS rfl rfl ((unhide LL).get 0 rfl) rfl rfl) ?_); simp only [Act.put, List.setIfInBounds_toArray, List.set_cons_succ, List.set_cons_zero]) | ((refine rd (by rfl) (ex_neI rfl rfl rfl hno) ?_); simp only [Act.put, List.setIfInBounds_toArray, List.set_cons_succ, List.set_cons_zero])))
                    refine (unhide HFB _ (unhide LL).fr).mono ?_
                    rintro e Z9 ⟨rfl, hZ9⟩
                    replace LL := hide ((unhide LL).on hZ9)
                    clear hZ9
                    go_wp2_with (first | go_skip | ((with_reducible show wpList _ _ _ _ _ _); first | ((refine rd (by rfl) (ex_lenG 22 50 Tryd.underlying22 rfl rfl) ?_); simp only [Act.put, List.setIfInBounds_toArray, List.set_cons_succ, List.set_cons_zero]) | ((refine rd (by rfl) (ex_indexA 22 8 i unSs idSs rfl rfl (unhide HAe) rfl (unhide HLT)) ?_); simp only [Act.put, List.setIfInBounds_toArray, List.set_cons_succ, List.set_cons_zero]) | ((refine rd (by rfl) (ex_loadR (vs := s.cs SA sc) 50 8 rwS szS rfl rfl (unhide HA2 _ (unhide LL).fr) rfl) ?_); simp only [Act.put, List.setIfInBounds_toArray, List.set_cons_succ, List.set_cons_zero]) | ((refine alG 50 (zeroS.cs none 0) (by rfl) rfl (fun w => by kernel_rfl) (Nat.succ_pos _) (show Hq w _ [] [] from unhide LL) ?_); intro X8 B8 hE8 L8 hb8; have hB8 := hide (Nat.le_trans (unhide LL).fr.size (Nat.le_of_eq hE8.symm)); replace LL := hide L8; clear L8 hb8 hE8; simp only [Act.put, List.setIfInBounds_toArray, List.set_cons_succ, List.set_cons_zero]) | ((refine st (vs := s.cs SA sc) 0 50 (by rfl) rfl rfl rfl rfl (shcs_one _ _ _) szS (unhide LL) rfl (by simp [cput, SH.cs, VV.cs, zeroS, zeroV]) (Or.inr (unhide hB8)) ?_); intro X9 L9 hf9 hs9; replace LL := hide L9; clear L9 hf9 hs9; simp only [Act.put, List.setIfInBounds_toArray, List.set_cons_succ, List.set_cons_zero]) | ((refine rd (by rfl) (ex_loadN (vs := s.cs SA sc) 50 8 rwS szS rfl rfl ((unhide LL).get 0 rfl) rfl rfl) ?_); simp only [Act.put, List.setIfInBounds_toArray, List.set_cons_succ, List.set_cons_zero]) | ((refine rd (by rfl) (ex_neI rfl rfl rfl hno) ?_); simp only [Act.put, List.setIfInBounds_toArray, List.set_cons_succ, List.set_cons_zero])))
                    refine (unhide HSB _ (unhide LL).fr).mono ?_
                    rintro e Z9 ⟨rfl, hZ9⟩
                    replace LL := hide ((unhide LL).on hZ9)
                    clear hZ9
                    go_wp2_with (first | go_skip | ((with_reducible show wpList _ _ _ _ _ _); first | ((refine rd (by rfl) (ex_lenG 22 50 Tryd.underlying22 rfl rfl) ?_); simp only [Act.put, List.setIfInBounds_toArray, List.set_cons_succ, List.set_cons_zero]) | ((refine rd (by rfl) (ex_indexA 22 8 i unSs idSs rfl rfl (unhide HAe) rfl (unhide HLT)) ?_); simp only [Act.put, List.setIfInBounds_toArray, List.set_cons_succ, List.set_cons_zero]) | ((refine rd (by rfl) (ex_loadR (vs := s.cs SA sc) 50 8 rwS szS rfl rfl (unhide HA2 _ (unhide LL).fr) rfl) ?_); simp only [Act.put, List.setIfInBounds_toArray, List.set_cons_succ, List.set_cons_zero]) | ((refine alG 50 (zeroS.cs none 0) (by rfl) rfl (fun w => by kernel_rfl) (Nat.succ_pos _) (show Hq w _ [] [] from unhide LL) ?_); intro X8 B8 hE8 L8 hb8; have hB8 := hide (Nat.le_trans (unhide LL).fr.size (Nat.le_of_eq hE8.symm)); replace LL := hide L8; clear L8 hb8 hE8; simp only [Act.put, List.setIfInBounds_toArray, List.set_cons_succ, List.set_cons_zero]) | ((refine st (vs := s.cs SA sc) 0 50 (by rfl) rfl rfl rfl rfl (shcs_one _ _ _) szS (unhide LL) rfl (by simp [cput, SH.cs, VV.cs, zeroS, zeroV]) (Or.inr (unhide hB8)) ?_); intro X9 L9 hf9 hs9; replace LL := hide L9; clear L9 hf9 hs9; simp only [Act.put, List.setIfInBounds_toArray, List.set_cons_succ, List.set_cons_zero]) | ((refine rd (by rfl) (ex_loadN (vs := s.cs SA sc) 50 8 rwS szS rfl rfl ((unhide LL).get 0 rfl) rfl rfl) ?_); simp only [Act.put, List.setIfInBounds_toArray, List.set_cons_succ, List.set_cons_zero]) | ((refine rd (by rfl) (ex_neI rfl rfl rfl hno) ?_); simp only [Act.put, List.setIfInBounds_toArray, List.set_cons_succ, List.set_cons_zero])))
                    replace LL := hide (Hq.left (L := []) (unhide LL))
                    go_roundg (la.length - (i + 1))
                    case measure => have := unhide HLT; omega
                    case rel => exact ⟨i + 1, by go_num, by have := unhide HLT; omega, by omega, LL⟩
                  · have hno : (o != 0) = true := by simp [ho]
                    clear ho hfz hse
                    have HFB := hide hFB
                    have HSB := hide hSB
                    clear hFB hSB hfi
                    go_wp2_with (first | go_skip | ((with_reducible show wpList _ _ _ _ _ _); first | ((refine rd (by rfl) (ex_lenG 22 50 Tryd.underlying22 rfl rfl) ?_); simp only [Act.put, List.setIfInBounds_toArray, List.set_cons_succ, List.set_cons_zero]) | ((refine rd (by rfl) (ex_indexA 22 8 i unSs idSs rfl rfl (unhide HAe) rfl (unhide HLT)) ?_); simp only [Act.put, List.setIfInBounds_toArray, List.set_cons_succ, List.set_cons_zero]) | ((refine rd (by rfl) (ex_loadR (vs := s.cs SA sc) 50 8 rwS szS rfl rfl (unhide HA2 _ (unhide LL).fr) rfl) ?_); simp only [Act.put, List.setIfInBounds_toArray, List.set_cons_succ, List.set_cons_zero]) | ((refine alG 50 (zeroS.cs none 0) (by rfl) rfl (fun w => by kernel_rfl) (Nat.succ_pos _) (show Hq w _ [] [] from unhide LL) ?_); intro X8 B8 hE8 L8 hb8; have hB8 := hide (Nat.le_trans (unhide LL).fr.size (Nat.le_of_eq hE8.symm)); replace LL := hide L8; clear L8 hb8 hE8; simp only [Act.put, List.setIfInBounds_toArray, List.set_cons_succ, List.set_cons_zero]) | ((refine st (vs := s.cs SA sc) 0 50 (by rfl) rfl rfl rfl rfl (shcs_one _ _ _) szS (unhide LL) rfl (by simp [cput, SH.cs, VV.cs, zeroS, zeroV]) (Or.inr (unhide hB8)) ?_); intro X9 L9 hf9 hs9; replace LL := hide L9; clear L9 hf9 hs9; simp only [Act.put, List.setIfInBounds_toArray, List.set_cons_succ, List.set_cons_zero]) | ((refine rd (by rfl) (ex_loadN (vs := s.cs SA sc) 50 8 rwS szS rfl rfl ((unhide LL).get 0 rfl) rfl rfl) ?_); simp only [Act.put, List.setIfInBounds_toArray, List.set_cons_succ, List.set_cons_zero]) | ((refine rd (by rfl) (ex_neI rfl rfl rfl hno) ?_); simp only [Act.put, List.setIfInBounds_toArray, List.set_cons_succ, List.set_cons_zero])))
                    refine (unhide HFB _ (unhide LL).fr).mono ?_
                    rintro e Z9 ⟨rfl, hZ9⟩
                    replace LL := hide ((unhide LL).on hZ9)
                    clear hZ9
                    go_wp2_with (first | go_skip | ((with_reducible show wpList _ _ _ _ _ _); first | ((refine rd (by rfl) (ex_lenG 22 50 Tryd.underlying22 rfl rfl) ?_); simp only [Act.put, List.setIfInBounds_toArray, List.set_cons_succ, List.set_cons_zero]) | ((refine rd (by rfl) (ex_indexA 22 8 i unSs idSs rfl rfl (unhide HAe) rfl (unhide HLT)) ?_); simp only [Act.put, List.setIfInBounds_toArray, List.set_cons_succ, List.set_cons_zero]) | ((refine rd (by rfl) (ex_loadR (vs := s.cs SA sc) 50 8 rwS szS rfl rfl (unhide HA2 _ (unhide LL).fr) rfl) ?_); simp only [Act.put, List.setIfInBounds_toArray, List.set_cons_succ, List.set_cons_zero]) | ((refine alG 50 (zeroS.cs none 0) (by rfl) rfl (fun w => by kernel_rfl) (Nat.succ_pos _) (show Hq w _ [] [] from unhide LL) ?_); intro X8 B8 hE8 L8 hb8; have hB8 := hide (Nat.le_trans (unhide LL).fr.size (Nat.le_of_eq hE8.symm)); replace LL := hide L8; clear L8 hb8 hE8; simp only [Act.put, List.setIfInBounds_toArray, List.set_cons_succ, List.set_cons_zero]) | ((refine st (vs := s.cs SA sc) 0 50 (by rfl) rfl rfl rfl rfl (shcs_one _ _ _) szS (unhide LL) rfl (by simp [cput, SH.cs, VV.cs, zeroS, zeroV]) (Or.inr (unhide hB8)) ?_); intro X9 L9 hf9 hs9; replace LL := hide L9; clear L9 hf9 hs9; simp only [Act.put, List.setIfInBounds_toArray, List.set_cons_succ, List.set_cons_zero]) | ((refine rd (by rfl) (ex_loadN (vs := s.cs SA sc) 50 8 rwS szS rfl rfl ((unhide LL).get 0 rfl) rfl rfl) ?_); simp only [Act.put, List.setIfInBounds_toArray, List.set_cons_succ, List.set_cons_zero]) | ((refine rd (by rfl) (ex_neI rfl rfl rfl hno) ?_); simp only [Act.put, List.setIfInBounds_toArray, List.set_cons_succ, List.set_cons_zero])))
                    replace LL := hide (Hq.left (L := []) (unhide LL))
                    go_roundg (la.length - (i + 1))
                    case measure => have := unhide HLT; omega
                    case rel => exact ⟨i + 1, by go_num, by have := unhide HLT; omega, by omega, LL⟩
                · rw [hse] at hSB
                  have HSE := hide hse
                  by_cases ho : o = 0
                  · have HO := hide ho
                    have hno : (o != 0) = false := by simp [ho]
                    clear ho hfz hse
                    have HFB := hide hFB
                    have HSB := hide hSB
                    clear hFB hSB hfi
                    go_wp2_with (first | go_skip | ((with_reducible show wpList _ _ _ _ _ _); first | ((refine rd (by rfl) (ex_lenG 22 50 Tryd.underlying22 rfl rfl) ?_); simp only [Act.put, List.setIfInBounds_toArray, List.set_cons_succ, List.set_cons_zero]) | ((refine rd (by rfl) (ex_indexA 22 8 i unSs idSs rfl rfl (unhide HAe) rfl (unhide HLT)) ?_); simp only [Act.put, List.setIfInBounds_toArray, List.set_cons_succ, List.set_cons_zero]) | ((refine rd (by rfl) (ex_loadR (vs := s.cs SA sc) 50 8 rwS szS rfl rfl (unhide HA2 _ (unhide LL).fr) rfl) ?_); simp only [Act.put, List.setIfInBounds_toArray, List.set_cons_succ, List.set_cons_zero]) | ((refine alG 50 (zeroS.cs none 0) (by rfl) rfl (fun w => by kernel_rfl) (Nat.succ_pos _) (show Hq w _ [] [] from unhide LL) ?_); intro X8 B8 hE8 L8 hb8; have hB8 := hide (Nat.le_trans (unhide LL).fr.size (Nat.le_of_eq hE8.symm)); replace LL := hide L8; clear L8 hb8 hE8; simp only [Act.put, List.setIfInBounds_toArray, List.set_cons_succ, List.set_cons_zero]) | ((refine st (vs := s.cs SA sc) 0 50 (by rfl) rfl rfl rfl rfl (shcs_one _ _ _) szS (unhide LL) rfl (by simp [cput, SH.cs, VV.cs, zeroS, zeroV]) (Or.inr (unhide hB8)) ?_); intro X9 L9 hf9 hs9; replace LL := hide L9; clear L9 hf9 hs9; simp only [Act.put, List.setIfInBounds_toArray, List.set_cons_succ, List.set_cons_zero]) | ((refine rd (by rfl) (ex_loadN (vs := s.cs SA sc) 50 8 rwS szS rfl rfl ((unhide LL).get 0 rfl) rfl rfl) ?_); simp only [Act.put, List.setIfInBounds_toArray, List.set_cons_succ, List.set_cons_zero]) | ((refine rd (by rfl) (ex_neI rfl rfl rfl hno) ?_); simp only [Act.put, List.setIfInBounds_toArray, List.set_cons_succ, List.set_cons_zero])))
                    refine (unhide HFB _ (unhide LL).fr).mono ?_
                    rintro e Z9 ⟨rfl, hZ9⟩
                    replace LL := hide ((unhide LL).on hZ9)
                    clear hZ9
                    go_wp2_with (first | go_skip | ((with_reducible show wpList _ _ _ _ _ _); first | ((refine rd (by rfl) (ex_lenG 22 50 Tryd.underlying22 rfl rfl) ?_); simp only [Act.put, List.setIfInBounds_toArray, List.set_cons_succ, List.set_cons_zero]) | ((refine rd (by rfl) (ex_indexA 22 8 i unSs idSs rfl rfl (unhide HAe) rfl (unhide HLT)) ?_); simp only [Act.put, List.setIfInBounds_toArray, List.set_cons_succ, List.set_cons_zero]) | ((refine rd (by rfl) (ex_loadR (vs := s.cs SA sc) 50 8 rwS szS rfl rfl (unhide HA2 _ (unhide LL).fr) rfl) ?_); simp only [Act.put, List.setIfInBounds_toArray, List.set_cons_succ, List.set_cons_zero]) | ((refine alG 50 (zeroS.cs none 0) (by rfl) rfl (fun w => by kernel_rfl) (Nat.succ_pos _) (show Hq w _ [] [] from unhide LL) ?_); intro X8 B8 hE8 L8 hb8; have hB8 := hide (Nat.le_trans (unhide LL).fr.size (Nat.le_of_eq hE8.symm)); replace LL := hide L8; clear L8 hb8 hE8; simp only [Act.put, List.setIfInBounds_toArray, List.set_cons_succ, List.set_cons_zero]) | ((refine st (vs := s.cs SA sc) 0 50 (by rfl) rfl rfl rfl rfl (shcs_one _ _ _) szS (unhide LL) rfl (by simp [cput, SH.cs, VV.cs, zeroS, zeroV]) (Or.inr (unhide hB8)) ?_); intro X9 L9 hf9 hs9; replace LL := hide L9; clear L9 hf9 hs9; simp only [Act.put, List.setIfInBounds_toArray, List.set_cons_succ, List.set_cons_zero]) | ((refine rd (by rfl) (ex_loadN (vs := s.cs SA sc) 50 8 rwS szS rfl rfl ((unhide LL).get 0 rfl) rfl rfl) ?_); simp only [Act.put, List.setIfInBounds_toArray, List.set_cons_succ, List.set_cons_zero]) | ((refine rd (by rfl) (ex_neI rfl rfl rfl hno) ?_); simp only [Act.put, List.setIfInBounds_toArray, List.set_cons_succ, List.set_cons_zero])))
                    refine (unhide HSB _ (unhide LL).fr).mono ?_
                    rintro e Z9 ⟨rfl, hZ9⟩
                    replace LL := hide ((unhide LL).on hZ9)
                    clear hZ9
                    obtain ⟨t, ht, h6⟩ := noc_six (br_zero (unhide HBR) (unhide HO)) (unhide HSI)
                    obtain ⟨hxt, hlt2, b2, off2, TA, tc, hBe, hb2, hrt, hrg2⟩ := (unhide HB) i t ht
                    have HBe := hide hBe
                    have HB2 : Hid (∀ X, Fr w X [] → X.rangeAt b2 (off2 + i * 8) (t.cs TA tc)) := hide (fun X hX => rangeAt_fr hrg2 hb2 hX)
                    have HLB := hide (List.getElem?_eq_some_iff.1 ht).1
                    have HPT := hide (pl_parts (unhide HPlb) ht)
                    have hon := sealed_on (unhide HPS) (unhide HPT) h6 (unhide HSE)
                    have HON := hide hon
                    have HRT := hide hrt
                    have HLT2 := hide hlt2
                    have hSA := fun (X : World) (hX : Fr w X []) => sealed_any t TA tc X (hrt.fr hX) hlt2
                    simp only [sagg, hon.1] at hSA
                    have HSA := hide hSA
                    have hlen : ((t.ps.length : Int) != (s.ps.length : Int)) = false := by rw [hon.2.1]; simp
                    have hEQ := refEq_any t.p s.p hxt (unhide HX)
                    rw [eqB_symm _ _ hon.2.2.1, vagg, vagg] at hEQ
                    have HEQ := hide hEQ
                    clear ht h6 hxt hlt2 hBe hb2 hrt hrg2 hon hSA hEQ
                    go_wp2_with (first | go_skip | ((with_reducible show wpList _ _ _ _ _ _); first | ((refine rd (by rfl) (ex_lenG 22 50 Tryd.underlying22 rfl rfl) ?_); simp only [Act.put, List.setIfInBounds_toArray, List.set_cons_succ, List.set_cons_zero]) | ((refine rd (by rfl) (ex_loadN (vs := s.cs SA sc) 50 8 rwS szS rfl rfl ((unhide LL).get 0 rfl) rfl rfl) ?_); simp only [Act.put, List.setIfInBounds_toArray, List.set_cons_succ, List.set_cons_zero]) | ((refine rd (by rfl) (ex_neI rfl rfl rfl hno) ?_); simp only [Act.put, List.setIfInBounds_toArray, List.set_cons_succ, List.set_cons_zero]) | ((refine rd (by rfl) (ex_indexA 22 8 i unSs idSs rfl rfl (unhide HBe) rfl (unhide HLB)) ?_); simp only [Act.put, List.setIfInBounds_toArray, List.set_cons_succ, List.set_cons_zero]) | ((refine rd (by rfl) (ex_loadR (vs := t.cs TA tc) 50 8 rwS szS rfl rfl (unhide HB2 _ (unhide LL).fr) rfl) ?_); simp only [Act.put, List.setIfInBounds_toArray, List.set_cons_succ, List.set_cons_zero]) | ((refine alG 50 (zeroS.cs none 0) (by rfl) rfl (fun w => by kernel_rfl) (Nat.succ_pos _) (unhide LL) ?_); intro X10 B9 hE10 L10 hb10; have hB9 := hide (Nat.le_trans (unhide LL).fr.size (Nat.le_of_eq hE10.symm)); replace LL := hide L10; clear L10 hb10 hE10; simp only [Act.put, List.setIfInBounds_toArray, List.set_cons_succ, List.set_cons_zero]) | ((refine st (vs := t.cs TA tc) 1 50 (by rfl) rfl rfl rfl rfl (shcs_one _ _ _) szS (unhide LL) rfl (by simp [cput, SH.cs, VV.cs, zeroS, zeroV]) (Or.inr (unhide hB9)) ?_); intro X11 L11 hf11 hs11; replace LL := hide L11; clear L11 hf11 hs11; simp only [Act.put, List.setIfInBounds_toArray, List.set_cons_succ, List.set_cons_zero]) | ((refine rd (by rfl) (ex_loadN (vs := t.cs TA tc) 50 8 rwS szS rfl rfl ((unhide LL).get 1 rfl) rfl rfl) ?_); simp only [Act.put, List.setIfInBounds_toArray, List.set_cons_succ, List.set_cons_zero]) | ((refine rd (by rfl) (ex_load1 48 Tryd.isAgg48 rfl rfl ((unhide LL).get 1 rfl) rfl) ?_); simp only [Act.put, List.setIfInBounds_toArray, List.set_cons_succ, List.set_cons_zero]) | ((refine rd (by rfl) (ex_load1 48 Tryd.isAgg48 rfl rfl ((unhide LL).get 0 rfl) rfl) ?_); simp only [Act.put, List.setIfInBounds_toArray, List.set_cons_succ, List.set_cons_zero]) | ((refine rd (by rfl) (ex_lenG 48 55 Tryd.underlying48 rfl rfl) ?_); simp only [Act.put, List.setIfInBounds_toArray, List.set_cons_succ, List.set_cons_zero]) | ((refine rd (by rfl) (ex_neI rfl rfl rfl hlen) ?_); simp only [Act.put, List.setIfInBounds_toArray, List.set_cons_succ, List.set_cons_zero]) | ((refine rd (by rfl) (ex_loadN (vs := t.p.cs) 36 5 rwV szV rfl rfl ((unhide LL).get 1 rfl) rfl rfl) ?_); simp only [Act.put, List.setIfInBounds_toArray, List.set_cons_succ, List.set_cons_zero]) | ((refine rd (by rfl) (ex_loadN (vs := s.p.cs) 36 5 rwV szV rfl rfl ((unhide LL).get 0 rfl) rfl rfl) ?_); simp only [Act.put, List.setIfInBounds_toArray, List.set_cons_succ, List.set_cons_zero])))
                    refine (unhide HSA _ (unhide LL).fr).mono ?_
                    rintro e Z9 ⟨rfl, hZ9⟩
                    replace LL := hide ((unhide LL).on hZ9)
                    clear hZ9
                    go_wp2_with (first | go_skip | ((with_reducible show wpList _ _ _ _ _ _); first | ((refine rd (by rfl) (ex_lenG 22 50 Tryd.underlying22 rfl rfl) ?_); simp only [Act.put, List.setIfInBounds_toArray, List.set_cons_succ, List.set_cons_zero]) | ((refine rd (by rfl) (ex_loadN (vs := s.cs SA sc) 50 8 rwS szS rfl rfl ((unhide LL).get 0 rfl) rfl rfl) ?_); simp only [Act.put, List.setIfInBounds_toArray, List.set_cons_succ, List.set_cons_zero]) | ((refine rd (by rfl) (ex_neI rfl rfl rfl hno) ?_); simp only [Act.put, List.setIfInBounds_toArray, List.set_cons_succ, List.set_cons_zero]) | ((refine rd (by rfl) (ex_indexA 22 8 i unSs idSs rfl rfl (unhide HBe) rfl (unhide HLB)) ?_); simp only [Act.put, List.setIfInBounds_toArray, List.set_cons_succ, List.set_cons_zero]) | ((refine rd (by rfl) (ex_loadR (vs := t.cs TA tc) 50 8 rwS szS rfl rfl (unhide HB2 _ (unhide LL).fr) rfl) ?_); simp only [Act.put, List.setIfInBounds_toArray, List.set_cons_succ, List.set_cons_zero]) | ((refine alG 50 (zeroS.cs none 0) (by rfl) rfl (fun w => by kernel_rfl) (Nat.succ_pos _) (unhide LL) ?_); intro X10 B9 hE10 L10 hb10; have hB9 := hide (Nat.le_trans (unhide LL).fr.size (Nat.le_of_eq hE10.symm)); replace LL := hide L10; clear L10 hb10 hE10; simp only [Act.put, List.setIfInBounds_toArray, List.set_cons_succ, List.set_cons_zero]) | ((refine st (vs := t.cs TA tc) 1 50 (by rfl) rfl rfl rfl rfl (shcs_one _ _ _) szS (unhide LL) rfl (by simp [cput, SH.cs, VV.cs, zeroS, zeroV]) (Or.inr (unhide hB9)) ?_); intro X11 L11 hf11 hs11; replace LL := hide L11; clear L11 hf11 hs11; simp only [Act.put, List.setIfInBounds_toArray, List.set_cons_succ, List.set_cons_zero]) | ((refine rd (by rfl) (ex_loadN (vs := t.cs TA tc) 50 8 rwS szS rfl rfl ((unhide LL).get 1 rfl) rfl rfl) ?_); simp only [Act.put, List.setIfInBounds_toArray, List.set_cons_succ, List.set_cons_zero]) | ((refine rd (by rfl) (ex_load1 48 Tryd.isAgg48 rfl rfl ((unhide LL).get 1 rfl) rfl) ?_); simp only [Act.put, List.setIfInBounds_toArray, List.set_cons_succ, List.set_cons_zero]) | ((refine rd (by rfl) (ex_load1 48 Tryd.isAgg48 rfl rfl ((unhide LL).get 0 rfl) rfl) ?_); simp only [Act.put, List.setIfInBounds_toArray, List.set_cons_succ, List.set_cons_zero]) | ((refine rd (by rfl) (ex_lenG 48 55 Tryd.underlying48 rfl rfl) ?_); simp only [Act.put, List.setIfInBounds_toArray, List.set_cons_succ, List.set_cons_zero]) | ((refine rd (by rfl) (ex_neI rfl rfl rfl hlen) ?_); simp only [Act.put, List.setIfInBounds_toArray, List.set_cons_succ, List.set_cons_zero]) | ((refine rd (by rfl) (ex_loadN (vs := t.p.cs) 36 5 rwV szV rfl rfl ((unhide LL).get 1 rfl) rfl rfl) ?_); simp only [Act.put, List.setIfInBounds_toArray, List.set_cons_succ, List.set_cons_zero]) | ((refine rd (by rfl) (ex_loadN (vs := s.p.cs) 36 5 rwV szV rfl rfl ((unhide LL).get 0 rfl) rfl rfl) ?_); simp only [Act.put, List.setIfInBounds_toArray, List.set_cons_succ, List.set_cons_zero])))
                    refine (unhide HFB _ (unhide LL).fr).mono ?_
                    rintro e Z9 ⟨rfl, hZ9⟩
                    replace LL := hide ((unhide LL).on hZ9)
                    clear hZ9
                    go_wp2_with (first | go_skip | ((with_reducible show wpList _ _ _ _ _ _); first | ((refine rd (by rfl) (ex_lenG 22 50 Tryd.underlying22 rfl rfl) ?_); simp only [Act.put, List.setIfInBounds_toArray, List.set_cons_succ, List.set_cons_zero]) | ((refine rd (by rfl) (ex_loadN (vs := s.cs SA sc) 50 8 rwS szS rfl rfl ((unhide LL).get 0 rfl) rfl rfl) ?_); simp only [Act.put, List.setIfInBounds_toArray, List.set_cons_succ, List.set_cons_zero]) | ((refine rd (by rfl) (ex_neI rfl rfl rfl hno) ?_); simp only [Act.put, List.setIfInBounds_toArray, List.set_cons_succ, List.set_cons_zero]) | ((refine rd (by rfl) (ex_indexA 22 8 i unSs idSs rfl rfl (unhide HBe) rfl (unhide HLB)) ?_); simp only [Act.put, List.setIfInBounds_toArray, List.set_cons_succ, List.set_cons_zero]) | ((refine rd (by rfl) (ex_loadR (vs := t.cs TA tc) 50 8 rwS szS rfl rfl (unhide HB2 _ (unhide LL).fr) rfl) ?_); simp only [Act.put, List.setIfInBounds_toArray, List.set_cons_succ, List.set_cons_zero]) | ((refine alG 50 (zeroS.cs none 0) (by rfl) rfl (fun w => by kernel_rfl) (Nat.succ_pos _) (unhide LL) ?_); intro X10 B9 hE10 L10 hb10; have hB9 := hide (Nat.le_trans (unhide LL).fr.size (Nat.le_of_eq hE10.symm)); replace LL := hide L10; clear L10 hb10 hE10; simp only [Act.put, List.setIfInBounds_toArray, List.set_cons_succ, List.set_cons_zero]) | ((refine st (vs := t.cs TA tc) 1 50 (by rfl) rfl rfl rfl rfl (shcs_one _ _ _) szS (unhide LL) rfl (by simp [cput, SH.cs, VV.cs, zeroS, zeroV]) (Or.inr (unhide hB9)) ?_); intro X11 L11 hf11 hs11; replace LL := hide L11; clear L11 hf11 hs11; simp only [Act.put, List.setIfInBounds_toArray, List.set_cons_succ, List.set_cons_zero]) | ((refine rd (by rfl) (ex_loadN (vs := t.cs TA tc) 50 8 rwS szS rfl rfl ((unhide LL).get 1 rfl) rfl rfl) ?_); simp only [Act.put, List.setIfInBounds_toArray, List.set_cons_succ, List.set_cons_zero]) | ((refine rd (by rfl) (ex_load1 48 Tryd.isAgg48 rfl rfl ((unhide LL).get 1 rfl) rfl) ?_); simp only [Act.put, List.setIfInBounds_toArray, List.set_cons_succ, List.set_cons_zero]) | ((refine rd (by rfl) (ex_load1 48 Tryd.isAgg48 rfl rfl ((unhide LL).get 0 rfl) rfl) ?_); simp only [Act.put, List.setIfInBounds_toArray, List.set_cons_succ, List.set_cons_zero]) | ((refine rd (by rfl) (ex_lenG 48 55 Tryd.underlying48 rfl rfl) ?_); simp only [Act.put, List.setIfInBounds_toArray, List.set_cons_succ, List.set_cons_zero]) | ((refine rd (by rfl) (ex_neI rfl rfl rfl hlen) ?_); simp only [Act.put, List.setIfInBounds_toArray, List.set_cons_succ, List.set_cons_zero]) | ((refine rd (by rfl) (ex_loadN (vs := t.p.cs) 36 5 rwV szV rfl rfl ((unhide LL).get 1 rfl) rfl rfl) ?_); simp only [Act.put, List.setIfInBounds_toArray, List.set_cons_succ, List.set_cons_zero]) | ((refine rd (by rfl) (ex_loadN (vs := s.p.cs) 36 5 rwV szV rfl rfl ((unhide LL).get 0 rfl) rfl rfl) ?_); simp only [Act.put, List.setIfInBounds_toArray, List.set_cons_succ, List.set_cons_zero])))
                    refine (unhide HEQ _).mono ?_
                    rintro e Z9 ⟨rfl, hZ9⟩
                    replace LL := hide ((unhide LL).on hZ9)
                    clear hZ9
                    go_wp2_with (first | go_skip | ((with_reducible show wpList _ _ _ _ _ _); first | ((refine rd (by rfl) (ex_lenG 22 50 Tryd.underlying22 rfl rfl) ?_); simp only [Act.put, List.setIfInBounds_toArray, List.set_cons_succ, List.set_cons_zero]) | ((refine rd (by rfl) (ex_loadN (vs := s.cs SA sc) 50 8 rwS szS rfl rfl ((unhide LL).get 0 rfl) rfl rfl) ?_); simp only [Act.put, List.setIfInBounds_toArray, List.set_cons_succ, List.set_cons_zero]) | ((refine rd (by rfl) (ex_neI rfl rfl rfl hno) ?_); simp only [Act.put, List.setIfInBounds_toArray, List.set_cons_succ, List.set_cons_zero]) | ((refine rd (by rfl) (ex_indexA 22 8 i unSs idSs rfl rfl (unhide HBe) rfl (unhide HLB)) ?_); simp only [Act.put, List.setIfInBounds_toArray, List.set_cons_succ, List.set_cons_zero]) | ((refine rd (by rfl) (ex_loadR (vs := t.cs TA tc) 50 8 rwS szS rfl rfl (unhide HB2 _ (unhide LL).fr) rfl) ?_); simp only [Act.put, List.setIfInBounds_toArray, List.set_cons_succ, List.set_cons_zero]) | ((refine alG 50 (zeroS.cs none 0) (by rfl) rfl (fun w => by kernel_rfl) (Nat.succ_pos _) (unhide LL) ?_); intro X10 B9 hE10 L10 hb10; have hB9 := hide (Nat.le_trans (unhide LL).fr.size (Nat.le_of_eq hE10.symm)); replace LL := hide L10; clear L10 hb10 hE10; simp only [Act.put, List.setIfInBounds_toArray, List.set_cons_succ, List.set_cons_zero]) | ((refine st (vs := t.cs TA tc) 1 50 (by rfl) rfl rfl rfl rfl (shcs_one _ _ _) szS (unhide LL) rfl (by simp [cput, SH.cs, VV.cs, zeroS, zeroV]) (Or.inr (unhide hB9)) ?_); intro X11 L11 hf11 hs11; replace LL := hide L11; clear L11 hf11 hs11; simp only [Act.put, List.setIfInBounds_toArray, List.set_cons_succ, List.set_cons_zero]) | ((refine rd (by rfl) (ex_loadN (vs := t.cs TA tc) 50 8 rwS szS rfl rfl ((unhide LL).get 1 rfl) rfl rfl) ?_); simp only [Act.put, List.setIfInBounds_toArray, List.set_cons_succ, List.set_cons_zero]) | ((refine rd (by rfl) (ex_load1 48 Tryd.isAgg48 rfl rfl ((unhide LL).get 1 rfl) rfl) ?_); simp only [Act.put, List.setIfInBounds_toArray, List.set_cons_succ, List.set_cons_zero]) | ((refine rd (by rfl) (ex_load1 48 Tryd.isAgg48 rfl rfl ((unhide LL).get 0 rfl) rfl) ?_); simp only [Act.put, List.setIfInBounds_toArray, List.set_cons_succ, List.set_cons_zero]) | ((refine rd (by rfl) (ex_lenG 48 55 Tryd.underlying48 rfl rfl) ?_); simp only [Act.put, List.setIfInBounds_toArray, List.set_cons_succ, List.set_cons_zero]) | ((refine rd (by rfl) (ex_neI rfl rfl rfl hlen) ?_); simp only [Act.put, List.setIfInBounds_toArray, List.set_cons_succ, List.set_cons_zero]) | ((refine rd (by rfl) (ex_loadN (vs := t.p.cs) 36 5 rwV szV rfl rfl ((unhide LL).get 1 rfl) rfl rfl) ?_); simp only [Act.put, List.setIfInBounds_toArray, List.set_cons_succ, List.set_cons_zero]) | ((refine rd (by rfl) (ex_loadN (vs := s.p.cs) 36 5 rwV szV rfl rfl ((unhide LL).get 0 rfl) rfl rfl) ?_); simp only [Act.put, List.setIfInBounds_toArray, List.set_cons_succ, List.set_cons_zero])))
                    obtain ⟨w2, hw2⟩ : ∃ w2, w2 = wr := ⟨_, rfl⟩
                    subst hw2
                    go_loopg [10] s.ps.length (fun gm s10 wr => ∃ k : Nat, s10 = .int .i64 (k : Nat) ∧ k ≤ s.ps.length ∧ s.ps.length - k ≤ gm ∧ Hid (Hq w wr [] [(B8, s.cs SA sc), (B9, t.cs TA tc)]))
                    case atStart => exact ⟨0, rfl, by omega, by omega, LL⟩
                    case round =>
                      clear LL
                      obtain ⟨k, rfl, hkl, hgm2, LL⟩ := hrel
                      by_cases hkt : k < s.ps.length
                      · have dkt : decide ((k : Int) < (s.ps.length : Int)) = true := decide_eq_true (by omega)
                        have hwk : IntKind.i64.wrap ((k : Int) + 1) = (k : Int) + 1 := by have := unhide HL; rw [IntKind.wrap_i64]; omega
                        obtain ⟨p, hp⟩ : ∃ p, s.ps[k]? = some p := ⟨_, List.getElem?_eq_getElem hkt⟩
                        obtain ⟨m, r, e1, e2, e3, e4⟩ := (unhide HON).2.2.2 k p hp
                        obtain ⟨hokp, b3, off3, hSAe, hb3, hrg3⟩ := (unhide HRP) k p hp
                        obtain ⟨hokr, b4, off4, hTAe, hb4, hrg4⟩ := (unhide HRT) m r e2
                        have hmt : m < t.ps.length := (List.getElem?_eq_some_iff.1 e2).1
                        have HKT := hide hkt
                        have hFI : ∀ X, Fr w X [] → Calls Tryd.prog 19 #[.slice TA t.ps.length tc, .agg p.k.cs.toArray] X fun e X' => e = .returned (.int .i64 (m : Nat)) ∧ Below X.heap.size X X' := fun X hX => by have := find_any TA tc t.ps p.k X ((unhide HRT).fr hX) (unhide HLT2); rw [fI_fO, e1, kagg] at this; exact this
                        have hSM := fun X hT => sameD_any r.d p.d hokr.1 hokp.1 X hT
                        simp only [dagg] at hSM
                        have HH := hide (And.intro hSAe (And.intro hb3 (And.intro hrg3 (And.intro hTAe (And.intro hb4 (And.intro hrg4 (And.intro hmt (And.intro hFI hSM))))))))
                        clear hSAe hb3 hrg3 hTAe hb4 hrg4 hmt hFI hSM e1 e2 e3 e4 hp hkt hkl hokp hokr
                        have HM0 : Hid (¬ ((m : Int) < 0)) := hide (by omega)
                        have hz0 : ((0 : Int) != 0) = false := by decide
                        go_wp2_with (first | go_skip | ((with_reducible show wpList _ _ _ _ _ _); first | ((refine rd (by rfl) (ex_load1 48 Tryd.isAgg48 rfl rfl ((unhide LL).get 0 rfl) rfl) ?_); simp only [Act.put, List.setIfInBounds_toArray, List.set_cons_succ, List.set_cons_zero]) | ((refine rd (by rfl) (ex_lenG 48 55 Tryd.underlying48 rfl rfl) ?_); simp only [Act.put, List.setIfInBounds_toArray, List.set_cons_succ, List.set_cons_zero]) | ((refine rd (by rfl) (ex_loadN (vs := s.cs SA sc) 50 8 rwS szS rfl rfl ((unhide LL).get 0 rfl) rfl rfl) ?_); simp only [Act.put, List.setIfInBounds_toArray, List.set_cons_succ, List.set_cons_zero]) | ((refine rd (by rfl) (ex_ltC rfl rfl rfl (unhide HM0)) ?_); simp only [Act.put, List.setIfInBounds_toArray, List.set_cons_succ, List.set_cons_zero]) | ((refine rd (by rfl) (ex_neI rfl rfl rfl hz0) ?_); simp only [Act.put, List.setIfInBounds_toArray, List.set_cons_succ, List.set_cons_zero])))
                        obtain ⟨hSAe, hb3, hrg3, hTAe, hb4, hrg4, hmt, hFI, hSM⟩ := unhide HH
                        have hq0 : Hq w _ [] [(B8, s.cs SA sc), (B9, t.cs TA tc)] := (unhide LL).drew
                        refine wp_region_held_drew (P := Tryd.prog) (S := fun X => Hq w X [] [(B8, s.cs SA sc), (B9, t.cs TA tc)]) (by kernel_rfl) hq0 (fun hS0 => ?_)
                        refine gsem 0 (some 104) (.pointer (some ⟨B9, 7, none⟩)) rfl (by kernel_rfl) (by kernel_rfl) (by kernel_rfl) (fun _ _ _ h => h) (by kernel_rfl) (by kernel_rfl) (fun _ _ => by kernel_rfl) hq0 ?_
                        simp only [Act.put, List.setIfInBounds_toArray, List.set_cons_succ, List.set_cons_zero]
                        refine gsem 1 (some 105) (.slice TA t.ps.length tc) rfl (by kernel_rfl) (by kernel_rfl) (by kernel_rfl) (fun _ _ _ h => h) (by kernel_rfl) (by kernel_rfl) (fun X hX => ex_load1 48 Tryd.isAgg48 rfl rfl (hX.get 1 rfl) rfl) hq0 ?_
                        simp only [Act.put, List.setIfInBounds_toArray, List.set_cons_succ, List.set_cons_zero]
                        refine gsem 2 (some 106) (.pointer (some ⟨B8, 7, none⟩)) rfl (by kernel_rfl) (by kernel_rfl) (by kernel_rfl) (fun _ _ _ h => h) (by kernel_rfl) (by kernel_rfl) (fun _ _ => by kernel_rfl) hq0 ?_
                        simp only [Act.put, List.setIfInBounds_toArray, List.set_cons_succ, List.set_cons_zero]
                        refine gsem 3 (some 107) (.slice SA s.ps.length sc) rfl (by kernel_rfl) (by kernel_rfl) (by kernel_rfl) (fun _ _ _ h => h) (by kernel_rfl) (by kernel_rfl) (fun X hX => ex_load1 48 Tryd.isAgg48 rfl rfl (hX.get 0 rfl) rfl) hq0 ?_
                        simp only [Act.put, List.setIfInBounds_toArray, List.set_cons_succ, List.set_cons_zero]
                        refine gsem 4 (some 108) (.int .i64 (k : Nat)) rfl (by kernel_rfl) (by kernel_rfl) (by kernel_rfl) (fun _ _ _ h => h) (by kernel_rfl) (by kernel_rfl) (fun _ _ => by kernel_rfl) hq0 ?_
                        simp only [Act.put, List.setIfInBounds_toArray, List.set_cons_succ, List.set_cons_zero]
                        refine gsem 5 (some 109) (.pointer (some ⟨b3, off3 + k * 20, none⟩)) rfl (by kernel_rfl) (by kernel_rfl) (by kernel_rfl) (fun _ _ _ h => h) (by kernel_rfl) (by kernel_rfl) (fun X hX => ex_indexA 48 20 k unPs idPs rfl rfl hSAe rfl (unhide HKT)) hq0 ?_
                        simp only [Act.put, List.setIfInBounds_toArray, List.set_cons_succ, List.set_cons_zero]
                        refine gsem 6 (some 110) (.pointer (some ⟨b3, off3 + k * 20, none⟩)) rfl (by kernel_rfl) (by kernel_rfl) (by kernel_rfl) (fun _ _ _ h => h) (by kernel_rfl) (by kernel_rfl) (fun _ _ => by kernel_rfl) hq0 ?_
                        simp only [Act.put, List.setIfInBounds_toArray, List.set_cons_succ, List.set_cons_zero]
                        refine gsem 7 (some 111) (.agg p.k.cs.toArray) rfl (by kernel_rfl) (by kernel_rfl) (by kernel_rfl) (fun _ _ _ h => h) (by kernel_rfl) (by kernel_rfl) (fun X hX => ex_loadR (vs := p.k.cs) 38 2 rwK szK rfl rfl (range_left (a := p.k.cs) (c := p.d.cs) (rangeAt_fr hrg3 hb3 hX.fr)) rfl) hq0 ?_
                        simp only [Act.put, List.setIfInBounds_toArray, List.set_cons_succ, List.set_cons_zero]
                        refine wpAnyH_ready (rs := [8]) (by kernel_rfl) (by simp) (gcallR 8 (some 112) rfl (by kernel_rfl) (by kernel_rfl) (by kernel_rfl) (hFI _ hq0.fr) ?_ AllReadyH.nil)
                        rintro e Y5 ⟨rfl, hY5⟩
                        have hq05 := Hq.on hq0 hY5
                        refine ⟨_, rfl, hq05, ?_⟩
                        simp only [Act.put, List.setIfInBounds_toArray, List.set_cons_succ, List.set_cons_zero]
                        refine gsem 9 (some 11) (.int .i64 (m : Nat)) rfl (by kernel_rfl) (by kernel_rfl) (by kernel_rfl) (fun _ _ _ h => h) (by kernel_rfl) (by kernel_rfl) (fun _ _ => by kernel_rfl) hq05 ?_
                        simp only [Act.put, List.setIfInBounds_toArray, List.set_cons_succ, List.set_cons_zero]
                        refine wpAnyH_done (by kernel_rfl) ?_ _
                        try simp only [Act.put, List.setIfInBounds_toArray, List.set_cons_succ, List.set_cons_zero]
                        replace LL := hide hq05
                        clear hq0 hq05 hS0 hY5
                        clear hSAe hb3 hrg3 hTAe hb4 hrg4 hmt hFI hSM
                        go_wp2_with (first | go_skip | ((with_reducible show wpList _ _ _ _ _ _); first | ((refine rd (by rfl) (ex_load1 48 Tryd.isAgg48 rfl rfl ((unhide LL).get 0 rfl) rfl) ?_); simp only [Act.put, List.setIfInBounds_toArray, List.set_cons_succ, List.set_cons_zero]) | ((refine rd (by rfl) (ex_lenG 48 55 Tryd.underlying48 rfl rfl) ?_); simp only [Act.put, List.setIfInBounds_toArray, List.set_cons_succ, List.set_cons_zero]) | ((refine rd (by rfl) (ex_loadN (vs := s.cs SA sc) 50 8 rwS szS rfl rfl ((unhide LL).get 0 rfl) rfl rfl) ?_); simp only [Act.put, List.setIfInBounds_toArray, List.set_cons_succ, List.set_cons_zero]) | ((refine rd (by rfl) (ex_ltC rfl rfl rfl (unhide HM0)) ?_); simp only [Act.put, List.setIfInBounds_toArray, List.set_cons_succ, List.set_cons_zero]) | ((refine rd (by rfl) (ex_neI rfl rfl rfl hz0) ?_); simp only [Act.put, List.setIfInBounds_toArray, List.set_cons_succ, List.set_cons_zero])))
                        obtain ⟨hSAe, hb3, hrg3, hTAe, hb4, hrg4, hmt, hFI, hSM⟩ := unhide HH
                        have hq0 : Hq w _ [] [(B8, s.cs SA sc), (B9, t.cs TA tc)] := (unhide LL).drew
                        refine wp_region_held_drew (P := Tryd.prog) (S := fun X => Hq w X [] [(B8, s.cs SA sc), (B9, t.cs TA tc)]) (by kernel_rfl) hq0 (fun hS0 => ?_)
                        refine gsem 0 (some 116) (.pointer (some ⟨B9, 7, none⟩)) rfl (by kernel_rfl) (by kernel_rfl) (by kernel_rfl) (fun _ _ _ h => h) (by kernel_rfl) (by kernel_rfl) (fun _ _ => by kernel_rfl) hq0 ?_
                        simp only [Act.put, List.setIfInBounds_toArray, List.set_cons_succ, List.set_cons_zero]
                        refine gsem 1 (some 117) (.slice TA t.ps.length tc) rfl (by kernel_rfl) (by kernel_rfl) (by kernel_rfl) (fun _ _ _ h => h) (by kernel_rfl) (by kernel_rfl) (fun X hX => ex_load1 48 Tryd.isAgg48 rfl rfl (hX.get 1 rfl) rfl) hq0 ?_
                        simp only [Act.put, List.setIfInBounds_toArray, List.set_cons_succ, List.set_cons_zero]
                        refine gsem 2 (some 118) (.int .i64 (m : Nat)) rfl (by kernel_rfl) (by kernel_rfl) (by kernel_rfl) (fun _ _ _ h => h) (by kernel_rfl) (by kernel_rfl) (fun _ _ => by kernel_rfl) hq0 ?_
                        simp only [Act.put, List.setIfInBounds_toArray, List.set_cons_succ, List.set_cons_zero]
                        refine gsem 3 (some 119) (.pointer (some ⟨b4, off4 + m * 20, none⟩)) rfl (by kernel_rfl) (by kernel_rfl) (by kernel_rfl) (fun _ _ _ h => h) (by kernel_rfl) (by kernel_rfl) (fun X hX => ex_indexA 48 20 m unPs idPs rfl rfl hTAe rfl hmt) hq0 ?_
                        simp only [Act.put, List.setIfInBounds_toArray, List.set_cons_succ, List.set_cons_zero]
                        refine gsem 4 (some 120) (.pointer (some ⟨b4, off4 + m * 20 + 2, none⟩)) rfl (by kernel_rfl) (by kernel_rfl) (by kernel_rfl) (fun _ _ _ h => h) (by kernel_rfl) (by kernel_rfl) (fun _ _ => by kernel_rfl) hq0 ?_
                        simp only [Act.put, List.setIfInBounds_toArray, List.set_cons_succ, List.set_cons_zero]
                        refine gsem 5 (some 121) (.agg r.d.cs.toArray) rfl (by kernel_rfl) (by kernel_rfl) (by kernel_rfl) (fun _ _ _ h => h) (by kernel_rfl) (by kernel_rfl) (fun X hX => ex_loadR (vs := r.d.cs) 41 18 rwD szD rfl rfl (range_right (a := r.k.cs) (c := r.d.cs) (rangeAt_fr hrg4 hb4 hX.fr)) rfl) hq0 ?_
                        simp only [Act.put, List.setIfInBounds_toArray, List.set_cons_succ, List.set_cons_zero]
                        refine gsem 6 (some 122) (.pointer (some ⟨B8, 7, none⟩)) rfl (by kernel_rfl) (by kernel_rfl) (by kernel_rfl) (fun _ _ _ h => h) (by kernel_rfl) (by kernel_rfl) (fun _ _ => by kernel_rfl) hq0 ?_
                        simp only [Act.put, List.setIfInBounds_toArray, List.set_cons_succ, List.set_cons_zero]
                        refine gsem 7 (some 123) (.slice SA s.ps.length sc) rfl (by kernel_rfl) (by kernel_rfl) (by kernel_rfl) (fun _ _ _ h => h) (by kernel_rfl) (by kernel_rfl) (fun X hX => ex_load1 48 Tryd.isAgg48 rfl rfl (hX.get 0 rfl) rfl) hq0 ?_
                        simp only [Act.put, List.setIfInBounds_toArray, List.set_cons_succ, List.set_cons_zero]
                        refine gsem 8 (some 124) (.int .i64 (k : Nat)) rfl (by kernel_rfl) (by kernel_rfl) (by kernel_rfl) (fun _ _ _ h => h) (by kernel_rfl) (by kernel_rfl) (fun _ _ => by kernel_rfl) hq0 ?_
                        simp only [Act.put, List.setIfInBounds_toArray, List.set_cons_succ, List.set_cons_zero]
                        refine gsem 9 (some 125) (.pointer (some ⟨b3, off3 + k * 20, none⟩)) rfl (by kernel_rfl) (by kernel_rfl) (by kernel_rfl) (fun _ _ _ h => h) (by kernel_rfl) (by kernel_rfl) (fun X hX => ex_indexA 48 20 k unPs idPs rfl rfl hSAe rfl (unhide HKT)) hq0 ?_
                        simp only [Act.put, List.setIfInBounds_toArray, List.set_cons_succ, List.set_cons_zero]
                        refine gsem 10 (some 126) (.pointer (some ⟨b3, off3 + k * 20 + 2, none⟩)) rfl (by kernel_rfl) (by kernel_rfl) (by kernel_rfl) (fun _ _ _ h => h) (by kernel_rfl) (by kernel_rfl) (fun _ _ => by kernel_rfl) hq0 ?_
                        simp only [Act.put, List.setIfInBounds_toArray, List.set_cons_succ, List.set_cons_zero]
                        refine gsem 11 (some 127) (.agg p.d.cs.toArray) rfl (by kernel_rfl) (by kernel_rfl) (by kernel_rfl) (fun _ _ _ h => h) (by kernel_rfl) (by kernel_rfl) (fun X hX => ex_loadR (vs := p.d.cs) 41 18 rwD szD rfl rfl (range_right (a := p.k.cs) (c := p.d.cs) (rangeAt_fr hrg3 hb3 hX.fr)) rfl) hq0 ?_
                        simp only [Act.put, List.setIfInBounds_toArray, List.set_cons_succ, List.set_cons_zero]
                        refine wpAnyH_ready (rs := [12]) (by kernel_rfl) (by simp) (gcallR 12 (some 128) rfl (by kernel_rfl) (by kernel_rfl) (by kernel_rfl) (hSM _ (tabs_below (unhide HT) hq0.fr.below)) ?_ AllReadyH.nil)
                        rintro e Y6 ⟨rfl, hY6⟩
                        have hq06 := Hq.on hq0 hY6
                        refine ⟨_, rfl, hq06, ?_⟩
                        simp only [Act.put, List.setIfInBounds_toArray, List.set_cons_succ, List.set_cons_zero]
                        refine gsem 13 (some 115) (.tuple #[.bool (smB r.d p.d), .int .i64 (smE r.d p.d)]) rfl (by kernel_rfl) (by kernel_rfl) (by kernel_rfl) (fun _ _ _ h => h) (by kernel_rfl) (by kernel_rfl) (fun _ _ => by kernel_rfl) hq06 ?_
                        simp only [Act.put, List.setIfInBounds_toArray, List.set_cons_succ, List.set_cons_zero]
                        refine gsem 14 (some 129) (.bool (smB r.d p.d)) rfl (by kernel_rfl) (by kernel_rfl) (by kernel_rfl) (fun _ _ _ h => h) (by kernel_rfl) (by kernel_rfl) (fun _ _ => by kernel_rfl) hq06 ?_
                        simp only [Act.put, List.setIfInBounds_toArray, List.set_cons_succ, List.set_cons_zero]
                        refine gsem 15 (some 130) (.int .i64 (smE r.d p.d)) rfl (by kernel_rfl) (by kernel_rfl) (by kernel_rfl) (fun _ _ _ h => h) (by kernel_rfl) (by kernel_rfl) (fun _ _ => by kernel_rfl) hq06 ?_
                        simp only [Act.put, List.setIfInBounds_toArray, List.set_cons_succ, List.set_cons_zero]
                        refine gsem 16 (some 12) (.bool (smB r.d p.d)) rfl (by kernel_rfl) (by kernel_rfl) (by kernel_rfl) (fun _ _ _ h => h) (by kernel_rfl) (by kernel_rfl) (fun _ _ => by kernel_rfl) hq06 ?_
                        simp only [Act.put, List.setIfInBounds_toArray, List.set_cons_succ, List.set_cons_zero]
                        refine gsem 17 (some 13) (.int .i64 (smE r.d p.d)) rfl (by kernel_rfl) (by kernel_rfl) (by kernel_rfl) (fun _ _ _ h => h) (by kernel_rfl) (by kernel_rfl) (fun _ _ => by kernel_rfl) hq06 ?_
                        simp only [Act.put, List.setIfInBounds_toArray, List.set_cons_succ, List.set_cons_zero]
                        refine wpAnyH_done (by kernel_rfl) ?_ _
                        try simp only [Act.put, List.setIfInBounds_toArray, List.set_cons_succ, List.set_cons_zero]
                        replace LL := hide hq06
                        clear hq0 hq06 hS0 hY6
                        clear hSAe hb3 hrg3 hTAe hb4 hrg4 hmt hFI hSM
                        go_wp2_with (first | go_skip | ((with_reducible show wpList _ _ _ _ _ _); first | ((refine rd (by rfl) (ex_load1 48 Tryd.isAgg48 rfl rfl ((unhide LL).get 0 rfl) rfl) ?_); simp only [Act.put, List.setIfInBounds_toArray, List.set_cons_succ, List.set_cons_zero]) | ((refine rd (by rfl) (ex_lenG 48 55 Tryd.underlying48 rfl rfl) ?_); simp only [Act.put, List.setIfInBounds_toArray, List.set_cons_succ, List.set_cons_zero]) | ((refine rd (by rfl) (ex_loadN (vs := s.cs SA sc) 50 8 rwS szS rfl rfl ((unhide LL).get 0 rfl) rfl rfl) ?_); simp only [Act.put, List.setIfInBounds_toArray, List.set_cons_succ, List.set_cons_zero]) | ((refine rd (by rfl) (ex_ltC rfl rfl rfl (unhide HM0)) ?_); simp only [Act.put, List.setIfInBounds_toArray, List.set_cons_succ, List.set_cons_zero]) | ((refine rd (by rfl) (ex_neI rfl rfl rfl hz0) ?_); simp only [Act.put, List.setIfInBounds_toArray, List.set_cons_succ, List.set_cons_zero])))
                        refine (unhide HFB _ (unhide LL).fr).mono ?_
                        rintro e Z9 ⟨rfl, hZ9⟩
                        replace LL := hide ((unhide LL).on hZ9)
                        clear hZ9
                        go_wp2_with (first | go_skip | ((with_reducible show wpList _ _ _ _ _ _); first | ((refine rd (by rfl) (ex_load1 48 Tryd.isAgg48 rfl rfl ((unhide LL).get 0 rfl) rfl) ?_); simp only [Act.put, List.setIfInBounds_toArray, List.set_cons_succ, List.set_cons_zero]) | ((refine rd (by rfl) (ex_lenG 48 55 Tryd.underlying48 rfl rfl) ?_); simp only [Act.put, List.setIfInBounds_toArray, List.set_cons_succ, List.set_cons_zero]) | ((refine rd (by rfl) (ex_loadN (vs := s.cs SA sc) 50 8 rwS szS rfl rfl ((unhide LL).get 0 rfl) rfl rfl) ?_); simp only [Act.put, List.setIfInBounds_toArray, List.set_cons_succ, List.set_cons_zero]) | ((refine rd (by rfl) (ex_ltC rfl rfl rfl (unhide HM0)) ?_); simp only [Act.put, List.setIfInBounds_toArray, List.set_cons_succ, List.set_cons_zero]) | ((refine rd (by rfl) (ex_neI rfl rfl rfl hz0) ?_); simp only [Act.put, List.setIfInBounds_toArray, List.set_cons_succ, List.set_cons_zero])))
                        go_roundg (s.ps.length - (k + 1))
                        case measure => have := unhide HKT; omega
                        case rel => exact ⟨k + 1, by go_num, by have := unhide HKT; omega, by omega, LL⟩
                      · obtain rfl : k = s.ps.length := by omega
                        clear hkt hkl
                        go_wp2_with (first | go_skip | ((with_reducible show wpList _ _ _ _ _ _); first | ((refine rd (by rfl) (ex_load1 48 Tryd.isAgg48 rfl rfl ((unhide LL).get 0 rfl) rfl) ?_); simp only [Act.put, List.setIfInBounds_toArray, List.set_cons_succ, List.set_cons_zero]) | ((refine rd (by rfl) (ex_lenG 48 55 Tryd.underlying48 rfl rfl) ?_); simp only [Act.put, List.setIfInBounds_toArray, List.set_cons_succ, List.set_cons_zero])))
                        replace LL := hide (Hq.left (L := []) (unhide LL))
                        go_roundg (la.length - (i + 1))
                        case measure => have := unhide HLT; omega
                        case rel => exact ⟨i + 1, by go_num, by have := unhide HLT; omega, by omega, LL⟩
                  · have hno : (o != 0) = true := by simp [ho]
                    clear ho hfz hse
                    have HFB := hide hFB
                    have HSB := hide hSB
                    clear hFB hSB hfi
                    go_wp2_with (first | go_skip | ((with_reducible show wpList _ _ _ _ _ _); first | ((refine rd (by rfl) (ex_lenG 22 50 Tryd.underlying22 rfl rfl) ?_); simp only [Act.put, List.setIfInBounds_toArray, List.set_cons_succ, List.set_cons_zero]) | ((refine rd (by rfl) (ex_indexA 22 8 i unSs idSs rfl rfl (unhide HAe) rfl (unhide HLT)) ?_); simp only [Act.put, List.setIfInBounds_toArray, List.set_cons_succ, List.set_cons_zero]) | ((refine rd (by rfl) (ex_loadR (vs := s.cs SA sc) 50 8 rwS szS rfl rfl (unhide HA2 _ (unhide LL).fr) rfl) ?_); simp only [Act.put, List.setIfInBounds_toArray, List.set_cons_succ, List.set_cons_zero]) | ((refine alG 50 (zeroS.cs none 0) (by rfl) rfl (fun w => by kernel_rfl) (Nat.succ_pos _) (show Hq w _ [] [] from unhide LL) ?_); intro X8 B8 hE8 L8 hb8; have hB8 := hide (Nat.le_trans (unhide LL).fr.size (Nat.le_of_eq hE8.symm)); replace LL := hide L8; clear L8 hb8 hE8; simp only [Act.put, List.setIfInBounds_toArray, List.set_cons_succ, List.set_cons_zero]) | ((refine st (vs := s.cs SA sc) 0 50 (by rfl) rfl rfl rfl rfl (shcs_one _ _ _) szS (unhide LL) rfl (by simp [cput, SH.cs, VV.cs, zeroS, zeroV]) (Or.inr (unhide hB8)) ?_); intro X9 L9 hf9 hs9; replace LL := hide L9; clear L9 hf9 hs9; simp only [Act.put, List.setIfInBounds_toArray, List.set_cons_succ, List.set_cons_zero]) | ((refine rd (by rfl) (ex_loadN (vs := s.cs SA sc) 50 8 rwS szS rfl rfl ((unhide LL).get 0 rfl) rfl rfl) ?_); simp only [Act.put, List.setIfInBounds_toArray, List.set_cons_succ, List.set_cons_zero]) | ((refine rd (by rfl) (ex_neI rfl rfl rfl hno) ?_); simp only [Act.put, List.setIfInBounds_toArray, List.set_cons_succ, List.set_cons_zero])))
                    refine (unhide HFB _ (unhide LL).fr).mono ?_
                    rintro e Z9 ⟨rfl, hZ9⟩
                    replace LL := hide ((unhide LL).on hZ9)
                    clear hZ9
                    go_wp2_with (first | go_skip | ((with_reducible show wpList _ _ _ _ _ _); first | ((refine rd (by rfl) (ex_lenG 22 50 Tryd.underlying22 rfl rfl) ?_); simp only [Act.put, List.setIfInBounds_toArray, List.set_cons_succ, List.set_cons_zero]) | ((refine rd (by rfl) (ex_indexA 22 8 i unSs idSs rfl rfl (unhide HAe) rfl (unhide HLT)) ?_); simp only [Act.put, List.setIfInBounds_toArray, List.set_cons_succ, List.set_cons_zero]) | ((refine rd (by rfl) (ex_loadR (vs := s.cs SA sc) 50 8 rwS szS rfl rfl (unhide HA2 _ (unhide LL).fr) rfl) ?_); simp only [Act.put, List.setIfInBounds_toArray, List.set_cons_succ, List.set_cons_zero]) | ((refine alG 50 (zeroS.cs none 0) (by rfl) rfl (fun w => by kernel_rfl) (Nat.succ_pos _) (show Hq w _ [] [] from unhide LL) ?_); intro X8 B8 hE8 L8 hb8; have hB8 := hide (Nat.le_trans (unhide LL).fr.size (Nat.le_of_eq hE8.symm)); replace LL := hide L8; clear L8 hb8 hE8; simp only [Act.put, List.setIfInBounds_toArray, List.set_cons_succ, List.set_cons_zero]) | ((refine st (vs := s.cs SA sc) 0 50 (by rfl) rfl rfl rfl rfl (shcs_one _ _ _) szS (unhide LL) rfl (by simp [cput, SH.cs, VV.cs, zeroS, zeroV]) (Or.inr (unhide hB8)) ?_); intro X9 L9 hf9 hs9; replace LL := hide L9; clear L9 hf9 hs9; simp only [Act.put, List.setIfInBounds_toArray, List.set_cons_succ, List.set_cons_zero]) | ((refine rd (by rfl) (ex_loadN (vs := s.cs SA sc) 50 8 rwS szS rfl rfl ((unhide LL).get 0 rfl) rfl rfl) ?_); simp only [Act.put, List.setIfInBounds_toArray, List.set_cons_succ, List.set_cons_zero]) | ((refine rd (by rfl) (ex_neI rfl rfl rfl hno) ?_); simp only [Act.put, List.setIfInBounds_toArray, List.set_cons_succ, List.set_cons_zero])))
                    replace LL := hide (Hq.left (L := []) (unhide LL))
                    go_roundg (la.length - (i + 1))
                    case measure => have := unhide HLT; omega
                    case rel => exact ⟨i + 1, by go_num, by have := unhide HLT; omega, by omega, LL⟩
              · have HFZ := hide hfz
                have hse : seV s = true := (hfi.1 hfz).1
                have HFZC := hide (hfi.1 hfz).2
                have HFZL := hide ((sealed_iff s).1 hse).2
                have HSE := hide hse
                rw [hfz] at hFB
                rw [hse] at hSB
                by_cases ho : o = 0
                · have HO := hide ho
                  have hno : (o != 0) = false := by simp [ho]
                  clear ho hfz hse
                  have HFB := hide hFB
                  have HSB := hide hSB
                  clear hFB hSB hfi
                  go_wp2_with (first | go_skip | ((with_reducible show wpList _ _ _ _ _ _); first | ((refine rd (by rfl) (ex_lenG 22 50 Tryd.underlying22 rfl rfl) ?_); simp only [Act.put, List.setIfInBounds_toArray, List.set_cons_succ, List.set_cons_zero]) | ((refine rd (by rfl) (ex_indexA 22 8 i unSs idSs rfl rfl (unhide HAe) rfl (unhide HLT)) ?_); simp only [Act.put, List.setIfInBounds_toArray, List.set_cons_succ, List.set_cons_zero]) | ((refine rd (by rfl) (ex_loadR (vs := s.cs SA sc) 50 8 rwS szS rfl rfl (unhide HA2 _ (unhide LL).fr) rfl) ?_); simp only [Act.put, List.setIfInBounds_toArray, List.set_cons_succ, List.set_cons_zero]) | ((refine alG 50 (zeroS.cs none 0) (by rfl) rfl (fun w => by kernel_rfl) (Nat.succ_pos _) (show Hq w _ [] [] from unhide LL) ?_); intro X8 B8 hE8 L8 hb8; have hB8 := hide (Nat.le_trans (unhide LL).fr.size (Nat.le_of_eq hE8.symm)); replace LL := hide L8; clear L8 hb8 hE8; simp only [Act.put, List.setIfInBounds_toArray, List.set_cons_succ, List.set_cons_zero]) | ((refine st (vs := s.cs SA sc) 0 50 (by rfl) rfl rfl rfl rfl (shcs_one _ _ _) szS (unhide LL) rfl (by simp [cput, SH.cs, VV.cs, zeroS, zeroV]) (Or.inr (unhide hB8)) ?_); intro X9 L9 hf9 hs9; replace LL := hide L9; clear L9 hf9 hs9; simp only [Act.put, List.setIfInBounds_toArray, List.set_cons_succ, List.set_cons_zero]) | ((refine rd (by rfl) (ex_loadN (vs := s.cs SA sc) 50 8 rwS szS rfl rfl ((unhide LL).get 0 rfl) rfl rfl) ?_); simp only [Act.put, List.setIfInBounds_toArray, List.set_cons_succ, List.set_cons_zero]) | ((refine rd (by rfl) (ex_neI rfl rfl rfl hno) ?_); simp only [Act.put, List.setIfInBounds_toArray, List.set_cons_succ, List.set_cons_zero])))
                  refine (unhide HFB _ (unhide LL).fr).mono ?_
                  rintro e Z9 ⟨rfl, hZ9⟩
                  replace LL := hide ((unhide LL).on hZ9)
                  clear hZ9
                  go_wp2_with (first | go_skip | ((with_reducible show wpList _ _ _ _ _ _); first | ((refine rd (by rfl) (ex_lenG 22 50 Tryd.underlying22 rfl rfl) ?_); simp only [Act.put, List.setIfInBounds_toArray, List.set_cons_succ, List.set_cons_zero]) | ((refine rd (by rfl) (ex_indexA 22 8 i unSs idSs rfl rfl (unhide HAe) rfl (unhide HLT)) ?_); simp only [Act.put, List.setIfInBounds_toArray, List.set_cons_succ, List.set_cons_zero]) | ((refine rd (by rfl) (ex_loadR (vs := s.cs SA sc) 50 8 rwS szS rfl rfl (unhide HA2 _ (unhide LL).fr) rfl) ?_); simp only [Act.put, List.setIfInBounds_toArray, List.set_cons_succ, List.set_cons_zero]) | ((refine alG 50 (zeroS.cs none 0) (by rfl) rfl (fun w => by kernel_rfl) (Nat.succ_pos _) (show Hq w _ [] [] from unhide LL) ?_); intro X8 B8 hE8 L8 hb8; have hB8 := hide (Nat.le_trans (unhide LL).fr.size (Nat.le_of_eq hE8.symm)); replace LL := hide L8; clear L8 hb8 hE8; simp only [Act.put, List.setIfInBounds_toArray, List.set_cons_succ, List.set_cons_zero]) | ((refine st (vs := s.cs SA sc) 0 50 (by rfl) rfl rfl rfl rfl (shcs_one _ _ _) szS (unhide LL) rfl (by simp [cput, SH.cs, VV.cs, zeroS, zeroV]) (Or.inr (unhide hB8)) ?_); intro X9 L9 hf9 hs9; replace LL := hide L9; clear L9 hf9 hs9; simp only [Act.put, List.setIfInBounds_toArray, List.set_cons_succ, List.set_cons_zero]) | ((refine rd (by rfl) (ex_loadN (vs := s.cs SA sc) 50 8 rwS szS rfl rfl ((unhide LL).get 0 rfl) rfl rfl) ?_); simp only [Act.put, List.setIfInBounds_toArray, List.set_cons_succ, List.set_cons_zero]) | ((refine rd (by rfl) (ex_neI rfl rfl rfl hno) ?_); simp only [Act.put, List.setIfInBounds_toArray, List.set_cons_succ, List.set_cons_zero])))
                  refine (unhide HSB _ (unhide LL).fr).mono ?_
                  rintro e Z9 ⟨rfl, hZ9⟩
                  replace LL := hide ((unhide LL).on hZ9)
                  clear hZ9
                  go_wp2_with (first | go_skip | ((with_reducible show wpList _ _ _ _ _ _); first | ((refine rd (by rfl) (ex_lenG 22 50 Tryd.underlying22 rfl rfl) ?_); simp only [Act.put, List.setIfInBounds_toArray, List.set_cons_succ, List.set_cons_zero]) | ((refine rd (by rfl) (ex_indexA 22 8 i unSs idSs rfl rfl (unhide HAe) rfl (unhide HLT)) ?_); simp only [Act.put, List.setIfInBounds_toArray, List.set_cons_succ, List.set_cons_zero]) | ((refine rd (by rfl) (ex_loadR (vs := s.cs SA sc) 50 8 rwS szS rfl rfl (unhide HA2 _ (unhide LL).fr) rfl) ?_); simp only [Act.put, List.setIfInBounds_toArray, List.set_cons_succ, List.set_cons_zero]) | ((refine alG 50 (zeroS.cs none 0) (by rfl) rfl (fun w => by kernel_rfl) (Nat.succ_pos _) (show Hq w _ [] [] from unhide LL) ?_); intro X8 B8 hE8 L8 hb8; have hB8 := hide (Nat.le_trans (unhide LL).fr.size (Nat.le_of_eq hE8.symm)); replace LL := hide L8; clear L8 hb8 hE8; simp only [Act.put, List.setIfInBounds_toArray, List.set_cons_succ, List.set_cons_zero]) | ((refine st (vs := s.cs SA sc) 0 50 (by rfl) rfl rfl rfl rfl (shcs_one _ _ _) szS (unhide LL) rfl (by simp [cput, SH.cs, VV.cs, zeroS, zeroV]) (Or.inr (unhide hB8)) ?_); intro X9 L9 hf9 hs9; replace LL := hide L9; clear L9 hf9 hs9; simp only [Act.put, List.setIfInBounds_toArray, List.set_cons_succ, List.set_cons_zero]) | ((refine rd (by rfl) (ex_loadN (vs := s.cs SA sc) 50 8 rwS szS rfl rfl ((unhide LL).get 0 rfl) rfl rfl) ?_); simp only [Act.put, List.setIfInBounds_toArray, List.set_cons_succ, List.set_cons_zero]) | ((refine rd (by rfl) (ex_neI rfl rfl rfl hno) ?_); simp only [Act.put, List.setIfInBounds_toArray, List.set_cons_succ, List.set_cons_zero])))
                  refine (unhide HSB _ (unhide LL).fr).mono ?_
                  rintro e Z9 ⟨rfl, hZ9⟩
                  replace LL := hide ((unhide LL).on hZ9)
                  clear hZ9
                  obtain ⟨t, ht, h6⟩ := noc_six (br_zero (unhide HBR) (unhide HO)) (unhide HSI)
                  obtain ⟨hxt, hlt2, b2, off2, TA, tc, hBe, hb2, hrt, hrg2⟩ := (unhide HB) i t ht
                  have HBe := hide hBe
                  have HB2 : Hid (∀ X, Fr w X [] → X.rangeAt b2 (off2 + i * 8) (t.cs TA tc)) := hide (fun X hX => rangeAt_fr hrg2 hb2 hX)
                  have HLB := hide (List.getElem?_eq_some_iff.1 ht).1
                  have HPT := hide (pl_parts (unhide HPlb) ht)
                  have hon := sealed_on (unhide HPS) (unhide HPT) h6 (unhide HSE)
                  have HON := hide hon
                  have HRT := hide hrt
                  have HLT2 := hide hlt2
                  have hSA := fun (X : World) (hX : Fr w X []) => sealed_any t TA tc X (hrt.fr hX) hlt2
                  simp only [sagg, hon.1] at hSA
                  have HSA := hide hSA
                  have hlen : ((t.ps.length : Int) != (s.ps.length : Int)) = false := by rw [hon.2.1]; simp
                  have hEQ := refEq_any t.p s.p hxt (unhide HX)
                  rw [eqB_symm _ _ hon.2.2.1, vagg, vagg] at hEQ
                  have HEQ := hide hEQ
                  have hFA := fun (X : World) (hX : Fr w X []) => frozen_any t TA tc X (hrt.fr hX) hlt2
                  simp only [sagg, frozen_on (unhide HPS) (unhide HPT) h6 (unhide HFZ)] at hFA
                  have HFA := hide hFA
                  clear hFA
                  clear ht h6 hxt hlt2 hBe hb2 hrt hrg2 hon hSA hEQ
                  go_wp2_with (first | go_skip | ((with_reducible show wpList _ _ _ _ _ _); first | ((refine rd (by rfl) (ex_lenG 22 50 Tryd.underlying22 rfl rfl) ?_); simp only [Act.put, List.setIfInBounds_toArray, List.set_cons_succ, List.set_cons_zero]) | ((refine rd (by rfl) (ex_loadN (vs := s.cs SA sc) 50 8 rwS szS rfl rfl ((unhide LL).get 0 rfl) rfl rfl) ?_); simp only [Act.put, List.setIfInBounds_toArray, List.set_cons_succ, List.set_cons_zero]) | ((refine rd (by rfl) (ex_neI rfl rfl rfl hno) ?_); simp only [Act.put, List.setIfInBounds_toArray, List.set_cons_succ, List.set_cons_zero]) | ((refine rd (by rfl) (ex_indexA 22 8 i unSs idSs rfl rfl (unhide HBe) rfl (unhide HLB)) ?_); simp only [Act.put, List.setIfInBounds_toArray, List.set_cons_succ, List.set_cons_zero]) | ((refine rd (by rfl) (ex_loadR (vs := t.cs TA tc) 50 8 rwS szS rfl rfl (unhide HB2 _ (unhide LL).fr) rfl) ?_); simp only [Act.put, List.setIfInBounds_toArray, List.set_cons_succ, List.set_cons_zero]) | ((refine alG 50 (zeroS.cs none 0) (by rfl) rfl (fun w => by kernel_rfl) (Nat.succ_pos _) (unhide LL) ?_); intro X10 B9 hE10 L10 hb10; have hB9 := hide (Nat.le_trans (unhide LL).fr.size (Nat.le_of_eq hE10.symm)); replace LL := hide L10; clear L10 hb10 hE10; simp only [Act.put, List.setIfInBounds_toArray, List.set_cons_succ, List.set_cons_zero]) | ((refine st (vs := t.cs TA tc) 1 50 (by rfl) rfl rfl rfl rfl (shcs_one _ _ _) szS (unhide LL) rfl (by simp [cput, SH.cs, VV.cs, zeroS, zeroV]) (Or.inr (unhide hB9)) ?_); intro X11 L11 hf11 hs11; replace LL := hide L11; clear L11 hf11 hs11; simp only [Act.put, List.setIfInBounds_toArray, List.set_cons_succ, List.set_cons_zero]) | ((refine rd (by rfl) (ex_loadN (vs := t.cs TA tc) 50 8 rwS szS rfl rfl ((unhide LL).get 1 rfl) rfl rfl) ?_); simp only [Act.put, List.setIfInBounds_toArray, List.set_cons_succ, List.set_cons_zero]) | ((refine rd (by rfl) (ex_load1 48 Tryd.isAgg48 rfl rfl ((unhide LL).get 1 rfl) rfl) ?_); simp only [Act.put, List.setIfInBounds_toArray, List.set_cons_succ, List.set_cons_zero]) | ((refine rd (by rfl) (ex_load1 48 Tryd.isAgg48 rfl rfl ((unhide LL).get 0 rfl) rfl) ?_); simp only [Act.put, List.setIfInBounds_toArray, List.set_cons_succ, List.set_cons_zero]) | ((refine rd (by rfl) (ex_lenG 48 55 Tryd.underlying48 rfl rfl) ?_); simp only [Act.put, List.setIfInBounds_toArray, List.set_cons_succ, List.set_cons_zero]) | ((refine rd (by rfl) (ex_neI rfl rfl rfl hlen) ?_); simp only [Act.put, List.setIfInBounds_toArray, List.set_cons_succ, List.set_cons_zero]) | ((refine rd (by rfl) (ex_loadN (vs := t.p.cs) 36 5 rwV szV rfl rfl ((unhide LL).get 1 rfl) rfl rfl) ?_); simp only [Act.put, List.setIfInBounds_toArray, List.set_cons_succ, List.set_cons_zero]) | ((refine rd (by rfl) (ex_loadN (vs := s.p.cs) 36 5 rwV szV rfl rfl ((unhide LL).get 0 rfl) rfl rfl) ?_); simp only [Act.put, List.setIfInBounds_toArray, List.set_cons_succ, List.set_cons_zero])))
                  refine (unhide HSA _ (unhide LL).fr).mono ?_
                  rintro e Z9 ⟨rfl, hZ9⟩
                  replace LL := hide ((unhide LL).on hZ9)
                  clear hZ9
                  go_wp2_with (first | go_skip | ((with_reducible show wpList _ _ _ _ _ _); first | ((refine rd (by rfl) (ex_lenG 22 50 Tryd.underlying22 rfl rfl) ?_); simp only [Act.put, List.setIfInBounds_toArray, List.set_cons_succ, List.set_cons_zero]) | ((refine rd (by rfl) (ex_loadN (vs := s.cs SA sc) 50 8 rwS szS rfl rfl ((unhide LL).get 0 rfl) rfl rfl) ?_); simp only [Act.put, List.setIfInBounds_toArray, List.set_cons_succ, List.set_cons_zero]) | ((refine rd (by rfl) (ex_neI rfl rfl rfl hno) ?_); simp only [Act.put, List.setIfInBounds_toArray, List.set_cons_succ, List.set_cons_zero]) | ((refine rd (by rfl) (ex_indexA 22 8 i unSs idSs rfl rfl (unhide HBe) rfl (unhide HLB)) ?_); simp only [Act.put, List.setIfInBounds_toArray, List.set_cons_succ, List.set_cons_zero]) | ((refine rd (by rfl) (ex_loadR (vs := t.cs TA tc) 50 8 rwS szS rfl rfl (unhide HB2 _ (unhide LL).fr) rfl) ?_); simp only [Act.put, List.setIfInBounds_toArray, List.set_cons_succ, List.set_cons_zero]) | ((refine alG 50 (zeroS.cs none 0) (by rfl) rfl (fun w => by kernel_rfl) (Nat.succ_pos _) (unhide LL) ?_); intro X10 B9 hE10 L10 hb10; have hB9 := hide (Nat.le_trans (unhide LL).fr.size (Nat.le_of_eq hE10.symm)); replace LL := hide L10; clear L10 hb10 hE10; simp only [Act.put, List.setIfInBounds_toArray, List.set_cons_succ, List.set_cons_zero]) | ((refine st (vs := t.cs TA tc) 1 50 (by rfl) rfl rfl rfl rfl (shcs_one _ _ _) szS (unhide LL) rfl (by simp [cput, SH.cs, VV.cs, zeroS, zeroV]) (Or.inr (unhide hB9)) ?_); intro X11 L11 hf11 hs11; replace LL := hide L11; clear L11 hf11 hs11; simp only [Act.put, List.setIfInBounds_toArray, List.set_cons_succ, List.set_cons_zero]) | ((refine rd (by rfl) (ex_loadN (vs := t.cs TA tc) 50 8 rwS szS rfl rfl ((unhide LL).get 1 rfl) rfl rfl) ?_); simp only [Act.put, List.setIfInBounds_toArray, List.set_cons_succ, List.set_cons_zero]) | ((refine rd (by rfl) (ex_load1 48 Tryd.isAgg48 rfl rfl ((unhide LL).get 1 rfl) rfl) ?_); simp only [Act.put, List.setIfInBounds_toArray, List.set_cons_succ, List.set_cons_zero]) | ((refine rd (by rfl) (ex_load1 48 Tryd.isAgg48 rfl rfl ((unhide LL).get 0 rfl) rfl) ?_); simp only [Act.put, List.setIfInBounds_toArray, List.set_cons_succ, List.set_cons_zero]) | ((refine rd (by rfl) (ex_lenG 48 55 Tryd.underlying48 rfl rfl) ?_); simp only [Act.put, List.setIfInBounds_toArray, List.set_cons_succ, List.set_cons_zero]) | ((refine rd (by rfl) (ex_neI rfl rfl rfl hlen) ?_); simp only [Act.put, List.setIfInBounds_toArray, List.set_cons_succ, List.set_cons_zero]) | ((refine rd (by rfl) (ex_loadN (vs := t.p.cs) 36 5 rwV szV rfl rfl ((unhide LL).get 1 rfl) rfl rfl) ?_); simp only [Act.put, List.setIfInBounds_toArray, List.set_cons_succ, List.set_cons_zero]) | ((refine rd (by rfl) (ex_loadN (vs := s.p.cs) 36 5 rwV szV rfl rfl ((unhide LL).get 0 rfl) rfl rfl) ?_); simp only [Act.put, List.setIfInBounds_toArray, List.set_cons_succ, List.set_cons_zero])))
                  refine (unhide HFB _ (unhide LL).fr).mono ?_
                  rintro e Z9 ⟨rfl, hZ9⟩
                  replace LL := hide ((unhide LL).on hZ9)
                  clear hZ9
                  go_wp2_with (first | go_skip | ((with_reducible show wpList _ _ _ _ _ _); first | ((refine rd (by rfl) (ex_lenG 22 50 Tryd.underlying22 rfl rfl) ?_); simp only [Act.put, List.setIfInBounds_toArray, List.set_cons_succ, List.set_cons_zero]) | ((refine rd (by rfl) (ex_loadN (vs := s.cs SA sc) 50 8 rwS szS rfl rfl ((unhide LL).get 0 rfl) rfl rfl) ?_); simp only [Act.put, List.setIfInBounds_toArray, List.set_cons_succ, List.set_cons_zero]) | ((refine rd (by rfl) (ex_neI rfl rfl rfl hno) ?_); simp only [Act.put, List.setIfInBounds_toArray, List.set_cons_succ, List.set_cons_zero]) | ((refine rd (by rfl) (ex_indexA 22 8 i unSs idSs rfl rfl (unhide HBe) rfl (unhide HLB)) ?_); simp only [Act.put, List.setIfInBounds_toArray, List.set_cons_succ, List.set_cons_zero]) | ((refine rd (by rfl) (ex_loadR (vs := t.cs TA tc) 50 8 rwS szS rfl rfl (unhide HB2 _ (unhide LL).fr) rfl) ?_); simp only [Act.put, List.setIfInBounds_toArray, List.set_cons_succ, List.set_cons_zero]) | ((refine alG 50 (zeroS.cs none 0) (by rfl) rfl (fun w => by kernel_rfl) (Nat.succ_pos _) (unhide LL) ?_); intro X10 B9 hE10 L10 hb10; have hB9 := hide (Nat.le_trans (unhide LL).fr.size (Nat.le_of_eq hE10.symm)); replace LL := hide L10; clear L10 hb10 hE10; simp only [Act.put, List.setIfInBounds_toArray, List.set_cons_succ, List.set_cons_zero]) | ((refine st (vs := t.cs TA tc) 1 50 (by rfl) rfl rfl rfl rfl (shcs_one _ _ _) szS (unhide LL) rfl (by simp [cput, SH.cs, VV.cs, zeroS, zeroV]) (Or.inr (unhide hB9)) ?_); intro X11 L11 hf11 hs11; replace LL := hide L11; clear L11 hf11 hs11; simp only [Act.put, List.setIfInBounds_toArray, List.set_cons_succ, List.set_cons_zero]) | ((refine rd (by rfl) (ex_loadN (vs := t.cs TA tc) 50 8 rwS szS rfl rfl ((unhide LL).get 1 rfl) rfl rfl) ?_); simp only [Act.put, List.setIfInBounds_toArray, List.set_cons_succ, List.set_cons_zero]) | ((refine rd (by rfl) (ex_load1 48 Tryd.isAgg48 rfl rfl ((unhide LL).get 1 rfl) rfl) ?_); simp only [Act.put, List.setIfInBounds_toArray, List.set_cons_succ, List.set_cons_zero]) | ((refine rd (by rfl) (ex_load1 48 Tryd.isAgg48 rfl rfl ((unhide LL).get 0 rfl) rfl) ?_); simp only [Act.put, List.setIfInBounds_toArray, List.set_cons_succ, List.set_cons_zero]) | ((refine rd (by rfl) (ex_lenG 48 55 Tryd.underlying48 rfl rfl) ?_); simp only [Act.put, List.setIfInBounds_toArray, List.set_cons_succ, List.set_cons_zero]) | ((refine rd (by rfl) (ex_neI rfl rfl rfl hlen) ?_); simp only [Act.put, List.setIfInBounds_toArray, List.set_cons_succ, List.set_cons_zero]) | ((refine rd (by rfl) (ex_loadN (vs := t.p.cs) 36 5 rwV szV rfl rfl ((unhide LL).get 1 rfl) rfl rfl) ?_); simp only [Act.put, List.setIfInBounds_toArray, List.set_cons_succ, List.set_cons_zero]) | ((refine rd (by rfl) (ex_loadN (vs := s.p.cs) 36 5 rwV szV rfl rfl ((unhide LL).get 0 rfl) rfl rfl) ?_); simp only [Act.put, List.setIfInBounds_toArray, List.set_cons_succ, List.set_cons_zero])))
                  refine (unhide HFA _ (unhide LL).fr).mono ?_
                  rintro e Z9 ⟨rfl, hZ9⟩
                  replace LL := hide ((unhide LL).on hZ9)
                  clear hZ9
                  go_wp2_with (first | go_skip | ((with_reducible show wpList _ _ _ _ _ _); first | ((refine rd (by rfl) (ex_lenG 22 50 Tryd.underlying22 rfl rfl) ?_); simp only [Act.put, List.setIfInBounds_toArray, List.set_cons_succ, List.set_cons_zero]) | ((refine rd (by rfl) (ex_loadN (vs := s.cs SA sc) 50 8 rwS szS rfl rfl ((unhide LL).get 0 rfl) rfl rfl) ?_); simp only [Act.put, List.setIfInBounds_toArray, List.set_cons_succ, List.set_cons_zero]) | ((refine rd (by rfl) (ex_neI rfl rfl rfl hno) ?_); simp only [Act.put, List.setIfInBounds_toArray, List.set_cons_succ, List.set_cons_zero]) | ((refine rd (by rfl) (ex_indexA 22 8 i unSs idSs rfl rfl (unhide HBe) rfl (unhide HLB)) ?_); simp only [Act.put, List.setIfInBounds_toArray, List.set_cons_succ, List.set_cons_zero]) | ((refine rd (by rfl) (ex_loadR (vs := t.cs TA tc) 50 8 rwS szS rfl rfl (unhide HB2 _ (unhide LL).fr) rfl) ?_); simp only [Act.put, List.setIfInBounds_toArray, List.set_cons_succ, List.set_cons_zero]) | ((refine alG 50 (zeroS.cs none 0) (by rfl) rfl (fun w => by kernel_rfl) (Nat.succ_pos _) (unhide LL) ?_); intro X10 B9 hE10 L10 hb10; have hB9 := hide (Nat.le_trans (unhide LL).fr.size (Nat.le_of_eq hE10.symm)); replace LL := hide L10; clear L10 hb10 hE10; simp only [Act.put, List.setIfInBounds_toArray, List.set_cons_succ, List.set_cons_zero]) | ((refine st (vs := t.cs TA tc) 1 50 (by rfl) rfl rfl rfl rfl (shcs_one _ _ _) szS (unhide LL) rfl (by simp [cput, SH.cs, VV.cs, zeroS, zeroV]) (Or.inr (unhide hB9)) ?_); intro X11 L11 hf11 hs11; replace LL := hide L11; clear L11 hf11 hs11; simp only [Act.put, List.setIfInBounds_toArray, List.set_cons_succ, List.set_cons_zero]) | ((refine rd (by rfl) (ex_loadN (vs := t.cs TA tc) 50 8 rwS szS rfl rfl ((unhide LL).get 1 rfl) rfl rfl) ?_); simp only [Act.put, List.setIfInBounds_toArray, List.set_cons_succ, List.set_cons_zero]) | ((refine rd (by rfl) (ex_load1 48 Tryd.isAgg48 rfl rfl ((unhide LL).get 1 rfl) rfl) ?_); simp only [Act.put, List.setIfInBounds_toArray, List.set_cons_succ, List.set_cons_zero]) | ((refine rd (by rfl) (ex_load1 48 Tryd.isAgg48 rfl rfl ((unhide LL).get 0 rfl) rfl) ?_); simp only [Act.put, List.setIfInBounds_toArray, List.set_cons_succ, List.set_cons_zero]) | ((refine rd (by rfl) (ex_lenG 48 55 Tryd.underlying48 rfl rfl) ?_); simp only [Act.put, List.setIfInBounds_toArray, List.set_cons_succ, List.set_cons_zero]) | ((refine rd (by rfl) (ex_neI rfl rfl rfl hlen) ?_); simp only [Act.put, List.setIfInBounds_toArray, List.set_cons_succ, List.set_cons_zero]) | ((refine rd (by rfl) (ex_loadN (vs := t.p.cs) 36 5 rwV szV rfl rfl ((unhide LL).get 1 rfl) rfl rfl) ?_); simp only [Act.put, List.setIfInBounds_toArray, List.set_cons_succ, List.set_cons_zero]) | ((refine rd (by rfl) (ex_loadN (vs := s.p.cs) 36 5 rwV szV rfl rfl ((unhide LL).get 0 rfl) rfl rfl) ?_); simp only [Act.put, List.setIfInBounds_toArray, List.set_cons_succ, List.set_cons_zero])))
                  refine (unhide HEQ _).mono ?_
                  rintro e Z9 ⟨rfl, hZ9⟩
                  replace LL := hide ((unhide LL).on hZ9)
                  clear hZ9
                  go_wp2_with (first | go_skip | ((with_reducible show wpList _ _ _ _ _ _); first | ((refine rd (by rfl) (ex_lenG 22 50 Tryd.underlying22 rfl rfl) ?_); simp only [Act.put, List.setIfInBounds_toArray, List.set_cons_succ, List.set_cons_zero]) | ((refine rd (by rfl) (ex_loadN (vs := s.cs SA sc) 50 8 rwS szS rfl rfl ((unhide LL).get 0 rfl) rfl rfl) ?_); simp only [Act.put, List.setIfInBounds_toArray, List.set_cons_succ, List.set_cons_zero]) | ((refine rd (by rfl) (ex_neI rfl rfl rfl hno) ?_); simp only [Act.put, List.setIfInBounds_toArray, List.set_cons_succ, List.set_cons_zero]) | ((refine rd (by rfl) (ex_indexA 22 8 i unSs idSs rfl rfl (unhide HBe) rfl (unhide HLB)) ?_); simp only [Act.put, List.setIfInBounds_toArray, List.set_cons_succ, List.set_cons_zero]) | ((refine rd (by rfl) (ex_loadR (vs := t.cs TA tc) 50 8 rwS szS rfl rfl (unhide HB2 _ (unhide LL).fr) rfl) ?_); simp only [Act.put, List.setIfInBounds_toArray, List.set_cons_succ, List.set_cons_zero]) | ((refine alG 50 (zeroS.cs none 0) (by rfl) rfl (fun w => by kernel_rfl) (Nat.succ_pos _) (unhide LL) ?_); intro X10 B9 hE10 L10 hb10; have hB9 := hide (Nat.le_trans (unhide LL).fr.size (Nat.le_of_eq hE10.symm)); replace LL := hide L10; clear L10 hb10 hE10; simp only [Act.put, List.setIfInBounds_toArray, List.set_cons_succ, List.set_cons_zero]) | ((refine st (vs := t.cs TA tc) 1 50 (by rfl) rfl rfl rfl rfl (shcs_one _ _ _) szS (unhide LL) rfl (by simp [cput, SH.cs, VV.cs, zeroS, zeroV]) (Or.inr (unhide hB9)) ?_); intro X11 L11 hf11 hs11; replace LL := hide L11; clear L11 hf11 hs11; simp only [Act.put, List.setIfInBounds_toArray, List.set_cons_succ, List.set_cons_zero]) | ((refine rd (by rfl) (ex_loadN (vs := t.cs TA tc) 50 8 rwS szS rfl rfl ((unhide LL).get 1 rfl) rfl rfl) ?_); simp only [Act.put, List.setIfInBounds_toArray, List.set_cons_succ, List.set_cons_zero]) | ((refine rd (by rfl) (ex_load1 48 Tryd.isAgg48 rfl rfl ((unhide LL).get 1 rfl) rfl) ?_); simp only [Act.put, List.setIfInBounds_toArray, List.set_cons_succ, List.set_cons_zero]) | ((refine rd (by rfl) (ex_load1 48 Tryd.isAgg48 rfl rfl ((unhide LL).get 0 rfl) rfl) ?_); simp only [Act.put, List.setIfInBounds_toArray, List.set_cons_succ, List.set_cons_zero]) | ((refine rd (by rfl) (ex_lenG 48 55 Tryd.underlying48 rfl rfl) ?_); simp only [Act.put, List.setIfInBounds_toArray, List.set_cons_succ, List.set_cons_zero]) | ((refine rd (by rfl) (ex_neI rfl rfl rfl hlen) ?_); simp only [Act.put, List.setIfInBounds_toArray, List.set_cons_succ, List.set_cons_zero]) | ((refine rd (by rfl) (ex_loadN (vs := t.p.cs) 36 5 rwV szV rfl rfl ((unhide LL).get 1 rfl) rfl rfl) ?_); simp only [Act.put, List.setIfInBounds_toArray, List.set_cons_succ, List.set_cons_zero]) | ((refine rd (by rfl) (ex_loadN (vs := s.p.cs) 36 5 rwV szV rfl rfl ((unhide LL).get 0 rfl) rfl rfl) ?_); simp only [Act.put, List.setIfInBounds_toArray, List.set_cons_succ, List.set_cons_zero])))
                  obtain ⟨w2, hw2⟩ : ∃ w2, w2 = wr := ⟨_, rfl⟩
                  subst hw2
                  go_loopg [10] s.ps.length (fun gm s10 wr => ∃ k : Nat, s10 = .int .i64 (k : Nat) ∧ k ≤ s.ps.length ∧ s.ps.length - k ≤ gm ∧ Hid (Hq w wr [] [(B8, s.cs SA sc), (B9, t.cs TA tc)]))
                  case atStart => exact ⟨0, rfl, by omega, by omega, LL⟩
                  case round =>
                    clear LL
                    obtain ⟨k, rfl, hkl, hgm2, LL⟩ := hrel
                    by_cases hkt : k < s.ps.length
                    · have dkt : decide ((k : Int) < (s.ps.length : Int)) = true := decide_eq_true (by omega)
                      have hwk : IntKind.i64.wrap ((k : Int) + 1) = (k : Int) + 1 := by have := unhide HL; rw [IntKind.wrap_i64]; omega
                      obtain ⟨p, hp⟩ : ∃ p, s.ps[k]? = some p := ⟨_, List.getElem?_eq_getElem hkt⟩
                      obtain ⟨m, r, e1, e2, e3, e4⟩ := (unhide HON).2.2.2 k p hp
                      obtain ⟨hokp, b3, off3, hSAe, hb3, hrg3⟩ := (unhide HRP) k p hp
                      obtain ⟨hokr, b4, off4, hTAe, hb4, hrg4⟩ := (unhide HRT) m r e2
                      have hmt : m < t.ps.length := (List.getElem?_eq_some_iff.1 e2).1
                      have HKT := hide hkt
                      have hFI : ∀ X, Fr w X [] → Calls Tryd.prog 19 #[.slice TA t.ps.length tc, .agg p.k.cs.toArray] X fun e X' => e = .returned (.int .i64 (m : Nat)) ∧ Below X.heap.size X X' := fun X hX => by have := find_any TA tc t.ps p.k X ((unhide HRT).fr hX) (unhide HLT2); rw [fI_fO, e1, kagg] at this; exact this
                      have hSM := fun X hT => sameD_any r.d p.d hokr.1 hokp.1 X hT
                      simp only [dagg] at hSM
                      obtain ⟨hs1, hs2⟩ := sm_of ((unhide HPS) k p hp).1 ((unhide HPT) m r e2).1 e4 ((unhide HFZL) p (List.mem_of_getElem? hp)) ((unhide HFZC) p (List.mem_of_getElem? hp))
                      rw [hs1, hs2] at hSM
                      have HH := hide (And.intro hSAe (And.intro hb3 (And.intro hrg3 (And.intro hTAe (And.intro hb4 (And.intro hrg4 (And.intro hmt (And.intro hFI hSM))))))))
                      clear hSAe hb3 hrg3 hTAe hb4 hrg4 hmt hFI hSM e1 e2 e3 e4 hp hkt hkl hokp hokr hs1 hs2
                      have HM0 : Hid (¬ ((m : Int) < 0)) := hide (by omega)
                      have hz0 : ((0 : Int) != 0) = false := by decide
                      go_wp2_with (first | go_skip | ((with_reducible show wpList _ _ _ _ _ _); first | ((refine rd (by rfl) (ex_load1 48 Tryd.isAgg48 rfl rfl ((unhide LL).get 0 rfl) rfl) ?_); simp only [Act.put, List.setIfInBounds_toArray, List.set_cons_succ, List.set_cons_zero]) | ((refine rd (by rfl) (ex_lenG 48 55 Tryd.underlying48 rfl rfl) ?_); simp only [Act.put, List.setIfInBounds_toArray, List.set_cons_succ, List.set_cons_zero]) | ((refine rd (by rfl) (ex_loadN (vs := s.cs SA sc) 50 8 rwS szS rfl rfl ((unhide LL).get 0 rfl) rfl rfl) ?_); simp only [Act.put, List.setIfInBounds_toArray, List.set_cons_succ, List.set_cons_zero]) | ((refine rd (by rfl) (ex_ltC rfl rfl rfl (unhide HM0)) ?_); simp only [Act.put, List.setIfInBounds_toArray, List.set_cons_succ, List.set_cons_zero]) | ((refine rd (by rfl) (ex_neI rfl rfl rfl hz0) ?_); simp only [Act.put, List.setIfInBounds_toArray, List.set_cons_succ, List.set_cons_zero])))
                      obtain ⟨hSAe, hb3, hrg3, hTAe, hb4, hrg4, hmt, hFI, hSM⟩ := unhide HH
                      have hq0 : Hq w _ [] [(B8, s.cs SA sc), (B9, t.cs TA tc)] := (unhide LL).drew
                      refine wp_region_held_drew (P := Tryd.prog) (S := fun X => Hq w X [] [(B8, s.cs SA sc), (B9, t.cs TA tc)]) (by kernel_rfl) hq0 (fun hS0 => ?_)
                      refine gsem 0 (some 104) (.pointer (some ⟨B9, 7, none⟩)) rfl (by kernel_rfl) (by kernel_rfl) (by kernel_rfl) (fun _ _ _ h => h) (by kernel_rfl) (by kernel_rfl) (fun _ _ => by kernel_rfl) hq0 ?_
                      simp only [Act.put, List.setIfInBounds_toArray, List.set_cons_succ, List.set_cons_zero]
                      refine gsem 1 (some 105) (.slice TA t.ps.length tc) rfl (by kernel_rfl) (by kernel_rfl) (by kernel_rfl) (fun _ _ _ h => h) (by kernel_rfl) (by kernel_rfl) (fun X hX => ex_load1 48 Tryd.isAgg48 rfl rfl (hX.get 1 rfl) rfl) hq0 ?_
                      simp only [Act.put, List.setIfInBounds_toArray, List.set_cons_succ, List.set_cons_zero]
                      refine gsem 2 (some 106) (.pointer (some ⟨B8, 7, none⟩)) rfl (by kernel_rfl) (by kernel_rfl) (by kernel_rfl) (fun _ _ _ h => h) (by kernel_rfl) (by kernel_rfl) (fun _ _ => by kernel_rfl) hq0 ?_
                      simp only [Act.put, List.setIfInBounds_toArray, List.set_cons_succ, List.set_cons_zero]
                      refine gsem 3 (some 107) (.slice SA s.ps.length sc) rfl (by kernel_rfl) (by kernel_rfl) (by kernel_rfl) (fun _ _ _ h => h) (by kernel_rfl) (by kernel_rfl) (fun X hX => ex_load1 48 Tryd.isAgg48 rfl rfl (hX.get 0 rfl) rfl) hq0 ?_
                      simp only [Act.put, List.setIfInBounds_toArray, List.set_cons_succ, List.set_cons_zero]
                      refine gsem 4 (some 108) (.int .i64 (k : Nat)) rfl (by kernel_rfl) (by kernel_rfl) (by kernel_rfl) (fun _ _ _ h => h) (by kernel_rfl) (by kernel_rfl) (fun _ _ => by kernel_rfl) hq0 ?_
                      simp only [Act.put, List.setIfInBounds_toArray, List.set_cons_succ, List.set_cons_zero]
                      refine gsem 5 (some 109) (.pointer (some ⟨b3, off3 + k * 20, none⟩)) rfl (by kernel_rfl) (by kernel_rfl) (by kernel_rfl) (fun _ _ _ h => h) (by kernel_rfl) (by kernel_rfl) (fun X hX => ex_indexA 48 20 k unPs idPs rfl rfl hSAe rfl (unhide HKT)) hq0 ?_
                      simp only [Act.put, List.setIfInBounds_toArray, List.set_cons_succ, List.set_cons_zero]
                      refine gsem 6 (some 110) (.pointer (some ⟨b3, off3 + k * 20, none⟩)) rfl (by kernel_rfl) (by kernel_rfl) (by kernel_rfl) (fun _ _ _ h => h) (by kernel_rfl) (by kernel_rfl) (fun _ _ => by kernel_rfl) hq0 ?_
                      simp only [Act.put, List.setIfInBounds_toArray, List.set_cons_succ, List.set_cons_zero]
                      refine gsem 7 (some 111) (.agg p.k.cs.toArray) rfl (by kernel_rfl) (by kernel_rfl) (by kernel_rfl) (fun _ _ _ h => h) (by kernel_rfl) (by kernel_rfl) (fun X hX => ex_loadR (vs := p.k.cs) 38 2 rwK szK rfl rfl (range_left (a := p.k.cs) (c := p.d.cs) (rangeAt_fr hrg3 hb3 hX.fr)) rfl) hq0 ?_
                      simp only [Act.put, List.setIfInBounds_toArray, List.set_cons_succ, List.set_cons_zero]
                      refine wpAnyH_ready (rs := [8]) (by kernel_rfl) (by simp) (gcallR 8 (some 112) rfl (by kernel_rfl) (by kernel_rfl) (by kernel_rfl) (hFI _ hq0.fr) ?_ AllReadyH.nil)
                      rintro e Y5 ⟨rfl, hY5⟩
                      have hq05 := Hq.on hq0 hY5
                      refine ⟨_, rfl, hq05, ?_⟩
                      simp only [Act.put, List.setIfInBounds_toArray, List.set_cons_succ, List.set_cons_zero]
                      refine gsem 9 (some 11) (.int .i64 (m : Nat)) rfl (by kernel_rfl) (by kernel_rfl) (by kernel_rfl) (fun _ _ _ h => h) (by kernel_rfl) (by kernel_rfl) (fun _ _ => by kernel_rfl) hq05 ?_
                      simp only [Act.put, List.setIfInBounds_toArray, List.set_cons_succ, List.set_cons_zero]
                      refine wpAnyH_done (by kernel_rfl) ?_ _
                      try simp only [Act.put, List.setIfInBounds_toArray, List.set_cons_succ, List.set_cons_zero]
                      replace LL := hide hq05
                      clear hq0 hq05 hS0 hY5
                      clear hSAe hb3 hrg3 hTAe hb4 hrg4 hmt hFI hSM
                      go_wp2_with (first | go_skip | ((with_reducible show wpList _ _ _ _ _ _); first | ((refine rd (by rfl) (ex_load1 48 Tryd.isAgg48 rfl rfl ((unhide LL).get 0 rfl) rfl) ?_); simp only [Act.put, List.setIfInBounds_toArray, List.set_cons_succ, List.set_cons_zero]) | ((refine rd (by rfl) (ex_lenG 48 55 Tryd.underlying48 rfl rfl) ?_); simp only [Act.put, List.setIfInBounds_toArray, List.set_cons_succ, List.set_cons_zero]) | ((refine rd (by rfl) (ex_loadN (vs := s.cs SA sc) 50 8 rwS szS rfl rfl ((unhide LL).get 0 rfl) rfl rfl) ?_); simp only [Act.put, List.setIfInBounds_toArray, List.set_cons_succ, List.set_cons_zero]) | ((refine rd (by rfl) (ex_ltC rfl rfl rfl (unhide HM0)) ?_); simp only [Act.put, List.setIfInBounds_toArray, List.set_cons_succ, List.set_cons_zero]) | ((refine rd (by rfl) (ex_neI rfl rfl rfl hz0) ?_); simp only [Act.put, List.setIfInBounds_toArray, List.set_cons_succ, List.set_cons_zero])))
                      obtain ⟨hSAe, hb3, hrg3, hTAe, hb4, hrg4, hmt, hFI, hSM⟩ := unhide HH
                      have hq0 : Hq w _ [] [(B8, s.cs SA sc), (B9, t.cs TA tc)] := (unhide LL).drew
                      refine wp_region_held_drew (P := Tryd.prog) (S := fun X => Hq w X [] [(B8, s.cs SA sc), (B9, t.cs TA tc)]) (by kernel_rfl) hq0 (fun hS0 => ?_)
                      refine gsem 0 (some 116) (.pointer (some ⟨B9, 7, none⟩)) rfl (by kernel_rfl) (by kernel_rfl) (by kernel_rfl) (fun _ _ _ h => h) (by kernel_rfl) (by kernel_rfl) (fun _ _ => by kernel_rfl) hq0 ?_
                      simp only [Act.put, List.setIfInBounds_toArray, List.set_cons_succ, List.set_cons_zero]
                      refine gsem 1 (some 117) (.slice TA t.ps.length tc) rfl (by kernel_rfl) (by kernel_rfl) (by kernel_rfl) (fun _ _ _ h => h) (by kernel_rfl) (by kernel_rfl) (fun X hX => ex_load1 48 Tryd.isAgg48 rfl rfl (hX.get 1 rfl) rfl) hq0 ?_
                      simp only [Act.put, List.setIfInBounds_toArray, List.set_cons_succ, List.set_cons_zero]
                      refine gsem 2 (some 118) (.int .i64 (m : Nat)) rfl (by kernel_rfl) (by kernel_rfl) (by kernel_rfl) (fun _ _ _ h => h) (by kernel_rfl) (by kernel_rfl) (fun _ _ => by kernel_rfl) hq0 ?_
                      simp only [Act.put, List.setIfInBounds_toArray, List.set_cons_succ, List.set_cons_zero]
                      refine gsem 3 (some 119) (.pointer (some ⟨b4, off4 + m * 20, none⟩)) rfl (by kernel_rfl) (by kernel_rfl) (by kernel_rfl) (fun _ _ _ h => h) (by kernel_rfl) (by kernel_rfl) (fun X hX => ex_indexA 48 20 m unPs idPs rfl rfl hTAe rfl hmt) hq0 ?_
                      simp only [Act.put, List.setIfInBounds_toArray, List.set_cons_succ, List.set_cons_zero]
                      refine gsem 4 (some 120) (.pointer (some ⟨b4, off4 + m * 20 + 2, none⟩)) rfl (by kernel_rfl) (by kernel_rfl) (by kernel_rfl) (fun _ _ _ h => h) (by kernel_rfl) (by kernel_rfl) (fun _ _ => by kernel_rfl) hq0 ?_
                      simp only [Act.put, List.setIfInBounds_toArray, List.set_cons_succ, List.set_cons_zero]
                      refine gsem 5 (some 121) (.agg r.d.cs.toArray) rfl (by kernel_rfl) (by kernel_rfl) (by kernel_rfl) (fun _ _ _ h => h) (by kernel_rfl) (by kernel_rfl) (fun X hX => ex_loadR (vs := r.d.cs) 41 18 rwD szD rfl rfl (range_right (a := r.k.cs) (c := r.d.cs) (rangeAt_fr hrg4 hb4 hX.fr)) rfl) hq0 ?_
                      simp only [Act.put, List.setIfInBounds_toArray, List.set_cons_succ, List.set_cons_zero]
                      refine gsem 6 (some 122) (.pointer (some ⟨B8, 7, none⟩)) rfl (by kernel_rfl) (by kernel_rfl) (by kernel_rfl) (fun _ _ _ h => h) (by kernel_rfl) (by kernel_rfl) (fun _ _ => by kernel_rfl) hq0 ?_
                      simp only [Act.put, List.setIfInBounds_toArray, List.set_cons_succ, List.set_cons_zero]
                      refine gsem 7 (some 123) (.slice SA s.ps.length sc) rfl (by kernel_rfl) (by kernel_rfl) (by kernel_rfl) (fun _ _ _ h => h) (by kernel_rfl) (by kernel_rfl) (fun X hX => ex_load1 48 Tryd.isAgg48 rfl rfl (hX.get 0 rfl) rfl) hq0 ?_
                      simp only [Act.put, List.setIfInBounds_toArray, List.set_cons_succ, List.set_cons_zero]
                      refine gsem 8 (some 124) (.int .i64 (k : Nat)) rfl (by kernel_rfl) (by kernel_rfl) (by kernel_rfl) (fun _ _ _ h => h) (by kernel_rfl) (by kernel_rfl) (fun _ _ => by kernel_rfl) hq0 ?_
                      simp only [Act.put, List.setIfInBounds_toArray, List.set_cons_succ, List.set_cons_zero]
                      refine gsem 9 (some 125) (.pointer (some ⟨b3, off3 + k * 20, none⟩)) rfl (by kernel_rfl) (by kernel_rfl) (by kernel_rfl) (fun _ _ _ h => h) (by kernel_rfl) (by kernel_rfl) (fun X hX => ex_indexA 48 20 k unPs idPs rfl rfl hSAe rfl (unhide HKT)) hq0 ?_
                      simp only [Act.put, List.setIfInBounds_toArray, List.set_cons_succ, List.set_cons_zero]
                      refine gsem 10 (some 126) (.pointer (some ⟨b3, off3 + k * 20 + 2, none⟩)) rfl (by kernel_rfl) (by kernel_rfl) (by kernel_rfl) (fun _ _ _ h => h) (by kernel_rfl) (by kernel_rfl) (fun _ _ => by kernel_rfl) hq0 ?_
                      simp only [Act.put, List.setIfInBounds_toArray, List.set_cons_succ, List.set_cons_zero]
                      refine gsem 11 (some 127) (.agg p.d.cs.toArray) rfl (by kernel_rfl) (by kernel_rfl) (by kernel_rfl) (fun _ _ _ h => h) (by kernel_rfl) (by kernel_rfl) (fun X hX => ex_loadR (vs := p.d.cs) 41 18 rwD szD rfl rfl (range_right (a := p.k.cs) (c := p.d.cs) (rangeAt_fr hrg3 hb3 hX.fr)) rfl) hq0 ?_
                      simp only [Act.put, List.setIfInBounds_toArray, List.set_cons_succ, List.set_cons_zero]
                      refine wpAnyH_ready (rs := [12]) (by kernel_rfl) (by simp) (gcallR 12 (some 128) rfl (by kernel_rfl) (by kernel_rfl) (by kernel_rfl) (hSM _ (tabs_below (unhide HT) hq0.fr.below)) ?_ AllReadyH.nil)
                      rintro e Y6 ⟨rfl, hY6⟩
                      have hq06 := Hq.on hq0 hY6
                      refine ⟨_, rfl, hq06, ?_⟩
                      simp only [Act.put, List.setIfInBounds_toArray, List.set_cons_succ, List.set_cons_zero]
                      refine gsem 13 (some 115) (.tuple #[.bool true, .int .i64 0]) rfl (by kernel_rfl) (by kernel_rfl) (by kernel_rfl) (fun _ _ _ h => h) (by kernel_rfl) (by kernel_rfl) (fun _ _ => by kernel_rfl) hq06 ?_
                      simp only [Act.put, List.setIfInBounds_toArray, List.set_cons_succ, List.set_cons_zero]
                      refine gsem 14 (some 129) (.bool true) rfl (by kernel_rfl) (by kernel_rfl) (by kernel_rfl) (fun _ _ _ h => h) (by kernel_rfl) (by kernel_rfl) (fun _ _ => by kernel_rfl) hq06 ?_
                      simp only [Act.put, List.setIfInBounds_toArray, List.set_cons_succ, List.set_cons_zero]
                      refine gsem 15 (some 130) (.int .i64 0) rfl (by kernel_rfl) (by kernel_rfl) (by kernel_rfl) (fun _ _ _ h => h) (by kernel_rfl) (by kernel_rfl) (fun _ _ => by kernel_rfl) hq06 ?_
                      simp only [Act.put, List.setIfInBounds_toArray, List.set_cons_succ, List.set_cons_zero]
                      refine gsem 16 (some 12) (.bool true) rfl (by kernel_rfl) (by kernel_rfl) (by kernel_rfl) (fun _ _ _ h => h) (by kernel_rfl) (by kernel_rfl) (fun _ _ => by kernel_rfl) hq06 ?_
                      simp only [Act.put, List.setIfInBounds_toArray, List.set_cons_succ, List.set_cons_zero]
                      refine gsem 17 (some 13) (.int .i64 0) rfl (by kernel_rfl) (by kernel_rfl) (by kernel_rfl) (fun _ _ _ h => h) (by kernel_rfl) (by kernel_rfl) (fun _ _ => by kernel_rfl) hq06 ?_
                      simp only [Act.put, List.setIfInBounds_toArray, List.set_cons_succ, List.set_cons_zero]
                      refine wpAnyH_done (by kernel_rfl) ?_ _
                      try simp only [Act.put, List.setIfInBounds_toArray, List.set_cons_succ, List.set_cons_zero]
                      replace LL := hide hq06
                      clear hq0 hq06 hS0 hY6
                      clear hSAe hb3 hrg3 hTAe hb4 hrg4 hmt hFI hSM
                      go_wp2_with (first | go_skip | ((with_reducible show wpList _ _ _ _ _ _); first | ((refine rd (by rfl) (ex_load1 48 Tryd.isAgg48 rfl rfl ((unhide LL).get 0 rfl) rfl) ?_); simp only [Act.put, List.setIfInBounds_toArray, List.set_cons_succ, List.set_cons_zero]) | ((refine rd (by rfl) (ex_lenG 48 55 Tryd.underlying48 rfl rfl) ?_); simp only [Act.put, List.setIfInBounds_toArray, List.set_cons_succ, List.set_cons_zero]) | ((refine rd (by rfl) (ex_loadN (vs := s.cs SA sc) 50 8 rwS szS rfl rfl ((unhide LL).get 0 rfl) rfl rfl) ?_); simp only [Act.put, List.setIfInBounds_toArray, List.set_cons_succ, List.set_cons_zero]) | ((refine rd (by rfl) (ex_ltC rfl rfl rfl (unhide HM0)) ?_); simp only [Act.put, List.setIfInBounds_toArray, List.set_cons_succ, List.set_cons_zero]) | ((refine rd (by rfl) (ex_neI rfl rfl rfl hz0) ?_); simp only [Act.put, List.setIfInBounds_toArray, List.set_cons_succ, List.set_cons_zero])))
                      refine (unhide HFB _ (unhide LL).fr).mono ?_
                      rintro e Z9 ⟨rfl, hZ9⟩
                      replace LL := hide ((unhide LL).on hZ9)
                      clear hZ9
                      go_wp2_with (first | go_skip | ((with_reducible show wpList _ _ _ _ _ _); first | ((refine rd (by rfl) (ex_load1 48 Tryd.isAgg48 rfl rfl ((unhide LL).get 0 rfl) rfl) ?_); simp only [Act.put, List.setIfInBounds_toArray, List.set_cons_succ, List.set_cons_zero]) | ((refine rd (by rfl) (ex_lenG 48 55 Tryd.underlying48 rfl rfl) ?_); simp only [Act.put, List.setIfInBounds_toArray, List.set_cons_succ, List.set_cons_zero]) | ((refine rd (by rfl) (ex_loadN (vs := s.cs SA sc) 50 8 rwS szS rfl rfl ((unhide LL).get 0 rfl) rfl rfl) ?_); simp only [Act.put, List.setIfInBounds_toArray, List.set_cons_succ, List.set_cons_zero]) | ((refine rd (by rfl) (ex_ltC rfl rfl rfl (unhide HM0)) ?_); simp only [Act.put, List.setIfInBounds_toArray, List.set_cons_succ, List.set_cons_zero]) | ((refine rd (by rfl) (ex_neI rfl rfl rfl hz0) ?_); simp only [Act.put, List.setIfInBounds_toArray, List.set_cons_succ, List.set_cons_zero])))
                      refine (num11 _ _).mono ?_
                      rintro _ _ ⟨rfl, rfl⟩
                      go_wp2_with (first | go_skip | ((with_reducible show wpList _ _ _ _ _ _); first | ((refine rd (by rfl) (ex_load1 48 Tryd.isAgg48 rfl rfl ((unhide LL).get 0 rfl) rfl) ?_); simp only [Act.put, List.setIfInBounds_toArray, List.set_cons_succ, List.set_cons_zero]) | ((refine rd (by rfl) (ex_lenG 48 55 Tryd.underlying48 rfl rfl) ?_); simp only [Act.put, List.setIfInBounds_toArray, List.set_cons_succ, List.set_cons_zero]) | ((refine rd (by rfl) (ex_loadN (vs := s.cs SA sc) 50 8 rwS szS rfl rfl ((unhide LL).get 0 rfl) rfl rfl) ?_); simp only [Act.put, List.setIfInBounds_toArray, List.set_cons_succ, List.set_cons_zero]) | ((refine rd (by rfl) (ex_ltC rfl rfl rfl (unhide HM0)) ?_); simp only [Act.put, List.setIfInBounds_toArray, List.set_cons_succ, List.set_cons_zero]) | ((refine rd (by rfl) (ex_neI rfl rfl rfl hz0) ?_); simp only [Act.put, List.setIfInBounds_toArray, List.set_cons_succ, List.set_cons_zero])))
                      go_roundg (s.ps.length - (k + 1))
                      case measure => have := unhide HKT; omega
                      case rel => exact ⟨k + 1, by go_num, by have := unhide HKT; omega, by omega, LL⟩
                    · obtain rfl : k = s.ps.length := by omega
                      clear hkt hkl
                      go_wp2_with (first | go_skip | ((with_reducible show wpList _ _ _ _ _ _); first | ((refine rd (by rfl) (ex_load1 48 Tryd.isAgg48 rfl rfl ((unhide LL).get 0 rfl) rfl) ?_); simp only [Act.put, List.setIfInBounds_toArray, List.set_cons_succ, List.set_cons_zero]) | ((refine rd (by rfl) (ex_lenG 48 55 Tryd.underlying48 rfl rfl) ?_); simp only [Act.put, List.setIfInBounds_toArray, List.set_cons_succ, List.set_cons_zero])))
                      replace LL := hide (Hq.left (L := []) (unhide LL))
                      go_roundg (la.length - (i + 1))
                      case measure => have := unhide HLT; omega
                      case rel => exact ⟨i + 1, by go_num, by have := unhide HLT; omega, by omega, LL⟩
                · have hno : (o != 0) = true := by simp [ho]
                  clear ho hfz hse
                  have HFB := hide hFB
                  have HSB := hide hSB
                  clear hFB hSB hfi
                  go_wp2_with (first | go_skip | ((with_reducible show wpList _ _ _ _ _ _); first | ((refine rd (by rfl) (ex_lenG 22 50 Tryd.underlying22 rfl rfl) ?_); simp only [Act.put, List.setIfInBounds_toArray, List.set_cons_succ, List.set_cons_zero]) | ((refine rd (by rfl) (ex_indexA 22 8 i unSs idSs rfl rfl (unhide HAe) rfl (unhide HLT)) ?_); simp only [Act.put, List.setIfInBounds_toArray, List.set_cons_succ, List.set_cons_zero]) | ((refine rd (by rfl) (ex_loadR (vs := s.cs SA sc) 50 8 rwS szS rfl rfl (unhide HA2 _ (unhide LL).fr) rfl) ?_); simp only [Act.put, List.setIfInBounds_toArray, List.set_cons_succ, List.set_cons_zero]) | ((refine alG 50 (zeroS.cs none 0) (by rfl) rfl (fun w => by kernel_rfl) (Nat.succ_pos _) (show Hq w _ [] [] from unhide LL) ?_); intro X8 B8 hE8 L8 hb8; have hB8 := hide (Nat.le_trans (unhide LL).fr.size (Nat.le_of_eq hE8.symm)); replace LL := hide L8; clear L8 hb8 hE8; simp only [Act.put, List.setIfInBounds_toArray, List.set_cons_succ, List.set_cons_zero]) | ((refine st (vs := s.cs SA sc) 0 50 (by rfl) rfl rfl rfl rfl (shcs_one _ _ _) szS (unhide LL) rfl (by simp [cput, SH.cs, VV.cs, zeroS, zeroV]) (Or.inr (unhide hB8)) ?_); intro X9 L9 hf9 hs9; replace LL := hide L9; clear L9 hf9 hs9; simp only [Act.put, List.setIfInBounds_toArray, List.set_cons_succ, List.set_cons_zero]) | ((refine rd (by rfl) (ex_loadN (vs := s.cs SA sc) 50 8 rwS szS rfl rfl ((unhide LL).get 0 rfl) rfl rfl) ?_); simp only [Act.put, List.setIfInBounds_toArray, List.set_cons_succ, List.set_cons_zero]) | ((refine rd (by rfl) (ex_neI rfl rfl rfl hno) ?_); simp only [Act.put, List.setIfInBounds_toArray, List.set_cons_succ, List.set_cons_zero])))
                  refine (unhide HFB _ (unhide LL).fr).mono ?_
                  rintro e Z9 ⟨rfl, hZ9⟩
                  replace LL := hide ((unhide LL).on hZ9)
                  clear hZ9
                  go_wp2_with (first | go_skip | ((with_reducible show wpList _ _ _ _ _ _); first | ((refine rd (by rfl) (ex_lenG 22 50 Tryd.underlying22 rfl rfl) ?_); simp only [Act.put, List.setIfInBounds_toArray, List.set_cons_succ, List.set_cons_zero]) | ((refine rd (by rfl) (ex_indexA 22 8 i unSs idSs rfl rfl (unhide HAe) rfl (unhide HLT)) ?_); simp only [Act.put, List.setIfInBounds_toArray, List.set_cons_succ, List.set_cons_zero]) | ((refine rd (by rfl) (ex_loadR (vs := s.cs SA sc) 50 8 rwS szS rfl rfl (unhide HA2 _ (unhide LL).fr) rfl) ?_); simp only [Act.put, List.setIfInBounds_toArray, List.set_cons_succ, List.set_cons_zero]) | ((refine alG 50 (zeroS.cs none 0) (by rfl) rfl (fun w => by kernel_rfl) (Nat.succ_pos _) (show Hq w _ [] [] from unhide LL) ?_); intro X8 B8 hE8 L8 hb8; have hB8 := hide (Nat.le_trans (unhide LL).fr.size (Nat.le_of_eq hE8.symm)); replace LL := hide L8; clear L8 hb8 hE8; simp only [Act.put, List.setIfInBounds_toArray, List.set_cons_succ, List.set_cons_zero]) | ((refine st (vs := s.cs SA sc) 0 50 (by rfl) rfl rfl rfl rfl (shcs_one _ _ _) szS (unhide LL) rfl (by simp [cput, SH.cs, VV.cs, zeroS, zeroV]) (Or.inr (unhide hB8)) ?_); intro X9 L9 hf9 hs9; replace LL := hide L9; clear L9 hf9 hs9; simp only [Act.put, List.setIfInBounds_toArray, List.set_cons_succ, List.set_cons_zero]) | ((refine rd (by rfl) (ex_loadN (vs := s.cs SA sc) 50 8 rwS szS rfl rfl ((unhide LL).get 0 rfl) rfl rfl) ?_); simp only [Act.put, List.setIfInBounds_toArray, List.set_cons_succ, List.set_cons_zero]) | ((refine rd (by rfl) (ex_neI rfl rfl rfl hno) ?_); simp only [Act.put, List.setIfInBounds_toArray, List.set_cons_succ, List.set_cons_zero])))
                  refine (unhide HSB _ (unhide LL).fr).mono ?_
                  rintro e Z9 ⟨rfl, hZ9⟩
                  replace LL := hide ((unhide LL).on hZ9)
                  clear hZ9
                  go_wp2_with (first | go_skip | ((with_reducible show wpList _ _ _ _ _ _); first | ((refine rd (by rfl) (ex_lenG 22 50 Tryd.underlying22 rfl rfl) ?_); simp only [Act.put, List.setIfInBounds_toArray, List.set_cons_succ, List.set_cons_zero]) | ((refine rd (by rfl) (ex_indexA 22 8 i unSs idSs rfl rfl (unhide HAe) rfl (unhide HLT)) ?_); simp only [Act.put, List.setIfInBounds_toArray, List.set_cons_succ, List.set_cons_zero]) | ((refine rd (by rfl) (ex_loadR (vs := s.cs SA sc) 50 8 rwS szS rfl rfl (unhide HA2 _ (unhide LL).fr) rfl) ?_); simp only [Act.put, List.setIfInBounds_toArray, List.set_cons_succ, List.set_cons_zero]) | ((refine alG 50 (zeroS.cs none 0) (by rfl) rfl (fun w => by kernel_rfl) (Nat.succ_pos _) (show Hq w _ [] [] from unhide LL) ?_); intro X8 B8 hE8 L8 hb8; have hB8 := hide (Nat.le_trans (unhide LL).fr.size (Nat.le_of_eq hE8.symm)); replace LL := hide L8; clear L8 hb8 hE8; simp only [Act.put, List.setIfInBounds_toArray, List.set_cons_succ, List.set_cons_zero]) | ((refine st (vs := s.cs SA sc) 0 50 (by rfl) rfl rfl rfl rfl (shcs_one _ _ _) szS (unhide LL) rfl (by simp [cput, SH.cs, VV.cs, zeroS, zeroV]) (Or.inr (unhide hB8)) ?_); intro X9 L9 hf9 hs9; replace LL := hide L9; clear L9 hf9 hs9; simp only [Act.put, List.setIfInBounds_toArray, List.set_cons_succ, List.set_cons_zero]) | ((refine rd (by rfl) (ex_loadN (vs := s.cs SA sc) 50 8 rwS szS rfl rfl ((unhide LL).get 0 rfl) rfl rfl) ?_); simp only [Act.put, List.setIfInBounds_toArray, List.set_cons_succ, List.set_cons_zero]) | ((refine rd (by rfl) (ex_neI rfl rfl rfl hno) ?_); simp only [Act.put, List.setIfInBounds_toArray, List.set_cons_succ, List.set_cons_zero])))
                  replace LL := hide (Hq.left (L := []) (unhide LL))
                  go_roundg (la.length - (i + 1))
                  case measure => have := unhide HLT; omega
                  case rel => exact ⟨i + 1, by go_num, by have := unhide HLT; omega, by omega, LL⟩
            · obtain rfl : i = la.length := by omega
              clear hlt hil
              go_wp2_with (first | go_skip | ((with_reducible show wpList _ _ _ _ _ _); first | ((refine rd (by rfl) (ex_lenG 22 50 Tryd.underlying22 rfl rfl) ?_); simp only [Act.put, List.setIfInBounds_toArray, List.set_cons_succ, List.set_cons_zero])))
              go_ret
              exact ⟨rfl, (unhide LL).fr.below⟩
end Go.Proofs.YtcflglloopgieaaDoor
