import Derived.Test.YtcflglloopgieaaGreatDoorRk
import Derived.Test.YtcflglloopgieaaGreatDoorRl

/-! Ks -/
namespace Go.Proofs.YtcflglloopgieaaGreatDoor
open Go Go.Proofs Go.Maps Go.RowKit FM
set_option linter.unusedSimpArgs false
set_option linter.unusedVariables false
set_option maxHeartbeats 1000000

theorem stay_self (ps : List PR) (o : Int) : ∀ i, i ≤ ps.length → stayT ps ps i = ps.take i ∧ goT o ps ps i = []
  | 0, _ => ⟨rfl, rfl⟩
  | i + 1, hi => by
    obtain ⟨h1, h2⟩ := stay_self ps o i (by omega)
    have hp : ps[i]? = some ps[i] := List.getElem?_eq_getElem (by omega)
    have hh : hit ps (stayT ps ps i) ps[i] = true := by
      rw [h1]
      unfold hit
      rw [List.length_take, Nat.min_eq_left (by omega), hp]
      simp
    obtain ⟨h3, h4⟩ := stayT_yes (o := o) hp hh
    rw [h3, h4, h1, h2, List.take_succ_eq_append_getElem (by omega)]
    exact ⟨rfl, rfl⟩
theorem ch_self (ps : List PR) (o : Int) : ∀ i, i ≤ ps.length → chT o ps ps i = []
  | 0, _ => rfl
  | i + 1, hi => by
    have hp : ps[i]? = some ps[i] := List.getElem?_eq_getElem (by omega)
    rw [chT_yes hp hp (eqD_selfN _)]
    exact ch_self ps o i (by omega)
theorem props_self (o : Int) (ps : List PR) : propsL o ps ps = [] := by
  obtain ⟨h1, h2⟩ := stay_self ps o ps.length (Nat.le_refl _)
  unfold propsL
  rw [h1, h2, List.take_length, ch_self ps o _ (Nat.le_refl _)]
  simp
theorem chg_self (o : Int) (a : SH) : chgL o a a = [] := by
  unfold chgL
  rw [props_self, eqB_self']
  simp
theorem diff_self (ns : List SH) : ∀ i, diffT ns ns i = []
  | 0 => rfl
  | i + 1 => by
    unfold diffT
    rw [diff_self ns i]
    cases ns[i]? with
    | none => rfl
    | some a => simp [chg_self]
theorem diffT_len (bs ns : List SH) (hb : ∀ s ∈ bs, s.ps.length ≤ 400) (hn : ∀ s ∈ ns, s.ps.length ≤ 400) : ∀ i, (diffT bs ns i).length ≤ i * 1203
  | 0 => by simp [diffT]
  | i + 1 => by
    have ih := diffT_len bs ns hb hn i
    cases ha : ns[i]? with
    | none =>
      simp only [diffT, ha, List.append_nil]
      exact Nat.le_trans ih (Nat.mul_le_mul_right _ (Nat.le_succ i))
    | some a =>
      have h1 := hn a (List.mem_of_getElem? ha)
      cases hbi : bs[i]? with
      | some b =>
        have h2 := hb b (List.mem_of_getElem? hbi)
        have h3 := chgL_len ((i : Int) + 1) b a
        rw [diffT_chg ha hbi, List.length_append]
        omega
      | none =>
        rw [diffT_made ha hbi, List.length_append]
        simp [madeL]
        omega
def GPs (l : List PR) : Prop := ∀ p ∈ l, OkP p ∧ SP p
theorem gl_zero {o wh n : Int} {y : Bool} : GL ⟨o, wh, n, y, zeroV, zeroK, zeroD⟩ := by
  refine ⟨?_, ?_, ⟨⟨?_, ?_, ?_⟩, ?_, ?_⟩, ?_, ?_, ?_, ?_⟩ <;> simp [SV, zeroV, zeroK, zeroD, ByteArray.size, maxLen] <;> kernel_rfl
theorem gl_v {o wh n : Int} {y : Bool} {v : VV} (h : SV v ∧ v.x < 2 ^ 64) : GL ⟨o, wh, n, y, v, zeroK, zeroD⟩ := ⟨h.1, h.2, (gl_zero (o := o) (wh := wh) (n := n) (y := y)).2.2⟩
theorem gl_put {o : Int} {p : PR} (h : OkP p ∧ SP p) : GL (putL o p) := ⟨(gl_zero (o := o) (wh := 6) (n := 0) (y := false)).1, (gl_zero (o := o) (wh := 6) (n := 0) (y := false)).2.1, h⟩
theorem gl_gone {o : Int} {p : PR} (h : OkP p ∧ SP p) : GL (goneL o p.k) := by
  have z := gl_zero (o := o) (wh := 5) (n := 0) (y := false)
  exact ⟨z.1, z.2.1, ⟨z.2.2.1.1, h.1.2⟩, h.2.1, z.2.2.2.2⟩
theorem gl_props (o : Int) (was is : List PR) (hw : GPs was) (hi : GPs is) : ∀ d ∈ propsL o was is, GL d := by
  have hg : ∀ i, ∀ d ∈ goT o is was i, GL d := by
    intro i
    induction i with
    | zero => intro d hd; simp [goT] at hd
    | succ i ih =>
      intro d hd
      unfold goT at hd
      split at hd
      · exact ih d hd
      · rename_i p hp
        split at hd
        · exact ih d hd
        · rcases List.mem_append.1 hd with hd | hd
          · exact ih d hd
          · obtain rfl := List.mem_singleton.1 hd
            exact gl_gone (hw p (List.mem_of_getElem? hp))
  have hc : ∀ st i, ∀ d ∈ chT o is st i, GL d := by
    intro st i
    induction i with
    | zero => intro d hd; simp [chT] at hd
    | succ i ih =>
      intro d hd
      unfold chT at hd
      split at hd
      · rename_i p q hp hq
        split at hd
        · exact ih d hd
        · rcases List.mem_append.1 hd with hd | hd
          · exact ih d hd
          · obtain rfl := List.mem_singleton.1 hd
            exact gl_put (hi q (List.mem_of_getElem? hq))
      · exact ih d hd
  intro d hd
  unfold propsL at hd
  rcases List.mem_append.1 hd with hd | hd
  · exact hg _ d hd
  · rcases List.mem_append.1 hd with hd | hd
    · exact hc _ _ d hd
    · obtain ⟨p, hp, rfl⟩ := List.mem_map.1 hd
      exact gl_put (hi p (List.mem_of_mem_drop hp))
def GSx (s : SH) : Prop := (SV s.p ∧ s.p.x < 2 ^ 64) ∧ GPs s.ps
theorem gl_diff (bs ns : List SH) (hb : ∀ s ∈ bs, GSx s) (hn : ∀ s ∈ ns, GSx s) : ∀ i, ∀ d ∈ diffT bs ns i, GL d
  | 0, d, hd => by simp [diffT] at hd
  | i + 1, d, hd => by
    have ih := gl_diff bs ns hb hn i d
    cases ha : ns[i]? with
    | none =>
      simp only [diffT, ha, List.append_nil] at hd
      exact ih hd
    | some a =>
      have h1 := hn a (List.mem_of_getElem? ha)
      cases hbi : bs[i]? with
      | some b =>
        have h2 := hb b (List.mem_of_getElem? hbi)
        rw [diffT_chg ha hbi] at hd
        rcases List.mem_append.1 hd with hd | hd
        · exact ih hd
        · unfold chgL at hd
          rcases List.mem_append.1 hd with hd | hd
          · cases h : (a.c != b.c) <;> simp [h] at hd
            subst hd
            exact gl_zero
          · rcases List.mem_append.1 hd with hd | hd
            · cases h : eqB b.p a.p <;> simp [h] at hd
              subst hd
              exact gl_v h1.1
            · rcases List.mem_append.1 hd with hd | hd
              · cases h : (a.x != b.x) <;> simp [h] at hd
                subst hd
                exact gl_zero
              · exact gl_props _ _ _ h2.2 h1.2 d hd
      | none =>
        rw [diffT_made ha hbi] at hd
        rcases List.mem_append.1 hd with hd | hd
        · exact ih hd
        · unfold madeL at hd
          rcases List.mem_cons.1 hd with rfl | hd
          · exact gl_v h1.1
          · obtain ⟨p, hp, rfl⟩ := List.mem_map.1 hd
            exact gl_put (h1.2 p hp)
theorem ReadsX.fr {w X : World} {A : Option Addr} {l : List SH} (h : ReadsX w A l) (hf : Fr w X []) : ReadsX X A l := fun j s hs => by
  obtain ⟨h0, h1, h2, b, off, SA, cap, h3, h4, h5, h6, h7, h8⟩ := h j s hs
  exact ⟨h0, h1, h2, b, off, SA, cap, h3, Nat.lt_of_lt_of_le h4 hf.size, h5.fr hf, rangeAt_fr h6 h4 hf, h7, h8⟩
theorem ReadsX.u {w : World} {A : Option Addr} {l : List SH} (h : ReadsX w A l) (hl : ∀ s ∈ l, s.ps.length ≤ 400) : ReadsU w A l := fun j s hs => by
  obtain ⟨h0, h1, h2, b, off, SA, cap, h3, h4, h5, h6, h7, h8⟩ := h j s hs
  exact ⟨h0, h1, hl s (List.mem_of_getElem? hs), b, off, SA, cap, h3, h4, h5, h6, h8⟩
theorem ReadsX.g {w : World} {A : Option Addr} {l : List SH} (h : ReadsX w A l) : ∀ s ∈ l, GSx s := fun s hs => by
  obtain ⟨j, hj⟩ := List.getElem?_of_mem hs
  obtain ⟨h0, h1, h2, b, off, SA, cap, h3, h4, h5, h6, h7, h8⟩ := h j s hj
  exact ⟨⟨h0.1, h1⟩, fun p hp => by
    obtain ⟨i, hi⟩ := List.getElem?_of_mem hp
    exact ⟨(h5 i p hi).1, h0.2 p hp⟩⟩
set_option maxHeartbeats 4000000 in
set_option maxRecDepth 100000 in
theorem law_back (A B : Option Addr) (ca cb : Nat) (la lb : List SH) (w : World) (hA : ReadsX w A la) (hB : ReadsX w B lb) (hT : Lib.Utf8Tabs 1 2 w) : Calls Tryz.prog 4 #[.slice A la.length ca, .slice B lb.length cb] w fun e w' => e = .returned (.bool true) ∧ Below w.heap.size w w' := by
  have LL := hide (Hq.nil w [])
  have HT := hide hT
  have HA := hide hA
  have HB := hide hB
  clear hT hA hB
  go_enter Tryz.func4, Tryz.ntmps4
  go_wp2_with fail
  refine (works_any _ (tabs_below (unhide HT) (unhide LL).fr.below)).mono ?_
  rintro e Y0 ⟨rfl, hY0⟩
  replace LL := hide ((unhide LL).on hY0)
  clear hY0
  go_wp2_with fail
  refine (few_any A ca la _ ((unhide HA).s.fr (unhide LL).fr)).mono ?_
  rintro e Yla ⟨qla, rfl, hqla, hYla⟩
  have HQla := hide hqla
  replace LL := hide ((unhide LL).on hYla)
  clear hqla hYla
  cases qla
  · go_wp2
    go_ret
    exact ⟨by simp, (unhide LL).fr.below⟩
  · replace HQla := hide (unhide HQla rfl)
    go_wp2_with fail
    refine (few_any B cb lb _ ((unhide HB).s.fr (unhide LL).fr)).mono ?_
    rintro e Ylb ⟨qlb, rfl, hqlb, hYlb⟩
    have HQlb := hide hqlb
    replace LL := hide ((unhide LL).on hYlb)
    clear hqlb hYlb
    cases qlb
    · go_wp2
      go_ret
      exact ⟨by simp, (unhide LL).fr.below⟩
    · replace HQlb := hide (unhide HQlb rfl)
      go_wp2_with fail
      refine (diff_any A B ca cb la lb _ (((unhide HA).fr (unhide LL).fr).u (unhide HQla).2) (((unhide HB).fr (unhide LL).fr).u (unhide HQlb).2) (by have := (unhide HQla).1; omega) (by have := (unhide HQlb).1; omega) (tabs_below (unhide HT) (unhide LL).fr.below)).mono ?_
      rintro e D1 ⟨v1, er1, r1, rfl, hO, hbel, hd⟩
      replace LL := hide ((unhide LL).on hbel)
      rcases hd with ⟨h1, rfl, rfl, rfl⟩ | ⟨h1, h2, rfl, rfl, rfl⟩ | ⟨h1, h2, rfl, hr⟩
      · clear h1 hO hbel
        go_wp2_with fail
        refine (num11 7 _).mono ?_
        rintro e N1 ⟨rfl, hN⟩
        obtain rfl := hN.symm
        have hne : ((7 : Int) != 0) = true := by decide
        go_wp2_with (first | go_skip | ((with_reducible show wpList _ _ _ _ _ _); first | ((refine rd (by rfl) (ex_lenG 36 65 Tryz.underlying36 rfl rfl) ?_); simp only [Act.put, List.setIfInBounds_toArray, List.set_cons_succ, List.set_cons_zero]) | ((refine rd (by rfl) (ex_neI rfl rfl rfl hne) ?_); simp only [Act.put, List.setIfInBounds_toArray, List.set_cons_succ, List.set_cons_zero])))
        go_ret
        exact ⟨rfl, (unhide LL).fr.below⟩
      · clear h1 h2 hO hbel
        go_wp2_with fail
        refine (num11 5 _).mono ?_
        rintro e N1 ⟨rfl, hN⟩
        obtain rfl := hN.symm
        have hne : ((5 : Int) != 0) = true := by decide
        go_wp2_with (first | go_skip | ((with_reducible show wpList _ _ _ _ _ _); first | ((refine rd (by rfl) (ex_lenG 36 65 Tryz.underlying36 rfl rfl) ?_); simp only [Act.put, List.setIfInBounds_toArray, List.set_cons_succ, List.set_cons_zero]) | ((refine rd (by rfl) (ex_neI rfl rfl rfl hne) ?_); simp only [Act.put, List.setIfInBounds_toArray, List.set_cons_succ, List.set_cons_zero])))
        go_ret
        exact ⟨rfl, (unhide LL).fr.below⟩
      · obtain ⟨X1, x1, rfl⟩ := own_form hO
        have hdl := diffT_len la lb (unhide HQla).2 (unhide HQlb).2 lb.length
        have HRL : Hid (r1.length ≤ 90000) := hide (by rw [hr]; have := (unhide HQlb).1; omega)
        obtain ⟨hdba, hdbb⟩ : dblA la = false ∧ dblA lb = false := by simpa using h2
        obtain ⟨m, hm, hsm⟩ := patch_back la lb h1 hdba hdbb
        rw [← hr] at hm
        have HM := hide (And.intro hm hsm)
        have RL := hide (own_readsL (fun d hd => gl_diff la lb (unhide HA).g (unhide HB).g lb.length d (by rw [← hr]; exact hd)) hO)
        have HDB := hide hdbb
        clear h1 h2 hdl hO hbel hr hdba hdbb hm hsm
        go_wp2_with fail
        refine (num11 0 _).mono ?_
        rintro e N1 ⟨rfl, hN⟩
        obtain rfl := hN.symm
        have hne : ((0 : Int) != 0) = false := by decide
        go_wp2_with (first | go_skip | ((with_reducible show wpList _ _ _ _ _ _); first | ((refine rd (by rfl) (ex_neI rfl rfl rfl hne) ?_); simp only [Act.put, List.setIfInBounds_toArray, List.set_cons_succ, List.set_cons_zero])))
        refine (patch_any A X1 ca x1 la r1 _ (((unhide HA).fr (unhide LL).fr).u (unhide HQla).2) (unhide RL) (by have := (unhide HQla).1; omega) (unhide HRL)).mono ?_
        rintro e P1 ⟨v2, er2, rfl, hb2, hp⟩
        replace LL := hide ((unhide LL).on hb2)
        rcases hp with ⟨h3, _⟩ | ⟨m2, A2, c2, h3, rfl, rfl, hRS⟩
        · exfalso
          rw [(unhide HM).1] at h3
          cases h3
        · obtain rfl : m = m2 := Option.some.inj ((unhide HM).1.symm.trans h3)
          have HRS := hide hRS
          clear h3 hb2 hRS RL
          go_wp2_with fail
          refine (diff_any B B cb cb lb lb _ (((unhide HB).fr (unhide LL).fr).u (unhide HQlb).2) (((unhide HB).fr (unhide LL).fr).u (unhide HQlb).2) (by have := (unhide HQlb).1; omega) (by have := (unhide HQlb).1; omega) (tabs_below (unhide HT) (unhide LL).fr.below)).mono ?_
          rintro e D2 ⟨v3, er3, r3, rfl, hO, hbel, hd⟩
          replace LL := hide ((unhide LL).on hbel)
          replace HRS := hide ((unhide HRS).fr (bfr hbel))
          obtain ⟨er0, r0⟩ : er3 = 0 ∧ r3 = [] := by
            rcases hd with ⟨h1, _⟩ | ⟨_, h2, _⟩ | ⟨_, _, h3, h4⟩
            · omega
            · rw [unhide HDB] at h2; simp at h2
            · exact ⟨h3, by rw [h4, diff_self]⟩
          subst er0
          subst r0
          obtain ⟨X3, x3, rfl⟩ := own_form hO
          dsimp only [List.length_nil]
          clear hd hO hbel
          go_wp2_with fail
          refine (num11 0 _).mono ?_
          rintro e N1 ⟨rfl, hN⟩
          obtain rfl := hN.symm
          go_wp2_with fail
          have hml : m.length = lb.length := by have := (unhide HM).2; rw [sameL, Bool.and_eq_true] at this; simpa using this.1
          have HML := hide hml
          clear hml
          refine (invSame_any m lb A2 B c2 cb _ (unhide HRS) ((unhide HB).fr (unhide LL).fr).s (by have := unhide HML; have := (unhide HQlb).1; omega) (tabs_below (unhide HT) (unhide LL).fr.below)).mono ?_
          rintro e S1 ⟨rfl, hb⟩
          replace LL := hide ((unhide LL).on hb)
          replace HRS := hide ((unhide HRS).fr (bfr hb))
          clear hb
          rw [(unhide HM).2]
          go_wp2_with fail
          refine (refSameL m lb A2 B c2 cb _ (unhide HRS) ((unhide HB).fr (unhide LL).fr).s (by have := unhide HML; have := (unhide HQlb).1; omega)).mono ?_
          rintro e S2 ⟨rfl, hb⟩
          replace LL := hide ((unhide LL).on hb)
          clear hb HRS
          rw [(unhide HM).2]
          go_wp2_with fail
          refine (num11 0 _).mono ?_
          rintro e N1 ⟨rfl, hN⟩
          obtain rfl := hN.symm
          go_wp2_with (first | go_skip | ((with_reducible show wpList _ _ _ _ _ _); first | ((refine rd (by rfl) (ex_lenG 36 65 Tryz.underlying36 rfl rfl) ?_); simp only [Act.put, List.setIfInBounds_toArray, List.set_cons_succ, List.set_cons_zero])))
          go_ret
          exact ⟨rfl, (unhide LL).fr.below⟩
end Go.Proofs.YtcflglloopgieaaGreatDoor
