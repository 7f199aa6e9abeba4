import Derived.Test.YtmemceindohklaaDoorQy

/-! Xh -/
namespace Go.Proofs.YtmemceindohklaaDoor
open Go Go.Proofs Go.Maps Go.RowKit
set_option linter.unusedSimpArgs false
set_option linter.unusedVariables false
set_option maxHeartbeats 1000000
set_option maxHeartbeats 8000000 in
set_option maxRecDepth 100000 in
theorem law4 (A : Option Addr) (cap : Nat) (l : List AT) (w : World) (hR : ReadsAT w [] A l) (hU : Lib.Utf8Tabs 4 5 w) (hP : TabP w) : Calls Tryd.prog 4 #[.slice A l.length cap] w fun e w' => e = .returned (.bool true) ∧ Below w.heap.size w w' := by
  have HR := hide hR
  have HU := hide hU
  have HP := hide hP
  clear hR hU hP
  refine (callsIn_wide (n := 6)).1 ?_
  refine callsIn_of_wp_marks Tryd.func4 rfl trivial ?_ rfl
  simp only [Tryd.ntmps4, List.size_toArray, List.length_cons, List.length_nil, Nat.reduceAdd, Nat.reduceSub, Array.replicate_succ, Array.replicate_zero, List.push_toArray, List.append_toArray, List.nil_append, List.cons_append]
  refine wpIn_wide.2 (wp_mono (Q := RetN Tryd.f4 6 (fun e w' => e = .returned (.bool true) ∧ Below w.heap.size w w')) ?_ retN_post)
  go_wp2_with fail
  have hW0 : Below w.heap.size w (w.alloc (Obj.cells [Value.bool false].toArray 4)) := (Below.refl _ _).alloc (Nat.le_refl _) _
  have hH0 := Holds.new w [.bool false] 4
  obtain ⟨B2, hB2⟩ : ∃ B2, B2 = w.heap.size := ⟨_, rfl⟩
  skip
  refine (works6 _ (tabs_below (unhide HU) hW0) ((unhide HP).on hW0)).mono ?_
  rintro _ W1 ⟨rfl, hb1⟩
  have HB1 : Hid (Below w.heap.size w W1 ∧ Holds W1 w.heap.size [.bool false]) := hide ⟨hW0.trans (hb1.mono hW0.size), hH0.block (hb1.block _ (hH0.lt (Nat.succ_pos _)))⟩
  clear hb1 hH0 hW0 hB2
  skip
  go_wp2_with fail
  refine (few7 A l.length cap W1).mono ?_
  rintro _ W2 ⟨rfl, h2⟩
  subst h2
  by_cases h400 : l.length ≤ 400
  · rw [decide_eq_true h400]
    have HL := hide h400
    clear h400
    go_wp2_with fail
    refine (new10 W2).mono ?_
    rintro _ Y1 ⟨Ta, rfl, hTa, hra, h0a, hba, hka⟩
    have hbx := (unhide HB1).2.block (hka.block _ ((unhide HB1).2.lt (Nat.succ_pos _)))
    have hfY : Fr w Y1 [] := (Fr.of_below (unhide HB1).1 []).trans (Fr.of_below hka []) (by simp)
    have hab : abs Ta = ⟨[], 0⟩ := by unfold abs TT.live; rw [hra, h0a]; rfl
    have hlv : Ta.live = [] := by unfold TT.live; rw [hra]; rfl
    have hmk : MW w (Y1.alloc (.map #[] 0)) Ta Ta.t Y1.heap.size 0 (fun _ => none) := by
      have bl : Below Y1.heap.size Y1 (Y1.alloc (Obj.map #[] 0)) := (Below.refl _ _).alloc (Nat.le_refl _) _
      refine ⟨hTa.on bl, rfl, by rw [hlv]; exact MapG.made Y1, fun k _ => by rw [hab]; rfl, fun hm => by have := hTa.lt _ hm; omega, fun b hb => Nat.le_trans (unhide HB1).1.size (hba b hb), hfY.size, hfY.on bl⟩
    have hM0 : M1 w (Y1.alloc (.map #[] 0)) Ta Ta.t Y1.heap.size 0 w.heap.size (fun _ => none) := ⟨hmk, hbx.block (((Below.refl _ _).alloc (Nat.le_refl _) _ : Below Y1.heap.size Y1 (Y1.alloc (Obj.map #[] 0))).block _ (hbx.lt (Nat.succ_pos _))), fun hm => by have h1 := hba _ hm; have h2 := (unhide HB1).2.lt (Nat.succ_pos _); omega, fun e => by have h2 := hbx.lt (Nat.succ_pos _); omega, Nat.le_refl _⟩
    have HM0 := hide (And.intro hM0 h0a)
    clear hTa hra h0a hba hka hbx hfY hab hlv hmk hM0
    generalize Ta.t = t0 at HM0 ⊢
    go_wp2_with (first | go_skip | ((with_reducible show wpList _ _ _ _ _ _); first | ((refine vl (by rfl) (ex_mm32 rfl) ?_); simp only [Act.put, List.setIfInBounds_toArray, List.set_cons_succ, List.set_cons_zero])))
    go_loopg [4, 5] l.length (fun gm s4 s5 wr => ∃ (i : Nat) (T : TT) (mb nb : Nat) (F : KK → Option DD), s4 = .map (some mb) ∧ s5 = .int .i64 (i : Nat) ∧ i ≤ l.length ∧ l.length - i ≤ gm ∧ T.last ≤ i ∧ nb ≤ i ∧ Hid (M1 w wr T t0 mb nb w.heap.size F))
    case atStart => exact ⟨0, Ta, _, 0, _, rfl, rfl, by omega, by omega, by rw [(unhide HM0).2]; exact Nat.le_refl _, Nat.le_refl _, hide (unhide HM0).1⟩
    case round =>
      clear HM0
      obtain ⟨i, T, mb, nb, F, rfl, rfl, hil, hgm, hTl, hnb, HM⟩ := hrel
      by_cases hlt : i < l.length
      · have dlt : decide ((i : Int) < (l.length : Int)) = true := decide_eq_true (by omega)
        have hw1 : IntKind.i64.wrap ((i : Int) + 1) = (i : Int) + 1 := by have := unhide HL; rw [IntKind.wrap_i64]; omega
        obtain ⟨x, hx⟩ : ∃ x, l[i]? = some x := ⟨_, List.getElem?_eq_getElem hlt⟩
        obtain ⟨hok, b, off, IA, ic, hA, hb, hbE, hrg, hin⟩ := (unhide HR) i x hx
        subst hA
        have HA2 : Hid (∀ X, Fr w X [] → X.rangeAt b (off + i * 23) (actCs x.kd x.k x.d x.n (.slice IA x.il.length ic))) := hide (fun X hX => rangeAt_frE hrg hb hbE hX)
        have HOK := hide hok
        have HLT := hide hlt
        have HLB : Hid (T.last ≤ i ∧ nb ≤ i ∧ i < 400) := hide ⟨hTl, hnb, by have := unhide HL; omega⟩
        clear hok hb hbE hrg hin hx hil
        obtain ⟨X, hX⟩ : ∃ X, X = wr := ⟨_, rfl⟩
        subst hX
        by_cases q1 : x.kd = 1
        · have e1 : (x.kd == 1) = true := by simp [q1]
          cases hg : goodK x.k
          · go_wp2_with (first | go_skip | ((with_reducible show wpList _ _ _ _ _ _); first | ((refine vl (by rfl) (ex_lenG 22 42 Tryd.underlying22 rfl rfl) ?_); simp only [Act.put, List.setIfInBounds_toArray, List.set_cons_succ, List.set_cons_zero]) | ((refine vl (by rfl) (ex_indexG 22 23 i und22 idx22 rfl rfl rfl (unhide HLT)) ?_); simp only [Act.put, List.setIfInBounds_toArray, List.set_cons_succ, List.set_cons_zero]) | ((refine vl (by rfl) (ex_loadC 3 Tryd.isAgg3 rfl rfl ((unhide HA2 _ (unhide HM).mw.fr) 0 _ rfl)) ?_); simp only [Act.put, List.setIfInBounds_toArray, List.set_cons_succ, List.set_cons_zero])))
            have hM1 : M1 w X.drew T t0 mb nb w.heap.size F := (unhide HM).on ((Below.refl _ _).drew)
            have hS1 := unhide HA2 _ hM1.mw.fr
            have HPU := hide (hM1.put (d := x.d) (unhide HU) (unhide HOK) (by have := unhide HLB; omega))
            rw [hg] at HPU
            refine wp_region_held_drew (P := Tryd.prog) (S := fun X => X.rangeAt b (off + i * 23) (actCs x.kd x.k x.d x.n (.slice IA x.il.length ic))) (by kernel_rfl) hS1 (fun hS0 => ?_)
            refine gsem 0 (some 44) (.pointer (some ⟨t0, 0, none⟩)) rfl (by kernel_rfl) (by kernel_rfl) (by kernel_rfl) (fun _ _ _ h => h) (by kernel_rfl) (by kernel_rfl) (fun _ _ => by kernel_rfl) hS1 ?_
            simp only [Act.put, List.setIfInBounds_toArray, List.set_cons_succ, List.set_cons_zero]
            refine gsem 1 (some 45) (.slice (some ⟨b, off, none⟩) l.length cap) rfl (by kernel_rfl) (by kernel_rfl) (by kernel_rfl) (fun _ _ _ h => h) (by kernel_rfl) (by kernel_rfl) (fun _ _ => by kernel_rfl) hS1 ?_
            simp only [Act.put, List.setIfInBounds_toArray, List.set_cons_succ, List.set_cons_zero]
            refine gsem 2 (some 46) (.int .i64 (i : Nat)) rfl (by kernel_rfl) (by kernel_rfl) (by kernel_rfl) (fun _ _ _ h => h) (by kernel_rfl) (by kernel_rfl) (fun _ _ => by kernel_rfl) hS1 ?_
            simp only [Act.put, List.setIfInBounds_toArray, List.set_cons_succ, List.set_cons_zero]
            refine gsem 3 (some 47) (.pointer (some ⟨b, off + i * 23, none⟩)) rfl (by kernel_rfl) (by kernel_rfl) (by kernel_rfl) (fun _ _ _ h => h) (by kernel_rfl) (by kernel_rfl) (fun X hX => ex_indexG 22 23 i und22 idx22 rfl rfl rfl hlt) hS1 ?_
            simp only [Act.put, List.setIfInBounds_toArray, List.set_cons_succ, List.set_cons_zero]
            refine gsem 4 (some 48) (.pointer (some ⟨b, off + i * 23 + 1, none⟩)) rfl (by kernel_rfl) (by kernel_rfl) (by kernel_rfl) (fun _ _ _ h => h) (by kernel_rfl) (by kernel_rfl) (fun _ _ => by kernel_rfl) hS1 ?_
            simp only [Act.put, List.setIfInBounds_toArray, List.set_cons_succ, List.set_cons_zero]
            refine gsem 5 (some 49) (.agg x.k.cs.toArray) rfl (by kernel_rfl) (by kernel_rfl) (by kernel_rfl) (fun _ _ _ h => h) (by kernel_rfl) (by kernel_rfl) (fun X hX => ex_loadR (vs := x.k.cs) 34 2 row33x siz33 rfl rfl (act_rK hX) rfl) hS1 ?_
            simp only [Act.put, List.setIfInBounds_toArray, List.set_cons_succ, List.set_cons_zero]
            refine gsem 6 (some 50) (.slice (some ⟨b, off, none⟩) l.length cap) rfl (by kernel_rfl) (by kernel_rfl) (by kernel_rfl) (fun _ _ _ h => h) (by kernel_rfl) (by kernel_rfl) (fun _ _ => by kernel_rfl) hS1 ?_
            simp only [Act.put, List.setIfInBounds_toArray, List.set_cons_succ, List.set_cons_zero]
            refine gsem 7 (some 51) (.int .i64 (i : Nat)) rfl (by kernel_rfl) (by kernel_rfl) (by kernel_rfl) (fun _ _ _ h => h) (by kernel_rfl) (by kernel_rfl) (fun _ _ => by kernel_rfl) hS1 ?_
            simp only [Act.put, List.setIfInBounds_toArray, List.set_cons_succ, List.set_cons_zero]
            refine gsem 8 (some 52) (.pointer (some ⟨b, off + i * 23, none⟩)) rfl (by kernel_rfl) (by kernel_rfl) (by kernel_rfl) (fun _ _ _ h => h) (by kernel_rfl) (by kernel_rfl) (fun X hX => ex_indexG 22 23 i und22 idx22 rfl rfl rfl hlt) hS1 ?_
            simp only [Act.put, List.setIfInBounds_toArray, List.set_cons_succ, List.set_cons_zero]
            refine gsem 9 (some 53) (.pointer (some ⟨b, off + i * 23 + 3, none⟩)) rfl (by kernel_rfl) (by kernel_rfl) (by kernel_rfl) (fun _ _ _ h => h) (by kernel_rfl) (by kernel_rfl) (fun _ _ => by kernel_rfl) hS1 ?_
            simp only [Act.put, List.setIfInBounds_toArray, List.set_cons_succ, List.set_cons_zero]
            refine gsem 10 (some 54) (.agg x.d.cs.toArray) rfl (by kernel_rfl) (by kernel_rfl) (by kernel_rfl) (fun _ _ _ h => h) (by kernel_rfl) (by kernel_rfl) (fun X hX => ex_loadR (vs := x.d.cs) 40 18 row39 siz39 rfl rfl (act_rD hX) rfl) hS1 ?_
            simp only [Act.put, List.setIfInBounds_toArray, List.set_cons_succ, List.set_cons_zero]
            refine wpAnyH_ready (rs := [11]) (by kernel_rfl) (by simp) (gcallR 11 (some 55) rfl (by kernel_rfl) (by kernel_rfl) (by kernel_rfl) ((unhide HPU)) ?_ AllReadyH.nil)
            rintro e Y11 ⟨rfl, T2, hM2, hP2⟩
            have hS2 := unhide HA2 _ hM2.mu.fr
            refine ⟨_, rfl, hS2, ?_⟩
            simp only [Act.put, List.setIfInBounds_toArray, List.set_cons_succ, List.set_cons_zero]
            refine wpAnyH_ready (rs := [12]) (by kernel_rfl) (by simp) (gcallR 12 (some 56) rfl (by kernel_rfl) (by kernel_rfl) (by kernel_rfl) (num11 5 (by omega) _) ?_ AllReadyH.nil)
            rintro e Y12 ⟨rfl, hb12⟩
            have hM3 := hM2.on hb12
            have hS3 := unhide HA2 _ hM3.mu.fr
            refine ⟨_, rfl, hS3, ?_⟩
            simp only [Act.put, List.setIfInBounds_toArray, List.set_cons_succ, List.set_cons_zero]
            refine gsem 13 (some 57) (.bool false) rfl (by kernel_rfl) (by kernel_rfl) (by kernel_rfl) (fun _ _ _ h => h) (by kernel_rfl) (by kernel_rfl) (fun X hX => ex_eqZ rfl rfl rfl rfl) hS3 ?_
            simp only [Act.put, List.setIfInBounds_toArray, List.set_cons_succ, List.set_cons_zero]
            refine wpAnyH_done (by kernel_rfl) ?_ _
            try simp only [Act.put, List.setIfInBounds_toArray, List.set_cons_succ, List.set_cons_zero]
            have HL2 : Hid (T2.last ≤ i + 1) := hide (by have := hP2.last; have := unhide HLB; omega)
            have hTT := put_badN (unhide HM).mw.tis hP2 hg
            have HN : Hid (M1 w _ T2 t0 mb nb w.heap.size F) := hide (hM3.same (by rw [hTT]) (by rw [hTT]))
            clear hTT
            clear hM1 hS1 hS2 hS3 hS0 HPU hb12 hM2 hP2 hM3 hg
            go_wp2
            go_roundg (l.length - (i + 1))
            case measure => have := unhide HLT; omega
            case rel => exact ⟨i + 1, T2, mb, nb, F, rfl, by go_num, by have := unhide HLT; omega, by omega, by have := unhide HLB; have := unhide HL2; omega, by have := unhide HLB; omega, HN⟩
          · go_wp2_with (first | go_skip | ((with_reducible show wpList _ _ _ _ _ _); first | ((refine vl (by rfl) (ex_lenG 22 42 Tryd.underlying22 rfl rfl) ?_); simp only [Act.put, List.setIfInBounds_toArray, List.set_cons_succ, List.set_cons_zero]) | ((refine vl (by rfl) (ex_indexG 22 23 i und22 idx22 rfl rfl rfl (unhide HLT)) ?_); simp only [Act.put, List.setIfInBounds_toArray, List.set_cons_succ, List.set_cons_zero]) | ((refine vl (by rfl) (ex_loadC 3 Tryd.isAgg3 rfl rfl ((unhide HA2 _ (unhide HM).mw.fr) 0 _ rfl)) ?_); simp only [Act.put, List.setIfInBounds_toArray, List.set_cons_succ, List.set_cons_zero])))
            have hM1 : M1 w X.drew T t0 mb nb w.heap.size F := (unhide HM).on ((Below.refl _ _).drew)
            have hS1 := unhide HA2 _ hM1.mw.fr
            have HPU := hide (hM1.put (d := x.d) (unhide HU) (unhide HOK) (by have := unhide HLB; omega))
            rw [hg] at HPU
            refine wp_region_held_drew (P := Tryd.prog) (S := fun X => X.rangeAt b (off + i * 23) (actCs x.kd x.k x.d x.n (.slice IA x.il.length ic))) (by kernel_rfl) hS1 (fun hS0 => ?_)
            refine gsem 0 (some 44) (.pointer (some ⟨t0, 0, none⟩)) rfl (by kernel_rfl) (by kernel_rfl) (by kernel_rfl) (fun _ _ _ h => h) (by kernel_rfl) (by kernel_rfl) (fun _ _ => by kernel_rfl) hS1 ?_
            simp only [Act.put, List.setIfInBounds_toArray, List.set_cons_succ, List.set_cons_zero]
            refine gsem 1 (some 45) (.slice (some ⟨b, off, none⟩) l.length cap) rfl (by kernel_rfl) (by kernel_rfl) (by kernel_rfl) (fun _ _ _ h => h) (by kernel_rfl) (by kernel_rfl) (fun _ _ => by kernel_rfl) hS1 ?_
            simp only [Act.put, List.setIfInBounds_toArray, List.set_cons_succ, List.set_cons_zero]
            refine gsem 2 (some 46) (.int .i64 (i : Nat)) rfl (by kernel_rfl) (by kernel_rfl) (by kernel_rfl) (fun _ _ _ h => h) (by kernel_rfl) (by kernel_rfl) (fun _ _ => by kernel_rfl) hS1 ?_
            simp only [Act.put, List.setIfInBounds_toArray, List.set_cons_succ, List.set_cons_zero]
            refine gsem 3 (some 47) (.pointer (some ⟨b, off + i * 23, none⟩)) rfl (by kernel_rfl) (by kernel_rfl) (by kernel_rfl) (fun _ _ _ h => h) (by kernel_rfl) (by kernel_rfl) (fun X hX => ex_indexG 22 23 i und22 idx22 rfl rfl rfl hlt) hS1 ?_
            simp only [Act.put, List.setIfInBounds_toArray, List.set_cons_succ, List.set_cons_zero]
            refine gsem 4 (some 48) (.pointer (some ⟨b, off + i * 23 + 1, none⟩)) rfl (by kernel_rfl) (by kernel_rfl) (by kernel_rfl) (fun _ _ _ h => h) (by kernel_rfl) (by kernel_rfl) (fun _ _ => by kernel_rfl) hS1 ?_
            simp only [Act.put, List.setIfInBounds_toArray, List.set_cons_succ, List.set_cons_zero]
            refine gsem 5 (some 49) (.agg x.k.cs.toArray) rfl (by kernel_rfl) (by kernel_rfl) (by kernel_rfl) (fun _ _ _ h => h) (by kernel_rfl) (by kernel_rfl) (fun X hX => ex_loadR (vs := x.k.cs) 34 2 row33x siz33 rfl rfl (act_rK hX) rfl) hS1 ?_
            simp only [Act.put, List.setIfInBounds_toArray, List.set_cons_succ, List.set_cons_zero]
            refine gsem 6 (some 50) (.slice (some ⟨b, off, none⟩) l.length cap) rfl (by kernel_rfl) (by kernel_rfl) (by kernel_rfl) (fun _ _ _ h => h) (by kernel_rfl) (by kernel_rfl) (fun _ _ => by kernel_rfl) hS1 ?_
            simp only [Act.put, List.setIfInBounds_toArray, List.set_cons_succ, List.set_cons_zero]
            refine gsem 7 (some 51) (.int .i64 (i : Nat)) rfl (by kernel_rfl) (by kernel_rfl) (by kernel_rfl) (fun _ _ _ h => h) (by kernel_rfl) (by kernel_rfl) (fun _ _ => by kernel_rfl) hS1 ?_
            simp only [Act.put, List.setIfInBounds_toArray, List.set_cons_succ, List.set_cons_zero]
            refine gsem 8 (some 52) (.pointer (some ⟨b, off + i * 23, none⟩)) rfl (by kernel_rfl) (by kernel_rfl) (by kernel_rfl) (fun _ _ _ h => h) (by kernel_rfl) (by kernel_rfl) (fun X hX => ex_indexG 22 23 i und22 idx22 rfl rfl rfl hlt) hS1 ?_
            simp only [Act.put, List.setIfInBounds_toArray, List.set_cons_succ, List.set_cons_zero]
            refine gsem 9 (some 53) (.pointer (some ⟨b, off + i * 23 + 3, none⟩)) rfl (by kernel_rfl) (by kernel_rfl) (by kernel_rfl) (fun _ _ _ h => h) (by kernel_rfl) (by kernel_rfl) (fun _ _ => by kernel_rfl) hS1 ?_
            simp only [Act.put, List.setIfInBounds_toArray, List.set_cons_succ, List.set_cons_zero]
            refine gsem 10 (some 54) (.agg x.d.cs.toArray) rfl (by kernel_rfl) (by kernel_rfl) (by kernel_rfl) (fun _ _ _ h => h) (by kernel_rfl) (by kernel_rfl) (fun X hX => ex_loadR (vs := x.d.cs) 40 18 row39 siz39 rfl rfl (act_rD hX) rfl) hS1 ?_
            simp only [Act.put, List.setIfInBounds_toArray, List.set_cons_succ, List.set_cons_zero]
            refine wpAnyH_ready (rs := [11]) (by kernel_rfl) (by simp) (gcallR 11 (some 55) rfl (by kernel_rfl) (by kernel_rfl) (by kernel_rfl) ((unhide HPU)) ?_ AllReadyH.nil)
            rintro e Y11 ⟨rfl, T2, hM2, hP2⟩
            have hS2 := unhide HA2 _ hM2.mu.fr
            refine ⟨_, rfl, hS2, ?_⟩
            simp only [Act.put, List.setIfInBounds_toArray, List.set_cons_succ, List.set_cons_zero]
            refine wpAnyH_ready (rs := [12]) (by kernel_rfl) (by simp) (gcallR 12 (some 56) rfl (by kernel_rfl) (by kernel_rfl) (by kernel_rfl) (num11 0 (by omega) _) ?_ AllReadyH.nil)
            rintro e Y12 ⟨rfl, hb12⟩
            have hM3 := hM2.on hb12
            have hS3 := unhide HA2 _ hM3.mu.fr
            refine ⟨_, rfl, hS3, ?_⟩
            simp only [Act.put, List.setIfInBounds_toArray, List.set_cons_succ, List.set_cons_zero]
            refine gsem 13 (some 57) (.bool true) rfl (by kernel_rfl) (by kernel_rfl) (by kernel_rfl) (fun _ _ _ h => h) (by kernel_rfl) (by kernel_rfl) (fun X hX => ex_eqZ rfl rfl rfl rfl) hS3 ?_
            simp only [Act.put, List.setIfInBounds_toArray, List.set_cons_succ, List.set_cons_zero]
            refine wpAnyH_done (by kernel_rfl) ?_ _
            try simp only [Act.put, List.setIfInBounds_toArray, List.set_cons_succ, List.set_cons_zero]
            go_wp2
            have hM4 := hM3.on ((Below.refl _ _).drew)
            have hS4 := unhide HA2 _ hM4.mu.fr
            refine wp_region_held_drew (P := Tryd.prog) (S := fun X => X.rangeAt b (off + i * 23) (actCs x.kd x.k x.d x.n (.slice IA x.il.length ic))) (by kernel_rfl) hS4 (fun hS0 => ?_)
            refine gsem 0 (some 58) (.map (some mb)) rfl (by kernel_rfl) (by kernel_rfl) (by kernel_rfl) (fun _ _ _ h => h) (by kernel_rfl) (by kernel_rfl) (fun _ _ => by kernel_rfl) hS4 ?_
            simp only [Act.put, List.setIfInBounds_toArray, List.set_cons_succ, List.set_cons_zero]
            refine gsem 1 (some 59) (.slice (some ⟨b, off, none⟩) l.length cap) rfl (by kernel_rfl) (by kernel_rfl) (by kernel_rfl) (fun _ _ _ h => h) (by kernel_rfl) (by kernel_rfl) (fun _ _ => by kernel_rfl) hS4 ?_
            simp only [Act.put, List.setIfInBounds_toArray, List.set_cons_succ, List.set_cons_zero]
            refine gsem 2 (some 60) (.int .i64 (i : Nat)) rfl (by kernel_rfl) (by kernel_rfl) (by kernel_rfl) (fun _ _ _ h => h) (by kernel_rfl) (by kernel_rfl) (fun _ _ => by kernel_rfl) hS4 ?_
            simp only [Act.put, List.setIfInBounds_toArray, List.set_cons_succ, List.set_cons_zero]
            refine gsem 3 (some 61) (.pointer (some ⟨b, off + i * 23, none⟩)) rfl (by kernel_rfl) (by kernel_rfl) (by kernel_rfl) (fun _ _ _ h => h) (by kernel_rfl) (by kernel_rfl) (fun X hX => ex_indexG 22 23 i und22 idx22 rfl rfl rfl hlt) hS4 ?_
            simp only [Act.put, List.setIfInBounds_toArray, List.set_cons_succ, List.set_cons_zero]
            refine gsem 4 (some 62) (.pointer (some ⟨b, off + i * 23 + 1, none⟩)) rfl (by kernel_rfl) (by kernel_rfl) (by kernel_rfl) (fun _ _ _ h => h) (by kernel_rfl) (by kernel_rfl) (fun _ _ => by kernel_rfl) hS4 ?_
            simp only [Act.put, List.setIfInBounds_toArray, List.set_cons_succ, List.set_cons_zero]
            refine gsem 5 (some 63) (.agg x.k.cs.toArray) rfl (by kernel_rfl) (by kernel_rfl) (by kernel_rfl) (fun _ _ _ h => h) (by kernel_rfl) (by kernel_rfl) (fun X hX => ex_loadR (vs := x.k.cs) 34 2 row33x siz33 rfl rfl (act_rK hX) rfl) hS4 ?_
            simp only [Act.put, List.setIfInBounds_toArray, List.set_cons_succ, List.set_cons_zero]
            refine gsem 6 (some 64) (.slice (some ⟨b, off, none⟩) l.length cap) rfl (by kernel_rfl) (by kernel_rfl) (by kernel_rfl) (fun _ _ _ h => h) (by kernel_rfl) (by kernel_rfl) (fun _ _ => by kernel_rfl) hS4 ?_
            simp only [Act.put, List.setIfInBounds_toArray, List.set_cons_succ, List.set_cons_zero]
            refine gsem 7 (some 65) (.int .i64 (i : Nat)) rfl (by kernel_rfl) (by kernel_rfl) (by kernel_rfl) (fun _ _ _ h => h) (by kernel_rfl) (by kernel_rfl) (fun _ _ => by kernel_rfl) hS4 ?_
            simp only [Act.put, List.setIfInBounds_toArray, List.set_cons_succ, List.set_cons_zero]
            refine gsem 8 (some 66) (.pointer (some ⟨b, off + i * 23, none⟩)) rfl (by kernel_rfl) (by kernel_rfl) (by kernel_rfl) (fun _ _ _ h => h) (by kernel_rfl) (by kernel_rfl) (fun X hX => ex_indexG 22 23 i und22 idx22 rfl rfl rfl hlt) hS4 ?_
            simp only [Act.put, List.setIfInBounds_toArray, List.set_cons_succ, List.set_cons_zero]
            refine gsem 9 (some 67) (.pointer (some ⟨b, off + i * 23 + 3, none⟩)) rfl (by kernel_rfl) (by kernel_rfl) (by kernel_rfl) (fun _ _ _ h => h) (by kernel_rfl) (by kernel_rfl) (fun _ _ => by kernel_rfl) hS4 ?_
            simp only [Act.put, List.setIfInBounds_toArray, List.set_cons_succ, List.set_cons_zero]
            refine gsem 10 (some 68) (.agg x.d.cs.toArray) rfl (by kernel_rfl) (by kernel_rfl) (by kernel_rfl) (fun _ _ _ h => h) (by kernel_rfl) (by kernel_rfl) (fun X hX => ex_loadR (vs := x.d.cs) 40 18 row39 siz39 rfl rfl (act_rD hX) rfl) hS4 ?_
            simp only [Act.put, List.setIfInBounds_toArray, List.set_cons_succ, List.set_cons_zero]
            obtain ⟨Y5, hy5, hM5, hf5⟩ := hM4.put (unhide HM).mw.tis hP2 hg (by have := unhide HLB; unfold maxLen; omega)
            have hS5 := unhide HA2 _ hM5.mw.fr
            refine wpAnyH_ready (rs := [11]) (by kernel_rfl) (by simp) (gskp 11 none rfl (by kernel_rfl) (by kernel_rfl) (ex_updD rfl rfl rfl rfl hy5) hS5 ?_ AllReadyH.nil)
            simp only [Act.put, List.setIfInBounds_toArray, List.set_cons_succ, List.set_cons_zero]
            refine wpAnyH_done (by kernel_rfl) ?_ _
            try simp only [Act.put, List.setIfInBounds_toArray, List.set_cons_succ, List.set_cons_zero]
            have HL2 : Hid (T2.last ≤ i + 1) := hide (by have := hP2.last; have := unhide HLB; omega)
            have HN := hide hM5
            clear hM1 hS1 hS2 hS3 hS0 HPU hb12 hM2 hP2 hM3 hM4 hS4 hS5 hM5 hy5 hf5 hg
            go_wp2
            go_roundg (l.length - (i + 1))
            case measure => have := unhide HLT; omega
            case rel => exact ⟨i + 1, T2, mb, nb + 1, (putG F x.k (some x.d)), rfl, by go_num, by have := unhide HLT; omega, by omega, by have := unhide HLB; have := unhide HL2; omega, by have := unhide HLB; omega, HN⟩
        · by_cases q2 : x.kd = 2
          · have e1 : (x.kd == 1) = false := by simp [q1]
            have e2 : (x.kd == 2) = true := by simp [q2]
            go_wp2_with (first | go_skip | ((with_reducible show wpList _ _ _ _ _ _); first | ((refine vl (by rfl) (ex_lenG 22 42 Tryd.underlying22 rfl rfl) ?_); simp only [Act.put, List.setIfInBounds_toArray, List.set_cons_succ, List.set_cons_zero]) | ((refine vl (by rfl) (ex_indexG 22 23 i und22 idx22 rfl rfl rfl (unhide HLT)) ?_); simp only [Act.put, List.setIfInBounds_toArray, List.set_cons_succ, List.set_cons_zero]) | ((refine vl (by rfl) (ex_loadC 3 Tryd.isAgg3 rfl rfl ((unhide HA2 _ (unhide HM).mw.fr) 0 _ rfl)) ?_); simp only [Act.put, List.setIfInBounds_toArray, List.set_cons_succ, List.set_cons_zero]) | ((refine vl (by rfl) (ex_loadR (vs := x.k.cs) 34 2 row33x siz33 rfl rfl (act_rK (unhide HA2 _ (unhide HM).mw.fr)) rfl) ?_); simp only [Act.put, List.setIfInBounds_toArray, List.set_cons_succ, List.set_cons_zero])))
            have HDL := hide ((unhide HM).del (unhide HOK) (by have := unhide HLB; omega))
            refine (unhide HDL).mono ?_
            rintro _ Y2 ⟨rfl, T2, hM2, ha2, hn2⟩
            obtain ⟨Y5, hy5, hM5, hf5⟩ := hM2.del (unhide HM).mw.tis ha2 (unhide HOK) 0
            have HM2 := hide hM2
            have HY5 := hide hy5
            have HL2 : Hid (T2.last ≤ i + 1) := hide (by have := unhide HLB; omega)
            have HN := hide hM5
            clear hM2 ha2 hn2 hM5 hf5 hy5 HDL
            go_wp2_with (first | go_skip | ((with_reducible show wpList _ _ _ _ _ _); first | ((refine vl (by rfl) (ex_indexG 22 23 i und22 idx22 rfl rfl rfl (unhide HLT)) ?_); simp only [Act.put, List.setIfInBounds_toArray, List.set_cons_succ, List.set_cons_zero]) | ((refine vl (by rfl) (ex_loadR (vs := x.k.cs) 34 2 row33x siz33 rfl rfl (act_rK (unhide HA2 _ (unhide HM2).mu.fr)) rfl) ?_); simp only [Act.put, List.setIfInBounds_toArray, List.set_cons_succ, List.set_cons_zero]) | ((refine vl (by rfl) (ex_delD rfl rfl rfl (unhide HY5)) ?_); simp only [Act.put, List.setIfInBounds_toArray, List.set_cons_succ, List.set_cons_zero])))
            go_roundg (l.length - (i + 1))
            case measure => have := unhide HLT; omega
            case rel => exact ⟨i + 1, T2, mb, nb, (putG F x.k none), rfl, by go_num, by have := unhide HLT; omega, by omega, by have := unhide HLB; have := unhide HL2; omega, by have := unhide HLB; omega, HN⟩
          · by_cases q3 : x.kd = 3
            · have e1 : (x.kd == 1) = false := by simp [q1]
              have e2 : (x.kd == 2) = false := by simp [q2]
              have e3 : (x.kd == 3) = true := by simp [q3]
              go_wp2_with (first | go_skip | ((with_reducible show wpList _ _ _ _ _ _); first | ((refine vl (by rfl) (ex_lenG 22 42 Tryd.underlying22 rfl rfl) ?_); simp only [Act.put, List.setIfInBounds_toArray, List.set_cons_succ, List.set_cons_zero]) | ((refine vl (by rfl) (ex_indexG 22 23 i und22 idx22 rfl rfl rfl (unhide HLT)) ?_); simp only [Act.put, List.setIfInBounds_toArray, List.set_cons_succ, List.set_cons_zero]) | ((refine vl (by rfl) (ex_loadC 3 Tryd.isAgg3 rfl rfl ((unhide HA2 _ (unhide HM).mw.fr) 0 _ rfl)) ?_); simp only [Act.put, List.setIfInBounds_toArray, List.set_cons_succ, List.set_cons_zero])))
              refine ((unhide HM).clear).mono ?_
              rintro _ Y2 ⟨rfl, T2, hM2, hl2, hn2⟩
              have HN := hide (hM2.clear hl2)
              have HL2 : Hid (T2.last ≤ i + 1) := hide (by have := unhide HLB; omega)
              clear hM2 hl2 hn2
              go_wp2_with (first | go_skip | ((with_reducible show wpList _ _ _ _ _ _); first | ((refine vl (by rfl) (ex_mm32 rfl) ?_); simp only [Act.put, List.setIfInBounds_toArray, List.set_cons_succ, List.set_cons_zero])))
              go_roundg (l.length - (i + 1))
              case measure => have := unhide HLT; omega
              case rel => exact ⟨i + 1, T2, _, 0, _, rfl, by go_num, by have := unhide HLT; omega, by omega, by have := unhide HLB; have := unhide HL2; omega, by have := unhide HLB; omega, HN⟩
            · by_cases q4 : x.kd = 4
              · have e1 : (x.kd == 1) = false := by simp [q1]
                have e2 : (x.kd == 2) = false := by simp [q2]
                have e3 : (x.kd == 3) = false := by simp [q3]
                have e4 : (x.kd == 4) = true := by simp [q4]
                go_wp2_with (first | go_skip | ((with_reducible show wpList _ _ _ _ _ _); first | ((refine vl (by rfl) (ex_lenG 22 42 Tryd.underlying22 rfl rfl) ?_); simp only [Act.put, List.setIfInBounds_toArray, List.set_cons_succ, List.set_cons_zero]) | ((refine vl (by rfl) (ex_indexG 22 23 i und22 idx22 rfl rfl rfl (unhide HLT)) ?_); simp only [Act.put, List.setIfInBounds_toArray, List.set_cons_succ, List.set_cons_zero]) | ((refine vl (by rfl) (ex_loadC 3 Tryd.isAgg3 rfl rfl ((unhide HA2 _ (unhide HM).mw.fr) 0 _ rfl)) ?_); simp only [Act.put, List.setIfInBounds_toArray, List.set_cons_succ, List.set_cons_zero])))
                refine ((unhide HM).compact (by have := unhide HLB; omega)).mono ?_
                rintro _ Y2 ⟨rfl, T2, hM2, hn2⟩
                have HN := hide hM2
                have HL2 : Hid (T2.last ≤ i + 1) := hide (by have := unhide HLB; omega)
                clear hM2 hn2
                go_wp2_with fail
                go_roundg (l.length - (i + 1))
                case measure => have := unhide HLT; omega
                case rel => exact ⟨i + 1, T2, mb, nb, F, rfl, by go_num, by have := unhide HLT; omega, by omega, by have := unhide HLB; have := unhide HL2; omega, by have := unhide HLB; omega, HN⟩
              · have e1 : (x.kd == 1) = false := by simp [q1]
                have e2 : (x.kd == 2) = false := by simp [q2]
                have e3 : (x.kd == 3) = false := by simp [q3]
                have e4 : (x.kd == 4) = false := by simp [q4]
                go_wp2_with (first | go_skip | ((with_reducible show wpList _ _ _ _ _ _); first | ((refine vl (by rfl) (ex_lenG 22 42 Tryd.underlying22 rfl rfl) ?_); simp only [Act.put, List.setIfInBounds_toArray, List.set_cons_succ, List.set_cons_zero]) | ((refine vl (by rfl) (ex_indexG 22 23 i und22 idx22 rfl rfl rfl (unhide HLT)) ?_); simp only [Act.put, List.setIfInBounds_toArray, List.set_cons_succ, List.set_cons_zero]) | ((refine vl (by rfl) (ex_loadC 3 Tryd.isAgg3 rfl rfl ((unhide HA2 _ (unhide HM).mw.fr) 0 _ rfl)) ?_); simp only [Act.put, List.setIfInBounds_toArray, List.set_cons_succ, List.set_cons_zero])))
                go_roundg (l.length - (i + 1))
                case measure => have := unhide HLT; omega
                case rel => exact ⟨i + 1, T, mb, nb, F, rfl, by go_num, by have := unhide HLT; omega, by omega, by have := unhide HLB; omega, by have := unhide HLB; omega, HM⟩
      · obtain rfl : i = l.length := by omega
        have LS := hide (unhide HM).sy
        have HTT := hide (unhide HM).mw.tt
        have HAG := hide (unhide HM).mw.agr
        have HTL : Hid (T.last ≤ 400) := hide (by have := unhide HL; omega)
        have HLV : Hid (T.live.length ≤ 400) := hide (by have h1 := T.live_le; have h2 := (unhide HM).mw.tis.len; have h3 := unhide HTL; omega)
        have HPR := hide (props27 T _ (unhide HM).mw.tis (by have := unhide HTL; omega) (by have := unhide HLV; omega))
        rw [unhide HTT] at HPR
        clear hlt hil hTl hnb HM
        go_wp2_with (first | go_skip | ((with_reducible show wpList _ _ _ _ _ _); first | ((refine vl (by rfl) (ex_lenG 22 42 Tryd.underlying22 rfl rfl) ?_); simp only [Act.put, List.setIfInBounds_toArray, List.set_cons_succ, List.set_cons_zero])))
        refine (unhide HPR).mono ?_
        rintro _ Y2 ⟨v, rfl, hov, hbv⟩
        replace LS := hide ((unhide LS).add (rowO_ok _ 54 20 v T.live.length (flatP (T.live.map RR.pr))) hov hbv (fun b hb => (World.ownsRow.lt hov b (by simpa [rowO] using hb)).1))
        obtain ⟨bs, hbs⟩ : ∃ bs, bs = wr.heap.size := ⟨_, rfl⟩
        rw [← hbs] at LS
        clear hbs
        obtain ⟨VA, vc, rfl⟩ := own_form hov
        clear hov hbv HPR
        have hnn : ((T.live.length : Int) != (T.live.length : Int)) = false := by simp
        go_wp2_with (first | go_skip | ((with_reducible show wpList _ _ _ _ _ _); first | ((refine alS (v := .slice none 0 0) 25 [.slice none 0 0] (by rfl) rfl (fun w => by kernel_rfl) rfl (Nat.succ_pos _) (unhide LS) ?_); intro Z6 B6 hB6 L6; replace LS := hide L6; clear L6; simp only [Act.put, List.setIfInBounds_toArray, List.set_cons_succ, List.set_cons_zero]) | ((refine stS (vs := [.slice VA T.live.length vc]) 4 25 (by rfl) rfl rfl rfl rfl (by simp [Value.oneCell']) sz25N (unhide LS) rfl (Nat.le_refl _) ?_); intro Z7 L7 hf7; replace LS := hide L7; clear L7 hf7; simp only [Act.put, List.setIfInBounds_toArray, List.set_cons_succ, List.set_cons_zero])))
        have HLN := hide (len30 T _ ((unhide LS).get 0 rfl))
        rw [unhide HTT] at HLN
        refine (unhide HLN).mono ?_
        rintro _ X9 ⟨rfl, hX9⟩
        subst hX9
        clear HLN
        go_wp2_with (first | go_skip | ((with_reducible show wpList _ _ _ _ _ _); first | ((refine vl (by rfl) (ex_lenD rfl rfl ((unhide LS).get 1 rfl)) ?_); simp only [Act.put, List.setIfInBounds_toArray, List.set_cons_succ, List.set_cons_zero]) | ((refine vl (by rfl) (ex_neqN rfl rfl rfl hnn) ?_); simp only [Act.put, List.setIfInBounds_toArray, List.set_cons_succ, List.set_cons_zero]) | ((refine vl (by rfl) (ex_load1 25 Tryd.isAgg25 rfl rfl ((unhide LS).get 4 rfl).1 rfl) ?_); simp only [Act.put, List.setIfInBounds_toArray, List.set_cons_succ, List.set_cons_zero]) | ((refine vl (by rfl) (ex_lenG 25 54 Tryd.underlying25 rfl rfl) ?_); simp only [Act.put, List.setIfInBounds_toArray, List.set_cons_succ, List.set_cons_zero]) | ((refine alS (v := .int .i64 0) 3 [.int .i64 0] (by rfl) rfl (fun w => by kernel_rfl) rfl (Nat.succ_pos _) (unhide LS) ?_); intro Z8 B8 hB8 L8; replace LS := hide L8; clear L8; simp only [Act.put, List.setIfInBounds_toArray, List.set_cons_succ, List.set_cons_zero]) | ((refine stS (vs := [.int .i64 0]) 5 3 (by rfl) rfl rfl rfl rfl (by simp [Value.oneCell']) sz3N (unhide LS) rfl (Nat.le_refl _) ?_); intro Z9 L9 hf9; replace LS := hide L9; clear L9 hf9; simp only [Act.put, List.setIfInBounds_toArray, List.set_cons_succ, List.set_cons_zero])))
        have HEA := hide (each41 T Z9)
        rw [unhide HTT] at HEA
        refine (unhide HEA).mono ?_
        rintro _ Y3 ⟨rfl, hY3⟩
        have LS2 := hide ((unhide LS).box [.pointer (some ⟨t0, 0, none⟩)] 29 (Nat.succ_pos _))
        obtain ⟨Bn, hBn⟩ : ∃ Bn, Bn = Z9.heap.size := ⟨_, rfl⟩
        rw [← hBn] at LS2 ⊢
        have LS3 : Hid (Sy w Y3 _) := hide (by rw [hY3]; exact unhide LS2)
        clear LS LS2 hY3 HEA hBn
        have LS := LS3
        clear LS3
        go_wp2_with (first | go_skip | ((with_reducible show wpList _ _ _ _ _ _); first | ((refine vl (by rfl) (ex_eqFnN rfl rfl) ?_); simp only [Act.put, List.setIfInBounds_toArray, List.set_cons_succ, List.set_cons_zero])))
        have LS2 : Hid (Sy w Y3 ((fun nn : Nat => [tabO T, mapO dR dD zerD mb nb T.live.length F, boxO w.heap.size [.bool false], rowO bs 54 20 (.slice VA T.live.length vc) T.live.length (flatP (T.live.map RR.pr)), boxO B6 [.slice VA T.live.length vc], boxO B8 [.int .i64 (nn : Nat)], boxO Bn [.pointer (some ⟨t0, 0, none⟩)]]) 0)) := hide (by exact unhide LS)
        clear LS
        have LS := LS2
        clear LS2
        refine (wpIn_wide (n := 4)).1 ?_
        refine range_two (σ := WS) rfl (by omega) (gf := 32) (lb := #[.pointer (some ⟨Bn, 0, none⟩)]) rfl trivial (enters_of Tryd.func32 (by kernel_rfl) rfl) (each_by 3 (by omega) t0 Bn ⟨T, 0, none, T.live.length + 1⟩ rfl _) (Below.refl _ _) ?hps (IW w (fun nn : Nat => [tabO T, mapO dR dD zerD mb nb T.live.length F, boxO w.heap.size [.bool false], rowO bs 54 20 (.slice VA T.live.length vc) T.live.length (flatP (T.live.map RR.pr)), boxO B6 [.slice VA T.live.length vc], boxO B8 [.int .i64 (nn : Nat)], boxO Bn [.pointer (some ⟨t0, 0, none⟩)]]) T) (fun _ _ => False) (fun s W h => h.tab (fun _ => rfl) (fun _ => rfl) (unhide HTT) (by have := unhide HTL; omega)) (IW.own (unhide LS).fr.size) (fun c s A B row hs hg hr => hs.elim) ?h0 10 11 (fun r => r.k.cs) (fun r => r.d.cs) (fun _ => Nat.succ_pos _) (fun _ => Nat.succ_pos _) ?assign ?body ?done ?stop
        case hps => intro q; rfl
        case h0 => exact ⟨0, unhide LS, rfl, Nat.zero_le _, AtN.zero ((unhide LS).get 0 rfl), Nat.zero_le _, by show T.live.length + 1 + 0 = _; rfl, .inl rfl⟩
        case stop => intro D c W hD hF; exact hF.elim
        case assign =>
          intro l9 s9 r9 W9 K9 hI9 hV9 hK9
          simp only [encR, zip2N, List.setIfInBounds_toArray, List.set_cons_succ, List.set_cons_zero] at hK9 ⊢
          obtain ⟨p1, p2, p3⟩ := new_var W9 zeroK.cs r9.k.cs 34 (Nat.le_refl _) rfl (Nat.succ_pos _)
          have HK9 := hide hK9
          have HI9 := hide hI9
          clear hK9 hI9
          obtain ⟨X1, hX1⟩ : ∃ X1, X1 = (W9.alloc (Obj.cells zeroK.cs.toArray 34)).setCells W9.heap.size 0 r9.k.cs := ⟨_, rfl⟩
          rw [← hX1] at p1 p2 p3
          obtain ⟨q1, q2, q3⟩ := new_var X1 zeroD.cs r9.d.cs 40 (Nat.le_refl _) rfl (Nat.succ_pos _)
          obtain ⟨X2, hX2⟩ : ∃ X2, X2 = (X1.alloc (Obj.cells zeroD.cs.toArray 40)).setCells X1.heap.size 0 r9.d.cs := ⟨_, rfl⟩
          rw [← hX2] at q1 q2 q3
          have hb2 : Below W9.heap.size W9 X2 := p1.trans (q1.mono p1.size)
          refine wpIn_seq ?_
          refine wpIn_region_lit ?_
          refine inV (fun _ => trivial) (by rfl) (by intro c h; cases h) (ex_alloc33 rfl) ?_
          simp only [Act.put, List.setIfInBounds_toArray, List.set_cons_succ, List.set_cons_zero]
          refine inS (fun _ => trivial) (by rfl) (by intro c h; cases h) (ex_store (t := 34) (vs := r9.k.cs) rfl rfl rfl rfl (by simp [KK.cs, Value.oneCell']) siz33 (Holds.new W9 zeroK.cs 34) (Nat.le_refl _)) ?_
          simp only [Act.put, List.setIfInBounds_toArray, List.set_cons_succ, List.set_cons_zero]
          refine wpListIn_nil ?_
          rw [← hX1]
          refine wpIn_region_lit ?_
          refine inV (fun _ => trivial) (by rfl) (by intro c h; cases h) (ex_alloc39 rfl) ?_
          simp only [Act.put, List.setIfInBounds_toArray, List.set_cons_succ, List.set_cons_zero]
          refine inS (fun _ => trivial) (by rfl) (by intro c h; cases h) (ex_store (t := 40) (vs := r9.d.cs) rfl rfl rfl rfl (by simp [DD.cs, VV.cs, Value.oneCell']) siz39 (Holds.new X1 zeroD.cs 40) (Nat.le_refl _)) ?_
          simp only [Act.put, List.setIfInBounds_toArray, List.set_cons_succ, List.set_cons_zero]
          refine wpListIn_nil ?_
          rw [← hX2]
          exact (unhide HK9) _ _ X2 (kl_fr (Fr.of_below hb2 []) (by simp)) ((unhide HI9).on hb2) (p2.block (q1.block _ (p2.lt (Nat.succ_pos _)))) q2
        case body =>
          intro l9 s9 r9 B C W hl9 hI9 hV9 hH9 hG9
          simp only [encR, zip2N, List.setIfInBounds_toArray, List.set_cons_succ, List.set_cons_zero]
          obtain ⟨nn, hS, hT9, hnn, hAt, hmT, hleft, hrb⟩ := hI9
          unfold WV at hV9
          rw [hT9] at hV9
          have hat : T.live[nn]? = some r9 := hAt.symm.trans hV9
          have hnlt : nn < T.live.length := (List.getElem?_eq_some_iff.1 hat).1
          obtain ⟨g, hVA⟩ := rowAtN (hS.get 3 rfl) rfl hat
          subst hVA
          have hge : decide ((T.live.length : Int) ≤ (nn : Int)) = false := decide_eq_false (by omega)
          obtain ⟨hrm, -, -⟩ := next_mem hV9
          have HS9 : Hid ((fun X => Sy w X ((fun nn : Nat => [tabO T, mapO dR dD zerD mb nb T.live.length F, boxO w.heap.size [.bool false], rowO bs 54 20 (.slice (some ⟨g, 0, none⟩) T.live.length vc) T.live.length (flatP (T.live.map RR.pr)), boxO B6 [.slice (some ⟨g, 0, none⟩) T.live.length vc], boxO B8 [.int .i64 (nn : Nat)], boxO Bn [.pointer (some ⟨t0, 0, none⟩)]]) nn) ∧ Holds X B r9.k.cs ∧ Holds X C r9.d.cs) W) := hide ⟨hS, hH9, hG9⟩
          have HF9 := hide (And.intro hT9 (And.intro hmT hleft))
          clear hS hH9 hG9 hAt hT9 hmT hrb
          gi_wp2_with fail
          refine region_round (S := (fun X => Sy w X ((fun nn : Nat => [tabO T, mapO dR dD zerD mb nb T.live.length F, boxO w.heap.size [.bool false], rowO bs 54 20 (.slice (some ⟨g, 0, none⟩) T.live.length vc) T.live.length (flatP (T.live.map RR.pr)), boxO B6 [.slice (some ⟨g, 0, none⟩) T.live.length vc], boxO B8 [.int .i64 (nn : Nat)], boxO Bn [.pointer (some ⟨t0, 0, none⟩)]]) nn) ∧ Holds X B r9.k.cs ∧ Holds X C r9.d.cs)) (by kernel_rfl) (by kernel_rfl) (by rintro ⟨a, w, h⟩; exact h) ?_
          have hs0 : (fun X => Sy w X ((fun nn : Nat => [tabO T, mapO dR dD zerD mb nb T.live.length F, boxO w.heap.size [.bool false], rowO bs 54 20 (.slice (some ⟨g, 0, none⟩) T.live.length vc) T.live.length (flatP (T.live.map RR.pr)), boxO B6 [.slice (some ⟨g, 0, none⟩) T.live.length vc], boxO B8 [.int .i64 (nn : Nat)], boxO Bn [.pointer (some ⟨t0, 0, none⟩)]]) nn) ∧ Holds X B r9.k.cs ∧ Holds X C r9.d.cs) _ := ⟨(unhide HS9).1.on ((Below.refl _ _).drew), (unhide HS9).2.1.block rfl, (unhide HS9).2.2.block rfl⟩
          refine gsem 0 (some 114) (.int .i64 (nn : Nat)) rfl (by kernel_rfl) (by kernel_rfl) (by kernel_rfl) (fun _ _ _ h => h) (by kernel_rfl) (by kernel_rfl) (fun X hX => ex_load1 3 Tryd.isAgg3 rfl rfl (hX.1.get 5 rfl).1 rfl) hs0 ?_
          simp only [Act.put, List.setIfInBounds_toArray, List.set_cons_succ, List.set_cons_zero]
          refine gsem 1 (some 115) (.slice (some ⟨g, 0, none⟩) T.live.length vc) rfl (by kernel_rfl) (by kernel_rfl) (by kernel_rfl) (fun _ _ _ h => h) (by kernel_rfl) (by kernel_rfl) (fun X hX => ex_load1 25 Tryd.isAgg25 rfl rfl (hX.1.get 4 rfl).1 rfl) hs0 ?_
          simp only [Act.put, List.setIfInBounds_toArray, List.set_cons_succ, List.set_cons_zero]
          refine gsem 2 (some 116) (.int .i64 (T.live.length : Nat)) rfl (by kernel_rfl) (by kernel_rfl) (by kernel_rfl) (fun _ _ _ h => h) (by kernel_rfl) (by kernel_rfl) (fun X hX => ex_lenG 25 54 Tryd.underlying25 rfl rfl) hs0 ?_
          simp only [Act.put, List.setIfInBounds_toArray, List.set_cons_succ, List.set_cons_zero]
          refine gsem 3 (some 117) (.bool false) rfl (by kernel_rfl) (by kernel_rfl) (by kernel_rfl) (fun _ _ _ h => h) (by kernel_rfl) (by kernel_rfl) (fun X hX => ex_geN rfl rfl rfl hge) hs0 ?_
          simp only [Act.put, List.setIfInBounds_toArray, List.set_cons_succ, List.set_cons_zero]
          refine gsem 4 (some 118) (.bool false) rfl (by kernel_rfl) (by kernel_rfl) (by kernel_rfl) (fun _ _ _ h => h) (by kernel_rfl) (by kernel_rfl) (fun _ _ => by kernel_rfl) hs0 ?_
          simp only [Act.put, List.setIfInBounds_toArray, List.set_cons_succ, List.set_cons_zero]
          refine gsem 5 (some 119) (.slice (some ⟨g, 0, none⟩) T.live.length vc) rfl (by kernel_rfl) (by kernel_rfl) (by kernel_rfl) (fun _ _ _ h => h) (by kernel_rfl) (by kernel_rfl) (fun X hX => ex_load1 25 Tryd.isAgg25 rfl rfl (hX.1.get 4 rfl).1 rfl) hs0 ?_
          simp only [Act.put, List.setIfInBounds_toArray, List.set_cons_succ, List.set_cons_zero]
          refine gsem 6 (some 120) (.int .i64 (nn : Nat)) rfl (by kernel_rfl) (by kernel_rfl) (by kernel_rfl) (fun _ _ _ h => h) (by kernel_rfl) (by kernel_rfl) (fun X hX => ex_load1 3 Tryd.isAgg3 rfl rfl (hX.1.get 5 rfl).1 rfl) hs0 ?_
          simp only [Act.put, List.setIfInBounds_toArray, List.set_cons_succ, List.set_cons_zero]
          refine gsem 7 (some 121) (.pointer (some ⟨g, 0 + nn * 20, none⟩)) rfl (by kernel_rfl) (by kernel_rfl) (by kernel_rfl) (fun _ _ _ h => h) (by kernel_rfl) (by kernel_rfl) (fun X hX => ex_indexG 25 20 nn unRw idRw rfl rfl rfl hnlt) hs0 ?_
          simp only [Act.put, List.setIfInBounds_toArray, List.set_cons_succ, List.set_cons_zero]
          refine gsem 8 (some 122) (.pointer (some ⟨g, 0 + nn * 20, none⟩)) rfl (by kernel_rfl) (by kernel_rfl) (by kernel_rfl) (fun _ _ _ h => h) (by kernel_rfl) (by kernel_rfl) (fun _ _ => by kernel_rfl) hs0 ?_
          simp only [Act.put, List.setIfInBounds_toArray, List.set_cons_succ, List.set_cons_zero]
          refine gsem 9 (some 123) (.agg r9.k.cs.toArray) rfl (by kernel_rfl) (by kernel_rfl) (by kernel_rfl) (fun _ _ _ h => h) (by kernel_rfl) (by kernel_rfl) (fun X hX => ex_loadR (vs := r9.k.cs) 34 2 row33x siz33 rfl rfl (range_left (a := r9.k.cs) (c := r9.d.cs) (rowRN (hX.1.get 3 rfl) rfl hat)) rfl) hs0 ?_
          simp only [Act.put, List.setIfInBounds_toArray, List.set_cons_succ, List.set_cons_zero]
          refine gsem 10 (some 124) (.agg r9.k.cs.toArray) rfl (by kernel_rfl) (by kernel_rfl) (by kernel_rfl) (fun _ _ _ h => h) (by kernel_rfl) (by kernel_rfl) (fun X hX => ex_loadN (vs := r9.k.cs) 34 2 row33x siz33 rfl rfl (hX.2.1) rfl rfl) hs0 ?_
          simp only [Act.put, List.setIfInBounds_toArray, List.set_cons_succ, List.set_cons_zero]
          refine gsem 11 (some 125) (.bool false) rfl (by kernel_rfl) (by kernel_rfl) (by kernel_rfl) (fun _ _ _ h => h) (by kernel_rfl) (by kernel_rfl) (fun X hX => ex_neqKK r9.k rfl rfl rfl) hs0 ?_
          simp only [Act.put, List.setIfInBounds_toArray, List.set_cons_succ, List.set_cons_zero]
          refine gsem 12 (some 126) (.bool false) rfl (by kernel_rfl) (by kernel_rfl) (by kernel_rfl) (fun _ _ _ h => h) (by kernel_rfl) (by kernel_rfl) (fun _ _ => by kernel_rfl) hs0 ?_
          simp only [Act.put, List.setIfInBounds_toArray, List.set_cons_succ, List.set_cons_zero]
          refine gsem 13 (some 127) (.bool false) rfl (by kernel_rfl) (by kernel_rfl) (by kernel_rfl) (fun _ _ _ h => h) (by kernel_rfl) (by kernel_rfl) (fun _ _ => by kernel_rfl) hs0 ?_
          simp only [Act.put, List.setIfInBounds_toArray, List.set_cons_succ, List.set_cons_zero]
          refine gsem 14 (some 128) (.slice (some ⟨g, 0, none⟩) T.live.length vc) rfl (by kernel_rfl) (by kernel_rfl) (by kernel_rfl) (fun _ _ _ h => h) (by kernel_rfl) (by kernel_rfl) (fun X hX => ex_load1 25 Tryd.isAgg25 rfl rfl (hX.1.get 4 rfl).1 rfl) hs0 ?_
          simp only [Act.put, List.setIfInBounds_toArray, List.set_cons_succ, List.set_cons_zero]
          refine gsem 15 (some 129) (.int .i64 (nn : Nat)) rfl (by kernel_rfl) (by kernel_rfl) (by kernel_rfl) (fun _ _ _ h => h) (by kernel_rfl) (by kernel_rfl) (fun X hX => ex_load1 3 Tryd.isAgg3 rfl rfl (hX.1.get 5 rfl).1 rfl) hs0 ?_
          simp only [Act.put, List.setIfInBounds_toArray, List.set_cons_succ, List.set_cons_zero]
          refine gsem 16 (some 130) (.pointer (some ⟨g, 0 + nn * 20, none⟩)) rfl (by kernel_rfl) (by kernel_rfl) (by kernel_rfl) (fun _ _ _ h => h) (by kernel_rfl) (by kernel_rfl) (fun X hX => ex_indexG 25 20 nn unRw idRw rfl rfl rfl hnlt) hs0 ?_
          simp only [Act.put, List.setIfInBounds_toArray, List.set_cons_succ, List.set_cons_zero]
          refine gsem 17 (some 131) (.pointer (some ⟨g, 0 + nn * 20 + 2, none⟩)) rfl (by kernel_rfl) (by kernel_rfl) (by kernel_rfl) (fun _ _ _ h => h) (by kernel_rfl) (by kernel_rfl) (fun _ _ => by kernel_rfl) hs0 ?_
          simp only [Act.put, List.setIfInBounds_toArray, List.set_cons_succ, List.set_cons_zero]
          refine gsem 18 (some 132) (.agg r9.d.cs.toArray) rfl (by kernel_rfl) (by kernel_rfl) (by kernel_rfl) (fun _ _ _ h => h) (by kernel_rfl) (by kernel_rfl) (fun X hX => ex_loadR (vs := r9.d.cs) 40 18 row39 siz39 rfl rfl (range_right (a := r9.k.cs) (c := r9.d.cs) (rowRN (hX.1.get 3 rfl) rfl hat)) rfl) hs0 ?_
          simp only [Act.put, List.setIfInBounds_toArray, List.set_cons_succ, List.set_cons_zero]
          refine gsem 19 (some 133) (.agg r9.d.cs.toArray) rfl (by kernel_rfl) (by kernel_rfl) (by kernel_rfl) (fun _ _ _ h => h) (by kernel_rfl) (by kernel_rfl) (fun X hX => ex_loadN (vs := r9.d.cs) 40 18 row39 siz39 rfl rfl (hX.2.2) rfl rfl) hs0 ?_
          simp only [Act.put, List.setIfInBounds_toArray, List.set_cons_succ, List.set_cons_zero]
          refine wpAnyH_ready (rs := [20]) (by kernel_rfl) (by simp) (gcallR 20 (some 134) rfl (by kernel_rfl) (by kernel_rfl) (by kernel_rfl) (sameDesc21 r9.d _) ?_ AllReadyH.nil)
          rintro e Y20 ⟨rfl, hY20⟩
          have hs2 : (fun X => Sy w X ((fun nn : Nat => [tabO T, mapO dR dD zerD mb nb T.live.length F, boxO w.heap.size [.bool false], rowO bs 54 20 (.slice (some ⟨g, 0, none⟩) T.live.length vc) T.live.length (flatP (T.live.map RR.pr)), boxO B6 [.slice (some ⟨g, 0, none⟩) T.live.length vc], boxO B8 [.int .i64 (nn : Nat)], boxO Bn [.pointer (some ⟨t0, 0, none⟩)]]) nn) ∧ Holds X B r9.k.cs ∧ Holds X C r9.d.cs) Y20 := ⟨hs0.1.on hY20, hs0.2.1.block (hY20.block _ (hs0.2.1.lt (Nat.succ_pos _))), hs0.2.2.block (hY20.block _ (hs0.2.2.lt (Nat.succ_pos _)))⟩
          refine ⟨_, rfl, hs2, ?_⟩
          simp only [Act.put, List.setIfInBounds_toArray, List.set_cons_succ, List.set_cons_zero]
          refine gsem 21 (some 135) (.bool false) rfl (by kernel_rfl) (by kernel_rfl) (by kernel_rfl) (fun _ _ _ h => h) (by kernel_rfl) (by kernel_rfl) (fun _ _ => by kernel_rfl) hs2 ?_
          simp only [Act.put, List.setIfInBounds_toArray, List.set_cons_succ, List.set_cons_zero]
          refine gsem 22 (some 136) (.bool false) rfl (by kernel_rfl) (by kernel_rfl) (by kernel_rfl) (fun _ _ _ h => h) (by kernel_rfl) (by kernel_rfl) (fun _ _ => by kernel_rfl) hs2 ?_
          simp only [Act.put, List.setIfInBounds_toArray, List.set_cons_succ, List.set_cons_zero]
          refine wpAnyH_done (by kernel_rfl) ?_ _
          try simp only [Act.put, List.setIfInBounds_toArray, List.set_cons_succ, List.set_cons_zero]
          have LS9 := hide hs2.1
          have HKL : Hid (KL W _) := hide (kl_fr (Fr.of_below ((((Below.refl _ _).drew : Below W.heap.size W W.drew)).trans (hY20.mono (Nat.le_refl _))) []) (by simp))
          clear hs0 hs2 hY20
          have HNL : Hid (nn < 1000000) := hide (by have := unhide HLV; omega)
          gi_wp2_with (first | go_skip | ((with_reducible show wpListIn _ _ _ _ _ _ _ _); first | ((refine inV (fun _ => trivial) (by rfl) (by intro c h; cases h) (ex_load1 3 Tryd.isAgg3 rfl rfl ((unhide LS9).get 5 rfl).1 rfl) ?_); simp only [Act.put, List.setIfInBounds_toArray, List.set_cons_succ, List.set_cons_zero]) | ((refine inV (fun _ => trivial) (by rfl) (by intro c h; cases h) (ex_addN rfl rfl rfl (unhide HNL)) ?_); simp only [Act.put, List.setIfInBounds_toArray, List.set_cons_succ, List.set_cons_zero]) | ((refine inS (fun _ => trivial) (by rfl) (by intro c h; cases h) (ex_store (t := 3) (vs := [.int .i64 ((nn + 1 : Nat) : Int)]) rfl rfl rfl rfl (by simp [Value.oneCell']) sz3N ((unhide LS9).get 5 rfl).1 (Nat.le_refl _)) ?_); simp only [Act.put, List.setIfInBounds_toArray, List.set_cons_succ, List.set_cons_zero])))
          have hT2 : T.Is _ := (unhide LS9).get 0 rfl
          have hst := AtN.step hT2 hnlt
          rw [(List.getElem?_eq_some_iff.1 hat).2] at hst
          exact ⟨(unhide HKL).trans ((unhide LS9).kl (i := 5) rfl (Fr.setCells _ B8 0 _)), ⟨T, r9.n, some r9.b, s9.left - 1⟩, ⟨rfl, rfl, by have := (unhide HF9).2.2; show s9.left - 1 < s9.left; omega⟩, nn + 1, (unhide LS9).putB 5 rfl 0 [.int .i64 ((nn + 1 : Nat) : Int)] (Nat.le_refl _), rfl, hnlt, hst, (hT2.num r9 hrm).2, by have := (unhide HF9).2.2; show s9.left - 1 + (nn + 1) = _; omega, .inr ⟨r9, hrm, rfl, rfl⟩⟩
        case done =>
          rintro D s9 W9 hD9 hF9 ⟨nn, hS9, hT9, hnn, hAt, -, -, -⟩ hM9
          have hne : nn = T.live.length := walk_end hAt (by rw [← hT9]; exact hF9) hnn
          subst hne
          have LM : Hid (SyM w W9 [tabO T, mapO dR dD zerD mb nb T.live.length F, boxO w.heap.size [.bool false], rowO bs 54 20 (.slice VA T.live.length vc) T.live.length (flatP (T.live.map RR.pr)), boxO B6 [.slice VA T.live.length vc], boxO B8 [.int .i64 (T.live.length : Nat)], boxO Bn [.pointer (some ⟨t0, 0, none⟩)]] D) := hide ⟨hS9, hM9, Nat.le_trans (unhide LS).fr.size hD9⟩
          clear hS9 hM9 hT9 hAt hF9 hD9 hnn LS
          go_wp2_with (first | go_skip | ((with_reducible show wpList _ _ _ _ _ _); first | ((refine vl (by rfl) (ex_mm56 rfl) ?_); simp only [Act.put, List.setIfInBounds_toArray, List.set_cons_succ, List.set_cons_zero])))
          obtain ⟨sb, hsb⟩ : ∃ sb, sb = W9.heap.size := ⟨_, rfl⟩
          have hbl : Below W9.heap.size W9 (W9.alloc (.map #[] 0)) := (Below.refl _ _).alloc (Nat.le_refl _) _
          have LM1 := (unhide LM).add (mapO_ok iR (fun n : Int => DataW.lit (.int .i64 n)) (0 : Int) W9.heap.size 0 0 (fun _ => none)) (MapG.made W9) hbl (fun b hb => by rw [List.mem_singleton.1 hb]; exact Nat.le_refl _)
          have LM2 := LM1.add (rowO_ok w.heap.size 34 2 (.slice none 0 0) 0 []) (show World.ownsRow _ _ _ _ _ _ _ from ⟨rfl, .inl ⟨rfl, rfl⟩⟩) (Below.refl _ _) (fun b hb => by cases hb)
          rw [← hsb] at LM2 ⊢
          have HT9 := hide (unhide HTT)
          clear hbl LM1 hsb
          replace LM : Hid (SyM w _ [tabO T, mapO dR dD zerD mb nb T.live.length F, boxO w.heap.size [.bool false], rowO bs 54 20 (.slice VA T.live.length vc) T.live.length (flatP (T.live.map RR.pr)), boxO B6 [.slice VA T.live.length vc], boxO B8 [.int .i64 (T.live.length : Nat)], boxO Bn [.pointer (some ⟨t0, 0, none⟩)], mapO iR (fun n : Int => DataW.lit (.int .i64 n)) (0 : Int) sb 0 0 (seenG (T.live.take 0)), rowO w.heap.size 34 2 (.slice none 0 0) (0) (flatK ((T.live.take (0)).map (·.k)))] D) := hide (by exact LM2)
          clear LM2
          go_loopg [7, 13] T.live.length (fun gm s7 s13 wq => ∃ (j : Nat) (T3 : TT) (ns sz : Nat), s13 = .int .i64 (j : Nat) ∧ j ≤ T.live.length ∧ T.live.length - j ≤ gm ∧ T3.live = T.live ∧ T3.t = t0 ∧ T3.last = T.last ∧ ns ≤ j ∧ Hid (SyM w wq [tabO T3, mapO dR dD zerD mb nb T.live.length F, boxO w.heap.size [.bool false], rowO bs 54 20 (.slice VA T.live.length vc) T.live.length (flatP (T.live.map RR.pr)), boxO B6 [.slice VA T.live.length vc], boxO B8 [.int .i64 (T.live.length : Nat)], boxO Bn [.pointer (some ⟨t0, 0, none⟩)], mapO iR (fun n : Int => DataW.lit (.int .i64 n)) (0 : Int) sb ns sz (seenG (T.live.take j)), rowO w.heap.size 34 2 (s7) (j) (flatK ((T.live.take (j)).map (·.k)))] D))
          case atStart => exact ⟨0, T, 0, 0, rfl, by omega, by omega, rfl, unhide HTT, rfl, Nat.le_refl _, LM⟩
          case round =>
            clear LM
            obtain ⟨j, T3, ns, sz, rfl, hjl, hgm3, hlv3, htt3, hla3, hns, LM⟩ := hrel
            by_cases hjt : j < T.live.length
            · obtain ⟨KA, kc, hkv⟩ := own_form ((unhide LM).get 8 rfl)
              subst hkv
              have djl : decide ((j : Int) < (T.live.length : Int)) = true := decide_eq_true (by omega)
              have hw3 : IntKind.i64.wrap ((j : Int) + 1) = (j : Int) + 1 := by have := unhide HLV; rw [IntKind.wrap_i64]; omega
              obtain ⟨r, hjr⟩ : ∃ r, T.live[j]? = some r := ⟨_, List.getElem?_eq_getElem hjt⟩
              obtain ⟨g, hVA⟩ := rowAtN ((unhide LM).get 3 rfl) rfl hjr
              subst hVA
              have hT3 : T3.Is _ := (unhide LM).get 0 rfl
              have hrm3 : r ∈ T3.live := by rw [hlv3]; exact List.mem_of_getElem? hjr
              have hfd := find_liveN hT3 hrm3
              have HOK3 := hide (good_ok (hT3.good r hrm3))
              have HFK : Hid (F r.k = some r.d) := hide (by rw [unhide HAG r.k (unhide HOK3), look_abs, show T.find r.k = T3.find r.k by unfold TT.find; rw [hlv3], hfd]; rfl)
              have HJR := hide hjr
              have HJL := hide hjt
              have HNS := hide hns
              have HSN : Hid (seenG (T.live.take j) r.k = none) := hide (by have h9 := seen_no hT3 (j := j) (r := r) (by rw [hlv3]; exact hjr); rw [hlv3] at h9; exact h9)
              have hgd : getD T3 r.k = r.d := by unfold getD; rw [hfd]; rfl
              have HG3 := hide (fun (X : World) (h : T3.Is X) => get19 T3 r.k X h (unhide HOK3))
              simp only [hgd, hfd, htt3, Option.isSome_some] at HG3
              have he3 : T3.live[j]? = some r := by rw [hlv3]; exact hjr
              obtain ⟨hj3, he4⟩ := List.getElem?_eq_some_iff.1 he3
              have HA3 := hide (fun (X : World) (h : T3.Is X) => at_in T3 j X h (by have := unhide HTL; omega) hj3)
              simp only [he4, htt3] at HA3
              have H3 := hide (And.intro hlv3 (And.intro htt3 hla3))
              clear hT3 hrm3 hfd hgd he3 he4 hlv3 htt3 hla3 hns hjl
              go_wp2_with (first | go_skip | ((with_reducible show wpList _ _ _ _ _ _); first | ((refine vl (by rfl) (ex_load1 25 Tryd.isAgg25 rfl rfl ((unhide LM).get 4 rfl).1 rfl) ?_); simp only [Act.put, List.setIfInBounds_toArray, List.set_cons_succ, List.set_cons_zero]) | ((refine vl (by rfl) (ex_lenG 25 54 Tryd.underlying25 rfl rfl) ?_); simp only [Act.put, List.setIfInBounds_toArray, List.set_cons_succ, List.set_cons_zero]) | ((refine vl (by rfl) (ex_indexG 25 20 j unRw idRw rfl rfl rfl (unhide HJL)) ?_); simp only [Act.put, List.setIfInBounds_toArray, List.set_cons_succ, List.set_cons_zero]) | ((refine vl (by rfl) (ex_loadR (vs := r.k.cs) 34 2 row33x siz33 rfl rfl (range_left (a := r.k.cs) (c := r.d.cs) (rowRN0 ((unhide LM).get 3 rfl) rfl (unhide HJR))) rfl) ?_); simp only [Act.put, List.setIfInBounds_toArray, List.set_cons_succ, List.set_cons_zero]) | ((refine vl (by rfl) (ex_loadR (vs := r.k.cs) 34 2 row33x siz33 rfl rfl (range_left (a := r.k.cs) (c := r.d.cs) (rowRN ((unhide LM).get 3 rfl) rfl (unhide HJR))) rfl) ?_); simp only [Act.put, List.setIfInBounds_toArray, List.set_cons_succ, List.set_cons_zero]) | ((refine vl (by rfl) (ex_lookD rfl rfl rfl ((unhide LM).get 1 rfl) (unhide HOK3) (unhide HFK)) ?_); simp only [Act.put, List.setIfInBounds_toArray, List.set_cons_succ, List.set_cons_zero]) | ((refine alM (v := .agg zeroD.cs.toArray) 40 (zeroD.cs) (by rfl) rfl (fun w => by kernel_rfl) rfl (Nat.succ_pos _) (unhide LM) ?_); intro Z14 B14 hB14 L14; replace LM := hide L14; clear L14; simp only [Act.put, List.setIfInBounds_toArray, List.set_cons_succ, List.set_cons_zero]) | ((refine stM (vs := r.d.cs) 9 40 (by rfl) rfl rfl rfl rfl (by simp [DD.cs, VV.cs, Value.oneCell']) siz39 (unhide LM) rfl (Nat.le_refl _) ?_); intro Z15 L15; replace LM := hide L15; clear L15; simp only [Act.put, List.setIfInBounds_toArray, List.set_cons_succ, List.set_cons_zero])))
              refine (unhide HG3 _ ((unhide LM).get 0 rfl)).mono ?_
              rintro _ Y20 ⟨rfl, hb20⟩
              replace LM := hide ((unhide LM).on hb20)
              clear hb20 HG3
              go_wp2_with (first | go_skip | ((with_reducible show wpList _ _ _ _ _ _); first | ((refine alM (v := .agg zeroD.cs.toArray) 40 (zeroD.cs) (by rfl) rfl (fun w => by kernel_rfl) rfl (Nat.succ_pos _) (unhide LM) ?_); intro Z16 B16 hB16 L16; replace LM := hide L16; clear L16; simp only [Act.put, List.setIfInBounds_toArray, List.set_cons_succ, List.set_cons_zero]) | ((refine stM (vs := r.d.cs) 10 40 (by rfl) rfl rfl rfl rfl (by simp [DD.cs, VV.cs, Value.oneCell']) siz39 (unhide LM) rfl (Nat.le_refl _) ?_); intro Z17 L17; replace LM := hide L17; clear L17; simp only [Act.put, List.setIfInBounds_toArray, List.set_cons_succ, List.set_cons_zero])))
              refine (unhide HA3 _ ((unhide LM).get 0 rfl)).mono ?_
              rintro _ Y21 ⟨rfl, T4, hTo, hl4⟩
              replace LM := hide ((unhide LM).set 0 rfl (tabO_ok T4) hTo.is hTo.fr hTo.new)
              have H4 : Hid (T4.live = T.live ∧ T4.t = t0 ∧ T4.last = T.last) := hide ⟨hl4.trans (unhide H3).1, hTo.t.trans (unhide H3).2.1, hTo.last.trans (unhide H3).2.2⟩
              clear hTo hl4 HA3
              go_wp2_with (first | go_skip | ((with_reducible show wpList _ _ _ _ _ _); first | ((refine alM (v := .agg (zeroK.cs ++ zeroD.cs).toArray) 54 (zeroK.cs ++ zeroD.cs) (by rfl) rfl (fun w => by kernel_rfl) rfl (Nat.succ_pos _) (unhide LM) ?_); intro Z18 B18 hB18 L18; replace LM := hide L18; clear L18; simp only [Act.put, List.setIfInBounds_toArray, List.set_cons_succ, List.set_cons_zero]) | ((refine stM (vs := r.k.cs ++ r.d.cs) 11 54 (by rfl) rfl rfl rfl rfl (by simp [KK.cs, DD.cs, VV.cs, Value.oneCell']) sz54N (unhide LM) rfl (Nat.le_refl _) ?_); intro Z19 L19; replace LM := hide L19; clear L19; simp only [Act.put, List.setIfInBounds_toArray, List.set_cons_succ, List.set_cons_zero])))
              have LMx : Hid (SyM w _ [tabO T4, mapO dR dD zerD mb nb T.live.length F, boxO w.heap.size [.bool false], rowO bs 54 20 (.slice (some ⟨g, 0, none⟩) T.live.length vc) T.live.length (flatP (T.live.map RR.pr)), boxO B6 [.slice (some ⟨g, 0, none⟩) T.live.length vc], boxO B8 [.int .i64 (T.live.length : Nat)], boxO Bn [.pointer (some ⟨t0, 0, none⟩)], mapO iR (fun n : Int => DataW.lit (.int .i64 n)) (0 : Int) sb ns sz (seenG (T.live.take j)), rowO w.heap.size 34 2 (.slice KA j kc) (j) (flatK ((T.live.take (j)).map (·.k))), boxO B14 r.d.cs, boxO B16 r.d.cs, boxO B18 (r.k.cs ++ r.d.cs)] D) := hide (by exact unhide LM)
              clear LM
              have LM := LMx
              clear LMx
              have hM1 : SyM w _ [tabO T4, mapO dR dD zerD mb nb T.live.length F, boxO w.heap.size [.bool false], rowO bs 54 20 (.slice (some ⟨g, 0, none⟩) T.live.length vc) T.live.length (flatP (T.live.map RR.pr)), boxO B6 [.slice (some ⟨g, 0, none⟩) T.live.length vc], boxO B8 [.int .i64 (T.live.length : Nat)], boxO Bn [.pointer (some ⟨t0, 0, none⟩)], mapO iR (fun n : Int => DataW.lit (.int .i64 n)) (0 : Int) sb ns sz (seenG (T.live.take j)), rowO w.heap.size 34 2 (.slice KA j kc) (j) (flatK ((T.live.take (j)).map (·.k))), boxO B14 r.d.cs, boxO B16 r.d.cs, boxO B18 (r.k.cs ++ r.d.cs)] D := (unhide LM).on ((Below.refl _ _).drew)
              have hs1 := (⟨(hM1.get 4 rfl).1, hM1.get 3 rfl⟩ : (fun X => Holds X B6 [.slice (some ⟨g, 0, none⟩) T.live.length vc] ∧ X.ownsRow bs 54 20 (.slice (some ⟨g, 0, none⟩) T.live.length vc) T.live.length (flatP (T.live.map RR.pr))) _)
              obtain ⟨v0, st, X1, e1, f1, e7, Y1x, e2, hMN, f2⟩ := MapN.entry2 (hM1.get 7 rfl) (unhide HOK3) (by have := unhide HNS; have := unhide HLV; unfold maxLen; omega) (unhide HSN) 1
              have hB6 : B6 ∉ [sb] := fun hm => (List.pairwise_iff_getElem.1 hM1.sy.dis 4 7 (by simp) (by simp) (by omega)) B6 (List.mem_singleton.2 rfl) hm
              have hg7 : ∀ gg, (Value.slice (some ⟨g, 0, none⟩) T.live.length vc).ownBlock = some gg → gg ∉ [sb] := fun gg hgg hm => (List.pairwise_iff_getElem.1 hM1.sy.dis 3 7 (by simp) (by simp) (by omega)) gg (by show gg ∈ (Value.slice (some ⟨g, 0, none⟩) T.live.length vc).ownBlock.toList; rw [hgg]; simp) hm
              have hs2 : (fun X => Holds X B6 [.slice (some ⟨g, 0, none⟩) T.live.length vc] ∧ X.ownsRow bs 54 20 (.slice (some ⟨g, 0, none⟩) T.live.length vc) T.live.length (flatP (T.live.map RR.pr))) X1 := ⟨hs1.1.block (f1.block B6 (hs1.1.lt (Nat.succ_pos _)) hB6), own_keep hs1.2 (fun gg hgg => f1.block gg (World.ownsRow.lt hs1.2 gg hgg).2 (hg7 gg hgg))⟩
              have hs3 : (fun X => Holds X B6 [.slice (some ⟨g, 0, none⟩) T.live.length vc] ∧ X.ownsRow bs 54 20 (.slice (some ⟨g, 0, none⟩) T.live.length vc) T.live.length (flatP (T.live.map RR.pr))) Y1x := ⟨hs2.1.block (f2.block B6 (hs2.1.lt (Nat.succ_pos _)) hB6), own_keep hs2.2 (fun gg hgg => f2.block gg (World.ownsRow.lt hs2.2 gg hgg).2 (hg7 gg hgg))⟩
              have hM2 : SyM w Y1x [tabO T4, mapO dR dD zerD mb nb T.live.length F, boxO w.heap.size [.bool false], rowO bs 54 20 (.slice (some ⟨g, 0, none⟩) T.live.length vc) T.live.length (flatP (T.live.map RR.pr)), boxO B6 [.slice (some ⟨g, 0, none⟩) T.live.length vc], boxO B8 [.int .i64 (T.live.length : Nat)], boxO Bn [.pointer (some ⟨t0, 0, none⟩)], mapO iR (fun n : Int => DataW.lit (.int .i64 n)) (0 : Int) sb (ns + 1) (if (seenG (T.live.take j) r.k).isSome then sz else sz + 1) (putG (seenG (T.live.take j)) r.k (some 1)), rowO w.heap.size 34 2 (.slice KA j kc) (j) (flatK ((T.live.take (j)).map (·.k))), boxO B14 r.d.cs, boxO B16 r.d.cs, boxO B18 (r.k.cs ++ r.d.cs)] D := hM1.set 7 rfl (mapO_ok ..) hMN (f1.trans f2 (fun b hb => .inl hb)) (fun b hb => .inl hb)
              refine wp_region_held_drew (P := Tryd.prog) (S := (fun X => Holds X B6 [.slice (some ⟨g, 0, none⟩) T.live.length vc] ∧ X.ownsRow bs 54 20 (.slice (some ⟨g, 0, none⟩) T.live.length vc) T.live.length (flatP (T.live.map RR.pr)))) (by kernel_rfl) hs1 (fun hS0 => ?_)
              refine gsem 0 (some 172) (.map (some sb)) rfl (by kernel_rfl) (by kernel_rfl) (by kernel_rfl) (fun _ _ _ h => h) (by kernel_rfl) (by kernel_rfl) (fun _ _ => by kernel_rfl) hs1 ?_
              simp only [Act.put, List.setIfInBounds_toArray, List.set_cons_succ, List.set_cons_zero]
              refine gsem 1 (some 173) (.slice (some ⟨g, 0, none⟩) T.live.length vc) rfl (by kernel_rfl) (by kernel_rfl) (by kernel_rfl) (fun _ _ _ h => h) (by kernel_rfl) (by kernel_rfl) (fun X hX => ex_load1 25 Tryd.isAgg25 rfl rfl hX.1 rfl) hs1 ?_
              simp only [Act.put, List.setIfInBounds_toArray, List.set_cons_succ, List.set_cons_zero]
              refine gsem 2 (some 174) (.int .i64 (j : Nat)) rfl (by kernel_rfl) (by kernel_rfl) (by kernel_rfl) (fun _ _ _ h => h) (by kernel_rfl) (by kernel_rfl) (fun _ _ => by kernel_rfl) hs1 ?_
              simp only [Act.put, List.setIfInBounds_toArray, List.set_cons_succ, List.set_cons_zero]
              refine gsem 3 (some 175) (.pointer (some ⟨g, 0 + j * 20, none⟩)) rfl (by kernel_rfl) (by kernel_rfl) (by kernel_rfl) (fun _ _ _ h => h) (by kernel_rfl) (by kernel_rfl) (fun X hX => ex_indexG 25 20 j unRw idRw rfl rfl rfl hjt) hs1 ?_
              simp only [Act.put, List.setIfInBounds_toArray, List.set_cons_succ, List.set_cons_zero]
              refine gsem 4 (some 176) (.pointer (some ⟨g, 0 + j * 20, none⟩)) rfl (by kernel_rfl) (by kernel_rfl) (by kernel_rfl) (fun _ _ _ h => h) (by kernel_rfl) (by kernel_rfl) (fun _ _ => by kernel_rfl) hs1 ?_
              simp only [Act.put, List.setIfInBounds_toArray, List.set_cons_succ, List.set_cons_zero]
              refine gsem 5 (some 177) (.agg r.k.cs.toArray) rfl (by kernel_rfl) (by kernel_rfl) (by kernel_rfl) (fun _ _ _ h => h) (by kernel_rfl) (by kernel_rfl) (fun X hX => ex_loadR (vs := r.k.cs) 34 2 row33x siz33 rfl rfl (range_left (a := r.k.cs) (c := r.d.cs) (rowRN hX.2 rfl hjr)) rfl) hs1 ?_
              simp only [Act.put, List.setIfInBounds_toArray, List.set_cons_succ, List.set_cons_zero]
              refine wpAnyH_ready (rs := [6, 8]) (by kernel_rfl) (by simp) (gval 6 (some 178) rfl (by kernel_rfl) (by kernel_rfl) (ex_look1N (r := 0) rfl rfl rfl (hM1.get 7 rfl) (unhide HOK3) (by rw [unhide HSN]; rfl)) hs1 ?_ (gval 8 (some 180) rfl (by kernel_rfl) (by kernel_rfl) (ex_entry rfl rfl rfl e1) hs2 ?_ AllReadyH.nil))
              · simp only [Act.put, List.setIfInBounds_toArray, List.set_cons_succ, List.set_cons_zero]
                refine gsem 7 (some 179) (.int .i64 1) rfl (by kernel_rfl) (by kernel_rfl) (by kernel_rfl) (fun _ _ _ h => h) (by kernel_rfl) (by kernel_rfl) (fun _ _ => by kernel_rfl) hs1 ?_
                simp only [Act.put, List.setIfInBounds_toArray, List.set_cons_succ, List.set_cons_zero]
                refine wpAnyH_ready (rs := [8]) (by kernel_rfl) (by simp) (gval 8 (some 180) rfl (by kernel_rfl) (by kernel_rfl) (ex_entry rfl rfl rfl e1) hs2 ?_ AllReadyH.nil)
                simp only [Act.put, List.setIfInBounds_toArray, List.set_cons_succ, List.set_cons_zero]
                refine gsem 9 (some 181) (goInt st) rfl (by kernel_rfl) (by kernel_rfl) (by kernel_rfl) (fun _ _ _ h => h) (by kernel_rfl) (by kernel_rfl) (fun _ _ => by kernel_rfl) hs2 ?_
                simp only [Act.put, List.setIfInBounds_toArray, List.set_cons_succ, List.set_cons_zero]
                refine wpAnyH_ready (rs := [10]) (by kernel_rfl) (by simp) (gskp 10 none rfl (by kernel_rfl) (by kernel_rfl) (ex_estore rfl rfl rfl rfl e2) hs3 ?_ AllReadyH.nil)
                simp only [Act.put, List.setIfInBounds_toArray, List.set_cons_succ, List.set_cons_zero]
                refine wpAnyH_done (by kernel_rfl) ?_ _
                try simp only [Act.put, List.setIfInBounds_toArray, List.set_cons_succ, List.set_cons_zero]
                replace LM := hide hM2
                clear hM1 hs1 hs2 hs3 hS0 e1 e7 f1 e2 hMN f2 hB6 hg7 hM2
                go_wp2
                have hq0 : SyM w _ [tabO T4, mapO dR dD zerD mb nb T.live.length F, boxO w.heap.size [.bool false], rowO bs 54 20 (.slice (some ⟨g, 0, none⟩) T.live.length vc) T.live.length (flatP (T.live.map RR.pr)), boxO B6 [.slice (some ⟨g, 0, none⟩) T.live.length vc], boxO B8 [.int .i64 (T.live.length : Nat)], boxO Bn [.pointer (some ⟨t0, 0, none⟩)], mapO iR (fun n : Int => DataW.lit (.int .i64 n)) (0 : Int) sb (ns + 1) (if (seenG (T.live.take j) r.k).isSome then sz else sz + 1) (putG (seenG (T.live.take j)) r.k (some 1)), rowO w.heap.size 34 2 (.slice KA j kc) (j) (flatK ((T.live.take (j)).map (·.k))), boxO B14 r.d.cs, boxO B16 r.d.cs, boxO B18 (r.k.cs ++ r.d.cs)] D := (unhide LM).on ((Below.refl _ _).drew)
                refine wp_region_held_drew (P := Tryd.prog) (S := (fun X => SyM w X [tabO T4, mapO dR dD zerD mb nb T.live.length F, boxO w.heap.size [.bool false], rowO bs 54 20 (.slice (some ⟨g, 0, none⟩) T.live.length vc) T.live.length (flatP (T.live.map RR.pr)), boxO B6 [.slice (some ⟨g, 0, none⟩) T.live.length vc], boxO B8 [.int .i64 (T.live.length : Nat)], boxO Bn [.pointer (some ⟨t0, 0, none⟩)], mapO iR (fun n : Int => DataW.lit (.int .i64 n)) (0 : Int) sb (ns + 1) (if (seenG (T.live.take j) r.k).isSome then sz else sz + 1) (putG (seenG (T.live.take j)) r.k (some 1)), rowO w.heap.size 34 2 (.slice KA j kc) (j) (flatK ((T.live.take (j)).map (·.k))), boxO B14 r.d.cs, boxO B16 r.d.cs, boxO B18 (r.k.cs ++ r.d.cs)] D)) (by kernel_rfl) hq0 (fun hS0 => ?_)
                refine gsem 0 (some 182) (.bool true) rfl (by kernel_rfl) (by kernel_rfl) (by kernel_rfl) (fun _ _ _ h => h) (by kernel_rfl) (by kernel_rfl) (fun _ _ => by kernel_rfl) hq0 ?_
                simp only [Act.put, List.setIfInBounds_toArray, List.set_cons_succ, List.set_cons_zero]
                refine gsem 1 (some 183) (.bool false) rfl (by kernel_rfl) (by kernel_rfl) (by kernel_rfl) (fun _ _ _ h => h) (by kernel_rfl) (by kernel_rfl) (fun _ _ => by kernel_rfl) hq0 ?_
                simp only [Act.put, List.setIfInBounds_toArray, List.set_cons_succ, List.set_cons_zero]
                refine gsem 2 (some 184) (.bool false) rfl (by kernel_rfl) (by kernel_rfl) (by kernel_rfl) (fun _ _ _ h => h) (by kernel_rfl) (by kernel_rfl) (fun _ _ => by kernel_rfl) hq0 ?_
                simp only [Act.put, List.setIfInBounds_toArray, List.set_cons_succ, List.set_cons_zero]
                refine gsem 3 (some 185) (.bool true) rfl (by kernel_rfl) (by kernel_rfl) (by kernel_rfl) (fun _ _ _ h => h) (by kernel_rfl) (by kernel_rfl) (fun _ _ => by kernel_rfl) hq0 ?_
                simp only [Act.put, List.setIfInBounds_toArray, List.set_cons_succ, List.set_cons_zero]
                refine gsem 4 (some 186) (.bool false) rfl (by kernel_rfl) (by kernel_rfl) (by kernel_rfl) (fun _ _ _ h => h) (by kernel_rfl) (by kernel_rfl) (fun _ _ => by kernel_rfl) hq0 ?_
                simp only [Act.put, List.setIfInBounds_toArray, List.set_cons_succ, List.set_cons_zero]
                refine gsem 5 (some 187) (.bool false) rfl (by kernel_rfl) (by kernel_rfl) (by kernel_rfl) (fun _ _ _ h => h) (by kernel_rfl) (by kernel_rfl) (fun _ _ => by kernel_rfl) hq0 ?_
                simp only [Act.put, List.setIfInBounds_toArray, List.set_cons_succ, List.set_cons_zero]
                refine gsem 6 (some 188) (.bool false) rfl (by kernel_rfl) (by kernel_rfl) (by kernel_rfl) (fun _ _ _ h => h) (by kernel_rfl) (by kernel_rfl) (fun _ _ => by kernel_rfl) hq0 ?_
                simp only [Act.put, List.setIfInBounds_toArray, List.set_cons_succ, List.set_cons_zero]
                refine gsem 7 (some 189) (.bool true) rfl (by kernel_rfl) (by kernel_rfl) (by kernel_rfl) (fun _ _ _ h => h) (by kernel_rfl) (by kernel_rfl) (fun _ _ => by kernel_rfl) hq0 ?_
                simp only [Act.put, List.setIfInBounds_toArray, List.set_cons_succ, List.set_cons_zero]
                refine gsem 8 (some 190) (.bool false) rfl (by kernel_rfl) (by kernel_rfl) (by kernel_rfl) (fun _ _ _ h => h) (by kernel_rfl) (by kernel_rfl) (fun _ _ => by kernel_rfl) hq0 ?_
                simp only [Act.put, List.setIfInBounds_toArray, List.set_cons_succ, List.set_cons_zero]
                refine gsem 9 (some 191) (.bool false) rfl (by kernel_rfl) (by kernel_rfl) (by kernel_rfl) (fun _ _ _ h => h) (by kernel_rfl) (by kernel_rfl) (fun _ _ => by kernel_rfl) hq0 ?_
                simp only [Act.put, List.setIfInBounds_toArray, List.set_cons_succ, List.set_cons_zero]
                refine gsem 10 (some 192) (.bool false) rfl (by kernel_rfl) (by kernel_rfl) (by kernel_rfl) (fun _ _ _ h => h) (by kernel_rfl) (by kernel_rfl) (fun _ _ => by kernel_rfl) hq0 ?_
                simp only [Act.put, List.setIfInBounds_toArray, List.set_cons_succ, List.set_cons_zero]
                refine gsem 11 (some 193) (.map (some sb)) rfl (by kernel_rfl) (by kernel_rfl) (by kernel_rfl) (fun _ _ _ h => h) (by kernel_rfl) (by kernel_rfl) (fun _ _ => by kernel_rfl) hq0 ?_
                simp only [Act.put, List.setIfInBounds_toArray, List.set_cons_succ, List.set_cons_zero]
                refine gsem 12 (some 194) (.slice (some ⟨g, 0, none⟩) T.live.length vc) rfl (by kernel_rfl) (by kernel_rfl) (by kernel_rfl) (fun _ _ _ h => h) (by kernel_rfl) (by kernel_rfl) (fun X hX => ex_load1 25 Tryd.isAgg25 rfl rfl (hX.get 4 rfl).1 rfl) hq0 ?_
                simp only [Act.put, List.setIfInBounds_toArray, List.set_cons_succ, List.set_cons_zero]
                refine gsem 13 (some 195) (.int .i64 (j : Nat)) rfl (by kernel_rfl) (by kernel_rfl) (by kernel_rfl) (fun _ _ _ h => h) (by kernel_rfl) (by kernel_rfl) (fun _ _ => by kernel_rfl) hq0 ?_
                simp only [Act.put, List.setIfInBounds_toArray, List.set_cons_succ, List.set_cons_zero]
                refine gsem 14 (some 196) (.pointer (some ⟨g, 0 + j * 20, none⟩)) rfl (by kernel_rfl) (by kernel_rfl) (by kernel_rfl) (fun _ _ _ h => h) (by kernel_rfl) (by kernel_rfl) (fun X hX => ex_indexG 25 20 j unRw idRw rfl rfl rfl hjt) hq0 ?_
                simp only [Act.put, List.setIfInBounds_toArray, List.set_cons_succ, List.set_cons_zero]
                refine gsem 15 (some 197) (.pointer (some ⟨g, 0 + j * 20, none⟩)) rfl (by kernel_rfl) (by kernel_rfl) (by kernel_rfl) (fun _ _ _ h => h) (by kernel_rfl) (by kernel_rfl) (fun _ _ => by kernel_rfl) hq0 ?_
                simp only [Act.put, List.setIfInBounds_toArray, List.set_cons_succ, List.set_cons_zero]
                refine gsem 16 (some 198) (.agg r.k.cs.toArray) rfl (by kernel_rfl) (by kernel_rfl) (by kernel_rfl) (fun _ _ _ h => h) (by kernel_rfl) (by kernel_rfl) (fun X hX => ex_loadR (vs := r.k.cs) 34 2 row33x siz33 rfl rfl (range_left (a := r.k.cs) (c := r.d.cs) (rowRN (hX.get 3 rfl) rfl hjr)) rfl) hq0 ?_
                simp only [Act.put, List.setIfInBounds_toArray, List.set_cons_succ, List.set_cons_zero]
                refine gsem 17 (some 199) (.int .i64 1) rfl (by kernel_rfl) (by kernel_rfl) (by kernel_rfl) (fun _ _ _ h => h) (by kernel_rfl) (by kernel_rfl) (fun X hX => ex_look1N rfl rfl rfl (hX.get 7 rfl) (unhide HOK3) (by rw [putG_same]; rfl)) hq0 ?_
                simp only [Act.put, List.setIfInBounds_toArray, List.set_cons_succ, List.set_cons_zero]
                refine gsem 18 (some 200) (.bool false) rfl (by kernel_rfl) (by kernel_rfl) (by kernel_rfl) (fun _ _ _ h => h) (by kernel_rfl) (by kernel_rfl) (fun X hX => ex_gtN rfl rfl rfl (by decide)) hq0 ?_
                simp only [Act.put, List.setIfInBounds_toArray, List.set_cons_succ, List.set_cons_zero]
                refine gsem 19 (some 201) (.bool false) rfl (by kernel_rfl) (by kernel_rfl) (by kernel_rfl) (fun _ _ _ h => h) (by kernel_rfl) (by kernel_rfl) (fun _ _ => by kernel_rfl) hq0 ?_
                simp only [Act.put, List.setIfInBounds_toArray, List.set_cons_succ, List.set_cons_zero]
                refine gsem 20 (some 202) (.bool false) rfl (by kernel_rfl) (by kernel_rfl) (by kernel_rfl) (fun _ _ _ h => h) (by kernel_rfl) (by kernel_rfl) (fun _ _ => by kernel_rfl) hq0 ?_
                simp only [Act.put, List.setIfInBounds_toArray, List.set_cons_succ, List.set_cons_zero]
                refine gsem 21 (some 203) (.agg r.d.cs.toArray) rfl (by kernel_rfl) (by kernel_rfl) (by kernel_rfl) (fun _ _ _ h => h) (by kernel_rfl) (by kernel_rfl) (fun X hX => ex_loadN (vs := r.d.cs) 40 18 row39 siz39 rfl rfl (hX.get 9 rfl).1 rfl rfl) hq0 ?_
                simp only [Act.put, List.setIfInBounds_toArray, List.set_cons_succ, List.set_cons_zero]
                refine gsem 22 (some 204) (.agg r.d.cs.toArray) rfl (by kernel_rfl) (by kernel_rfl) (by kernel_rfl) (fun _ _ _ h => h) (by kernel_rfl) (by kernel_rfl) (fun X hX => ex_loadN (vs := r.d.cs) 40 18 row39 siz39 rfl rfl (hX.get 10 rfl).1 rfl rfl) hq0 ?_
                simp only [Act.put, List.setIfInBounds_toArray, List.set_cons_succ, List.set_cons_zero]
                refine wpAnyH_ready (rs := [23]) (by kernel_rfl) (by simp) (gcallR 23 (some 205) rfl (by kernel_rfl) (by kernel_rfl) (by kernel_rfl) (sameDesc21 r.d _) ?_ AllReadyH.nil)
                rintro e Y23 ⟨rfl, hY23⟩
                have hq23 := hq0.on hY23
                refine ⟨_, rfl, hq23, ?_⟩
                simp only [Act.put, List.setIfInBounds_toArray, List.set_cons_succ, List.set_cons_zero]
                refine gsem 24 (some 206) (.bool false) rfl (by kernel_rfl) (by kernel_rfl) (by kernel_rfl) (fun _ _ _ h => h) (by kernel_rfl) (by kernel_rfl) (fun _ _ => by kernel_rfl) hq23 ?_
                simp only [Act.put, List.setIfInBounds_toArray, List.set_cons_succ, List.set_cons_zero]
                refine gsem 25 (some 207) (.bool false) rfl (by kernel_rfl) (by kernel_rfl) (by kernel_rfl) (fun _ _ _ h => h) (by kernel_rfl) (by kernel_rfl) (fun _ _ => by kernel_rfl) hq23 ?_
                simp only [Act.put, List.setIfInBounds_toArray, List.set_cons_succ, List.set_cons_zero]
                refine gsem 26 (some 208) (.bool false) rfl (by kernel_rfl) (by kernel_rfl) (by kernel_rfl) (fun _ _ _ h => h) (by kernel_rfl) (by kernel_rfl) (fun _ _ => by kernel_rfl) hq23 ?_
                simp only [Act.put, List.setIfInBounds_toArray, List.set_cons_succ, List.set_cons_zero]
                refine gsem 27 (some 209) (.agg r.d.cs.toArray) rfl (by kernel_rfl) (by kernel_rfl) (by kernel_rfl) (fun _ _ _ h => h) (by kernel_rfl) (by kernel_rfl) (fun X hX => ex_loadN (vs := r.d.cs) 40 18 row39 siz39 rfl rfl (hX.get 9 rfl).1 rfl rfl) hq23 ?_
                simp only [Act.put, List.setIfInBounds_toArray, List.set_cons_succ, List.set_cons_zero]
                refine gsem 28 (some 210) (.slice (some ⟨g, 0, none⟩) T.live.length vc) rfl (by kernel_rfl) (by kernel_rfl) (by kernel_rfl) (fun _ _ _ h => h) (by kernel_rfl) (by kernel_rfl) (fun X hX => ex_load1 25 Tryd.isAgg25 rfl rfl (hX.get 4 rfl).1 rfl) hq23 ?_
                simp only [Act.put, List.setIfInBounds_toArray, List.set_cons_succ, List.set_cons_zero]
                refine gsem 29 (some 211) (.int .i64 (j : Nat)) rfl (by kernel_rfl) (by kernel_rfl) (by kernel_rfl) (fun _ _ _ h => h) (by kernel_rfl) (by kernel_rfl) (fun _ _ => by kernel_rfl) hq23 ?_
                simp only [Act.put, List.setIfInBounds_toArray, List.set_cons_succ, List.set_cons_zero]
                refine gsem 30 (some 212) (.pointer (some ⟨g, 0 + j * 20, none⟩)) rfl (by kernel_rfl) (by kernel_rfl) (by kernel_rfl) (fun _ _ _ h => h) (by kernel_rfl) (by kernel_rfl) (fun X hX => ex_indexG 25 20 j unRw idRw rfl rfl rfl hjt) hq23 ?_
                simp only [Act.put, List.setIfInBounds_toArray, List.set_cons_succ, List.set_cons_zero]
                refine gsem 31 (some 213) (.pointer (some ⟨g, 0 + j * 20 + 2, none⟩)) rfl (by kernel_rfl) (by kernel_rfl) (by kernel_rfl) (fun _ _ _ h => h) (by kernel_rfl) (by kernel_rfl) (fun _ _ => by kernel_rfl) hq23 ?_
                simp only [Act.put, List.setIfInBounds_toArray, List.set_cons_succ, List.set_cons_zero]
                refine gsem 32 (some 214) (.agg r.d.cs.toArray) rfl (by kernel_rfl) (by kernel_rfl) (by kernel_rfl) (fun _ _ _ h => h) (by kernel_rfl) (by kernel_rfl) (fun X hX => ex_loadR (vs := r.d.cs) 40 18 row39 siz39 rfl rfl (range_right (a := r.k.cs) (c := r.d.cs) (rowRN (hX.get 3 rfl) rfl hjr)) rfl) hq23 ?_
                simp only [Act.put, List.setIfInBounds_toArray, List.set_cons_succ, List.set_cons_zero]
                refine wpAnyH_ready (rs := [33]) (by kernel_rfl) (by simp) (gcallR 33 (some 215) rfl (by kernel_rfl) (by kernel_rfl) (by kernel_rfl) (sameDesc21 r.d _) ?_ AllReadyH.nil)
                rintro e Y33 ⟨rfl, hY33⟩
                have hq33 := hq23.on hY33
                refine ⟨_, rfl, hq33, ?_⟩
                simp only [Act.put, List.setIfInBounds_toArray, List.set_cons_succ, List.set_cons_zero]
                refine gsem 34 (some 216) (.bool false) rfl (by kernel_rfl) (by kernel_rfl) (by kernel_rfl) (fun _ _ _ h => h) (by kernel_rfl) (by kernel_rfl) (fun _ _ => by kernel_rfl) hq33 ?_
                simp only [Act.put, List.setIfInBounds_toArray, List.set_cons_succ, List.set_cons_zero]
                refine gsem 35 (some 217) (.bool false) rfl (by kernel_rfl) (by kernel_rfl) (by kernel_rfl) (fun _ _ _ h => h) (by kernel_rfl) (by kernel_rfl) (fun _ _ => by kernel_rfl) hq33 ?_
                simp only [Act.put, List.setIfInBounds_toArray, List.set_cons_succ, List.set_cons_zero]
                refine gsem 36 (some 218) (.bool false) rfl (by kernel_rfl) (by kernel_rfl) (by kernel_rfl) (fun _ _ _ h => h) (by kernel_rfl) (by kernel_rfl) (fun _ _ => by kernel_rfl) hq33 ?_
                simp only [Act.put, List.setIfInBounds_toArray, List.set_cons_succ, List.set_cons_zero]
                refine gsem 37 (some 219) (.pointer (some ⟨B18, 0, none⟩)) rfl (by kernel_rfl) (by kernel_rfl) (by kernel_rfl) (fun _ _ _ h => h) (by kernel_rfl) (by kernel_rfl) (fun _ _ => by kernel_rfl) hq33 ?_
                simp only [Act.put, List.setIfInBounds_toArray, List.set_cons_succ, List.set_cons_zero]
                refine gsem 38 (some 220) (.agg r.k.cs.toArray) rfl (by kernel_rfl) (by kernel_rfl) (by kernel_rfl) (fun _ _ _ h => h) (by kernel_rfl) (by kernel_rfl) (fun X hX => ex_loadN (vs := r.k.cs) 34 2 row33x siz33 rfl rfl (hX.get 11 rfl).1 rfl rfl) hq33 ?_
                simp only [Act.put, List.setIfInBounds_toArray, List.set_cons_succ, List.set_cons_zero]
                refine gsem 39 (some 221) (.slice (some ⟨g, 0, none⟩) T.live.length vc) rfl (by kernel_rfl) (by kernel_rfl) (by kernel_rfl) (fun _ _ _ h => h) (by kernel_rfl) (by kernel_rfl) (fun X hX => ex_load1 25 Tryd.isAgg25 rfl rfl (hX.get 4 rfl).1 rfl) hq33 ?_
                simp only [Act.put, List.setIfInBounds_toArray, List.set_cons_succ, List.set_cons_zero]
                refine gsem 40 (some 222) (.int .i64 (j : Nat)) rfl (by kernel_rfl) (by kernel_rfl) (by kernel_rfl) (fun _ _ _ h => h) (by kernel_rfl) (by kernel_rfl) (fun _ _ => by kernel_rfl) hq33 ?_
                simp only [Act.put, List.setIfInBounds_toArray, List.set_cons_succ, List.set_cons_zero]
                refine gsem 41 (some 223) (.pointer (some ⟨g, 0 + j * 20, none⟩)) rfl (by kernel_rfl) (by kernel_rfl) (by kernel_rfl) (fun _ _ _ h => h) (by kernel_rfl) (by kernel_rfl) (fun X hX => ex_indexG 25 20 j unRw idRw rfl rfl rfl hjt) hq33 ?_
                simp only [Act.put, List.setIfInBounds_toArray, List.set_cons_succ, List.set_cons_zero]
                refine gsem 42 (some 224) (.pointer (some ⟨g, 0 + j * 20, none⟩)) rfl (by kernel_rfl) (by kernel_rfl) (by kernel_rfl) (fun _ _ _ h => h) (by kernel_rfl) (by kernel_rfl) (fun _ _ => by kernel_rfl) hq33 ?_
                simp only [Act.put, List.setIfInBounds_toArray, List.set_cons_succ, List.set_cons_zero]
                refine gsem 43 (some 225) (.agg r.k.cs.toArray) rfl (by kernel_rfl) (by kernel_rfl) (by kernel_rfl) (fun _ _ _ h => h) (by kernel_rfl) (by kernel_rfl) (fun X hX => ex_loadR (vs := r.k.cs) 34 2 row33x siz33 rfl rfl (range_left (a := r.k.cs) (c := r.d.cs) (rowRN (hX.get 3 rfl) rfl hjr)) rfl) hq33 ?_
                simp only [Act.put, List.setIfInBounds_toArray, List.set_cons_succ, List.set_cons_zero]
                refine gsem 44 (some 226) (.bool false) rfl (by kernel_rfl) (by kernel_rfl) (by kernel_rfl) (fun _ _ _ h => h) (by kernel_rfl) (by kernel_rfl) (fun X hX => ex_neqKK r.k rfl rfl rfl) hq33 ?_
                simp only [Act.put, List.setIfInBounds_toArray, List.set_cons_succ, List.set_cons_zero]
                refine gsem 45 (some 227) (.bool false) rfl (by kernel_rfl) (by kernel_rfl) (by kernel_rfl) (fun _ _ _ h => h) (by kernel_rfl) (by kernel_rfl) (fun _ _ => by kernel_rfl) hq33 ?_
                simp only [Act.put, List.setIfInBounds_toArray, List.set_cons_succ, List.set_cons_zero]
                refine wpAnyH_done (by kernel_rfl) ?_ _
                try simp only [Act.put, List.setIfInBounds_toArray, List.set_cons_succ, List.set_cons_zero]
                replace LM := hide hq33
                clear hq0 hq23 hq33 hS0 hY23 hY33
                go_wp2_with (first | go_skip | ((with_reducible show wpList _ _ _ _ _ _); first | ((refine vl (by rfl) (ex_load1 25 Tryd.isAgg25 rfl rfl ((unhide LM).get 4 rfl).1 rfl) ?_); simp only [Act.put, List.setIfInBounds_toArray, List.set_cons_succ, List.set_cons_zero]) | ((refine vl (by rfl) (ex_indexG 25 20 j unRw idRw rfl rfl rfl (unhide HJL)) ?_); simp only [Act.put, List.setIfInBounds_toArray, List.set_cons_succ, List.set_cons_zero]) | ((refine vl (by rfl) (ex_loadR (vs := r.k.cs) 34 2 row33x siz33 rfl rfl (range_left (a := r.k.cs) (c := r.d.cs) (rowRN0 ((unhide LM).get 3 rfl) rfl (unhide HJR))) rfl) ?_); simp only [Act.put, List.setIfInBounds_toArray, List.set_cons_succ, List.set_cons_zero]) | ((refine vl (by rfl) (ex_loadR (vs := r.k.cs) 34 2 row33x siz33 rfl rfl (range_left (a := r.k.cs) (c := r.d.cs) (rowRN ((unhide LM).get 3 rfl) rfl (unhide HJR))) rfl) ?_); simp only [Act.put, List.setIfInBounds_toArray, List.set_cons_succ, List.set_cons_zero]) | ((refine vl (by rfl) (ex_build49 r.k rfl rfl) ?_); have LMb := hide ((unhide LM).box r.k.cs 34 (Nat.succ_pos _)); clear LM; have LM := LMb; clear LMb; simp only [Act.put, List.setIfInBounds_toArray, List.set_cons_succ, List.set_cons_zero]) | ((refine appM (k := r.k) (by rfl) rfl rfl rfl (unhide LM) rfl rfl (by have := unhide HJL; have := unhide HLV; omega) ?_); intro A20 c20 Y20 L20; have LM20 := hide L20; clear L20 LM; simp only [Act.put, List.setIfInBounds_toArray, List.set_cons_succ, List.set_cons_zero])))
                have h9 := SyM.left (L := [tabO T4, mapO dR dD zerD mb nb T.live.length F, boxO w.heap.size [.bool false], rowO bs 54 20 (.slice (some ⟨g, 0, none⟩) T.live.length vc) T.live.length (flatP (T.live.map RR.pr)), boxO B6 [.slice (some ⟨g, 0, none⟩) T.live.length vc], boxO B8 [.int .i64 (T.live.length : Nat)], boxO Bn [.pointer (some ⟨t0, 0, none⟩)], mapO iR (fun n : Int => DataW.lit (.int .i64 n)) (0 : Int) sb (ns + 1) (if (seenG (T.live.take j) r.k).isSome then sz else sz + 1) (putG (seenG (T.live.take j)) r.k (some 1)), rowO w.heap.size 34 2 (.slice A20 (j + 1) c20) (j + 1) (flatK ((T.live.take j).map (·.k)) ++ r.k.cs)]) (M := [boxO B14 r.d.cs, boxO B16 r.d.cs, boxO B18 (r.k.cs ++ r.d.cs), boxO Y33.heap.size r.k.cs]) (by exact unhide LM20)
                rw [seen_step (unhide HJR), keys_step (unhide HJR)] at h9
                have LMy := hide h9
                clear h9 LM20
                go_roundg (T.live.length - (j + 1))
                case measure => have := unhide HJL; omega
                case rel => exact ⟨j + 1, T4, ns + 1, _, by go_num, by have := unhide HJL; omega, by omega, (unhide H4).1, (unhide H4).2.1, (unhide H4).2.2, by have := unhide HNS; omega, LMy⟩
              · simp only [Act.put, List.setIfInBounds_toArray, List.set_cons_succ, List.set_cons_zero]
                refine gsem 9 (some 181) (goInt st) rfl (by kernel_rfl) (by kernel_rfl) (by kernel_rfl) (fun _ _ _ h => h) (by kernel_rfl) (by kernel_rfl) (fun _ _ => by kernel_rfl) hs2 ?_
                simp only [Act.put, List.setIfInBounds_toArray, List.set_cons_succ, List.set_cons_zero]
                refine wpAnyH_ready (rs := [6]) (by kernel_rfl) (by simp) (gval 6 (some 178) rfl (by kernel_rfl) (by kernel_rfl) (ex_lookRun rfl rfl rfl e7) hs2 ?_ AllReadyH.nil)
                simp only [Act.put, List.setIfInBounds_toArray, List.set_cons_succ, List.set_cons_zero]
                refine gsem 7 (some 179) (.int .i64 1) rfl (by kernel_rfl) (by kernel_rfl) (by kernel_rfl) (fun _ _ _ h => h) (by kernel_rfl) (by kernel_rfl) (fun _ _ => by kernel_rfl) hs2 ?_
                simp only [Act.put, List.setIfInBounds_toArray, List.set_cons_succ, List.set_cons_zero]
                refine wpAnyH_ready (rs := [10]) (by kernel_rfl) (by simp) (gskp 10 none rfl (by kernel_rfl) (by kernel_rfl) (ex_estore rfl rfl rfl rfl e2) hs3 ?_ AllReadyH.nil)
                simp only [Act.put, List.setIfInBounds_toArray, List.set_cons_succ, List.set_cons_zero]
                refine wpAnyH_done (by kernel_rfl) ?_ _
                try simp only [Act.put, List.setIfInBounds_toArray, List.set_cons_succ, List.set_cons_zero]
                replace LM := hide hM2
                clear hM1 hs1 hs2 hs3 hS0 e1 e7 f1 e2 hMN f2 hB6 hg7 hM2
                go_wp2
                have hq0 : SyM w _ [tabO T4, mapO dR dD zerD mb nb T.live.length F, boxO w.heap.size [.bool false], rowO bs 54 20 (.slice (some ⟨g, 0, none⟩) T.live.length vc) T.live.length (flatP (T.live.map RR.pr)), boxO B6 [.slice (some ⟨g, 0, none⟩) T.live.length vc], boxO B8 [.int .i64 (T.live.length : Nat)], boxO Bn [.pointer (some ⟨t0, 0, none⟩)], mapO iR (fun n : Int => DataW.lit (.int .i64 n)) (0 : Int) sb (ns + 1) (if (seenG (T.live.take j) r.k).isSome then sz else sz + 1) (putG (seenG (T.live.take j)) r.k (some 1)), rowO w.heap.size 34 2 (.slice KA j kc) (j) (flatK ((T.live.take (j)).map (·.k))), boxO B14 r.d.cs, boxO B16 r.d.cs, boxO B18 (r.k.cs ++ r.d.cs)] D := (unhide LM).on ((Below.refl _ _).drew)
                refine wp_region_held_drew (P := Tryd.prog) (S := (fun X => SyM w X [tabO T4, mapO dR dD zerD mb nb T.live.length F, boxO w.heap.size [.bool false], rowO bs 54 20 (.slice (some ⟨g, 0, none⟩) T.live.length vc) T.live.length (flatP (T.live.map RR.pr)), boxO B6 [.slice (some ⟨g, 0, none⟩) T.live.length vc], boxO B8 [.int .i64 (T.live.length : Nat)], boxO Bn [.pointer (some ⟨t0, 0, none⟩)], mapO iR (fun n : Int => DataW.lit (.int .i64 n)) (0 : Int) sb (ns + 1) (if (seenG (T.live.take j) r.k).isSome then sz else sz + 1) (putG (seenG (T.live.take j)) r.k (some 1)), rowO w.heap.size 34 2 (.slice KA j kc) (j) (flatK ((T.live.take (j)).map (·.k))), boxO B14 r.d.cs, boxO B16 r.d.cs, boxO B18 (r.k.cs ++ r.d.cs)] D)) (by kernel_rfl) hq0 (fun hS0 => ?_)
                refine gsem 0 (some 182) (.bool true) rfl (by kernel_rfl) (by kernel_rfl) (by kernel_rfl) (fun _ _ _ h => h) (by kernel_rfl) (by kernel_rfl) (fun _ _ => by kernel_rfl) hq0 ?_
                simp only [Act.put, List.setIfInBounds_toArray, List.set_cons_succ, List.set_cons_zero]
                refine gsem 1 (some 183) (.bool false) rfl (by kernel_rfl) (by kernel_rfl) (by kernel_rfl) (fun _ _ _ h => h) (by kernel_rfl) (by kernel_rfl) (fun _ _ => by kernel_rfl) hq0 ?_
                simp only [Act.put, List.setIfInBounds_toArray, List.set_cons_succ, List.set_cons_zero]
                refine gsem 2 (some 184) (.bool false) rfl (by kernel_rfl) (by kernel_rfl) (by kernel_rfl) (fun _ _ _ h => h) (by kernel_rfl) (by kernel_rfl) (fun _ _ => by kernel_rfl) hq0 ?_
                simp only [Act.put, List.setIfInBounds_toArray, List.set_cons_succ, List.set_cons_zero]
                refine gsem 3 (some 185) (.bool true) rfl (by kernel_rfl) (by kernel_rfl) (by kernel_rfl) (fun _ _ _ h => h) (by kernel_rfl) (by kernel_rfl) (fun _ _ => by kernel_rfl) hq0 ?_
                simp only [Act.put, List.setIfInBounds_toArray, List.set_cons_succ, List.set_cons_zero]
                refine gsem 4 (some 186) (.bool false) rfl (by kernel_rfl) (by kernel_rfl) (by kernel_rfl) (fun _ _ _ h => h) (by kernel_rfl) (by kernel_rfl) (fun _ _ => by kernel_rfl) hq0 ?_
                simp only [Act.put, List.setIfInBounds_toArray, List.set_cons_succ, List.set_cons_zero]
                refine gsem 5 (some 187) (.bool false) rfl (by kernel_rfl) (by kernel_rfl) (by kernel_rfl) (fun _ _ _ h => h) (by kernel_rfl) (by kernel_rfl) (fun _ _ => by kernel_rfl) hq0 ?_
                simp only [Act.put, List.setIfInBounds_toArray, List.set_cons_succ, List.set_cons_zero]
                refine gsem 6 (some 188) (.bool false) rfl (by kernel_rfl) (by kernel_rfl) (by kernel_rfl) (fun _ _ _ h => h) (by kernel_rfl) (by kernel_rfl) (fun _ _ => by kernel_rfl) hq0 ?_
                simp only [Act.put, List.setIfInBounds_toArray, List.set_cons_succ, List.set_cons_zero]
                refine gsem 7 (some 189) (.bool true) rfl (by kernel_rfl) (by kernel_rfl) (by kernel_rfl) (fun _ _ _ h => h) (by kernel_rfl) (by kernel_rfl) (fun _ _ => by kernel_rfl) hq0 ?_
                simp only [Act.put, List.setIfInBounds_toArray, List.set_cons_succ, List.set_cons_zero]
                refine gsem 8 (some 190) (.bool false) rfl (by kernel_rfl) (by kernel_rfl) (by kernel_rfl) (fun _ _ _ h => h) (by kernel_rfl) (by kernel_rfl) (fun _ _ => by kernel_rfl) hq0 ?_
                simp only [Act.put, List.setIfInBounds_toArray, List.set_cons_succ, List.set_cons_zero]
                refine gsem 9 (some 191) (.bool false) rfl (by kernel_rfl) (by kernel_rfl) (by kernel_rfl) (fun _ _ _ h => h) (by kernel_rfl) (by kernel_rfl) (fun _ _ => by kernel_rfl) hq0 ?_
                simp only [Act.put, List.setIfInBounds_toArray, List.set_cons_succ, List.set_cons_zero]
                refine gsem 10 (some 192) (.bool false) rfl (by kernel_rfl) (by kernel_rfl) (by kernel_rfl) (fun _ _ _ h => h) (by kernel_rfl) (by kernel_rfl) (fun _ _ => by kernel_rfl) hq0 ?_
                simp only [Act.put, List.setIfInBounds_toArray, List.set_cons_succ, List.set_cons_zero]
                refine gsem 11 (some 193) (.map (some sb)) rfl (by kernel_rfl) (by kernel_rfl) (by kernel_rfl) (fun _ _ _ h => h) (by kernel_rfl) (by kernel_rfl) (fun _ _ => by kernel_rfl) hq0 ?_
                simp only [Act.put, List.setIfInBounds_toArray, List.set_cons_succ, List.set_cons_zero]
                refine gsem 12 (some 194) (.slice (some ⟨g, 0, none⟩) T.live.length vc) rfl (by kernel_rfl) (by kernel_rfl) (by kernel_rfl) (fun _ _ _ h => h) (by kernel_rfl) (by kernel_rfl) (fun X hX => ex_load1 25 Tryd.isAgg25 rfl rfl (hX.get 4 rfl).1 rfl) hq0 ?_
                simp only [Act.put, List.setIfInBounds_toArray, List.set_cons_succ, List.set_cons_zero]
                refine gsem 13 (some 195) (.int .i64 (j : Nat)) rfl (by kernel_rfl) (by kernel_rfl) (by kernel_rfl) (fun _ _ _ h => h) (by kernel_rfl) (by kernel_rfl) (fun _ _ => by kernel_rfl) hq0 ?_
                simp only [Act.put, List.setIfInBounds_toArray, List.set_cons_succ, List.set_cons_zero]
                refine gsem 14 (some 196) (.pointer (some ⟨g, 0 + j * 20, none⟩)) rfl (by kernel_rfl) (by kernel_rfl) (by kernel_rfl) (fun _ _ _ h => h) (by kernel_rfl) (by kernel_rfl) (fun X hX => ex_indexG 25 20 j unRw idRw rfl rfl rfl hjt) hq0 ?_
                simp only [Act.put, List.setIfInBounds_toArray, List.set_cons_succ, List.set_cons_zero]
                refine gsem 15 (some 197) (.pointer (some ⟨g, 0 + j * 20, none⟩)) rfl (by kernel_rfl) (by kernel_rfl) (by kernel_rfl) (fun _ _ _ h => h) (by kernel_rfl) (by kernel_rfl) (fun _ _ => by kernel_rfl) hq0 ?_
                simp only [Act.put, List.setIfInBounds_toArray, List.set_cons_succ, List.set_cons_zero]
                refine gsem 16 (some 198) (.agg r.k.cs.toArray) rfl (by kernel_rfl) (by kernel_rfl) (by kernel_rfl) (fun _ _ _ h => h) (by kernel_rfl) (by kernel_rfl) (fun X hX => ex_loadR (vs := r.k.cs) 34 2 row33x siz33 rfl rfl (range_left (a := r.k.cs) (c := r.d.cs) (rowRN (hX.get 3 rfl) rfl hjr)) rfl) hq0 ?_
                simp only [Act.put, List.setIfInBounds_toArray, List.set_cons_succ, List.set_cons_zero]
                refine gsem 17 (some 199) (.int .i64 1) rfl (by kernel_rfl) (by kernel_rfl) (by kernel_rfl) (fun _ _ _ h => h) (by kernel_rfl) (by kernel_rfl) (fun X hX => ex_look1N rfl rfl rfl (hX.get 7 rfl) (unhide HOK3) (by rw [putG_same]; rfl)) hq0 ?_
                simp only [Act.put, List.setIfInBounds_toArray, List.set_cons_succ, List.set_cons_zero]
                refine gsem 18 (some 200) (.bool false) rfl (by kernel_rfl) (by kernel_rfl) (by kernel_rfl) (fun _ _ _ h => h) (by kernel_rfl) (by kernel_rfl) (fun X hX => ex_gtN rfl rfl rfl (by decide)) hq0 ?_
                simp only [Act.put, List.setIfInBounds_toArray, List.set_cons_succ, List.set_cons_zero]
                refine gsem 19 (some 201) (.bool false) rfl (by kernel_rfl) (by kernel_rfl) (by kernel_rfl) (fun _ _ _ h => h) (by kernel_rfl) (by kernel_rfl) (fun _ _ => by kernel_rfl) hq0 ?_
                simp only [Act.put, List.setIfInBounds_toArray, List.set_cons_succ, List.set_cons_zero]
                refine gsem 20 (some 202) (.bool false) rfl (by kernel_rfl) (by kernel_rfl) (by kernel_rfl) (fun _ _ _ h => h) (by kernel_rfl) (by kernel_rfl) (fun _ _ => by kernel_rfl) hq0 ?_
                simp only [Act.put, List.setIfInBounds_toArray, List.set_cons_succ, List.set_cons_zero]
                refine gsem 21 (some 203) (.agg r.d.cs.toArray) rfl (by kernel_rfl) (by kernel_rfl) (by kernel_rfl) (fun _ _ _ h => h) (by kernel_rfl) (by kernel_rfl) (fun X hX => ex_loadN (vs := r.d.cs) 40 18 row39 siz39 rfl rfl (hX.get 9 rfl).1 rfl rfl) hq0 ?_
                simp only [Act.put, List.setIfInBounds_toArray, List.set_cons_succ, List.set_cons_zero]
                refine gsem 22 (some 204) (.agg r.d.cs.toArray) rfl (by kernel_rfl) (by kernel_rfl) (by kernel_rfl) (fun _ _ _ h => h) (by kernel_rfl) (by kernel_rfl) (fun X hX => ex_loadN (vs := r.d.cs) 40 18 row39 siz39 rfl rfl (hX.get 10 rfl).1 rfl rfl) hq0 ?_
                simp only [Act.put, List.setIfInBounds_toArray, List.set_cons_succ, List.set_cons_zero]
                refine wpAnyH_ready (rs := [23]) (by kernel_rfl) (by simp) (gcallR 23 (some 205) rfl (by kernel_rfl) (by kernel_rfl) (by kernel_rfl) (sameDesc21 r.d _) ?_ AllReadyH.nil)
                rintro e Y23 ⟨rfl, hY23⟩
                have hq23 := hq0.on hY23
                refine ⟨_, rfl, hq23, ?_⟩
                simp only [Act.put, List.setIfInBounds_toArray, List.set_cons_succ, List.set_cons_zero]
                refine gsem 24 (some 206) (.bool false) rfl (by kernel_rfl) (by kernel_rfl) (by kernel_rfl) (fun _ _ _ h => h) (by kernel_rfl) (by kernel_rfl) (fun _ _ => by kernel_rfl) hq23 ?_
                simp only [Act.put, List.setIfInBounds_toArray, List.set_cons_succ, List.set_cons_zero]
                refine gsem 25 (some 207) (.bool false) rfl (by kernel_rfl) (by kernel_rfl) (by kernel_rfl) (fun _ _ _ h => h) (by kernel_rfl) (by kernel_rfl) (fun _ _ => by kernel_rfl) hq23 ?_
                simp only [Act.put, List.setIfInBounds_toArray, List.set_cons_succ, List.set_cons_zero]
                refine gsem 26 (some 208) (.bool false) rfl (by kernel_rfl) (by kernel_rfl) (by kernel_rfl) (fun _ _ _ h => h) (by kernel_rfl) (by kernel_rfl) (fun _ _ => by kernel_rfl) hq23 ?_
                simp only [Act.put, List.setIfInBounds_toArray, List.set_cons_succ, List.set_cons_zero]
                refine gsem 27 (some 209) (.agg r.d.cs.toArray) rfl (by kernel_rfl) (by kernel_rfl) (by kernel_rfl) (fun _ _ _ h => h) (by kernel_rfl) (by kernel_rfl) (fun X hX => ex_loadN (vs := r.d.cs) 40 18 row39 siz39 rfl rfl (hX.get 9 rfl).1 rfl rfl) hq23 ?_
                simp only [Act.put, List.setIfInBounds_toArray, List.set_cons_succ, List.set_cons_zero]
                refine gsem 28 (some 210) (.slice (some ⟨g, 0, none⟩) T.live.length vc) rfl (by kernel_rfl) (by kernel_rfl) (by kernel_rfl) (fun _ _ _ h => h) (by kernel_rfl) (by kernel_rfl) (fun X hX => ex_load1 25 Tryd.isAgg25 rfl rfl (hX.get 4 rfl).1 rfl) hq23 ?_
                simp only [Act.put, List.setIfInBounds_toArray, List.set_cons_succ, List.set_cons_zero]
                refine gsem 29 (some 211) (.int .i64 (j : Nat)) rfl (by kernel_rfl) (by kernel_rfl) (by kernel_rfl) (fun _ _ _ h => h) (by kernel_rfl) (by kernel_rfl) (fun _ _ => by kernel_rfl) hq23 ?_
                simp only [Act.put, List.setIfInBounds_toArray, List.set_cons_succ, List.set_cons_zero]
                refine gsem 30 (some 212) (.pointer (some ⟨g, 0 + j * 20, none⟩)) rfl (by kernel_rfl) (by kernel_rfl) (by kernel_rfl) (fun _ _ _ h => h) (by kernel_rfl) (by kernel_rfl) (fun X hX => ex_indexG 25 20 j unRw idRw rfl rfl rfl hjt) hq23 ?_
                simp only [Act.put, List.setIfInBounds_toArray, List.set_cons_succ, List.set_cons_zero]
                refine gsem 31 (some 213) (.pointer (some ⟨g, 0 + j * 20 + 2, none⟩)) rfl (by kernel_rfl) (by kernel_rfl) (by kernel_rfl) (fun _ _ _ h => h) (by kernel_rfl) (by kernel_rfl) (fun _ _ => by kernel_rfl) hq23 ?_
                simp only [Act.put, List.setIfInBounds_toArray, List.set_cons_succ, List.set_cons_zero]
                refine gsem 32 (some 214) (.agg r.d.cs.toArray) rfl (by kernel_rfl) (by kernel_rfl) (by kernel_rfl) (fun _ _ _ h => h) (by kernel_rfl) (by kernel_rfl) (fun X hX => ex_loadR (vs := r.d.cs) 40 18 row39 siz39 rfl rfl (range_right (a := r.k.cs) (c := r.d.cs) (rowRN (hX.get 3 rfl) rfl hjr)) rfl) hq23 ?_
                simp only [Act.put, List.setIfInBounds_toArray, List.set_cons_succ, List.set_cons_zero]
                refine wpAnyH_ready (rs := [33]) (by kernel_rfl) (by simp) (gcallR 33 (some 215) rfl (by kernel_rfl) (by kernel_rfl) (by kernel_rfl) (sameDesc21 r.d _) ?_ AllReadyH.nil)
                rintro e Y33 ⟨rfl, hY33⟩
                have hq33 := hq23.on hY33
                refine ⟨_, rfl, hq33, ?_⟩
                simp only [Act.put, List.setIfInBounds_toArray, List.set_cons_succ, List.set_cons_zero]
                refine gsem 34 (some 216) (.bool false) rfl (by kernel_rfl) (by kernel_rfl) (by kernel_rfl) (fun _ _ _ h => h) (by kernel_rfl) (by kernel_rfl) (fun _ _ => by kernel_rfl) hq33 ?_
                simp only [Act.put, List.setIfInBounds_toArray, List.set_cons_succ, List.set_cons_zero]
                refine gsem 35 (some 217) (.bool false) rfl (by kernel_rfl) (by kernel_rfl) (by kernel_rfl) (fun _ _ _ h => h) (by kernel_rfl) (by kernel_rfl) (fun _ _ => by kernel_rfl) hq33 ?_
                simp only [Act.put, List.setIfInBounds_toArray, List.set_cons_succ, List.set_cons_zero]
                refine gsem 36 (some 218) (.bool false) rfl (by kernel_rfl) (by kernel_rfl) (by kernel_rfl) (fun _ _ _ h => h) (by kernel_rfl) (by kernel_rfl) (fun _ _ => by kernel_rfl) hq33 ?_
                simp only [Act.put, List.setIfInBounds_toArray, List.set_cons_succ, List.set_cons_zero]
                refine gsem 37 (some 219) (.pointer (some ⟨B18, 0, none⟩)) rfl (by kernel_rfl) (by kernel_rfl) (by kernel_rfl) (fun _ _ _ h => h) (by kernel_rfl) (by kernel_rfl) (fun _ _ => by kernel_rfl) hq33 ?_
                simp only [Act.put, List.setIfInBounds_toArray, List.set_cons_succ, List.set_cons_zero]
                refine gsem 38 (some 220) (.agg r.k.cs.toArray) rfl (by kernel_rfl) (by kernel_rfl) (by kernel_rfl) (fun _ _ _ h => h) (by kernel_rfl) (by kernel_rfl) (fun X hX => ex_loadN (vs := r.k.cs) 34 2 row33x siz33 rfl rfl (hX.get 11 rfl).1 rfl rfl) hq33 ?_
                simp only [Act.put, List.setIfInBounds_toArray, List.set_cons_succ, List.set_cons_zero]
                refine gsem 39 (some 221) (.slice (some ⟨g, 0, none⟩) T.live.length vc) rfl (by kernel_rfl) (by kernel_rfl) (by kernel_rfl) (fun _ _ _ h => h) (by kernel_rfl) (by kernel_rfl) (fun X hX => ex_load1 25 Tryd.isAgg25 rfl rfl (hX.get 4 rfl).1 rfl) hq33 ?_
                simp only [Act.put, List.setIfInBounds_toArray, List.set_cons_succ, List.set_cons_zero]
                refine gsem 40 (some 222) (.int .i64 (j : Nat)) rfl (by kernel_rfl) (by kernel_rfl) (by kernel_rfl) (fun _ _ _ h => h) (by kernel_rfl) (by kernel_rfl) (fun _ _ => by kernel_rfl) hq33 ?_
                simp only [Act.put, List.setIfInBounds_toArray, List.set_cons_succ, List.set_cons_zero]
                refine gsem 41 (some 223) (.pointer (some ⟨g, 0 + j * 20, none⟩)) rfl (by kernel_rfl) (by kernel_rfl) (by kernel_rfl) (fun _ _ _ h => h) (by kernel_rfl) (by kernel_rfl) (fun X hX => ex_indexG 25 20 j unRw idRw rfl rfl rfl hjt) hq33 ?_
                simp only [Act.put, List.setIfInBounds_toArray, List.set_cons_succ, List.set_cons_zero]
                refine gsem 42 (some 224) (.pointer (some ⟨g, 0 + j * 20, none⟩)) rfl (by kernel_rfl) (by kernel_rfl) (by kernel_rfl) (fun _ _ _ h => h) (by kernel_rfl) (by kernel_rfl) (fun _ _ => by kernel_rfl) hq33 ?_
                simp only [Act.put, List.setIfInBounds_toArray, List.set_cons_succ, List.set_cons_zero]
                refine gsem 43 (some 225) (.agg r.k.cs.toArray) rfl (by kernel_rfl) (by kernel_rfl) (by kernel_rfl) (fun _ _ _ h => h) (by kernel_rfl) (by kernel_rfl) (fun X hX => ex_loadR (vs := r.k.cs) 34 2 row33x siz33 rfl rfl (range_left (a := r.k.cs) (c := r.d.cs) (rowRN (hX.get 3 rfl) rfl hjr)) rfl) hq33 ?_
                simp only [Act.put, List.setIfInBounds_toArray, List.set_cons_succ, List.set_cons_zero]
                refine gsem 44 (some 226) (.bool false) rfl (by kernel_rfl) (by kernel_rfl) (by kernel_rfl) (fun _ _ _ h => h) (by kernel_rfl) (by kernel_rfl) (fun X hX => ex_neqKK r.k rfl rfl rfl) hq33 ?_
                simp only [Act.put, List.setIfInBounds_toArray, List.set_cons_succ, List.set_cons_zero]
                refine gsem 45 (some 227) (.bool false) rfl (by kernel_rfl) (by kernel_rfl) (by kernel_rfl) (fun _ _ _ h => h) (by kernel_rfl) (by kernel_rfl) (fun _ _ => by kernel_rfl) hq33 ?_
                simp only [Act.put, List.setIfInBounds_toArray, List.set_cons_succ, List.set_cons_zero]
                refine wpAnyH_done (by kernel_rfl) ?_ _
                try simp only [Act.put, List.setIfInBounds_toArray, List.set_cons_succ, List.set_cons_zero]
                replace LM := hide hq33
                clear hq0 hq23 hq33 hS0 hY23 hY33
                go_wp2_with (first | go_skip | ((with_reducible show wpList _ _ _ _ _ _); first | ((refine vl (by rfl) (ex_load1 25 Tryd.isAgg25 rfl rfl ((unhide LM).get 4 rfl).1 rfl) ?_); simp only [Act.put, List.setIfInBounds_toArray, List.set_cons_succ, List.set_cons_zero]) | ((refine vl (by rfl) (ex_indexG 25 20 j unRw idRw rfl rfl rfl (unhide HJL)) ?_); simp only [Act.put, List.setIfInBounds_toArray, List.set_cons_succ, List.set_cons_zero]) | ((refine vl (by rfl) (ex_loadR (vs := r.k.cs) 34 2 row33x siz33 rfl rfl (range_left (a := r.k.cs) (c := r.d.cs) (rowRN0 ((unhide LM).get 3 rfl) rfl (unhide HJR))) rfl) ?_); simp only [Act.put, List.setIfInBounds_toArray, List.set_cons_succ, List.set_cons_zero]) | ((refine vl (by rfl) (ex_loadR (vs := r.k.cs) 34 2 row33x siz33 rfl rfl (range_left (a := r.k.cs) (c := r.d.cs) (rowRN ((unhide LM).get 3 rfl) rfl (unhide HJR))) rfl) ?_); simp only [Act.put, List.setIfInBounds_toArray, List.set_cons_succ, List.set_cons_zero]) | ((refine vl (by rfl) (ex_build49 r.k rfl rfl) ?_); have LMb := hide ((unhide LM).box r.k.cs 34 (Nat.succ_pos _)); clear LM; have LM := LMb; clear LMb; simp only [Act.put, List.setIfInBounds_toArray, List.set_cons_succ, List.set_cons_zero]) | ((refine appM (k := r.k) (by rfl) rfl rfl rfl (unhide LM) rfl rfl (by have := unhide HJL; have := unhide HLV; omega) ?_); intro A20 c20 Y20 L20; have LM20 := hide L20; clear L20 LM; simp only [Act.put, List.setIfInBounds_toArray, List.set_cons_succ, List.set_cons_zero])))
                have h9 := SyM.left (L := [tabO T4, mapO dR dD zerD mb nb T.live.length F, boxO w.heap.size [.bool false], rowO bs 54 20 (.slice (some ⟨g, 0, none⟩) T.live.length vc) T.live.length (flatP (T.live.map RR.pr)), boxO B6 [.slice (some ⟨g, 0, none⟩) T.live.length vc], boxO B8 [.int .i64 (T.live.length : Nat)], boxO Bn [.pointer (some ⟨t0, 0, none⟩)], mapO iR (fun n : Int => DataW.lit (.int .i64 n)) (0 : Int) sb (ns + 1) (if (seenG (T.live.take j) r.k).isSome then sz else sz + 1) (putG (seenG (T.live.take j)) r.k (some 1)), rowO w.heap.size 34 2 (.slice A20 (j + 1) c20) (j + 1) (flatK ((T.live.take j).map (·.k)) ++ r.k.cs)]) (M := [boxO B14 r.d.cs, boxO B16 r.d.cs, boxO B18 (r.k.cs ++ r.d.cs), boxO Y33.heap.size r.k.cs]) (by exact unhide LM20)
                rw [seen_step (unhide HJR), keys_step (unhide HJR)] at h9
                have LMy := hide h9
                clear h9 LM20
                go_roundg (T.live.length - (j + 1))
                case measure => have := unhide HJL; omega
                case rel => exact ⟨j + 1, T4, ns + 1, _, by go_num, by have := unhide HJL; omega, by omega, (unhide H4).1, (unhide H4).2.1, (unhide H4).2.2, by have := unhide HNS; omega, LMy⟩
            · obtain rfl : j = T.live.length := by omega
              obtain ⟨KA, kc, hkv⟩ := own_form ((unhide LM).get 8 rfl)
              subst hkv
              clear hjt hjl hgm3 hns
              have hT3 : T3.Is _ := (unhide LM).get 0 rfl
              have hkl : ((T.live.take T.live.length).map (·.k)).length = T.live.length := by simp
              have hgk : ((T.live.take T.live.length).map (·.k)).all goodK = true := by rw [List.take_length, List.all_eq_true]; intro k hk; obtain ⟨r, hr, rfl⟩ := List.mem_map.1 hk; exact hT3.good r (by rw [hlv3]; exact hr)
              have hrd : ReadsK _ (.slice KA T.live.length kc) ((T.live.take T.live.length).map (·.k)) := OwnK.reads (base := w.heap.size) (by unfold OwnK; rw [hkl]; exact (unhide LM).get 8 rfl)
              have HOR := hide (order8 (.slice KA T.live.length kc) ((T.live.take T.live.length).map (·.k)) _ (tabs_below (unhide HU) (unhide LM).sy.fr.below) ((unhide HP).on (unhide LM).sy.fr.below) hrd (by rw [hkl]; have := unhide HLV; omega))
              have HGK := hide hgk
              have H3 := hide (And.intro hlv3 (And.intro htt3 hla3))
              have HKL := hide hkl
              clear hT3 hkl hgk hrd hlv3 htt3 hla3
              go_wp2_with (first | go_skip | ((with_reducible show wpList _ _ _ _ _ _); first | ((refine vl (by rfl) (ex_load1 25 Tryd.isAgg25 rfl rfl ((unhide LM).get 4 rfl).1 rfl) ?_); simp only [Act.put, List.setIfInBounds_toArray, List.set_cons_succ, List.set_cons_zero]) | ((refine vl (by rfl) (ex_lenG 25 54 Tryd.underlying25 rfl rfl) ?_); simp only [Act.put, List.setIfInBounds_toArray, List.set_cons_succ, List.set_cons_zero])))
              refine (unhide HOR).mono ?_
              rintro _ Y30 ⟨v30, n30, rfl, hb30, h30⟩
              have h31 := ord_case (unhide HGK) h30
              obtain ⟨hn30, ho30⟩ := h31
              subst hn30
              replace LM := hide ((unhide LM).add (rowO_ok _ 34 2 v30 _ _) ho30 hb30 (fun b hb => (World.ownsRow.lt ho30 b (by simpa [rowO] using hb)).1))
              clear hb30 h30 ho30 HOR
              have HAO := hide (fun (X : World) (h : T3.Is X) => at_out T3 (T.live.length : Int) X h (.inr (by rw [(unhide H3).1]; exact Int.le_refl _)))
              simp only [(unhide H3).2.1] at HAO
              go_wp2_with (first | go_skip | ((with_reducible show wpList _ _ _ _ _ _); first | ((refine vl (by rfl) (ex_load1 25 Tryd.isAgg25 rfl rfl ((unhide LM).get 4 rfl).1 rfl) ?_); simp only [Act.put, List.setIfInBounds_toArray, List.set_cons_succ, List.set_cons_zero]) | ((refine vl (by rfl) (ex_lenG 25 54 Tryd.underlying25 rfl rfl) ?_); simp only [Act.put, List.setIfInBounds_toArray, List.set_cons_succ, List.set_cons_zero])))
              refine (unhide HAO _ ((unhide LM).get 0 rfl)).mono ?_
              rintro _ Y31 ⟨rfl, hb31⟩
              replace LM := hide ((unhide LM).on hb31)
              clear hb31 HAO
              have hee : ((T.live.length : Int) == (T.live.length : Int)) = true := by simp
              go_wp2_with (first | go_skip | ((with_reducible show wpList _ _ _ _ _ _); first | ((refine alM (v := .agg (zeroK.cs ++ zeroD.cs).toArray) 54 (zeroK.cs ++ zeroD.cs) (by rfl) rfl (fun w => by kernel_rfl) rfl (Nat.succ_pos _) (unhide LM) ?_); intro Z22 B22 hB22 L22; replace LM := hide L22; clear L22; simp only [Act.put, List.setIfInBounds_toArray, List.set_cons_succ, List.set_cons_zero]) | ((refine stM (vs := zeroK.cs ++ zeroD.cs) 10 54 (by rfl) rfl rfl rfl rfl (by simp [zeroK, zeroD, zeroV, KK.cs, DD.cs, VV.cs, Value.oneCell']) sz54N (unhide LM) rfl (Nat.le_refl _) ?_); intro Z23 L23; replace LM := hide L23; clear L23; simp only [Act.put, List.setIfInBounds_toArray, List.set_cons_succ, List.set_cons_zero]) | ((refine vl (by rfl) (ex_load1 3 Tryd.isAgg3 rfl rfl ((unhide LM).get 5 rfl).1 rfl) ?_); simp only [Act.put, List.setIfInBounds_toArray, List.set_cons_succ, List.set_cons_zero]) | ((refine vl (by rfl) (ex_load1 25 Tryd.isAgg25 rfl rfl ((unhide LM).get 4 rfl).1 rfl) ?_); simp only [Act.put, List.setIfInBounds_toArray, List.set_cons_succ, List.set_cons_zero]) | ((refine vl (by rfl) (ex_lenG 25 54 Tryd.underlying25 rfl rfl) ?_); simp only [Act.put, List.setIfInBounds_toArray, List.set_cons_succ, List.set_cons_zero]) | ((refine vl (by rfl) (ex_eqZ rfl rfl rfl hee) ?_); simp only [Act.put, List.setIfInBounds_toArray, List.set_cons_succ, List.set_cons_zero])))
              refine (num11 0 (by omega) _).mono ?_
              rintro _ Y32 ⟨rfl, hb32⟩
              replace LM := hide ((unhide LM).on hb32)
              clear hb32
              have HKY := hide (fun (X : World) (h : T3.Is X) (hb : Below w.heap.size w X) => keys28 T3 X h (by have := (unhide H3).2.2; have := unhide HTL; omega) (by rw [(unhide H3).1]; have := unhide HLV; omega) (tabs_below (unhide HU) hb) ((unhide HP).on hb))
              simp only [(unhide H3).2.1, (unhide H3).1] at HKY
              go_wp2_with fail
              refine (unhide HKY _ ((unhide LM).get 0 rfl) (unhide LM).sy.fr.below).mono ?_
              rintro _ Y33 ⟨v33, rfl, ho33, hb33⟩
              replace LM := hide ((unhide LM).on hb33)
              have HSK := hide (sameKeys32 v33 v30 (ordK (T.live.map (·.k))) Y33 ho33.reads (OwnK.reads (show OwnK Y33 _ v30 _ by have h9 := (unhide LM).get 9 rfl; rw [List.take_length] at h9; exact h9)) (by have h8 := ordK_len (T.live.map (·.k)); rw [List.length_map] at h8; have := unhide HLV; omega))
              clear ho33 hb33 HKY
              go_wp2_with fail
              refine (unhide HSK).mono ?_
              rintro _ Y34 ⟨rfl, hb34⟩
              replace LM := hide ((unhide LM).on hb34)
              clear hb34 HSK
              go_wp2_with (first | go_skip | ((with_reducible show wpList _ _ _ _ _ _); first | ((refine stM (vs := [.bool true]) 2 4 (by rfl) rfl rfl rfl rfl (by simp [Value.oneCell']) sz4N (unhide LM) rfl (Nat.le_refl _) ?_); intro Z35 L35; replace LM := hide L35; clear L35; simp only [Act.put, List.setIfInBounds_toArray, List.set_cons_succ, List.set_cons_zero])))
              exact leave4 (unhide LM) (B2 := w.heap.size) (i := 2) rfl rfl
  · rw [decide_eq_false h400]
    clear h400
    have LL : Hid (Hq w W2 [] [(w.heap.size, [.bool false])]) := hide (by have h1 : Hq w W2 [] [] := ⟨Fr.of_below (unhide HB1).1 [], (fun q hq => by cases hq), by simp⟩; exact h1.add (unhide HB1).2 (Nat.succ_pos _) (by simp))
    go_wp2_with (first | go_skip | ((with_reducible show wpList _ _ _ _ _ _); first | ((refine st (vs := [.bool true]) 0 4 (by rfl) rfl rfl rfl rfl (by simp [Value.oneCell']) sz4N (unhide LL) rfl (Nat.le_refl _) (Or.inr (Nat.le_refl _)) ?_); intro X3 L3 hf3 hs3; replace LL := hide L3; clear L3 hf3 hs3; simp only [Act.put, List.setIfInBounds_toArray, List.set_cons_succ, List.set_cons_zero])))
    exact ⟨_, res4 (b := true) ((unhide LL).get 0 rfl) rfl, rfl, (unhide LL).fr.below⟩
end Go.Proofs.YtmemceindohklaaDoor
