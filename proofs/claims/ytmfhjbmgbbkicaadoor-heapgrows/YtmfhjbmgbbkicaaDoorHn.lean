import Derived.Test.YtmfhjbmgbbkicaaDoorHm
namespace Go.Proofs.YtmfhjbmgbbkicaaDoor
open Go Go.Proofs Go.Maps Go.RowKit FM
set_option linter.unusedSimpArgs false
set_option linter.unusedVariables false
set_option maxHeartbeats 1000000
theorem HP.Is.low {w : World} {n m : Nat} {h : HP} (H : h.Is w n) (hm : m ≤ n) : h.Is w m := ⟨H.blk, own_mono H.own hm, H.all, Nat.le_trans hm H.base, H.sep, H.lim⟩
set_option maxHeartbeats 8000000 in
set_option maxRecDepth 100000 in
theorem law3 (cap : Int) (A : Option Addr) (vcap : Nat) (vs : List VV) (w : World) (hR : ReadsV w A vs) (hT : Lib.Utf8Tabs 1 2 w) : Calls Tryd.prog 3 #[.int .i64 cap, .slice A vs.length vcap] w fun e w' => e = .returned (.bool true) ∧ Below w.heap.size w w' := by
  have HR := hide hR
  have HT := hide hT
  clear hR hT
  go_enter Tryd.func3, Tryd.ntmps3
  go_wp2_with fail
  refine (awake4 w (unhide HT)).mono ?_
  rintro _ X0 ⟨rfl, hb0⟩
  have HF0 := hide (Fr.of_below hb0 [])
  clear hb0
  by_cases hcap : cap < 0 ∨ 65536 < cap
  · have HCB := hide hcap
    by_cases hc1 : cap < 0
    · clear hcap
      go_wp2_with fail
      refine (new5_bad cap 5 3 _ (unhide HCB)).mono ?_
      rintro _ X1 ⟨rfl, rfl⟩
      go_wp2
      go_ret
      exact ⟨rfl, (unhide HF0).below⟩
    · have hc2 : (65536 : Int) < cap := by omega
      clear hcap
      go_wp2_with fail
      refine (new5_bad cap 5 3 _ (unhide HCB)).mono ?_
      rintro _ X1 ⟨rfl, rfl⟩
      go_wp2
      go_ret
      exact ⟨rfl, (unhide HF0).below⟩
  · have HC1 : Hid (0 ≤ cap ∧ cap ≤ 65536) := hide ⟨by omega, by omega⟩
    clear hcap
    go_wp2_with fail
    refine (new5_good cap 5 3 _ (unhide HC1).1 (unhide HC1).2 (by decide) (by decide) (by decide)).mono ?_
    rintro _ X1 ⟨b, rfl, hI, hb1⟩
    have HLI : Hid (LI w X1 ⟨b, .slice none 0 0, [], cap, 5, 3⟩ (.slice none 0 0) []) := hide ⟨hI.low (unhide HF0).size, ⟨rfl, .inl ⟨rfl, rfl⟩⟩, (fun g hg => by cases hg), (unhide HF0).on hb1⟩
    clear hI hb1 HF0
    go_wp2_with fail
    go_loopg [7, 8] 50 (fun gm s7 s8 wr => ∃ (i : Nat) (gv : Value) (l : List OB), s8 = .int .i64 (i : Nat) ∧ i ≤ 50 ∧ 50 - i ≤ gm ∧ Hid (LI w wr ⟨b, gv, l, cap, 5, 3⟩ s7 l))
    case atStart => exact ⟨0, _, _, rfl, by omega, by omega, HLI⟩
    case round =>
      clear HLI
      obtain ⟨i, gv, l, rfl, hi50, hgm, HLI⟩ := hrel
      obtain ⟨w2, hw2⟩ : ∃ w2, w2 = wr := ⟨wr, rfl⟩
      subst hw2
      obtain ⟨A2, c2, hcv⟩ := own_form (unhide HLI).own
      subst hcv
      by_cases hlt : i < vs.length
      · have dlt : decide ((i : Int) < (vs.length : Int)) = true := decide_eq_true (by omega)
        by_cases hl5 : i < 50
        · have d50 : decide ((i : Int) < 50) = true := decide_eq_true (by omega)
          have hw1 : IntKind.i64.wrap ((i : Int) + 1) = (i : Int) + 1 := by rw [IntKind.wrap_i64]; omega
          obtain ⟨v, hv⟩ : ∃ v, vs[i]? = some v := ⟨_, List.getElem?_eq_getElem hlt⟩
          obtain ⟨bv, off, hA, hbv, hrg⟩ := (unhide HR) i v hv
          subst hA
          have HA2 : Hid (∀ X, Fr w X [] → X.rangeAt bv (off + i * 5) v.cs) := hide (fun X hX => rangeAt_fr hrg hbv hX)
          have HLT := hide hlt
          clear hbv hrg hlt hv
          obtain ⟨E, hE⟩ : ∃ E, addE ⟨b, gv, l, cap, 5, 3⟩ v = E := ⟨_, rfl⟩
          have HEE := hide hE
          clear hE
          by_cases hE0 : E = 0
          · subst hE0
            have HLM : Hid (l.length + 1 ≤ 65537) := hide (by have := (unhide HLI).is.few; dsimp only at this; omega)
            go_wp2_with (first | go_skip | ((with_reducible show wpList _ _ _ _ _ _); first | ((refine rd (by rfl) (ex_lenG 22 35 Tryd.underlying22 rfl rfl) ?_); simp only [Act.put, List.setIfInBounds_toArray, List.set_cons_succ, List.set_cons_zero]) | ((refine rd (by rfl) (ex_indexG 22 5 i und22 idx22 rfl rfl rfl (unhide HLT)) ?_); simp only [Act.put, List.setIfInBounds_toArray, List.set_cons_succ, List.set_cons_zero]) | ((refine rd (by rfl) (ex_loadR (vs := v.cs) 35 5 row35 siz35 rfl rfl (unhide HA2 _ (unhide HLI).fr) rfl) ?_); simp only [Act.put, List.setIfInBounds_toArray, List.set_cons_succ, List.set_cons_zero])))
            refine (make6_good ⟨b, gv, l, cap, 5, 3⟩ w.heap.size v _ (unhide HLI).is (tabs_below (unhide HT) (unhide HLI).fr.below) (unhide HEE)).mono ?_
            intro e X2 hA
            obtain ⟨o, gv2, he, hop, hI2, hf2, hg2, hob2⟩ := hA
            replace HLI := hide (LI.make (unhide HLI) hI2 hf2 hg2 hob2)
            have he2 : e = .returned (.tuple #[.int .i64 (((l ++ [o]).length : Nat) : Int), .nilIface]) := by rw [he]; simp
            subst he2
            clear he hI2 hf2 hg2 hob2
            dsimp only at HLI
            go_wp2_with (first | go_skip | ((with_reducible show wpList _ _ _ _ _ _); first | ((refine rd (by rfl) (ex_indexG 22 5 i und22 idx22 rfl rfl rfl (unhide HLT)) ?_); simp only [Act.put, List.setIfInBounds_toArray, List.set_cons_succ, List.set_cons_zero]) | ((refine rd (by rfl) (ex_loadR (vs := v.cs) 35 5 row35 siz35 rfl rfl (unhide HA2 _ (unhide HLI).fr) rfl) ?_); simp only [Act.put, List.setIfInBounds_toArray, List.set_cons_succ, List.set_cons_zero]) | ((refine rd (by rfl) (ex_b38 v rfl rfl) ?_); simp only [Act.put, List.setIfInBounds_toArray, List.set_cons_succ, List.set_cons_zero]) | ((refine build_any (z := .agg zshc.toArray) (size := 8) (bytes := 88) (cs := shc v none 0) (by rfl) rfl rfl Tryd.underlying28 inf38 (by omega) rfl rfl (by omega) (Hq.nil _ []) ?_); intro X5 B5 hE5 L5 hb5; have HBB := hide (L5.get 0 rfl); replace HLI := hide ((unhide HLI).on (Fr.of_below hb5 [])); clear L5 hb5 hE5; simp only [Act.put, List.setIfInBounds_toArray, List.set_cons_succ, List.set_cons_zero]) | ((refine append_any (z := .agg zshc.toArray) (size := 8) (bytes := 88) (n := l.length) (m := 1) (base := w.heap.size) (news := shc v none 0) (by rfl) rfl rfl rfl Tryd.underlying28 inf38 rfl (by omega) (unhide HLI).own (unhide HBB) rfl (shc_one v none 0) (by have := unhide HLM; omega) (by omega) (unhide HLI).fr.size ?_); intro A6 c6 X6 hO6 hg6 hF6; have HLN := hide (LI.app (o := o) (unhide HLI) (by rw [show wcs o = shc v none 0 from by unfold wcs; rw [hop]]; exact hO6) hg6 hF6); clear hO6 hg6 hF6 HLI HBB; simp only [Act.put, List.setIfInBounds_toArray, List.set_cons_succ, List.set_cons_zero])))
            obtain ⟨l2, hl2⟩ : ∃ l2, l2 = l ++ [o] := ⟨_, rfl⟩
            rw [← hl2] at HLN
            have hl3 : l.length + 1 = l2.length := by rw [hl2]; simp
            rw [hl3] at HLN
            rw [hl3]
            clear hl2
            have HLI := HLN
            clear HLN
            go_wp2_with fail
            refine (shapes7 _ w.heap.size _ (unhide HLI).is).mono ?_
            rintro _ Y1 ⟨es, v1, rfl, hes, hos, hb⟩
            have hel : es.length = l2.length := by simpa using congrArg List.length hes
            obtain ⟨A3, c3, hv3⟩ := own_form hos
            rw [hel] at hv3
            subst hv3
            have HOS := hide hos
            have HES := hide hes
            have HEL := hide hel
            replace HLI := hide ((unhide HLI).on (Fr.of_below hb []))
            have HG : Hid (decide (cap < (l2.length : Int)) = false) := hide (decide_eq_false (by have := (unhide HLI).is.lim.1; dsimp only at this; omega))
            clear hos hes hel hb
            go_wp2_with (first | go_skip | ((with_reducible show wpList _ _ _ _ _ _); first | ((refine rd (by rfl) (ex_lenG 28 38 Tryd.underlying28 rfl rfl) ?_); simp only [Act.put, List.setIfInBounds_toArray, List.set_cons_succ, List.set_cons_zero])))
            refine (len8 _ w.heap.size _ (unhide HLI).is).mono ?_
            rintro _ Y2 ⟨rfl, rfl⟩
            go_wp2_with (first | go_skip | ((with_reducible show wpList _ _ _ _ _ _); first | ((refine rd (by rfl) (ex_lenG 28 38 Tryd.underlying28 rfl rfl) ?_); simp only [Act.put, List.setIfInBounds_toArray, List.set_cons_succ, List.set_cons_zero]) | ((refine rd (by rfl) (ex_gtr false rfl rfl rfl (unhide HG)) ?_); simp only [Act.put, List.setIfInBounds_toArray, List.set_cons_succ, List.set_cons_zero])))
            refine (fuel9 _ w.heap.size _ (unhide HLI).is).mono ?_
            rintro _ Y3 ⟨rfl, rfl⟩
            go_wp2_with (first | go_skip | ((with_reducible show wpList _ _ _ _ _ _); first | ((refine rd (by rfl) (ex_lenG 28 38 Tryd.underlying28 rfl rfl) ?_); simp only [Act.put, List.setIfInBounds_toArray, List.set_cons_succ, List.set_cons_zero])))
            go_loopg [12] l2.length (fun gm s12 wq => ∃ k : Nat, s12 = .int .i64 (k : Nat) ∧ k ≤ l2.length ∧ l2.length - k ≤ gm ∧ Hid (Fr Y3 wq []))
            case atStart => exact ⟨0, rfl, by omega, by omega, hide (Fr.refl _ _)⟩
            case round =>
              obtain ⟨k, rfl, hkl, hgm2, HQ⟩ := hrel
              by_cases hlk : k < l2.length
              · have dlk : decide ((k : Int) < (l2.length : Int)) = true := decide_eq_true (by omega)
                have hwk : IntKind.i64.wrap ((k : Int) + 1) = (k : Int) + 1 := by have := (unhide HLI).is.few; dsimp only at this; rw [IntKind.wrap_i64]; omega
                obtain ⟨o5, ho5⟩ : ∃ o5, l2[k]? = some o5 := ⟨_, List.getElem?_eq_getElem hlk⟩
                have hle : k < es.length := by have := unhide HEL; omega
                obtain ⟨e, he⟩ : ∃ e, es[k]? = some e := ⟨_, List.getElem?_eq_getElem hle⟩
                have hep : e.p = o5.p := map_get (unhide HES) he ho5
                obtain ⟨g3, c3x, h3x, -, hb3, hrg3⟩ := own_row se_length (unhide HOS) rfl k hle
                obtain ⟨g2, c2x, h2x, -, hb2, hrg2⟩ := own_row wcs_length (unhide HLI).own rfl k hlk
                rw [(List.getElem?_eq_some_iff.1 he).2] at hrg3
                rw [(List.getElem?_eq_some_iff.1 ho5).2] at hrg2
                unfold wcs at hrg2
                rw [← hep] at hrg2
                unfold SE.cs at hrg3
                rw [unhide HEL] at h3x
                cases h3x
                cases h2x
                have HLK := hide hlk
                clear hkl he ho5 hep hle
                go_wp2_with (first | go_skip | ((with_reducible show wpList _ _ _ _ _ _); first | ((refine rd (by rfl) (ex_lenG 28 38 Tryd.underlying28 rfl rfl) ?_); simp only [Act.put, List.setIfInBounds_toArray, List.set_cons_succ, List.set_cons_zero])))
                have hq0 : Fr Y3 _ [] := (unhide HQ).drew
                refine wp_region_held_drew (P := Tryd.prog) (S := fun X => Fr Y3 X []) (by kernel_rfl) hq0 (fun hS0 => ?_)
                refine gsem 0 (some 114) (.slice (some ⟨g3, 0, none⟩) l2.length c3) rfl (by kernel_rfl) (by kernel_rfl) (by kernel_rfl) (fun _ _ _ h => h) (by kernel_rfl) (by kernel_rfl) (fun _ _ => by kernel_rfl) hq0 ?_
                simp only [Act.put, List.setIfInBounds_toArray, List.set_cons_succ, List.set_cons_zero]
                refine gsem 1 (some 115) (.int .i64 (k : Nat)) rfl (by kernel_rfl) (by kernel_rfl) (by kernel_rfl) (fun _ _ _ h => h) (by kernel_rfl) (by kernel_rfl) (fun _ _ => by kernel_rfl) hq0 ?_
                simp only [Act.put, List.setIfInBounds_toArray, List.set_cons_succ, List.set_cons_zero]
                refine gsem 2 (some 116) (.pointer (some ⟨g3, 0 + k * 8, none⟩)) rfl (by kernel_rfl) (by kernel_rfl) (by kernel_rfl) (fun _ _ _ h => h) (by kernel_rfl) (by kernel_rfl) (fun X hX => ex_indexG 28 8 k und28 idx28 rfl rfl rfl hlk) hq0 ?_
                simp only [Act.put, List.setIfInBounds_toArray, List.set_cons_succ, List.set_cons_zero]
                refine gsem 3 (some 117) (.agg (shc e.p e.A e.c).toArray) rfl (by kernel_rfl) (by kernel_rfl) (by kernel_rfl) (fun _ _ _ h => h) (by kernel_rfl) (by kernel_rfl) (fun X hX => ex_loadR (vs := shc e.p e.A e.c) 38 8 row38 siz38 rfl rfl (rangeAt_fr hrg3 hb3 hX) rfl) hq0 ?_
                simp only [Act.put, List.setIfInBounds_toArray, List.set_cons_succ, List.set_cons_zero]
                refine gsem 4 (some 118) (.slice (some ⟨g2, 0, none⟩) l2.length c6) rfl (by kernel_rfl) (by kernel_rfl) (by kernel_rfl) (fun _ _ _ h => h) (by kernel_rfl) (by kernel_rfl) (fun _ _ => by kernel_rfl) hq0 ?_
                simp only [Act.put, List.setIfInBounds_toArray, List.set_cons_succ, List.set_cons_zero]
                refine gsem 5 (some 119) (.int .i64 (k : Nat)) rfl (by kernel_rfl) (by kernel_rfl) (by kernel_rfl) (fun _ _ _ h => h) (by kernel_rfl) (by kernel_rfl) (fun _ _ => by kernel_rfl) hq0 ?_
                simp only [Act.put, List.setIfInBounds_toArray, List.set_cons_succ, List.set_cons_zero]
                refine gsem 6 (some 120) (.pointer (some ⟨g2, 0 + k * 8, none⟩)) rfl (by kernel_rfl) (by kernel_rfl) (by kernel_rfl) (fun _ _ _ h => h) (by kernel_rfl) (by kernel_rfl) (fun X hX => ex_indexG 28 8 k und28 idx28 rfl rfl rfl hlk) hq0 ?_
                simp only [Act.put, List.setIfInBounds_toArray, List.set_cons_succ, List.set_cons_zero]
                refine gsem 7 (some 121) (.agg (shc e.p none 0).toArray) rfl (by kernel_rfl) (by kernel_rfl) (by kernel_rfl) (fun _ _ _ h => h) (by kernel_rfl) (by kernel_rfl) (fun X hX => ex_loadR (vs := shc e.p none 0) 38 8 row38 siz38 rfl rfl (rangeAt_fr hrg2 hb2 hX) rfl) hq0 ?_
                simp only [Act.put, List.setIfInBounds_toArray, List.set_cons_succ, List.set_cons_zero]
                refine wpAnyH_ready (rs := [8]) (by kernel_rfl) (by simp) (gcallR 8 (some 122) rfl (by kernel_rfl) (by kernel_rfl) (by kernel_rfl) (same10 e.p e.A none e.c 0 _) ?_ AllReadyH.nil)
                rintro e8 X8 ⟨rfl, hb8⟩
                have hq8 : Fr Y3 X8 [] := hq0.on hb8
                refine ⟨_, rfl, hq8, ?_⟩
                simp only [Act.put, List.setIfInBounds_toArray, List.set_cons_succ, List.set_cons_zero]
                refine gsem 9 (some 123) (.bool false) rfl (by kernel_rfl) (by kernel_rfl) (by kernel_rfl) (fun _ _ _ h => h) (by kernel_rfl) (by kernel_rfl) (fun _ _ => by kernel_rfl) hq8 ?_
                simp only [Act.put, List.setIfInBounds_toArray, List.set_cons_succ, List.set_cons_zero]
                refine wpAnyH_done (by kernel_rfl) ?_ _
                try simp only [Act.put, List.setIfInBounds_toArray, List.set_cons_succ, List.set_cons_zero]
                replace HQ := hide hq8
                clear hq0 hq8 hS0 hb8 hrg2 hrg3 hb2 hb3 hlk
                go_wp2
                go_roundg (l2.length - (k + 1))
                case measure => have := unhide HLK; omega
                case rel => exact ⟨k + 1, by go_num, by have := unhide HLK; omega, by omega, HQ⟩
              · obtain rfl : k = l2.length := by omega
                replace HLI := hide ((unhide HLI).on (unhide HQ))
                clear hlk hkl
                go_wp2_with (first | go_skip | ((with_reducible show wpList _ _ _ _ _ _); first | ((refine rd (by rfl) (ex_lenG 28 38 Tryd.underlying28 rfl rfl) ?_); simp only [Act.put, List.setIfInBounds_toArray, List.set_cons_succ, List.set_cons_zero])))
                go_roundg (50 - (i + 1))
                case measure => omega
                case rel => exact ⟨i + 1, gv2, l2, by go_num, by omega, by omega, HLI⟩
          · have hEb : (E != 0) = true := by simp [hE0]
            clear hE0
            go_wp2_with (first | go_skip | ((with_reducible show wpList _ _ _ _ _ _); first | ((refine rd (by rfl) (ex_lenG 22 35 Tryd.underlying22 rfl rfl) ?_); simp only [Act.put, List.setIfInBounds_toArray, List.set_cons_succ, List.set_cons_zero]) | ((refine rd (by rfl) (ex_indexG 22 5 i und22 idx22 rfl rfl rfl (unhide HLT)) ?_); simp only [Act.put, List.setIfInBounds_toArray, List.set_cons_succ, List.set_cons_zero]) | ((refine rd (by rfl) (ex_loadR (vs := v.cs) 35 5 row35 siz35 rfl rfl (unhide HA2 _ (unhide HLI).fr) rfl) ?_); simp only [Act.put, List.setIfInBounds_toArray, List.set_cons_succ, List.set_cons_zero])))
            refine (make6_bad ⟨b, gv, l, cap, 5, 3⟩ w.heap.size v E _ (unhide HLI).is (tabs_below (unhide HT) (unhide HLI).fr.below) (unhide HEE) hEb).mono ?_
            rintro _ X2 ⟨rfl, hb2⟩
            replace HLI := hide ((unhide HLI).on (Fr.of_below hb2 []))
            clear hb2
            go_wp2_with fail
            refine (shapes7 _ w.heap.size _ (unhide HLI).is).mono ?_
            rintro _ Y1 ⟨es, v1, rfl, hes, hos, hb⟩
            have hel : es.length = l.length := by simpa using congrArg List.length hes
            obtain ⟨A3, c3, hv3⟩ := own_form hos
            rw [hel] at hv3
            subst hv3
            have HOS := hide hos
            have HES := hide hes
            have HEL := hide hel
            replace HLI := hide ((unhide HLI).on (Fr.of_below hb []))
            have HG : Hid (decide (cap < (l.length : Int)) = false) := hide (decide_eq_false (by have := (unhide HLI).is.lim.1; dsimp only at this; omega))
            clear hos hes hel hb
            go_wp2_with (first | go_skip | ((with_reducible show wpList _ _ _ _ _ _); first | ((refine rd (by rfl) (ex_lenG 28 38 Tryd.underlying28 rfl rfl) ?_); simp only [Act.put, List.setIfInBounds_toArray, List.set_cons_succ, List.set_cons_zero])))
            refine (len8 _ w.heap.size _ (unhide HLI).is).mono ?_
            rintro _ Y2 ⟨rfl, rfl⟩
            go_wp2_with (first | go_skip | ((with_reducible show wpList _ _ _ _ _ _); first | ((refine rd (by rfl) (ex_lenG 28 38 Tryd.underlying28 rfl rfl) ?_); simp only [Act.put, List.setIfInBounds_toArray, List.set_cons_succ, List.set_cons_zero]) | ((refine rd (by rfl) (ex_gtr false rfl rfl rfl (unhide HG)) ?_); simp only [Act.put, List.setIfInBounds_toArray, List.set_cons_succ, List.set_cons_zero])))
            refine (fuel9 _ w.heap.size _ (unhide HLI).is).mono ?_
            rintro _ Y3 ⟨rfl, rfl⟩
            go_wp2_with (first | go_skip | ((with_reducible show wpList _ _ _ _ _ _); first | ((refine rd (by rfl) (ex_lenG 28 38 Tryd.underlying28 rfl rfl) ?_); simp only [Act.put, List.setIfInBounds_toArray, List.set_cons_succ, List.set_cons_zero])))
            go_loopg [12] l.length (fun gm s12 wq => ∃ k : Nat, s12 = .int .i64 (k : Nat) ∧ k ≤ l.length ∧ l.length - k ≤ gm ∧ Hid (Fr Y3 wq []))
            case atStart => exact ⟨0, rfl, by omega, by omega, hide (Fr.refl _ _)⟩
            case round =>
              obtain ⟨k, rfl, hkl, hgm2, HQ⟩ := hrel
              by_cases hlk : k < l.length
              · have dlk : decide ((k : Int) < (l.length : Int)) = true := decide_eq_true (by omega)
                have hwk : IntKind.i64.wrap ((k : Int) + 1) = (k : Int) + 1 := by have := (unhide HLI).is.few; dsimp only at this; rw [IntKind.wrap_i64]; omega
                obtain ⟨o5, ho5⟩ : ∃ o5, l[k]? = some o5 := ⟨_, List.getElem?_eq_getElem hlk⟩
                have hle : k < es.length := by have := unhide HEL; omega
                obtain ⟨e, he⟩ : ∃ e, es[k]? = some e := ⟨_, List.getElem?_eq_getElem hle⟩
                have hep : e.p = o5.p := map_get (unhide HES) he ho5
                obtain ⟨g3, c3x, h3x, -, hb3, hrg3⟩ := own_row se_length (unhide HOS) rfl k hle
                obtain ⟨g2, c2x, h2x, -, hb2, hrg2⟩ := own_row wcs_length (unhide HLI).own rfl k hlk
                rw [(List.getElem?_eq_some_iff.1 he).2] at hrg3
                rw [(List.getElem?_eq_some_iff.1 ho5).2] at hrg2
                unfold wcs at hrg2
                rw [← hep] at hrg2
                unfold SE.cs at hrg3
                rw [unhide HEL] at h3x
                cases h3x
                cases h2x
                have HLK := hide hlk
                clear hkl he ho5 hep hle
                go_wp2_with (first | go_skip | ((with_reducible show wpList _ _ _ _ _ _); first | ((refine rd (by rfl) (ex_lenG 28 38 Tryd.underlying28 rfl rfl) ?_); simp only [Act.put, List.setIfInBounds_toArray, List.set_cons_succ, List.set_cons_zero])))
                have hq0 : Fr Y3 _ [] := (unhide HQ).drew
                refine wp_region_held_drew (P := Tryd.prog) (S := fun X => Fr Y3 X []) (by kernel_rfl) hq0 (fun hS0 => ?_)
                refine gsem 0 (some 114) (.slice (some ⟨g3, 0, none⟩) l.length c3) rfl (by kernel_rfl) (by kernel_rfl) (by kernel_rfl) (fun _ _ _ h => h) (by kernel_rfl) (by kernel_rfl) (fun _ _ => by kernel_rfl) hq0 ?_
                simp only [Act.put, List.setIfInBounds_toArray, List.set_cons_succ, List.set_cons_zero]
                refine gsem 1 (some 115) (.int .i64 (k : Nat)) rfl (by kernel_rfl) (by kernel_rfl) (by kernel_rfl) (fun _ _ _ h => h) (by kernel_rfl) (by kernel_rfl) (fun _ _ => by kernel_rfl) hq0 ?_
                simp only [Act.put, List.setIfInBounds_toArray, List.set_cons_succ, List.set_cons_zero]
                refine gsem 2 (some 116) (.pointer (some ⟨g3, 0 + k * 8, none⟩)) rfl (by kernel_rfl) (by kernel_rfl) (by kernel_rfl) (fun _ _ _ h => h) (by kernel_rfl) (by kernel_rfl) (fun X hX => ex_indexG 28 8 k und28 idx28 rfl rfl rfl hlk) hq0 ?_
                simp only [Act.put, List.setIfInBounds_toArray, List.set_cons_succ, List.set_cons_zero]
                refine gsem 3 (some 117) (.agg (shc e.p e.A e.c).toArray) rfl (by kernel_rfl) (by kernel_rfl) (by kernel_rfl) (fun _ _ _ h => h) (by kernel_rfl) (by kernel_rfl) (fun X hX => ex_loadR (vs := shc e.p e.A e.c) 38 8 row38 siz38 rfl rfl (rangeAt_fr hrg3 hb3 hX) rfl) hq0 ?_
                simp only [Act.put, List.setIfInBounds_toArray, List.set_cons_succ, List.set_cons_zero]
                refine gsem 4 (some 118) (.slice (some ⟨g2, 0, none⟩) l.length c2) rfl (by kernel_rfl) (by kernel_rfl) (by kernel_rfl) (fun _ _ _ h => h) (by kernel_rfl) (by kernel_rfl) (fun _ _ => by kernel_rfl) hq0 ?_
                simp only [Act.put, List.setIfInBounds_toArray, List.set_cons_succ, List.set_cons_zero]
                refine gsem 5 (some 119) (.int .i64 (k : Nat)) rfl (by kernel_rfl) (by kernel_rfl) (by kernel_rfl) (fun _ _ _ h => h) (by kernel_rfl) (by kernel_rfl) (fun _ _ => by kernel_rfl) hq0 ?_
                simp only [Act.put, List.setIfInBounds_toArray, List.set_cons_succ, List.set_cons_zero]
                refine gsem 6 (some 120) (.pointer (some ⟨g2, 0 + k * 8, none⟩)) rfl (by kernel_rfl) (by kernel_rfl) (by kernel_rfl) (fun _ _ _ h => h) (by kernel_rfl) (by kernel_rfl) (fun X hX => ex_indexG 28 8 k und28 idx28 rfl rfl rfl hlk) hq0 ?_
                simp only [Act.put, List.setIfInBounds_toArray, List.set_cons_succ, List.set_cons_zero]
                refine gsem 7 (some 121) (.agg (shc e.p none 0).toArray) rfl (by kernel_rfl) (by kernel_rfl) (by kernel_rfl) (fun _ _ _ h => h) (by kernel_rfl) (by kernel_rfl) (fun X hX => ex_loadR (vs := shc e.p none 0) 38 8 row38 siz38 rfl rfl (rangeAt_fr hrg2 hb2 hX) rfl) hq0 ?_
                simp only [Act.put, List.setIfInBounds_toArray, List.set_cons_succ, List.set_cons_zero]
                refine wpAnyH_ready (rs := [8]) (by kernel_rfl) (by simp) (gcallR 8 (some 122) rfl (by kernel_rfl) (by kernel_rfl) (by kernel_rfl) (same10 e.p e.A none e.c 0 _) ?_ AllReadyH.nil)
                rintro e8 X8 ⟨rfl, hb8⟩
                have hq8 : Fr Y3 X8 [] := hq0.on hb8
                refine ⟨_, rfl, hq8, ?_⟩
                simp only [Act.put, List.setIfInBounds_toArray, List.set_cons_succ, List.set_cons_zero]
                refine gsem 9 (some 123) (.bool false) rfl (by kernel_rfl) (by kernel_rfl) (by kernel_rfl) (fun _ _ _ h => h) (by kernel_rfl) (by kernel_rfl) (fun _ _ => by kernel_rfl) hq8 ?_
                simp only [Act.put, List.setIfInBounds_toArray, List.set_cons_succ, List.set_cons_zero]
                refine wpAnyH_done (by kernel_rfl) ?_ _
                try simp only [Act.put, List.setIfInBounds_toArray, List.set_cons_succ, List.set_cons_zero]
                replace HQ := hide hq8
                clear hq0 hq8 hS0 hb8 hrg2 hrg3 hb2 hb3 hlk
                go_wp2
                go_roundg (l.length - (k + 1))
                case measure => have := unhide HLK; omega
                case rel => exact ⟨k + 1, by go_num, by have := unhide HLK; omega, by omega, HQ⟩
              · obtain rfl : k = l.length := by omega
                replace HLI := hide ((unhide HLI).on (unhide HQ))
                clear hlk hkl
                go_wp2_with (first | go_skip | ((with_reducible show wpList _ _ _ _ _ _); first | ((refine rd (by rfl) (ex_lenG 28 38 Tryd.underlying28 rfl rfl) ?_); simp only [Act.put, List.setIfInBounds_toArray, List.set_cons_succ, List.set_cons_zero])))
                go_roundg (50 - (i + 1))
                case measure => omega
                case rel => exact ⟨i + 1, gv, l, by go_num, by omega, by omega, HLI⟩
        · have d50 : decide ((i : Int) < 50) = false := decide_eq_false (by omega)
          go_wp2_with (first | go_skip | ((with_reducible show wpList _ _ _ _ _ _); first | ((refine rd (by rfl) (ex_lenG 22 35 Tryd.underlying22 rfl rfl) ?_); simp only [Act.put, List.setIfInBounds_toArray, List.set_cons_succ, List.set_cons_zero])))
          go_ret
          exact ⟨rfl, (unhide HLI).fr.below⟩
      · have dlt : decide ((i : Int) < (vs.length : Int)) = false := decide_eq_false (by omega)
        go_wp2_with (first | go_skip | ((with_reducible show wpList _ _ _ _ _ _); first | ((refine rd (by rfl) (ex_lenG 22 35 Tryd.underlying22 rfl rfl) ?_); simp only [Act.put, List.setIfInBounds_toArray, List.set_cons_succ, List.set_cons_zero])))
        go_ret
        exact ⟨rfl, (unhide HLI).fr.below⟩
end Go.Proofs.YtmfhjbmgbbkicaaDoor
