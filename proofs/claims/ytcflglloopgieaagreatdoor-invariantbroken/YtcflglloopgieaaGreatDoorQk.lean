import Derived.Test.YtcflglloopgieaaGreatDoorQj

/-! Eg -/
namespace Go.Proofs.YtcflglloopgieaaGreatDoor
open Go Go.Proofs Go.RowKit FM
set_option linter.unusedSimpArgs false
set_option linter.unusedVariables false
set_option maxHeartbeats 2000000 in
set_option maxRecDepth 100000 in
theorem keeps_any (a b : DD) (ha : FD a) (hb : FD b) (w : World) (hT : Lib.Utf8Tabs 1 2 w) : Calls Tryz.prog 74 #[a.agg, b.agg] w fun e w' => e = .returned (.tuple #[.bool (keepB a b), .int .i64 (keepE a b)]) ∧ Below w.heap.size w w' := by
  have HT := hide hT
  clear hT
  have HA := hide (fun w hT => stands_any a ha w hT)
  have HB := hide (fun w hT => stands_any b hb w hT)
  have HN := hide (nothing_any a ha)
  have HK := hide (fun w hT => kept_any a b ha hb w hT)
  clear ha hb
  have LL := hide (Lie.new2 w (.D a) (.D b))
  unfold keepB keepE
  generalize stV a = sa at *
  generalize stV b = sb at *
  generalize noV a = no at *
  generalize keptV a b = kt at *
  generalize hq : (a.c == 2) = q at *
  have hq0 : a.agg = .agg #[.int .i64 a.v.k, .bool a.v.b, .float .f64 a.v.x, .string a.v.s, .int .i64 a.v.i, .int .i64 a.g.k, .bool a.g.b, .float .f64 a.g.x, .string a.g.s, .int .i64 a.g.i, .int .i64 a.s.k, .bool a.s.b, .float .f64 a.s.x, .string a.s.s, .int .i64 a.s.i, .int .i64 a.w, .int .i64 a.e, .int .i64 a.c] := rfl
  have hq1 : b.agg = .agg #[.int .i64 b.v.k, .bool b.v.b, .float .f64 b.v.x, .string b.v.s, .int .i64 b.v.i, .int .i64 b.g.k, .bool b.g.b, .float .f64 b.g.x, .string b.g.s, .int .i64 b.g.i, .int .i64 b.s.k, .bool b.s.b, .float .f64 b.s.x, .string b.s.s, .int .i64 b.s.i, .int .i64 b.w, .int .i64 b.e, .int .i64 b.c] := rfl
  rw [hq0, hq1]
  clear hq0 hq1
  go_enter Tryz.func74, Tryz.ntmps74
  go_wp2_with (first | go_skip | ((first | ((with_reducible apply load27); (case ho => rfl); (case hw => rfl); (case hx => rfl)) | ((with_reducible apply load25c); (case ho => rfl); (case hw => rfl); (case hx => rfl))); (case hc => first | exact (unhide LL).one | exact (unhide LL).two); simp only [Act.put, List.setIfInBounds_toArray, List.set_cons_succ, List.set_cons_zero]))
  refine (unhide HA _ (tabs_below (unhide HT) (unhide LL).below)).mono ?_
  rintro _ w11 ⟨rfl, hb⟩
  replace LL := hide ((unhide LL).on hb)
  clear hb
  cases sa
  · go_wp2_with (first | go_skip | ((first | ((with_reducible apply load27); (case ho => rfl); (case hw => rfl); (case hx => rfl)) | ((with_reducible apply load25c); (case ho => rfl); (case hw => rfl); (case hx => rfl))); (case hc => first | exact (unhide LL).one | exact (unhide LL).two); simp only [Act.put, List.setIfInBounds_toArray, List.set_cons_succ, List.set_cons_zero]))
    go_ret2
    exact ⟨rfl, (unhide LL).below⟩
  · go_wp2_with (first | go_skip | ((first | ((with_reducible apply load27); (case ho => rfl); (case hw => rfl); (case hx => rfl)) | ((with_reducible apply load25c); (case ho => rfl); (case hw => rfl); (case hx => rfl))); (case hc => first | exact (unhide LL).one | exact (unhide LL).two); simp only [Act.put, List.setIfInBounds_toArray, List.set_cons_succ, List.set_cons_zero]))
    refine (unhide HB _ (tabs_below (unhide HT) (unhide LL).below)).mono ?_
    rintro _ w12 ⟨rfl, hb⟩
    replace LL := hide ((unhide LL).on hb)
    clear hb
    cases sb
    · go_wp2_with (first | go_skip | ((first | ((with_reducible apply load27); (case ho => rfl); (case hw => rfl); (case hx => rfl)) | ((with_reducible apply load25c); (case ho => rfl); (case hw => rfl); (case hx => rfl))); (case hc => first | exact (unhide LL).one | exact (unhide LL).two); simp only [Act.put, List.setIfInBounds_toArray, List.set_cons_succ, List.set_cons_zero]))
      go_ret2
      exact ⟨rfl, (unhide LL).below⟩
    · go_wp2_with (first | go_skip | ((first | ((with_reducible apply load27); (case ho => rfl); (case hw => rfl); (case hx => rfl)) | ((with_reducible apply load25c); (case ho => rfl); (case hw => rfl); (case hx => rfl))); (case hc => first | exact (unhide LL).one | exact (unhide LL).two); simp only [Act.put, List.setIfInBounds_toArray, List.set_cons_succ, List.set_cons_zero]))
      refine (unhide HN _).mono ?_
      rintro _ w13 ⟨rfl, hb⟩
      replace LL := hide ((unhide LL).on hb)
      clear hb
      cases no
      · cases q
        · go_wp2_with (first | go_skip | ((first | ((with_reducible apply load27); (case ho => rfl); (case hw => rfl); (case hx => rfl)) | ((with_reducible apply load25c); (case ho => rfl); (case hw => rfl); (case hx => rfl))); (case hc => first | exact (unhide LL).one | exact (unhide LL).two); simp only [Act.put, List.setIfInBounds_toArray, List.set_cons_succ, List.set_cons_zero]))
          refine (unhide HK _ (tabs_below (unhide HT) (unhide LL).below)).mono ?_
          rintro _ w14 ⟨rfl, hb⟩
          replace LL := hide ((unhide LL).on hb)
          clear hb
          go_wp2_with (first | go_skip | ((first | ((with_reducible apply load27); (case ho => rfl); (case hw => rfl); (case hx => rfl)) | ((with_reducible apply load25c); (case ho => rfl); (case hw => rfl); (case hx => rfl))); (case hc => first | exact (unhide LL).one | exact (unhide LL).two); simp only [Act.put, List.setIfInBounds_toArray, List.set_cons_succ, List.set_cons_zero]))
          go_ret2
          exact ⟨rfl, (unhide LL).below⟩
        · go_wp2_with (first | go_skip | ((first | ((with_reducible apply load27); (case ho => rfl); (case hw => rfl); (case hx => rfl)) | ((with_reducible apply load25c); (case ho => rfl); (case hw => rfl); (case hx => rfl))); (case hc => first | exact (unhide LL).one | exact (unhide LL).two); simp only [Act.put, List.setIfInBounds_toArray, List.set_cons_succ, List.set_cons_zero]))
          go_ret2
          exact ⟨rfl, (unhide LL).below⟩
      · go_wp2_with (first | go_skip | ((first | ((with_reducible apply load27); (case ho => rfl); (case hw => rfl); (case hx => rfl)) | ((with_reducible apply load25c); (case ho => rfl); (case hw => rfl); (case hx => rfl))); (case hc => first | exact (unhide LL).one | exact (unhide LL).two); simp only [Act.put, List.setIfInBounds_toArray, List.set_cons_succ, List.set_cons_zero]))
        go_ret2
        exact ⟨rfl, (unhide LL).below⟩
set_option maxHeartbeats 20000000 in
set_option maxRecDepth 100000 in
theorem refKeeps (a b : DD) (ha : FD a) (hb : FD b) (w : World) : Calls Tryz.prog 44 #[a.agg, b.agg] w fun e w' => e = .returned (.tuple #[.bool (rkeepB a b), .int .i64 (rkeepE a b)]) ∧ Below w.heap.size w w' := by
  have HZA := hide (refZero a ha)
  have HZB := hide (refZero b hb)
  have HWA := hide (refWhole a ha)
  have HWB := hide (refWhole b hb)
  have HAA := hide (refAcc a ha)
  have HAB := hide (refAcc b hb)
  have HV := hide (refSame_any a.v b.v ha.1 hb.1)
  have HG := hide (refSame_any a.g b.g ha.2.1 hb.2.1)
  have HS := hide (refSame_any a.s b.s ha.2.2 hb.2.2)
  clear ha hb
  have LL := hide (Kp.of2 (Lie.new2 w (.D a) (.D b)))
  unfold rkeepB rkeepE rkeptV rstV
  generalize rzeroV a = za at *
  generalize rzeroV b = zb at *
  generalize rwhoV a = wa at *
  generalize rwhoV b = wb at *
  generalize raccV a = aa at *
  generalize raccV b = ab at *
  generalize rsamV a.v b.v = ev at *
  generalize rsamV a.g b.g = eg at *
  generalize rsamV a.s b.s = es at *
  generalize hq1 : (b.c != 1) = q1 at *
  generalize hq2 : (b.e != a.e) = q2 at *
  generalize hq4 : (a.w == 2) = q4 at *
  generalize hq5 : (b.w == 1) = q5 at *
  generalize hq6 : (a.c == 2) = q6 at *
  have hq0 : a.agg = .agg #[.int .i64 a.v.k, .bool a.v.b, .float .f64 a.v.x, .string a.v.s, .int .i64 a.v.i, .int .i64 a.g.k, .bool a.g.b, .float .f64 a.g.x, .string a.g.s, .int .i64 a.g.i, .int .i64 a.s.k, .bool a.s.b, .float .f64 a.s.x, .string a.s.s, .int .i64 a.s.i, .int .i64 a.w, .int .i64 a.e, .int .i64 a.c] := rfl
  have hq1 : b.agg = .agg #[.int .i64 b.v.k, .bool b.v.b, .float .f64 b.v.x, .string b.v.s, .int .i64 b.v.i, .int .i64 b.g.k, .bool b.g.b, .float .f64 b.g.x, .string b.g.s, .int .i64 b.g.i, .int .i64 b.s.k, .bool b.s.b, .float .f64 b.s.x, .string b.s.s, .int .i64 b.s.i, .int .i64 b.w, .int .i64 b.e, .int .i64 b.c] := rfl
  rw [hq0, hq1]
  clear hq0 hq1
  go_enter Tryz.func44, Tryz.ntmps44
  go_wp2_with (first | go_skip | ((first | ((with_reducible apply load27); (case ho => rfl); (case hw => rfl); (case hx => rfl)) | ((with_reducible apply load24v); (case ho => rfl); (case hw => rfl); (case hx => rfl)) | ((with_reducible apply load24g); (case ho => rfl); (case hw => rfl); (case hx => rfl)) | ((with_reducible apply load24s); (case ho => rfl); (case hw => rfl); (case hx => rfl)) | ((with_reducible apply load25w); (case ho => rfl); (case hw => rfl); (case hx => rfl)) | ((with_reducible apply load25e); (case ho => rfl); (case hw => rfl); (case hx => rfl)) | ((with_reducible apply load25c); (case ho => rfl); (case hw => rfl); (case hx => rfl))); (case hc => first | exact (unhide LL).get 0 rfl | exact (unhide LL).get 1 rfl); simp only [Act.put, List.setIfInBounds_toArray, List.set_cons_succ, List.set_cons_zero]))
  refine (unhide HZA _).mono ?_
  rintro _ w36 ⟨rfl, hb⟩
  replace LL := hide ((unhide LL).on hb)
  clear hb
  cases za
  · go_wp2_with (first | go_skip | ((first | ((with_reducible apply load27); (case ho => rfl); (case hw => rfl); (case hx => rfl)) | ((with_reducible apply load24v); (case ho => rfl); (case hw => rfl); (case hx => rfl)) | ((with_reducible apply load24g); (case ho => rfl); (case hw => rfl); (case hx => rfl)) | ((with_reducible apply load24s); (case ho => rfl); (case hw => rfl); (case hx => rfl)) | ((with_reducible apply load25w); (case ho => rfl); (case hw => rfl); (case hx => rfl)) | ((with_reducible apply load25e); (case ho => rfl); (case hw => rfl); (case hx => rfl)) | ((with_reducible apply load25c); (case ho => rfl); (case hw => rfl); (case hx => rfl))); (case hc => first | exact (unhide LL).get 0 rfl | exact (unhide LL).get 1 rfl); simp only [Act.put, List.setIfInBounds_toArray, List.set_cons_succ, List.set_cons_zero]))
    refine (unhide HWA _).mono ?_
    rintro _ w37 ⟨rfl, hb⟩
    replace LL := hide ((unhide LL).on hb)
    clear hb
    cases wa
    · go_wp2_with (first | go_skip | ((first | ((with_reducible apply load27); (case ho => rfl); (case hw => rfl); (case hx => rfl)) | ((with_reducible apply load24v); (case ho => rfl); (case hw => rfl); (case hx => rfl)) | ((with_reducible apply load24g); (case ho => rfl); (case hw => rfl); (case hx => rfl)) | ((with_reducible apply load24s); (case ho => rfl); (case hw => rfl); (case hx => rfl)) | ((with_reducible apply load25w); (case ho => rfl); (case hw => rfl); (case hx => rfl)) | ((with_reducible apply load25e); (case ho => rfl); (case hw => rfl); (case hx => rfl)) | ((with_reducible apply load25c); (case ho => rfl); (case hw => rfl); (case hx => rfl))); (case hc => first | exact (unhide LL).get 0 rfl | exact (unhide LL).get 1 rfl); simp only [Act.put, List.setIfInBounds_toArray, List.set_cons_succ, List.set_cons_zero]))
      go_ret2
      exact ⟨rfl, (unhide LL).below⟩
    · go_wp2_with (first | go_skip | ((first | ((with_reducible apply load27); (case ho => rfl); (case hw => rfl); (case hx => rfl)) | ((with_reducible apply load24v); (case ho => rfl); (case hw => rfl); (case hx => rfl)) | ((with_reducible apply load24g); (case ho => rfl); (case hw => rfl); (case hx => rfl)) | ((with_reducible apply load24s); (case ho => rfl); (case hw => rfl); (case hx => rfl)) | ((with_reducible apply load25w); (case ho => rfl); (case hw => rfl); (case hx => rfl)) | ((with_reducible apply load25e); (case ho => rfl); (case hw => rfl); (case hx => rfl)) | ((with_reducible apply load25c); (case ho => rfl); (case hw => rfl); (case hx => rfl))); (case hc => first | exact (unhide LL).get 0 rfl | exact (unhide LL).get 1 rfl); simp only [Act.put, List.setIfInBounds_toArray, List.set_cons_succ, List.set_cons_zero]))
      refine (unhide HZB _).mono ?_
      rintro _ w38 ⟨rfl, hb⟩
      replace LL := hide ((unhide LL).on hb)
      clear hb
      cases zb
      · go_wp2_with (first | go_skip | ((first | ((with_reducible apply load27); (case ho => rfl); (case hw => rfl); (case hx => rfl)) | ((with_reducible apply load24v); (case ho => rfl); (case hw => rfl); (case hx => rfl)) | ((with_reducible apply load24g); (case ho => rfl); (case hw => rfl); (case hx => rfl)) | ((with_reducible apply load24s); (case ho => rfl); (case hw => rfl); (case hx => rfl)) | ((with_reducible apply load25w); (case ho => rfl); (case hw => rfl); (case hx => rfl)) | ((with_reducible apply load25e); (case ho => rfl); (case hw => rfl); (case hx => rfl)) | ((with_reducible apply load25c); (case ho => rfl); (case hw => rfl); (case hx => rfl))); (case hc => first | exact (unhide LL).get 0 rfl | exact (unhide LL).get 1 rfl); simp only [Act.put, List.setIfInBounds_toArray, List.set_cons_succ, List.set_cons_zero]))
        refine (unhide HWB _).mono ?_
        rintro _ w39 ⟨rfl, hb⟩
        replace LL := hide ((unhide LL).on hb)
        clear hb
        cases wb
        · go_wp2_with (first | go_skip | ((first | ((with_reducible apply load27); (case ho => rfl); (case hw => rfl); (case hx => rfl)) | ((with_reducible apply load24v); (case ho => rfl); (case hw => rfl); (case hx => rfl)) | ((with_reducible apply load24g); (case ho => rfl); (case hw => rfl); (case hx => rfl)) | ((with_reducible apply load24s); (case ho => rfl); (case hw => rfl); (case hx => rfl)) | ((with_reducible apply load25w); (case ho => rfl); (case hw => rfl); (case hx => rfl)) | ((with_reducible apply load25e); (case ho => rfl); (case hw => rfl); (case hx => rfl)) | ((with_reducible apply load25c); (case ho => rfl); (case hw => rfl); (case hx => rfl))); (case hc => first | exact (unhide LL).get 0 rfl | exact (unhide LL).get 1 rfl); simp only [Act.put, List.setIfInBounds_toArray, List.set_cons_succ, List.set_cons_zero]))
          go_ret2
          exact ⟨rfl, (unhide LL).below⟩
        · go_wp2_with (first | go_skip | ((first | ((with_reducible apply load27); (case ho => rfl); (case hw => rfl); (case hx => rfl)) | ((with_reducible apply load24v); (case ho => rfl); (case hw => rfl); (case hx => rfl)) | ((with_reducible apply load24g); (case ho => rfl); (case hw => rfl); (case hx => rfl)) | ((with_reducible apply load24s); (case ho => rfl); (case hw => rfl); (case hx => rfl)) | ((with_reducible apply load25w); (case ho => rfl); (case hw => rfl); (case hx => rfl)) | ((with_reducible apply load25e); (case ho => rfl); (case hw => rfl); (case hx => rfl)) | ((with_reducible apply load25c); (case ho => rfl); (case hw => rfl); (case hx => rfl))); (case hc => first | exact (unhide LL).get 0 rfl | exact (unhide LL).get 1 rfl); simp only [Act.put, List.setIfInBounds_toArray, List.set_cons_succ, List.set_cons_zero]))
          refine (unhide HZA _).mono ?_
          rintro _ w40 ⟨rfl, hb⟩
          replace LL := hide ((unhide LL).on hb)
          clear hb
          cases q6
          · cases q1
            · cases q2
              · cases aa
                · cases ab
                  · go_wp2_with (first | go_skip | ((first | ((with_reducible apply load27); (case ho => rfl); (case hw => rfl); (case hx => rfl)) | ((with_reducible apply load24v); (case ho => rfl); (case hw => rfl); (case hx => rfl)) | ((with_reducible apply load24g); (case ho => rfl); (case hw => rfl); (case hx => rfl)) | ((with_reducible apply load24s); (case ho => rfl); (case hw => rfl); (case hx => rfl)) | ((with_reducible apply load25w); (case ho => rfl); (case hw => rfl); (case hx => rfl)) | ((with_reducible apply load25e); (case ho => rfl); (case hw => rfl); (case hx => rfl)) | ((with_reducible apply load25c); (case ho => rfl); (case hw => rfl); (case hx => rfl))); (case hc => first | exact (unhide LL).get 0 rfl | exact (unhide LL).get 1 rfl); simp only [Act.put, List.setIfInBounds_toArray, List.set_cons_succ, List.set_cons_zero]))
                    refine wp_region_held_drew (P := Tryz.prog) (S := fun X => Kp w X [(w.heap.size, .D a), (w.heap.size + 1, .D b)]) (by kernel_rfl) (Kp.drew (unhide LL)) (fun hS0 => ?_)
                    refine hload27 0 1 (some 31) (x := .tmp 3) (b := w.heap.size + 1) (d := b) rfl (by kernel_rfl) (by kernel_rfl) (by kernel_rfl) (fun _ _ _ h => h) (by kernel_rfl) (by kernel_rfl) (by kernel_rfl) (by kernel_rfl) rfl hS0 ?_
                    simp only [Act.put, List.setIfInBounds_toArray, List.set_cons_succ, List.set_cons_zero]
                    refine hcall 1 (some 32) rfl (by kernel_rfl) (by kernel_rfl) (by kernel_rfl) (by kernel_rfl) (unhide HZB _) hS0 (fun uw1 hS1 => ?_)
                    clear hS0
                    simp only [Act.put, List.setIfInBounds_toArray, List.set_cons_succ, List.set_cons_zero]
                    refine hpure 2 (some 33) (.bool false) rfl (by kernel_rfl) (by kernel_rfl) (by kernel_rfl) (fun _ _ _ h => h) (by kernel_rfl) (by kernel_rfl) (fun _ => by kernel_rfl) hS1 ?_
                    simp only [Act.put, List.setIfInBounds_toArray, List.set_cons_succ, List.set_cons_zero]
                    refine hpure 3 (some 34) (.pointer (some ⟨w.heap.size + 1, 17, none⟩)) rfl (by kernel_rfl) (by kernel_rfl) (by kernel_rfl) (fun _ _ _ h => h) (by kernel_rfl) (by kernel_rfl) (fun _ => by kernel_rfl) hS1 ?_
                    simp only [Act.put, List.setIfInBounds_toArray, List.set_cons_succ, List.set_cons_zero]
                    refine ktake 4 (some 35) (.int .i64 b.c) rfl (by kernel_rfl) (by kernel_rfl) (by kernel_rfl) (fun _ _ _ h => h) (by kernel_rfl) (ky25c 1 (x := .tmp 34) (b := w.heap.size + 1) (d := b) (by kernel_rfl) (by kernel_rfl) (by kernel_rfl) rfl) hS1 ?_
                    simp only [Act.put, List.setIfInBounds_toArray, List.set_cons_succ, List.set_cons_zero]
                    refine hpure 5 (some 36) (.bool false) rfl (by kernel_rfl) (by kernel_rfl) (by kernel_rfl) (fun _ _ _ h => h) (by kernel_rfl) (by kernel_rfl) (hsym (r := (b.c != 1)) hq1 (fun _ => by kernel_rfl)) hS1 ?_
                    simp only [Act.put, List.setIfInBounds_toArray, List.set_cons_succ, List.set_cons_zero]
                    refine hpure 6 (some 37) (.bool false) rfl (by kernel_rfl) (by kernel_rfl) (by kernel_rfl) (fun _ _ _ h => h) (by kernel_rfl) (by kernel_rfl) (fun _ => by kernel_rfl) hS1 ?_
                    simp only [Act.put, List.setIfInBounds_toArray, List.set_cons_succ, List.set_cons_zero]
                    refine hpure 7 (some 38) (.bool false) rfl (by kernel_rfl) (by kernel_rfl) (by kernel_rfl) (fun _ _ _ h => h) (by kernel_rfl) (by kernel_rfl) (fun _ => by kernel_rfl) hS1 ?_
                    simp only [Act.put, List.setIfInBounds_toArray, List.set_cons_succ, List.set_cons_zero]
                    refine hpure 8 (some 39) (.pointer (some ⟨w.heap.size + 1, 16, none⟩)) rfl (by kernel_rfl) (by kernel_rfl) (by kernel_rfl) (fun _ _ _ h => h) (by kernel_rfl) (by kernel_rfl) (fun _ => by kernel_rfl) hS1 ?_
                    simp only [Act.put, List.setIfInBounds_toArray, List.set_cons_succ, List.set_cons_zero]
                    refine ktake 9 (some 40) (.int .i64 b.e) rfl (by kernel_rfl) (by kernel_rfl) (by kernel_rfl) (fun _ _ _ h => h) (by kernel_rfl) (ky25e 1 (x := .tmp 39) (b := w.heap.size + 1) (d := b) (by kernel_rfl) (by kernel_rfl) (by kernel_rfl) rfl) hS1 ?_
                    simp only [Act.put, List.setIfInBounds_toArray, List.set_cons_succ, List.set_cons_zero]
                    refine hpure 10 (some 41) (.pointer (some ⟨w.heap.size, 16, none⟩)) rfl (by kernel_rfl) (by kernel_rfl) (by kernel_rfl) (fun _ _ _ h => h) (by kernel_rfl) (by kernel_rfl) (fun _ => by kernel_rfl) hS1 ?_
                    simp only [Act.put, List.setIfInBounds_toArray, List.set_cons_succ, List.set_cons_zero]
                    refine ktake 11 (some 42) (.int .i64 a.e) rfl (by kernel_rfl) (by kernel_rfl) (by kernel_rfl) (fun _ _ _ h => h) (by kernel_rfl) (ky25e 0 (x := .tmp 41) (b := w.heap.size) (d := a) (by kernel_rfl) (by kernel_rfl) (by kernel_rfl) rfl) hS1 ?_
                    simp only [Act.put, List.setIfInBounds_toArray, List.set_cons_succ, List.set_cons_zero]
                    refine hpure 12 (some 43) (.bool false) rfl (by kernel_rfl) (by kernel_rfl) (by kernel_rfl) (fun _ _ _ h => h) (by kernel_rfl) (by kernel_rfl) (hsym (r := (b.e != a.e)) hq2 (fun _ => by kernel_rfl)) hS1 ?_
                    simp only [Act.put, List.setIfInBounds_toArray, List.set_cons_succ, List.set_cons_zero]
                    refine hpure 13 (some 44) (.bool false) rfl (by kernel_rfl) (by kernel_rfl) (by kernel_rfl) (fun _ _ _ h => h) (by kernel_rfl) (by kernel_rfl) (fun _ => by kernel_rfl) hS1 ?_
                    simp only [Act.put, List.setIfInBounds_toArray, List.set_cons_succ, List.set_cons_zero]
                    refine hpure 14 (some 45) (.bool false) rfl (by kernel_rfl) (by kernel_rfl) (by kernel_rfl) (fun _ _ _ h => h) (by kernel_rfl) (by kernel_rfl) (fun _ => by kernel_rfl) hS1 ?_
                    simp only [Act.put, List.setIfInBounds_toArray, List.set_cons_succ, List.set_cons_zero]
                    refine hload27 15 0 (some 46) (x := .tmp 2) (b := w.heap.size) (d := a) rfl (by kernel_rfl) (by kernel_rfl) (by kernel_rfl) (fun _ _ _ h => h) (by kernel_rfl) (by kernel_rfl) (by kernel_rfl) (by kernel_rfl) rfl hS1 ?_
                    simp only [Act.put, List.setIfInBounds_toArray, List.set_cons_succ, List.set_cons_zero]
                    refine hload27 17 1 (some 48) (x := .tmp 3) (b := w.heap.size + 1) (d := b) rfl (by kernel_rfl) (by kernel_rfl) (by kernel_rfl) (fun _ _ _ h => h) (by kernel_rfl) (by kernel_rfl) (by kernel_rfl) (by kernel_rfl) rfl hS1 ?_
                    simp only [Act.put, List.setIfInBounds_toArray, List.set_cons_succ, List.set_cons_zero]
                    refine hcall 16 (some 47) rfl (by kernel_rfl) (by kernel_rfl) (by kernel_rfl) (by kernel_rfl) (unhide HAA _) hS1 (fun uw2 hS2 => ?_)
                    clear hS1
                    simp only [Act.put, List.setIfInBounds_toArray, List.set_cons_succ, List.set_cons_zero]
                    refine hcall 18 (some 49) rfl (by kernel_rfl) (by kernel_rfl) (by kernel_rfl) (by kernel_rfl) (unhide HAB _) hS2 (fun uw3 hS3 => ?_)
                    clear hS2
                    simp only [Act.put, List.setIfInBounds_toArray, List.set_cons_succ, List.set_cons_zero]
                    refine hpure 19 (some 50) (.bool false) rfl (by kernel_rfl) (by kernel_rfl) (by kernel_rfl) (fun _ _ _ h => h) (by kernel_rfl) (by kernel_rfl) (fun _ => by kernel_rfl) hS3 ?_
                    simp only [Act.put, List.setIfInBounds_toArray, List.set_cons_succ, List.set_cons_zero]
                    refine hpure 20 (some 51) (.bool false) rfl (by kernel_rfl) (by kernel_rfl) (by kernel_rfl) (fun _ _ _ h => h) (by kernel_rfl) (by kernel_rfl) (fun _ => by kernel_rfl) hS3 ?_
                    simp only [Act.put, List.setIfInBounds_toArray, List.set_cons_succ, List.set_cons_zero]
                    refine wpAnyH_done (by kernel_rfl) ?_ _
                    try simp only [Act.put, List.setIfInBounds_toArray, List.set_cons_succ, List.set_cons_zero]
                    replace LL := hide hS3
                    clear hS3
                    go_wp2_with (first | go_skip | ((first | ((with_reducible apply load27); (case ho => rfl); (case hw => rfl); (case hx => rfl)) | ((with_reducible apply load24v); (case ho => rfl); (case hw => rfl); (case hx => rfl)) | ((with_reducible apply load24g); (case ho => rfl); (case hw => rfl); (case hx => rfl)) | ((with_reducible apply load24s); (case ho => rfl); (case hw => rfl); (case hx => rfl)) | ((with_reducible apply load25w); (case ho => rfl); (case hw => rfl); (case hx => rfl)) | ((with_reducible apply load25e); (case ho => rfl); (case hw => rfl); (case hx => rfl)) | ((with_reducible apply load25c); (case ho => rfl); (case hw => rfl); (case hx => rfl))); (case hc => first | exact (unhide LL).get 0 rfl | exact (unhide LL).get 1 rfl); simp only [Act.put, List.setIfInBounds_toArray, List.set_cons_succ, List.set_cons_zero]))
                    refine (unhide HAA _).mono ?_
                    rintro _ w34 ⟨rfl, hb⟩
                    replace LL := hide ((unhide LL).on hb)
                    clear hb
                    cases q4
                    · go_wp2_with (first | go_skip | ((first | ((with_reducible apply load27); (case ho => rfl); (case hw => rfl); (case hx => rfl)) | ((with_reducible apply load24v); (case ho => rfl); (case hw => rfl); (case hx => rfl)) | ((with_reducible apply load24g); (case ho => rfl); (case hw => rfl); (case hx => rfl)) | ((with_reducible apply load24s); (case ho => rfl); (case hw => rfl); (case hx => rfl)) | ((with_reducible apply load25w); (case ho => rfl); (case hw => rfl); (case hx => rfl)) | ((with_reducible apply load25e); (case ho => rfl); (case hw => rfl); (case hx => rfl)) | ((with_reducible apply load25c); (case ho => rfl); (case hw => rfl); (case hx => rfl))); (case hc => first | exact (unhide LL).get 0 rfl | exact (unhide LL).get 1 rfl); simp only [Act.put, List.setIfInBounds_toArray, List.set_cons_succ, List.set_cons_zero]))
                      refine (unhide HV _).mono ?_
                      rintro _ w35 ⟨rfl, hb⟩
                      replace LL := hide ((unhide LL).on hb)
                      clear hb
                      cases ev
                      · go_wp2_with (first | go_skip | ((first | ((with_reducible apply load27); (case ho => rfl); (case hw => rfl); (case hx => rfl)) | ((with_reducible apply load24v); (case ho => rfl); (case hw => rfl); (case hx => rfl)) | ((with_reducible apply load24g); (case ho => rfl); (case hw => rfl); (case hx => rfl)) | ((with_reducible apply load24s); (case ho => rfl); (case hw => rfl); (case hx => rfl)) | ((with_reducible apply load25w); (case ho => rfl); (case hw => rfl); (case hx => rfl)) | ((with_reducible apply load25e); (case ho => rfl); (case hw => rfl); (case hx => rfl)) | ((with_reducible apply load25c); (case ho => rfl); (case hw => rfl); (case hx => rfl))); (case hc => first | exact (unhide LL).get 0 rfl | exact (unhide LL).get 1 rfl); simp only [Act.put, List.setIfInBounds_toArray, List.set_cons_succ, List.set_cons_zero]))
                        go_ret2
                        exact ⟨rfl, (unhide LL).below⟩
                      · go_wp2_with (first | go_skip | ((first | ((with_reducible apply load27); (case ho => rfl); (case hw => rfl); (case hx => rfl)) | ((with_reducible apply load24v); (case ho => rfl); (case hw => rfl); (case hx => rfl)) | ((with_reducible apply load24g); (case ho => rfl); (case hw => rfl); (case hx => rfl)) | ((with_reducible apply load24s); (case ho => rfl); (case hw => rfl); (case hx => rfl)) | ((with_reducible apply load25w); (case ho => rfl); (case hw => rfl); (case hx => rfl)) | ((with_reducible apply load25e); (case ho => rfl); (case hw => rfl); (case hx => rfl)) | ((with_reducible apply load25c); (case ho => rfl); (case hw => rfl); (case hx => rfl))); (case hc => first | exact (unhide LL).get 0 rfl | exact (unhide LL).get 1 rfl); simp only [Act.put, List.setIfInBounds_toArray, List.set_cons_succ, List.set_cons_zero]))
                        go_ret2
                        exact ⟨rfl, (unhide LL).below⟩
                    · go_wp2_with (first | go_skip | ((first | ((with_reducible apply load27); (case ho => rfl); (case hw => rfl); (case hx => rfl)) | ((with_reducible apply load24v); (case ho => rfl); (case hw => rfl); (case hx => rfl)) | ((with_reducible apply load24g); (case ho => rfl); (case hw => rfl); (case hx => rfl)) | ((with_reducible apply load24s); (case ho => rfl); (case hw => rfl); (case hx => rfl)) | ((with_reducible apply load25w); (case ho => rfl); (case hw => rfl); (case hx => rfl)) | ((with_reducible apply load25e); (case ho => rfl); (case hw => rfl); (case hx => rfl)) | ((with_reducible apply load25c); (case ho => rfl); (case hw => rfl); (case hx => rfl))); (case hc => first | exact (unhide LL).get 0 rfl | exact (unhide LL).get 1 rfl); simp only [Act.put, List.setIfInBounds_toArray, List.set_cons_succ, List.set_cons_zero]))
                      go_ret2
                      exact ⟨rfl, (unhide LL).below⟩
                  · go_wp2_with (first | go_skip | ((first | ((with_reducible apply load27); (case ho => rfl); (case hw => rfl); (case hx => rfl)) | ((with_reducible apply load24v); (case ho => rfl); (case hw => rfl); (case hx => rfl)) | ((with_reducible apply load24g); (case ho => rfl); (case hw => rfl); (case hx => rfl)) | ((with_reducible apply load24s); (case ho => rfl); (case hw => rfl); (case hx => rfl)) | ((with_reducible apply load25w); (case ho => rfl); (case hw => rfl); (case hx => rfl)) | ((with_reducible apply load25e); (case ho => rfl); (case hw => rfl); (case hx => rfl)) | ((with_reducible apply load25c); (case ho => rfl); (case hw => rfl); (case hx => rfl))); (case hc => first | exact (unhide LL).get 0 rfl | exact (unhide LL).get 1 rfl); simp only [Act.put, List.setIfInBounds_toArray, List.set_cons_succ, List.set_cons_zero]))
                    refine wp_region_held_drew (P := Tryz.prog) (S := fun X => Kp w X [(w.heap.size, .D a), (w.heap.size + 1, .D b)]) (by kernel_rfl) (Kp.drew (unhide LL)) (fun hS0 => ?_)
                    refine hload27 0 1 (some 31) (x := .tmp 3) (b := w.heap.size + 1) (d := b) rfl (by kernel_rfl) (by kernel_rfl) (by kernel_rfl) (fun _ _ _ h => h) (by kernel_rfl) (by kernel_rfl) (by kernel_rfl) (by kernel_rfl) rfl hS0 ?_
                    simp only [Act.put, List.setIfInBounds_toArray, List.set_cons_succ, List.set_cons_zero]
                    refine hcall 1 (some 32) rfl (by kernel_rfl) (by kernel_rfl) (by kernel_rfl) (by kernel_rfl) (unhide HZB _) hS0 (fun uw1 hS1 => ?_)
                    clear hS0
                    simp only [Act.put, List.setIfInBounds_toArray, List.set_cons_succ, List.set_cons_zero]
                    refine hpure 2 (some 33) (.bool false) rfl (by kernel_rfl) (by kernel_rfl) (by kernel_rfl) (fun _ _ _ h => h) (by kernel_rfl) (by kernel_rfl) (fun _ => by kernel_rfl) hS1 ?_
                    simp only [Act.put, List.setIfInBounds_toArray, List.set_cons_succ, List.set_cons_zero]
                    refine hpure 3 (some 34) (.pointer (some ⟨w.heap.size + 1, 17, none⟩)) rfl (by kernel_rfl) (by kernel_rfl) (by kernel_rfl) (fun _ _ _ h => h) (by kernel_rfl) (by kernel_rfl) (fun _ => by kernel_rfl) hS1 ?_
                    simp only [Act.put, List.setIfInBounds_toArray, List.set_cons_succ, List.set_cons_zero]
                    refine ktake 4 (some 35) (.int .i64 b.c) rfl (by kernel_rfl) (by kernel_rfl) (by kernel_rfl) (fun _ _ _ h => h) (by kernel_rfl) (ky25c 1 (x := .tmp 34) (b := w.heap.size + 1) (d := b) (by kernel_rfl) (by kernel_rfl) (by kernel_rfl) rfl) hS1 ?_
                    simp only [Act.put, List.setIfInBounds_toArray, List.set_cons_succ, List.set_cons_zero]
                    refine hpure 5 (some 36) (.bool false) rfl (by kernel_rfl) (by kernel_rfl) (by kernel_rfl) (fun _ _ _ h => h) (by kernel_rfl) (by kernel_rfl) (hsym (r := (b.c != 1)) hq1 (fun _ => by kernel_rfl)) hS1 ?_
                    simp only [Act.put, List.setIfInBounds_toArray, List.set_cons_succ, List.set_cons_zero]
                    refine hpure 6 (some 37) (.bool false) rfl (by kernel_rfl) (by kernel_rfl) (by kernel_rfl) (fun _ _ _ h => h) (by kernel_rfl) (by kernel_rfl) (fun _ => by kernel_rfl) hS1 ?_
                    simp only [Act.put, List.setIfInBounds_toArray, List.set_cons_succ, List.set_cons_zero]
                    refine hpure 7 (some 38) (.bool false) rfl (by kernel_rfl) (by kernel_rfl) (by kernel_rfl) (fun _ _ _ h => h) (by kernel_rfl) (by kernel_rfl) (fun _ => by kernel_rfl) hS1 ?_
                    simp only [Act.put, List.setIfInBounds_toArray, List.set_cons_succ, List.set_cons_zero]
                    refine hpure 8 (some 39) (.pointer (some ⟨w.heap.size + 1, 16, none⟩)) rfl (by kernel_rfl) (by kernel_rfl) (by kernel_rfl) (fun _ _ _ h => h) (by kernel_rfl) (by kernel_rfl) (fun _ => by kernel_rfl) hS1 ?_
                    simp only [Act.put, List.setIfInBounds_toArray, List.set_cons_succ, List.set_cons_zero]
                    refine ktake 9 (some 40) (.int .i64 b.e) rfl (by kernel_rfl) (by kernel_rfl) (by kernel_rfl) (fun _ _ _ h => h) (by kernel_rfl) (ky25e 1 (x := .tmp 39) (b := w.heap.size + 1) (d := b) (by kernel_rfl) (by kernel_rfl) (by kernel_rfl) rfl) hS1 ?_
                    simp only [Act.put, List.setIfInBounds_toArray, List.set_cons_succ, List.set_cons_zero]
                    refine hpure 10 (some 41) (.pointer (some ⟨w.heap.size, 16, none⟩)) rfl (by kernel_rfl) (by kernel_rfl) (by kernel_rfl) (fun _ _ _ h => h) (by kernel_rfl) (by kernel_rfl) (fun _ => by kernel_rfl) hS1 ?_
                    simp only [Act.put, List.setIfInBounds_toArray, List.set_cons_succ, List.set_cons_zero]
                    refine ktake 11 (some 42) (.int .i64 a.e) rfl (by kernel_rfl) (by kernel_rfl) (by kernel_rfl) (fun _ _ _ h => h) (by kernel_rfl) (ky25e 0 (x := .tmp 41) (b := w.heap.size) (d := a) (by kernel_rfl) (by kernel_rfl) (by kernel_rfl) rfl) hS1 ?_
                    simp only [Act.put, List.setIfInBounds_toArray, List.set_cons_succ, List.set_cons_zero]
                    refine hpure 12 (some 43) (.bool false) rfl (by kernel_rfl) (by kernel_rfl) (by kernel_rfl) (fun _ _ _ h => h) (by kernel_rfl) (by kernel_rfl) (hsym (r := (b.e != a.e)) hq2 (fun _ => by kernel_rfl)) hS1 ?_
                    simp only [Act.put, List.setIfInBounds_toArray, List.set_cons_succ, List.set_cons_zero]
                    refine hpure 13 (some 44) (.bool false) rfl (by kernel_rfl) (by kernel_rfl) (by kernel_rfl) (fun _ _ _ h => h) (by kernel_rfl) (by kernel_rfl) (fun _ => by kernel_rfl) hS1 ?_
                    simp only [Act.put, List.setIfInBounds_toArray, List.set_cons_succ, List.set_cons_zero]
                    refine hpure 14 (some 45) (.bool false) rfl (by kernel_rfl) (by kernel_rfl) (by kernel_rfl) (fun _ _ _ h => h) (by kernel_rfl) (by kernel_rfl) (fun _ => by kernel_rfl) hS1 ?_
                    simp only [Act.put, List.setIfInBounds_toArray, List.set_cons_succ, List.set_cons_zero]
                    refine hload27 15 0 (some 46) (x := .tmp 2) (b := w.heap.size) (d := a) rfl (by kernel_rfl) (by kernel_rfl) (by kernel_rfl) (fun _ _ _ h => h) (by kernel_rfl) (by kernel_rfl) (by kernel_rfl) (by kernel_rfl) rfl hS1 ?_
                    simp only [Act.put, List.setIfInBounds_toArray, List.set_cons_succ, List.set_cons_zero]
                    refine hload27 17 1 (some 48) (x := .tmp 3) (b := w.heap.size + 1) (d := b) rfl (by kernel_rfl) (by kernel_rfl) (by kernel_rfl) (fun _ _ _ h => h) (by kernel_rfl) (by kernel_rfl) (by kernel_rfl) (by kernel_rfl) rfl hS1 ?_
                    simp only [Act.put, List.setIfInBounds_toArray, List.set_cons_succ, List.set_cons_zero]
                    refine hcall 16 (some 47) rfl (by kernel_rfl) (by kernel_rfl) (by kernel_rfl) (by kernel_rfl) (unhide HAA _) hS1 (fun uw2 hS2 => ?_)
                    clear hS1
                    simp only [Act.put, List.setIfInBounds_toArray, List.set_cons_succ, List.set_cons_zero]
                    refine hcall 18 (some 49) rfl (by kernel_rfl) (by kernel_rfl) (by kernel_rfl) (by kernel_rfl) (unhide HAB _) hS2 (fun uw3 hS3 => ?_)
                    clear hS2
                    simp only [Act.put, List.setIfInBounds_toArray, List.set_cons_succ, List.set_cons_zero]
                    refine hpure 19 (some 50) (.bool true) rfl (by kernel_rfl) (by kernel_rfl) (by kernel_rfl) (fun _ _ _ h => h) (by kernel_rfl) (by kernel_rfl) (fun _ => by kernel_rfl) hS3 ?_
                    simp only [Act.put, List.setIfInBounds_toArray, List.set_cons_succ, List.set_cons_zero]
                    refine hpure 20 (some 51) (.bool true) rfl (by kernel_rfl) (by kernel_rfl) (by kernel_rfl) (fun _ _ _ h => h) (by kernel_rfl) (by kernel_rfl) (fun _ => by kernel_rfl) hS3 ?_
                    simp only [Act.put, List.setIfInBounds_toArray, List.set_cons_succ, List.set_cons_zero]
                    refine wpAnyH_done (by kernel_rfl) ?_ _
                    try simp only [Act.put, List.setIfInBounds_toArray, List.set_cons_succ, List.set_cons_zero]
                    replace LL := hide hS3
                    clear hS3
                    go_wp2_with (first | go_skip | ((first | ((with_reducible apply load27); (case ho => rfl); (case hw => rfl); (case hx => rfl)) | ((with_reducible apply load24v); (case ho => rfl); (case hw => rfl); (case hx => rfl)) | ((with_reducible apply load24g); (case ho => rfl); (case hw => rfl); (case hx => rfl)) | ((with_reducible apply load24s); (case ho => rfl); (case hw => rfl); (case hx => rfl)) | ((with_reducible apply load25w); (case ho => rfl); (case hw => rfl); (case hx => rfl)) | ((with_reducible apply load25e); (case ho => rfl); (case hw => rfl); (case hx => rfl)) | ((with_reducible apply load25c); (case ho => rfl); (case hw => rfl); (case hx => rfl))); (case hc => first | exact (unhide LL).get 0 rfl | exact (unhide LL).get 1 rfl); simp only [Act.put, List.setIfInBounds_toArray, List.set_cons_succ, List.set_cons_zero]))
                    go_ret2
                    exact ⟨rfl, (unhide LL).below⟩
                · cases ab
                  · go_wp2_with (first | go_skip | ((first | ((with_reducible apply load27); (case ho => rfl); (case hw => rfl); (case hx => rfl)) | ((with_reducible apply load24v); (case ho => rfl); (case hw => rfl); (case hx => rfl)) | ((with_reducible apply load24g); (case ho => rfl); (case hw => rfl); (case hx => rfl)) | ((with_reducible apply load24s); (case ho => rfl); (case hw => rfl); (case hx => rfl)) | ((with_reducible apply load25w); (case ho => rfl); (case hw => rfl); (case hx => rfl)) | ((with_reducible apply load25e); (case ho => rfl); (case hw => rfl); (case hx => rfl)) | ((with_reducible apply load25c); (case ho => rfl); (case hw => rfl); (case hx => rfl))); (case hc => first | exact (unhide LL).get 0 rfl | exact (unhide LL).get 1 rfl); simp only [Act.put, List.setIfInBounds_toArray, List.set_cons_succ, List.set_cons_zero]))
                    refine wp_region_held_drew (P := Tryz.prog) (S := fun X => Kp w X [(w.heap.size, .D a), (w.heap.size + 1, .D b)]) (by kernel_rfl) (Kp.drew (unhide LL)) (fun hS0 => ?_)
                    refine hload27 0 1 (some 31) (x := .tmp 3) (b := w.heap.size + 1) (d := b) rfl (by kernel_rfl) (by kernel_rfl) (by kernel_rfl) (fun _ _ _ h => h) (by kernel_rfl) (by kernel_rfl) (by kernel_rfl) (by kernel_rfl) rfl hS0 ?_
                    simp only [Act.put, List.setIfInBounds_toArray, List.set_cons_succ, List.set_cons_zero]
                    refine hcall 1 (some 32) rfl (by kernel_rfl) (by kernel_rfl) (by kernel_rfl) (by kernel_rfl) (unhide HZB _) hS0 (fun uw1 hS1 => ?_)
                    clear hS0
                    simp only [Act.put, List.setIfInBounds_toArray, List.set_cons_succ, List.set_cons_zero]
                    refine hpure 2 (some 33) (.bool false) rfl (by kernel_rfl) (by kernel_rfl) (by kernel_rfl) (fun _ _ _ h => h) (by kernel_rfl) (by kernel_rfl) (fun _ => by kernel_rfl) hS1 ?_
                    simp only [Act.put, List.setIfInBounds_toArray, List.set_cons_succ, List.set_cons_zero]
                    refine hpure 3 (some 34) (.pointer (some ⟨w.heap.size + 1, 17, none⟩)) rfl (by kernel_rfl) (by kernel_rfl) (by kernel_rfl) (fun _ _ _ h => h) (by kernel_rfl) (by kernel_rfl) (fun _ => by kernel_rfl) hS1 ?_
                    simp only [Act.put, List.setIfInBounds_toArray, List.set_cons_succ, List.set_cons_zero]
                    refine ktake 4 (some 35) (.int .i64 b.c) rfl (by kernel_rfl) (by kernel_rfl) (by kernel_rfl) (fun _ _ _ h => h) (by kernel_rfl) (ky25c 1 (x := .tmp 34) (b := w.heap.size + 1) (d := b) (by kernel_rfl) (by kernel_rfl) (by kernel_rfl) rfl) hS1 ?_
                    simp only [Act.put, List.setIfInBounds_toArray, List.set_cons_succ, List.set_cons_zero]
                    refine hpure 5 (some 36) (.bool false) rfl (by kernel_rfl) (by kernel_rfl) (by kernel_rfl) (fun _ _ _ h => h) (by kernel_rfl) (by kernel_rfl) (hsym (r := (b.c != 1)) hq1 (fun _ => by kernel_rfl)) hS1 ?_
                    simp only [Act.put, List.setIfInBounds_toArray, List.set_cons_succ, List.set_cons_zero]
                    refine hpure 6 (some 37) (.bool false) rfl (by kernel_rfl) (by kernel_rfl) (by kernel_rfl) (fun _ _ _ h => h) (by kernel_rfl) (by kernel_rfl) (fun _ => by kernel_rfl) hS1 ?_
                    simp only [Act.put, List.setIfInBounds_toArray, List.set_cons_succ, List.set_cons_zero]
                    refine hpure 7 (some 38) (.bool false) rfl (by kernel_rfl) (by kernel_rfl) (by kernel_rfl) (fun _ _ _ h => h) (by kernel_rfl) (by kernel_rfl) (fun _ => by kernel_rfl) hS1 ?_
                    simp only [Act.put, List.setIfInBounds_toArray, List.set_cons_succ, List.set_cons_zero]
                    refine hpure 8 (some 39) (.pointer (some ⟨w.heap.size + 1, 16, none⟩)) rfl (by kernel_rfl) (by kernel_rfl) (by kernel_rfl) (fun _ _ _ h => h) (by kernel_rfl) (by kernel_rfl) (fun _ => by kernel_rfl) hS1 ?_
                    simp only [Act.put, List.setIfInBounds_toArray, List.set_cons_succ, List.set_cons_zero]
                    refine ktake 9 (some 40) (.int .i64 b.e) rfl (by kernel_rfl) (by kernel_rfl) (by kernel_rfl) (fun _ _ _ h => h) (by kernel_rfl) (ky25e 1 (x := .tmp 39) (b := w.heap.size + 1) (d := b) (by kernel_rfl) (by kernel_rfl) (by kernel_rfl) rfl) hS1 ?_
                    simp only [Act.put, List.setIfInBounds_toArray, List.set_cons_succ, List.set_cons_zero]
                    refine hpure 10 (some 41) (.pointer (some ⟨w.heap.size, 16, none⟩)) rfl (by kernel_rfl) (by kernel_rfl) (by kernel_rfl) (fun _ _ _ h => h) (by kernel_rfl) (by kernel_rfl) (fun _ => by kernel_rfl) hS1 ?_
                    simp only [Act.put, List.setIfInBounds_toArray, List.set_cons_succ, List.set_cons_zero]
                    refine ktake 11 (some 42) (.int .i64 a.e) rfl (by kernel_rfl) (by kernel_rfl) (by kernel_rfl) (fun _ _ _ h => h) (by kernel_rfl) (ky25e 0 (x := .tmp 41) (b := w.heap.size) (d := a) (by kernel_rfl) (by kernel_rfl) (by kernel_rfl) rfl) hS1 ?_
                    simp only [Act.put, List.setIfInBounds_toArray, List.set_cons_succ, List.set_cons_zero]
                    refine hpure 12 (some 43) (.bool false) rfl (by kernel_rfl) (by kernel_rfl) (by kernel_rfl) (fun _ _ _ h => h) (by kernel_rfl) (by kernel_rfl) (hsym (r := (b.e != a.e)) hq2 (fun _ => by kernel_rfl)) hS1 ?_
                    simp only [Act.put, List.setIfInBounds_toArray, List.set_cons_succ, List.set_cons_zero]
                    refine hpure 13 (some 44) (.bool false) rfl (by kernel_rfl) (by kernel_rfl) (by kernel_rfl) (fun _ _ _ h => h) (by kernel_rfl) (by kernel_rfl) (fun _ => by kernel_rfl) hS1 ?_
                    simp only [Act.put, List.setIfInBounds_toArray, List.set_cons_succ, List.set_cons_zero]
                    refine hpure 14 (some 45) (.bool false) rfl (by kernel_rfl) (by kernel_rfl) (by kernel_rfl) (fun _ _ _ h => h) (by kernel_rfl) (by kernel_rfl) (fun _ => by kernel_rfl) hS1 ?_
                    simp only [Act.put, List.setIfInBounds_toArray, List.set_cons_succ, List.set_cons_zero]
                    refine hload27 15 0 (some 46) (x := .tmp 2) (b := w.heap.size) (d := a) rfl (by kernel_rfl) (by kernel_rfl) (by kernel_rfl) (fun _ _ _ h => h) (by kernel_rfl) (by kernel_rfl) (by kernel_rfl) (by kernel_rfl) rfl hS1 ?_
                    simp only [Act.put, List.setIfInBounds_toArray, List.set_cons_succ, List.set_cons_zero]
                    refine hload27 17 1 (some 48) (x := .tmp 3) (b := w.heap.size + 1) (d := b) rfl (by kernel_rfl) (by kernel_rfl) (by kernel_rfl) (fun _ _ _ h => h) (by kernel_rfl) (by kernel_rfl) (by kernel_rfl) (by kernel_rfl) rfl hS1 ?_
                    simp only [Act.put, List.setIfInBounds_toArray, List.set_cons_succ, List.set_cons_zero]
                    refine hcall 16 (some 47) rfl (by kernel_rfl) (by kernel_rfl) (by kernel_rfl) (by kernel_rfl) (unhide HAA _) hS1 (fun uw2 hS2 => ?_)
                    clear hS1
                    simp only [Act.put, List.setIfInBounds_toArray, List.set_cons_succ, List.set_cons_zero]
                    refine hcall 18 (some 49) rfl (by kernel_rfl) (by kernel_rfl) (by kernel_rfl) (by kernel_rfl) (unhide HAB _) hS2 (fun uw3 hS3 => ?_)
                    clear hS2
                    simp only [Act.put, List.setIfInBounds_toArray, List.set_cons_succ, List.set_cons_zero]
                    refine hpure 19 (some 50) (.bool true) rfl (by kernel_rfl) (by kernel_rfl) (by kernel_rfl) (fun _ _ _ h => h) (by kernel_rfl) (by kernel_rfl) (fun _ => by kernel_rfl) hS3 ?_
                    simp only [Act.put, List.setIfInBounds_toArray, List.set_cons_succ, List.set_cons_zero]
                    refine hpure 20 (some 51) (.bool true) rfl (by kernel_rfl) (by kernel_rfl) (by kernel_rfl) (fun _ _ _ h => h) (by kernel_rfl) (by kernel_rfl) (fun _ => by kernel_rfl) hS3 ?_
                    simp only [Act.put, List.setIfInBounds_toArray, List.set_cons_succ, List.set_cons_zero]
                    refine wpAnyH_done (by kernel_rfl) ?_ _
                    try simp only [Act.put, List.setIfInBounds_toArray, List.set_cons_succ, List.set_cons_zero]
                    replace LL := hide hS3
                    clear hS3
                    go_wp2_with (first | go_skip | ((first | ((with_reducible apply load27); (case ho => rfl); (case hw => rfl); (case hx => rfl)) | ((with_reducible apply load24v); (case ho => rfl); (case hw => rfl); (case hx => rfl)) | ((with_reducible apply load24g); (case ho => rfl); (case hw => rfl); (case hx => rfl)) | ((with_reducible apply load24s); (case ho => rfl); (case hw => rfl); (case hx => rfl)) | ((with_reducible apply load25w); (case ho => rfl); (case hw => rfl); (case hx => rfl)) | ((with_reducible apply load25e); (case ho => rfl); (case hw => rfl); (case hx => rfl)) | ((with_reducible apply load25c); (case ho => rfl); (case hw => rfl); (case hx => rfl))); (case hc => first | exact (unhide LL).get 0 rfl | exact (unhide LL).get 1 rfl); simp only [Act.put, List.setIfInBounds_toArray, List.set_cons_succ, List.set_cons_zero]))
                    go_ret2
                    exact ⟨rfl, (unhide LL).below⟩
                  · go_wp2_with (first | go_skip | ((first | ((with_reducible apply load27); (case ho => rfl); (case hw => rfl); (case hx => rfl)) | ((with_reducible apply load24v); (case ho => rfl); (case hw => rfl); (case hx => rfl)) | ((with_reducible apply load24g); (case ho => rfl); (case hw => rfl); (case hx => rfl)) | ((with_reducible apply load24s); (case ho => rfl); (case hw => rfl); (case hx => rfl)) | ((with_reducible apply load25w); (case ho => rfl); (case hw => rfl); (case hx => rfl)) | ((with_reducible apply load25e); (case ho => rfl); (case hw => rfl); (case hx => rfl)) | ((with_reducible apply load25c); (case ho => rfl); (case hw => rfl); (case hx => rfl))); (case hc => first | exact (unhide LL).get 0 rfl | exact (unhide LL).get 1 rfl); simp only [Act.put, List.setIfInBounds_toArray, List.set_cons_succ, List.set_cons_zero]))
                    refine wp_region_held_drew (P := Tryz.prog) (S := fun X => Kp w X [(w.heap.size, .D a), (w.heap.size + 1, .D b)]) (by kernel_rfl) (Kp.drew (unhide LL)) (fun hS0 => ?_)
                    refine hload27 0 1 (some 31) (x := .tmp 3) (b := w.heap.size + 1) (d := b) rfl (by kernel_rfl) (by kernel_rfl) (by kernel_rfl) (fun _ _ _ h => h) (by kernel_rfl) (by kernel_rfl) (by kernel_rfl) (by kernel_rfl) rfl hS0 ?_
                    simp only [Act.put, List.setIfInBounds_toArray, List.set_cons_succ, List.set_cons_zero]
                    refine hcall 1 (some 32) rfl (by kernel_rfl) (by kernel_rfl) (by kernel_rfl) (by kernel_rfl) (unhide HZB _) hS0 (fun uw1 hS1 => ?_)
                    clear hS0
                    simp only [Act.put, List.setIfInBounds_toArray, List.set_cons_succ, List.set_cons_zero]
                    refine hpure 2 (some 33) (.bool false) rfl (by kernel_rfl) (by kernel_rfl) (by kernel_rfl) (fun _ _ _ h => h) (by kernel_rfl) (by kernel_rfl) (fun _ => by kernel_rfl) hS1 ?_
                    simp only [Act.put, List.setIfInBounds_toArray, List.set_cons_succ, List.set_cons_zero]
                    refine hpure 3 (some 34) (.pointer (some ⟨w.heap.size + 1, 17, none⟩)) rfl (by kernel_rfl) (by kernel_rfl) (by kernel_rfl) (fun _ _ _ h => h) (by kernel_rfl) (by kernel_rfl) (fun _ => by kernel_rfl) hS1 ?_
                    simp only [Act.put, List.setIfInBounds_toArray, List.set_cons_succ, List.set_cons_zero]
                    refine ktake 4 (some 35) (.int .i64 b.c) rfl (by kernel_rfl) (by kernel_rfl) (by kernel_rfl) (fun _ _ _ h => h) (by kernel_rfl) (ky25c 1 (x := .tmp 34) (b := w.heap.size + 1) (d := b) (by kernel_rfl) (by kernel_rfl) (by kernel_rfl) rfl) hS1 ?_
                    simp only [Act.put, List.setIfInBounds_toArray, List.set_cons_succ, List.set_cons_zero]
                    refine hpure 5 (some 36) (.bool false) rfl (by kernel_rfl) (by kernel_rfl) (by kernel_rfl) (fun _ _ _ h => h) (by kernel_rfl) (by kernel_rfl) (hsym (r := (b.c != 1)) hq1 (fun _ => by kernel_rfl)) hS1 ?_
                    simp only [Act.put, List.setIfInBounds_toArray, List.set_cons_succ, List.set_cons_zero]
                    refine hpure 6 (some 37) (.bool false) rfl (by kernel_rfl) (by kernel_rfl) (by kernel_rfl) (fun _ _ _ h => h) (by kernel_rfl) (by kernel_rfl) (fun _ => by kernel_rfl) hS1 ?_
                    simp only [Act.put, List.setIfInBounds_toArray, List.set_cons_succ, List.set_cons_zero]
                    refine hpure 7 (some 38) (.bool false) rfl (by kernel_rfl) (by kernel_rfl) (by kernel_rfl) (fun _ _ _ h => h) (by kernel_rfl) (by kernel_rfl) (fun _ => by kernel_rfl) hS1 ?_
                    simp only [Act.put, List.setIfInBounds_toArray, List.set_cons_succ, List.set_cons_zero]
                    refine hpure 8 (some 39) (.pointer (some ⟨w.heap.size + 1, 16, none⟩)) rfl (by kernel_rfl) (by kernel_rfl) (by kernel_rfl) (fun _ _ _ h => h) (by kernel_rfl) (by kernel_rfl) (fun _ => by kernel_rfl) hS1 ?_
                    simp only [Act.put, List.setIfInBounds_toArray, List.set_cons_succ, List.set_cons_zero]
                    refine ktake 9 (some 40) (.int .i64 b.e) rfl (by kernel_rfl) (by kernel_rfl) (by kernel_rfl) (fun _ _ _ h => h) (by kernel_rfl) (ky25e 1 (x := .tmp 39) (b := w.heap.size + 1) (d := b) (by kernel_rfl) (by kernel_rfl) (by kernel_rfl) rfl) hS1 ?_
                    simp only [Act.put, List.setIfInBounds_toArray, List.set_cons_succ, List.set_cons_zero]
                    refine hpure 10 (some 41) (.pointer (some ⟨w.heap.size, 16, none⟩)) rfl (by kernel_rfl) (by kernel_rfl) (by kernel_rfl) (fun _ _ _ h => h) (by kernel_rfl) (by kernel_rfl) (fun _ => by kernel_rfl) hS1 ?_
                    simp only [Act.put, List.setIfInBounds_toArray, List.set_cons_succ, List.set_cons_zero]
                    refine ktake 11 (some 42) (.int .i64 a.e) rfl (by kernel_rfl) (by kernel_rfl) (by kernel_rfl) (fun _ _ _ h => h) (by kernel_rfl) (ky25e 0 (x := .tmp 41) (b := w.heap.size) (d := a) (by kernel_rfl) (by kernel_rfl) (by kernel_rfl) rfl) hS1 ?_
                    simp only [Act.put, List.setIfInBounds_toArray, List.set_cons_succ, List.set_cons_zero]
                    refine hpure 12 (some 43) (.bool false) rfl (by kernel_rfl) (by kernel_rfl) (by kernel_rfl) (fun _ _ _ h => h) (by kernel_rfl) (by kernel_rfl) (hsym (r := (b.e != a.e)) hq2 (fun _ => by kernel_rfl)) hS1 ?_
                    simp only [Act.put, List.setIfInBounds_toArray, List.set_cons_succ, List.set_cons_zero]
                    refine hpure 13 (some 44) (.bool false) rfl (by kernel_rfl) (by kernel_rfl) (by kernel_rfl) (fun _ _ _ h => h) (by kernel_rfl) (by kernel_rfl) (fun _ => by kernel_rfl) hS1 ?_
                    simp only [Act.put, List.setIfInBounds_toArray, List.set_cons_succ, List.set_cons_zero]
                    refine hpure 14 (some 45) (.bool false) rfl (by kernel_rfl) (by kernel_rfl) (by kernel_rfl) (fun _ _ _ h => h) (by kernel_rfl) (by kernel_rfl) (fun _ => by kernel_rfl) hS1 ?_
                    simp only [Act.put, List.setIfInBounds_toArray, List.set_cons_succ, List.set_cons_zero]
                    refine hload27 15 0 (some 46) (x := .tmp 2) (b := w.heap.size) (d := a) rfl (by kernel_rfl) (by kernel_rfl) (by kernel_rfl) (fun _ _ _ h => h) (by kernel_rfl) (by kernel_rfl) (by kernel_rfl) (by kernel_rfl) rfl hS1 ?_
                    simp only [Act.put, List.setIfInBounds_toArray, List.set_cons_succ, List.set_cons_zero]
                    refine hload27 17 1 (some 48) (x := .tmp 3) (b := w.heap.size + 1) (d := b) rfl (by kernel_rfl) (by kernel_rfl) (by kernel_rfl) (fun _ _ _ h => h) (by kernel_rfl) (by kernel_rfl) (by kernel_rfl) (by kernel_rfl) rfl hS1 ?_
                    simp only [Act.put, List.setIfInBounds_toArray, List.set_cons_succ, List.set_cons_zero]
                    refine hcall 16 (some 47) rfl (by kernel_rfl) (by kernel_rfl) (by kernel_rfl) (by kernel_rfl) (unhide HAA _) hS1 (fun uw2 hS2 => ?_)
                    clear hS1
                    simp only [Act.put, List.setIfInBounds_toArray, List.set_cons_succ, List.set_cons_zero]
                    refine hcall 18 (some 49) rfl (by kernel_rfl) (by kernel_rfl) (by kernel_rfl) (by kernel_rfl) (unhide HAB _) hS2 (fun uw3 hS3 => ?_)
                    clear hS2
                    simp only [Act.put, List.setIfInBounds_toArray, List.set_cons_succ, List.set_cons_zero]
                    refine hpure 19 (some 50) (.bool false) rfl (by kernel_rfl) (by kernel_rfl) (by kernel_rfl) (fun _ _ _ h => h) (by kernel_rfl) (by kernel_rfl) (fun _ => by kernel_rfl) hS3 ?_
                    simp only [Act.put, List.setIfInBounds_toArray, List.set_cons_succ, List.set_cons_zero]
                    refine hpure 20 (some 51) (.bool false) rfl (by kernel_rfl) (by kernel_rfl) (by kernel_rfl) (fun _ _ _ h => h) (by kernel_rfl) (by kernel_rfl) (fun _ => by kernel_rfl) hS3 ?_
                    simp only [Act.put, List.setIfInBounds_toArray, List.set_cons_succ, List.set_cons_zero]
                    refine wpAnyH_done (by kernel_rfl) ?_ _
                    try simp only [Act.put, List.setIfInBounds_toArray, List.set_cons_succ, List.set_cons_zero]
                    replace LL := hide hS3
                    clear hS3
                    go_wp2_with (first | go_skip | ((first | ((with_reducible apply load27); (case ho => rfl); (case hw => rfl); (case hx => rfl)) | ((with_reducible apply load24v); (case ho => rfl); (case hw => rfl); (case hx => rfl)) | ((with_reducible apply load24g); (case ho => rfl); (case hw => rfl); (case hx => rfl)) | ((with_reducible apply load24s); (case ho => rfl); (case hw => rfl); (case hx => rfl)) | ((with_reducible apply load25w); (case ho => rfl); (case hw => rfl); (case hx => rfl)) | ((with_reducible apply load25e); (case ho => rfl); (case hw => rfl); (case hx => rfl)) | ((with_reducible apply load25c); (case ho => rfl); (case hw => rfl); (case hx => rfl))); (case hc => first | exact (unhide LL).get 0 rfl | exact (unhide LL).get 1 rfl); simp only [Act.put, List.setIfInBounds_toArray, List.set_cons_succ, List.set_cons_zero]))
                    refine (unhide HAA _).mono ?_
                    rintro _ w31 ⟨rfl, hb⟩
                    replace LL := hide ((unhide LL).on hb)
                    clear hb
                    go_wp2_with (first | go_skip | ((first | ((with_reducible apply load27); (case ho => rfl); (case hw => rfl); (case hx => rfl)) | ((with_reducible apply load24v); (case ho => rfl); (case hw => rfl); (case hx => rfl)) | ((with_reducible apply load24g); (case ho => rfl); (case hw => rfl); (case hx => rfl)) | ((with_reducible apply load24s); (case ho => rfl); (case hw => rfl); (case hx => rfl)) | ((with_reducible apply load25w); (case ho => rfl); (case hw => rfl); (case hx => rfl)) | ((with_reducible apply load25e); (case ho => rfl); (case hw => rfl); (case hx => rfl)) | ((with_reducible apply load25c); (case ho => rfl); (case hw => rfl); (case hx => rfl))); (case hc => first | exact (unhide LL).get 0 rfl | exact (unhide LL).get 1 rfl); simp only [Act.put, List.setIfInBounds_toArray, List.set_cons_succ, List.set_cons_zero]))
                    refine (unhide HG _).mono ?_
                    rintro _ w32 ⟨rfl, hb⟩
                    replace LL := hide ((unhide LL).on hb)
                    clear hb
                    cases eg
                    · go_wp2_with (first | go_skip | ((first | ((with_reducible apply load27); (case ho => rfl); (case hw => rfl); (case hx => rfl)) | ((with_reducible apply load24v); (case ho => rfl); (case hw => rfl); (case hx => rfl)) | ((with_reducible apply load24g); (case ho => rfl); (case hw => rfl); (case hx => rfl)) | ((with_reducible apply load24s); (case ho => rfl); (case hw => rfl); (case hx => rfl)) | ((with_reducible apply load25w); (case ho => rfl); (case hw => rfl); (case hx => rfl)) | ((with_reducible apply load25e); (case ho => rfl); (case hw => rfl); (case hx => rfl)) | ((with_reducible apply load25c); (case ho => rfl); (case hw => rfl); (case hx => rfl))); (case hc => first | exact (unhide LL).get 0 rfl | exact (unhide LL).get 1 rfl); simp only [Act.put, List.setIfInBounds_toArray, List.set_cons_succ, List.set_cons_zero]))
                      go_ret2
                      exact ⟨rfl, (unhide LL).below⟩
                    · go_wp2_with (first | go_skip | ((first | ((with_reducible apply load27); (case ho => rfl); (case hw => rfl); (case hx => rfl)) | ((with_reducible apply load24v); (case ho => rfl); (case hw => rfl); (case hx => rfl)) | ((with_reducible apply load24g); (case ho => rfl); (case hw => rfl); (case hx => rfl)) | ((with_reducible apply load24s); (case ho => rfl); (case hw => rfl); (case hx => rfl)) | ((with_reducible apply load25w); (case ho => rfl); (case hw => rfl); (case hx => rfl)) | ((with_reducible apply load25e); (case ho => rfl); (case hw => rfl); (case hx => rfl)) | ((with_reducible apply load25c); (case ho => rfl); (case hw => rfl); (case hx => rfl))); (case hc => first | exact (unhide LL).get 0 rfl | exact (unhide LL).get 1 rfl); simp only [Act.put, List.setIfInBounds_toArray, List.set_cons_succ, List.set_cons_zero]))
                      refine (unhide HS _).mono ?_
                      rintro _ w33 ⟨rfl, hb⟩
                      replace LL := hide ((unhide LL).on hb)
                      clear hb
                      go_wp2_with (first | go_skip | ((first | ((with_reducible apply load27); (case ho => rfl); (case hw => rfl); (case hx => rfl)) | ((with_reducible apply load24v); (case ho => rfl); (case hw => rfl); (case hx => rfl)) | ((with_reducible apply load24g); (case ho => rfl); (case hw => rfl); (case hx => rfl)) | ((with_reducible apply load24s); (case ho => rfl); (case hw => rfl); (case hx => rfl)) | ((with_reducible apply load25w); (case ho => rfl); (case hw => rfl); (case hx => rfl)) | ((with_reducible apply load25e); (case ho => rfl); (case hw => rfl); (case hx => rfl)) | ((with_reducible apply load25c); (case ho => rfl); (case hw => rfl); (case hx => rfl))); (case hc => first | exact (unhide LL).get 0 rfl | exact (unhide LL).get 1 rfl); simp only [Act.put, List.setIfInBounds_toArray, List.set_cons_succ, List.set_cons_zero]))
                      go_ret2
                      exact ⟨rfl, (unhide LL).below⟩
              · go_wp2_with (first | go_skip | ((first | ((with_reducible apply load27); (case ho => rfl); (case hw => rfl); (case hx => rfl)) | ((with_reducible apply load24v); (case ho => rfl); (case hw => rfl); (case hx => rfl)) | ((with_reducible apply load24g); (case ho => rfl); (case hw => rfl); (case hx => rfl)) | ((with_reducible apply load24s); (case ho => rfl); (case hw => rfl); (case hx => rfl)) | ((with_reducible apply load25w); (case ho => rfl); (case hw => rfl); (case hx => rfl)) | ((with_reducible apply load25e); (case ho => rfl); (case hw => rfl); (case hx => rfl)) | ((with_reducible apply load25c); (case ho => rfl); (case hw => rfl); (case hx => rfl))); (case hc => first | exact (unhide LL).get 0 rfl | exact (unhide LL).get 1 rfl); simp only [Act.put, List.setIfInBounds_toArray, List.set_cons_succ, List.set_cons_zero]))
                refine wp_region_held_drew (P := Tryz.prog) (S := fun X => Kp w X [(w.heap.size, .D a), (w.heap.size + 1, .D b)]) (by kernel_rfl) (Kp.drew (unhide LL)) (fun hS0 => ?_)
                refine hload27 0 1 (some 31) (x := .tmp 3) (b := w.heap.size + 1) (d := b) rfl (by kernel_rfl) (by kernel_rfl) (by kernel_rfl) (fun _ _ _ h => h) (by kernel_rfl) (by kernel_rfl) (by kernel_rfl) (by kernel_rfl) rfl hS0 ?_
                simp only [Act.put, List.setIfInBounds_toArray, List.set_cons_succ, List.set_cons_zero]
                refine hcall 1 (some 32) rfl (by kernel_rfl) (by kernel_rfl) (by kernel_rfl) (by kernel_rfl) (unhide HZB _) hS0 (fun uw1 hS1 => ?_)
                clear hS0
                simp only [Act.put, List.setIfInBounds_toArray, List.set_cons_succ, List.set_cons_zero]
                refine hpure 2 (some 33) (.bool false) rfl (by kernel_rfl) (by kernel_rfl) (by kernel_rfl) (fun _ _ _ h => h) (by kernel_rfl) (by kernel_rfl) (fun _ => by kernel_rfl) hS1 ?_
                simp only [Act.put, List.setIfInBounds_toArray, List.set_cons_succ, List.set_cons_zero]
                refine hpure 3 (some 34) (.pointer (some ⟨w.heap.size + 1, 17, none⟩)) rfl (by kernel_rfl) (by kernel_rfl) (by kernel_rfl) (fun _ _ _ h => h) (by kernel_rfl) (by kernel_rfl) (fun _ => by kernel_rfl) hS1 ?_
                simp only [Act.put, List.setIfInBounds_toArray, List.set_cons_succ, List.set_cons_zero]
                refine ktake 4 (some 35) (.int .i64 b.c) rfl (by kernel_rfl) (by kernel_rfl) (by kernel_rfl) (fun _ _ _ h => h) (by kernel_rfl) (ky25c 1 (x := .tmp 34) (b := w.heap.size + 1) (d := b) (by kernel_rfl) (by kernel_rfl) (by kernel_rfl) rfl) hS1 ?_
                simp only [Act.put, List.setIfInBounds_toArray, List.set_cons_succ, List.set_cons_zero]
                refine hpure 5 (some 36) (.bool false) rfl (by kernel_rfl) (by kernel_rfl) (by kernel_rfl) (fun _ _ _ h => h) (by kernel_rfl) (by kernel_rfl) (hsym (r := (b.c != 1)) hq1 (fun _ => by kernel_rfl)) hS1 ?_
                simp only [Act.put, List.setIfInBounds_toArray, List.set_cons_succ, List.set_cons_zero]
                refine hpure 6 (some 37) (.bool false) rfl (by kernel_rfl) (by kernel_rfl) (by kernel_rfl) (fun _ _ _ h => h) (by kernel_rfl) (by kernel_rfl) (fun _ => by kernel_rfl) hS1 ?_
                simp only [Act.put, List.setIfInBounds_toArray, List.set_cons_succ, List.set_cons_zero]
                refine hpure 7 (some 38) (.bool false) rfl (by kernel_rfl) (by kernel_rfl) (by kernel_rfl) (fun _ _ _ h => h) (by kernel_rfl) (by kernel_rfl) (fun _ => by kernel_rfl) hS1 ?_
                simp only [Act.put, List.setIfInBounds_toArray, List.set_cons_succ, List.set_cons_zero]
                refine hpure 8 (some 39) (.pointer (some ⟨w.heap.size + 1, 16, none⟩)) rfl (by kernel_rfl) (by kernel_rfl) (by kernel_rfl) (fun _ _ _ h => h) (by kernel_rfl) (by kernel_rfl) (fun _ => by kernel_rfl) hS1 ?_
                simp only [Act.put, List.setIfInBounds_toArray, List.set_cons_succ, List.set_cons_zero]
                refine ktake 9 (some 40) (.int .i64 b.e) rfl (by kernel_rfl) (by kernel_rfl) (by kernel_rfl) (fun _ _ _ h => h) (by kernel_rfl) (ky25e 1 (x := .tmp 39) (b := w.heap.size + 1) (d := b) (by kernel_rfl) (by kernel_rfl) (by kernel_rfl) rfl) hS1 ?_
                simp only [Act.put, List.setIfInBounds_toArray, List.set_cons_succ, List.set_cons_zero]
                refine hpure 10 (some 41) (.pointer (some ⟨w.heap.size, 16, none⟩)) rfl (by kernel_rfl) (by kernel_rfl) (by kernel_rfl) (fun _ _ _ h => h) (by kernel_rfl) (by kernel_rfl) (fun _ => by kernel_rfl) hS1 ?_
                simp only [Act.put, List.setIfInBounds_toArray, List.set_cons_succ, List.set_cons_zero]
                refine ktake 11 (some 42) (.int .i64 a.e) rfl (by kernel_rfl) (by kernel_rfl) (by kernel_rfl) (fun _ _ _ h => h) (by kernel_rfl) (ky25e 0 (x := .tmp 41) (b := w.heap.size) (d := a) (by kernel_rfl) (by kernel_rfl) (by kernel_rfl) rfl) hS1 ?_
                simp only [Act.put, List.setIfInBounds_toArray, List.set_cons_succ, List.set_cons_zero]
                refine hpure 12 (some 43) (.bool true) rfl (by kernel_rfl) (by kernel_rfl) (by kernel_rfl) (fun _ _ _ h => h) (by kernel_rfl) (by kernel_rfl) (hsym (r := (b.e != a.e)) hq2 (fun _ => by kernel_rfl)) hS1 ?_
                simp only [Act.put, List.setIfInBounds_toArray, List.set_cons_succ, List.set_cons_zero]
                refine hpure 13 (some 44) (.bool true) rfl (by kernel_rfl) (by kernel_rfl) (by kernel_rfl) (fun _ _ _ h => h) (by kernel_rfl) (by kernel_rfl) (fun _ => by kernel_rfl) hS1 ?_
                simp only [Act.put, List.setIfInBounds_toArray, List.set_cons_succ, List.set_cons_zero]
                refine hpure 14 (some 45) (.bool true) rfl (by kernel_rfl) (by kernel_rfl) (by kernel_rfl) (fun _ _ _ h => h) (by kernel_rfl) (by kernel_rfl) (fun _ => by kernel_rfl) hS1 ?_
                simp only [Act.put, List.setIfInBounds_toArray, List.set_cons_succ, List.set_cons_zero]
                refine hskip 15 (some 46) rfl (by kernel_rfl) (by kernel_rfl) (by kernel_rfl) (fun _ _ _ h => h) (by kernel_rfl) (by kernel_rfl) hS1 ?_
                simp only [Act.put, List.setIfInBounds_toArray, List.set_cons_succ, List.set_cons_zero]
                refine hskip 16 (some 47) rfl (by kernel_rfl) (by kernel_rfl) (by kernel_rfl) (fun _ _ _ h => h) (by kernel_rfl) (by kernel_rfl) hS1 ?_
                simp only [Act.put, List.setIfInBounds_toArray, List.set_cons_succ, List.set_cons_zero]
                refine hskip 17 (some 48) rfl (by kernel_rfl) (by kernel_rfl) (by kernel_rfl) (fun _ _ _ h => h) (by kernel_rfl) (by kernel_rfl) hS1 ?_
                simp only [Act.put, List.setIfInBounds_toArray, List.set_cons_succ, List.set_cons_zero]
                refine hskip 18 (some 49) rfl (by kernel_rfl) (by kernel_rfl) (by kernel_rfl) (fun _ _ _ h => h) (by kernel_rfl) (by kernel_rfl) hS1 ?_
                simp only [Act.put, List.setIfInBounds_toArray, List.set_cons_succ, List.set_cons_zero]
                refine hskip 19 (some 50) rfl (by kernel_rfl) (by kernel_rfl) (by kernel_rfl) (fun _ _ _ h => h) (by kernel_rfl) (by kernel_rfl) hS1 ?_
                simp only [Act.put, List.setIfInBounds_toArray, List.set_cons_succ, List.set_cons_zero]
                refine hpure 20 (some 51) (.bool true) rfl (by kernel_rfl) (by kernel_rfl) (by kernel_rfl) (fun _ _ _ h => h) (by kernel_rfl) (by kernel_rfl) (fun _ => by kernel_rfl) hS1 ?_
                simp only [Act.put, List.setIfInBounds_toArray, List.set_cons_succ, List.set_cons_zero]
                refine wpAnyH_done (by kernel_rfl) ?_ _
                try simp only [Act.put, List.setIfInBounds_toArray, List.set_cons_succ, List.set_cons_zero]
                replace LL := hide hS1
                clear hS1
                go_wp2_with (first | go_skip | ((first | ((with_reducible apply load27); (case ho => rfl); (case hw => rfl); (case hx => rfl)) | ((with_reducible apply load24v); (case ho => rfl); (case hw => rfl); (case hx => rfl)) | ((with_reducible apply load24g); (case ho => rfl); (case hw => rfl); (case hx => rfl)) | ((with_reducible apply load24s); (case ho => rfl); (case hw => rfl); (case hx => rfl)) | ((with_reducible apply load25w); (case ho => rfl); (case hw => rfl); (case hx => rfl)) | ((with_reducible apply load25e); (case ho => rfl); (case hw => rfl); (case hx => rfl)) | ((with_reducible apply load25c); (case ho => rfl); (case hw => rfl); (case hx => rfl))); (case hc => first | exact (unhide LL).get 0 rfl | exact (unhide LL).get 1 rfl); simp only [Act.put, List.setIfInBounds_toArray, List.set_cons_succ, List.set_cons_zero]))
                go_ret2
                exact ⟨rfl, (unhide LL).below⟩
            · go_wp2_with (first | go_skip | ((first | ((with_reducible apply load27); (case ho => rfl); (case hw => rfl); (case hx => rfl)) | ((with_reducible apply load24v); (case ho => rfl); (case hw => rfl); (case hx => rfl)) | ((with_reducible apply load24g); (case ho => rfl); (case hw => rfl); (case hx => rfl)) | ((with_reducible apply load24s); (case ho => rfl); (case hw => rfl); (case hx => rfl)) | ((with_reducible apply load25w); (case ho => rfl); (case hw => rfl); (case hx => rfl)) | ((with_reducible apply load25e); (case ho => rfl); (case hw => rfl); (case hx => rfl)) | ((with_reducible apply load25c); (case ho => rfl); (case hw => rfl); (case hx => rfl))); (case hc => first | exact (unhide LL).get 0 rfl | exact (unhide LL).get 1 rfl); simp only [Act.put, List.setIfInBounds_toArray, List.set_cons_succ, List.set_cons_zero]))
              refine wp_region_held_drew (P := Tryz.prog) (S := fun X => Kp w X [(w.heap.size, .D a), (w.heap.size + 1, .D b)]) (by kernel_rfl) (Kp.drew (unhide LL)) (fun hS0 => ?_)
              refine hload27 0 1 (some 31) (x := .tmp 3) (b := w.heap.size + 1) (d := b) rfl (by kernel_rfl) (by kernel_rfl) (by kernel_rfl) (fun _ _ _ h => h) (by kernel_rfl) (by kernel_rfl) (by kernel_rfl) (by kernel_rfl) rfl hS0 ?_
              simp only [Act.put, List.setIfInBounds_toArray, List.set_cons_succ, List.set_cons_zero]
              refine hcall 1 (some 32) rfl (by kernel_rfl) (by kernel_rfl) (by kernel_rfl) (by kernel_rfl) (unhide HZB _) hS0 (fun uw1 hS1 => ?_)
              clear hS0
              simp only [Act.put, List.setIfInBounds_toArray, List.set_cons_succ, List.set_cons_zero]
              refine hpure 2 (some 33) (.bool false) rfl (by kernel_rfl) (by kernel_rfl) (by kernel_rfl) (fun _ _ _ h => h) (by kernel_rfl) (by kernel_rfl) (fun _ => by kernel_rfl) hS1 ?_
              simp only [Act.put, List.setIfInBounds_toArray, List.set_cons_succ, List.set_cons_zero]
              refine hpure 3 (some 34) (.pointer (some ⟨w.heap.size + 1, 17, none⟩)) rfl (by kernel_rfl) (by kernel_rfl) (by kernel_rfl) (fun _ _ _ h => h) (by kernel_rfl) (by kernel_rfl) (fun _ => by kernel_rfl) hS1 ?_
              simp only [Act.put, List.setIfInBounds_toArray, List.set_cons_succ, List.set_cons_zero]
              refine ktake 4 (some 35) (.int .i64 b.c) rfl (by kernel_rfl) (by kernel_rfl) (by kernel_rfl) (fun _ _ _ h => h) (by kernel_rfl) (ky25c 1 (x := .tmp 34) (b := w.heap.size + 1) (d := b) (by kernel_rfl) (by kernel_rfl) (by kernel_rfl) rfl) hS1 ?_
              simp only [Act.put, List.setIfInBounds_toArray, List.set_cons_succ, List.set_cons_zero]
              refine hpure 5 (some 36) (.bool true) rfl (by kernel_rfl) (by kernel_rfl) (by kernel_rfl) (fun _ _ _ h => h) (by kernel_rfl) (by kernel_rfl) (hsym (r := (b.c != 1)) hq1 (fun _ => by kernel_rfl)) hS1 ?_
              simp only [Act.put, List.setIfInBounds_toArray, List.set_cons_succ, List.set_cons_zero]
              refine hpure 6 (some 37) (.bool true) rfl (by kernel_rfl) (by kernel_rfl) (by kernel_rfl) (fun _ _ _ h => h) (by kernel_rfl) (by kernel_rfl) (fun _ => by kernel_rfl) hS1 ?_
              simp only [Act.put, List.setIfInBounds_toArray, List.set_cons_succ, List.set_cons_zero]
              refine hpure 7 (some 38) (.bool true) rfl (by kernel_rfl) (by kernel_rfl) (by kernel_rfl) (fun _ _ _ h => h) (by kernel_rfl) (by kernel_rfl) (fun _ => by kernel_rfl) hS1 ?_
              simp only [Act.put, List.setIfInBounds_toArray, List.set_cons_succ, List.set_cons_zero]
              refine hskip 8 (some 39) rfl (by kernel_rfl) (by kernel_rfl) (by kernel_rfl) (fun _ _ _ h => h) (by kernel_rfl) (by kernel_rfl) hS1 ?_
              simp only [Act.put, List.setIfInBounds_toArray, List.set_cons_succ, List.set_cons_zero]
              refine hskip 9 (some 40) rfl (by kernel_rfl) (by kernel_rfl) (by kernel_rfl) (fun _ _ _ h => h) (by kernel_rfl) (by kernel_rfl) hS1 ?_
              simp only [Act.put, List.setIfInBounds_toArray, List.set_cons_succ, List.set_cons_zero]
              refine hskip 10 (some 41) rfl (by kernel_rfl) (by kernel_rfl) (by kernel_rfl) (fun _ _ _ h => h) (by kernel_rfl) (by kernel_rfl) hS1 ?_
              simp only [Act.put, List.setIfInBounds_toArray, List.set_cons_succ, List.set_cons_zero]
              refine hskip 11 (some 42) rfl (by kernel_rfl) (by kernel_rfl) (by kernel_rfl) (fun _ _ _ h => h) (by kernel_rfl) (by kernel_rfl) hS1 ?_
              simp only [Act.put, List.setIfInBounds_toArray, List.set_cons_succ, List.set_cons_zero]
              refine hskip 12 (some 43) rfl (by kernel_rfl) (by kernel_rfl) (by kernel_rfl) (fun _ _ _ h => h) (by kernel_rfl) (by kernel_rfl) hS1 ?_
              simp only [Act.put, List.setIfInBounds_toArray, List.set_cons_succ, List.set_cons_zero]
              refine hpure 13 (some 44) (.bool true) rfl (by kernel_rfl) (by kernel_rfl) (by kernel_rfl) (fun _ _ _ h => h) (by kernel_rfl) (by kernel_rfl) (fun _ => by kernel_rfl) hS1 ?_
              simp only [Act.put, List.setIfInBounds_toArray, List.set_cons_succ, List.set_cons_zero]
              refine hpure 14 (some 45) (.bool true) rfl (by kernel_rfl) (by kernel_rfl) (by kernel_rfl) (fun _ _ _ h => h) (by kernel_rfl) (by kernel_rfl) (fun _ => by kernel_rfl) hS1 ?_
              simp only [Act.put, List.setIfInBounds_toArray, List.set_cons_succ, List.set_cons_zero]
              refine hskip 15 (some 46) rfl (by kernel_rfl) (by kernel_rfl) (by kernel_rfl) (fun _ _ _ h => h) (by kernel_rfl) (by kernel_rfl) hS1 ?_
              simp only [Act.put, List.setIfInBounds_toArray, List.set_cons_succ, List.set_cons_zero]
              refine hskip 16 (some 47) rfl (by kernel_rfl) (by kernel_rfl) (by kernel_rfl) (fun _ _ _ h => h) (by kernel_rfl) (by kernel_rfl) hS1 ?_
              simp only [Act.put, List.setIfInBounds_toArray, List.set_cons_succ, List.set_cons_zero]
              refine hskip 17 (some 48) rfl (by kernel_rfl) (by kernel_rfl) (by kernel_rfl) (fun _ _ _ h => h) (by kernel_rfl) (by kernel_rfl) hS1 ?_
              simp only [Act.put, List.setIfInBounds_toArray, List.set_cons_succ, List.set_cons_zero]
              refine hskip 18 (some 49) rfl (by kernel_rfl) (by kernel_rfl) (by kernel_rfl) (fun _ _ _ h => h) (by kernel_rfl) (by kernel_rfl) hS1 ?_
              simp only [Act.put, List.setIfInBounds_toArray, List.set_cons_succ, List.set_cons_zero]
              refine hskip 19 (some 50) rfl (by kernel_rfl) (by kernel_rfl) (by kernel_rfl) (fun _ _ _ h => h) (by kernel_rfl) (by kernel_rfl) hS1 ?_
              simp only [Act.put, List.setIfInBounds_toArray, List.set_cons_succ, List.set_cons_zero]
              refine hpure 20 (some 51) (.bool true) rfl (by kernel_rfl) (by kernel_rfl) (by kernel_rfl) (fun _ _ _ h => h) (by kernel_rfl) (by kernel_rfl) (fun _ => by kernel_rfl) hS1 ?_
              simp only [Act.put, List.setIfInBounds_toArray, List.set_cons_succ, List.set_cons_zero]
              refine wpAnyH_done (by kernel_rfl) ?_ _
              try simp only [Act.put, List.setIfInBounds_toArray, List.set_cons_succ, List.set_cons_zero]
              replace LL := hide hS1
              clear hS1
              go_wp2_with (first | go_skip | ((first | ((with_reducible apply load27); (case ho => rfl); (case hw => rfl); (case hx => rfl)) | ((with_reducible apply load24v); (case ho => rfl); (case hw => rfl); (case hx => rfl)) | ((with_reducible apply load24g); (case ho => rfl); (case hw => rfl); (case hx => rfl)) | ((with_reducible apply load24s); (case ho => rfl); (case hw => rfl); (case hx => rfl)) | ((with_reducible apply load25w); (case ho => rfl); (case hw => rfl); (case hx => rfl)) | ((with_reducible apply load25e); (case ho => rfl); (case hw => rfl); (case hx => rfl)) | ((with_reducible apply load25c); (case ho => rfl); (case hw => rfl); (case hx => rfl))); (case hc => first | exact (unhide LL).get 0 rfl | exact (unhide LL).get 1 rfl); simp only [Act.put, List.setIfInBounds_toArray, List.set_cons_succ, List.set_cons_zero]))
              go_ret2
              exact ⟨rfl, (unhide LL).below⟩
          · go_wp2_with (first | go_skip | ((first | ((with_reducible apply load27); (case ho => rfl); (case hw => rfl); (case hx => rfl)) | ((with_reducible apply load24v); (case ho => rfl); (case hw => rfl); (case hx => rfl)) | ((with_reducible apply load24g); (case ho => rfl); (case hw => rfl); (case hx => rfl)) | ((with_reducible apply load24s); (case ho => rfl); (case hw => rfl); (case hx => rfl)) | ((with_reducible apply load25w); (case ho => rfl); (case hw => rfl); (case hx => rfl)) | ((with_reducible apply load25e); (case ho => rfl); (case hw => rfl); (case hx => rfl)) | ((with_reducible apply load25c); (case ho => rfl); (case hw => rfl); (case hx => rfl))); (case hc => first | exact (unhide LL).get 0 rfl | exact (unhide LL).get 1 rfl); simp only [Act.put, List.setIfInBounds_toArray, List.set_cons_succ, List.set_cons_zero]))
            go_ret2
            exact ⟨rfl, (unhide LL).below⟩
      · go_wp2_with (first | go_skip | ((first | ((with_reducible apply load27); (case ho => rfl); (case hw => rfl); (case hx => rfl)) | ((with_reducible apply load24v); (case ho => rfl); (case hw => rfl); (case hx => rfl)) | ((with_reducible apply load24g); (case ho => rfl); (case hw => rfl); (case hx => rfl)) | ((with_reducible apply load24s); (case ho => rfl); (case hw => rfl); (case hx => rfl)) | ((with_reducible apply load25w); (case ho => rfl); (case hw => rfl); (case hx => rfl)) | ((with_reducible apply load25e); (case ho => rfl); (case hw => rfl); (case hx => rfl)) | ((with_reducible apply load25c); (case ho => rfl); (case hw => rfl); (case hx => rfl))); (case hc => first | exact (unhide LL).get 0 rfl | exact (unhide LL).get 1 rfl); simp only [Act.put, List.setIfInBounds_toArray, List.set_cons_succ, List.set_cons_zero]))
        refine (unhide HZA _).mono ?_
        rintro _ w41 ⟨rfl, hb⟩
        replace LL := hide ((unhide LL).on hb)
        clear hb
        cases q6
        · go_wp2_with (first | go_skip | ((first | ((with_reducible apply load27); (case ho => rfl); (case hw => rfl); (case hx => rfl)) | ((with_reducible apply load24v); (case ho => rfl); (case hw => rfl); (case hx => rfl)) | ((with_reducible apply load24g); (case ho => rfl); (case hw => rfl); (case hx => rfl)) | ((with_reducible apply load24s); (case ho => rfl); (case hw => rfl); (case hx => rfl)) | ((with_reducible apply load25w); (case ho => rfl); (case hw => rfl); (case hx => rfl)) | ((with_reducible apply load25e); (case ho => rfl); (case hw => rfl); (case hx => rfl)) | ((with_reducible apply load25c); (case ho => rfl); (case hw => rfl); (case hx => rfl))); (case hc => first | exact (unhide LL).get 0 rfl | exact (unhide LL).get 1 rfl); simp only [Act.put, List.setIfInBounds_toArray, List.set_cons_succ, List.set_cons_zero]))
          refine wp_region_held_drew (P := Tryz.prog) (S := fun X => Kp w X [(w.heap.size, .D a), (w.heap.size + 1, .D b)]) (by kernel_rfl) (Kp.drew (unhide LL)) (fun hS0 => ?_)
          refine hload27 0 1 (some 31) (x := .tmp 3) (b := w.heap.size + 1) (d := b) rfl (by kernel_rfl) (by kernel_rfl) (by kernel_rfl) (fun _ _ _ h => h) (by kernel_rfl) (by kernel_rfl) (by kernel_rfl) (by kernel_rfl) rfl hS0 ?_
          simp only [Act.put, List.setIfInBounds_toArray, List.set_cons_succ, List.set_cons_zero]
          refine hcall 1 (some 32) rfl (by kernel_rfl) (by kernel_rfl) (by kernel_rfl) (by kernel_rfl) (unhide HZB _) hS0 (fun uw1 hS1 => ?_)
          clear hS0
          simp only [Act.put, List.setIfInBounds_toArray, List.set_cons_succ, List.set_cons_zero]
          refine hpure 2 (some 33) (.bool true) rfl (by kernel_rfl) (by kernel_rfl) (by kernel_rfl) (fun _ _ _ h => h) (by kernel_rfl) (by kernel_rfl) (fun _ => by kernel_rfl) hS1 ?_
          simp only [Act.put, List.setIfInBounds_toArray, List.set_cons_succ, List.set_cons_zero]
          refine hskip 3 (some 34) rfl (by kernel_rfl) (by kernel_rfl) (by kernel_rfl) (fun _ _ _ h => h) (by kernel_rfl) (by kernel_rfl) hS1 ?_
          simp only [Act.put, List.setIfInBounds_toArray, List.set_cons_succ, List.set_cons_zero]
          refine hskip 4 (some 35) rfl (by kernel_rfl) (by kernel_rfl) (by kernel_rfl) (fun _ _ _ h => h) (by kernel_rfl) (by kernel_rfl) hS1 ?_
          simp only [Act.put, List.setIfInBounds_toArray, List.set_cons_succ, List.set_cons_zero]
          refine hskip 5 (some 36) rfl (by kernel_rfl) (by kernel_rfl) (by kernel_rfl) (fun _ _ _ h => h) (by kernel_rfl) (by kernel_rfl) hS1 ?_
          simp only [Act.put, List.setIfInBounds_toArray, List.set_cons_succ, List.set_cons_zero]
          refine hpure 6 (some 37) (.bool true) rfl (by kernel_rfl) (by kernel_rfl) (by kernel_rfl) (fun _ _ _ h => h) (by kernel_rfl) (by kernel_rfl) (fun _ => by kernel_rfl) hS1 ?_
          simp only [Act.put, List.setIfInBounds_toArray, List.set_cons_succ, List.set_cons_zero]
          refine hpure 7 (some 38) (.bool true) rfl (by kernel_rfl) (by kernel_rfl) (by kernel_rfl) (fun _ _ _ h => h) (by kernel_rfl) (by kernel_rfl) (fun _ => by kernel_rfl) hS1 ?_
          simp only [Act.put, List.setIfInBounds_toArray, List.set_cons_succ, List.set_cons_zero]
          refine hskip 8 (some 39) rfl (by kernel_rfl) (by kernel_rfl) (by kernel_rfl) (fun _ _ _ h => h) (by kernel_rfl) (by kernel_rfl) hS1 ?_
          simp only [Act.put, List.setIfInBounds_toArray, List.set_cons_succ, List.set_cons_zero]
          refine hskip 9 (some 40) rfl (by kernel_rfl) (by kernel_rfl) (by kernel_rfl) (fun _ _ _ h => h) (by kernel_rfl) (by kernel_rfl) hS1 ?_
          simp only [Act.put, List.setIfInBounds_toArray, List.set_cons_succ, List.set_cons_zero]
          refine hskip 10 (some 41) rfl (by kernel_rfl) (by kernel_rfl) (by kernel_rfl) (fun _ _ _ h => h) (by kernel_rfl) (by kernel_rfl) hS1 ?_
          simp only [Act.put, List.setIfInBounds_toArray, List.set_cons_succ, List.set_cons_zero]
          refine hskip 11 (some 42) rfl (by kernel_rfl) (by kernel_rfl) (by kernel_rfl) (fun _ _ _ h => h) (by kernel_rfl) (by kernel_rfl) hS1 ?_
          simp only [Act.put, List.setIfInBounds_toArray, List.set_cons_succ, List.set_cons_zero]
          refine hskip 12 (some 43) rfl (by kernel_rfl) (by kernel_rfl) (by kernel_rfl) (fun _ _ _ h => h) (by kernel_rfl) (by kernel_rfl) hS1 ?_
          simp only [Act.put, List.setIfInBounds_toArray, List.set_cons_succ, List.set_cons_zero]
          refine hpure 13 (some 44) (.bool true) rfl (by kernel_rfl) (by kernel_rfl) (by kernel_rfl) (fun _ _ _ h => h) (by kernel_rfl) (by kernel_rfl) (fun _ => by kernel_rfl) hS1 ?_
          simp only [Act.put, List.setIfInBounds_toArray, List.set_cons_succ, List.set_cons_zero]
          refine hpure 14 (some 45) (.bool true) rfl (by kernel_rfl) (by kernel_rfl) (by kernel_rfl) (fun _ _ _ h => h) (by kernel_rfl) (by kernel_rfl) (fun _ => by kernel_rfl) hS1 ?_
          simp only [Act.put, List.setIfInBounds_toArray, List.set_cons_succ, List.set_cons_zero]
          refine hskip 15 (some 46) rfl (by kernel_rfl) (by kernel_rfl) (by kernel_rfl) (fun _ _ _ h => h) (by kernel_rfl) (by kernel_rfl) hS1 ?_
          simp only [Act.put, List.setIfInBounds_toArray, List.set_cons_succ, List.set_cons_zero]
          refine hskip 16 (some 47) rfl (by kernel_rfl) (by kernel_rfl) (by kernel_rfl) (fun _ _ _ h => h) (by kernel_rfl) (by kernel_rfl) hS1 ?_
          simp only [Act.put, List.setIfInBounds_toArray, List.set_cons_succ, List.set_cons_zero]
          refine hskip 17 (some 48) rfl (by kernel_rfl) (by kernel_rfl) (by kernel_rfl) (fun _ _ _ h => h) (by kernel_rfl) (by kernel_rfl) hS1 ?_
          simp only [Act.put, List.setIfInBounds_toArray, List.set_cons_succ, List.set_cons_zero]
          refine hskip 18 (some 49) rfl (by kernel_rfl) (by kernel_rfl) (by kernel_rfl) (fun _ _ _ h => h) (by kernel_rfl) (by kernel_rfl) hS1 ?_
          simp only [Act.put, List.setIfInBounds_toArray, List.set_cons_succ, List.set_cons_zero]
          refine hskip 19 (some 50) rfl (by kernel_rfl) (by kernel_rfl) (by kernel_rfl) (fun _ _ _ h => h) (by kernel_rfl) (by kernel_rfl) hS1 ?_
          simp only [Act.put, List.setIfInBounds_toArray, List.set_cons_succ, List.set_cons_zero]
          refine hpure 20 (some 51) (.bool true) rfl (by kernel_rfl) (by kernel_rfl) (by kernel_rfl) (fun _ _ _ h => h) (by kernel_rfl) (by kernel_rfl) (fun _ => by kernel_rfl) hS1 ?_
          simp only [Act.put, List.setIfInBounds_toArray, List.set_cons_succ, List.set_cons_zero]
          refine wpAnyH_done (by kernel_rfl) ?_ _
          try simp only [Act.put, List.setIfInBounds_toArray, List.set_cons_succ, List.set_cons_zero]
          replace LL := hide hS1
          clear hS1
          go_wp2_with (first | go_skip | ((first | ((with_reducible apply load27); (case ho => rfl); (case hw => rfl); (case hx => rfl)) | ((with_reducible apply load24v); (case ho => rfl); (case hw => rfl); (case hx => rfl)) | ((with_reducible apply load24g); (case ho => rfl); (case hw => rfl); (case hx => rfl)) | ((with_reducible apply load24s); (case ho => rfl); (case hw => rfl); (case hx => rfl)) | ((with_reducible apply load25w); (case ho => rfl); (case hw => rfl); (case hx => rfl)) | ((with_reducible apply load25e); (case ho => rfl); (case hw => rfl); (case hx => rfl)) | ((with_reducible apply load25c); (case ho => rfl); (case hw => rfl); (case hx => rfl))); (case hc => first | exact (unhide LL).get 0 rfl | exact (unhide LL).get 1 rfl); simp only [Act.put, List.setIfInBounds_toArray, List.set_cons_succ, List.set_cons_zero]))
          go_ret2
          exact ⟨rfl, (unhide LL).below⟩
        · go_wp2_with (first | go_skip | ((first | ((with_reducible apply load27); (case ho => rfl); (case hw => rfl); (case hx => rfl)) | ((with_reducible apply load24v); (case ho => rfl); (case hw => rfl); (case hx => rfl)) | ((with_reducible apply load24g); (case ho => rfl); (case hw => rfl); (case hx => rfl)) | ((with_reducible apply load24s); (case ho => rfl); (case hw => rfl); (case hx => rfl)) | ((with_reducible apply load25w); (case ho => rfl); (case hw => rfl); (case hx => rfl)) | ((with_reducible apply load25e); (case ho => rfl); (case hw => rfl); (case hx => rfl)) | ((with_reducible apply load25c); (case ho => rfl); (case hw => rfl); (case hx => rfl))); (case hc => first | exact (unhide LL).get 0 rfl | exact (unhide LL).get 1 rfl); simp only [Act.put, List.setIfInBounds_toArray, List.set_cons_succ, List.set_cons_zero]))
          go_ret2
          exact ⟨rfl, (unhide LL).below⟩
  · go_wp2_with (first | go_skip | ((first | ((with_reducible apply load27); (case ho => rfl); (case hw => rfl); (case hx => rfl)) | ((with_reducible apply load24v); (case ho => rfl); (case hw => rfl); (case hx => rfl)) | ((with_reducible apply load24g); (case ho => rfl); (case hw => rfl); (case hx => rfl)) | ((with_reducible apply load24s); (case ho => rfl); (case hw => rfl); (case hx => rfl)) | ((with_reducible apply load25w); (case ho => rfl); (case hw => rfl); (case hx => rfl)) | ((with_reducible apply load25e); (case ho => rfl); (case hw => rfl); (case hx => rfl)) | ((with_reducible apply load25c); (case ho => rfl); (case hw => rfl); (case hx => rfl))); (case hc => first | exact (unhide LL).get 0 rfl | exact (unhide LL).get 1 rfl); simp only [Act.put, List.setIfInBounds_toArray, List.set_cons_succ, List.set_cons_zero]))
    refine (unhide HZB _).mono ?_
    rintro _ w42 ⟨rfl, hb⟩
    replace LL := hide ((unhide LL).on hb)
    clear hb
    cases zb
    · go_wp2_with (first | go_skip | ((first | ((with_reducible apply load27); (case ho => rfl); (case hw => rfl); (case hx => rfl)) | ((with_reducible apply load24v); (case ho => rfl); (case hw => rfl); (case hx => rfl)) | ((with_reducible apply load24g); (case ho => rfl); (case hw => rfl); (case hx => rfl)) | ((with_reducible apply load24s); (case ho => rfl); (case hw => rfl); (case hx => rfl)) | ((with_reducible apply load25w); (case ho => rfl); (case hw => rfl); (case hx => rfl)) | ((with_reducible apply load25e); (case ho => rfl); (case hw => rfl); (case hx => rfl)) | ((with_reducible apply load25c); (case ho => rfl); (case hw => rfl); (case hx => rfl))); (case hc => first | exact (unhide LL).get 0 rfl | exact (unhide LL).get 1 rfl); simp only [Act.put, List.setIfInBounds_toArray, List.set_cons_succ, List.set_cons_zero]))
      refine (unhide HWB _).mono ?_
      rintro _ w43 ⟨rfl, hb⟩
      replace LL := hide ((unhide LL).on hb)
      clear hb
      cases wb
      · go_wp2_with (first | go_skip | ((first | ((with_reducible apply load27); (case ho => rfl); (case hw => rfl); (case hx => rfl)) | ((with_reducible apply load24v); (case ho => rfl); (case hw => rfl); (case hx => rfl)) | ((with_reducible apply load24g); (case ho => rfl); (case hw => rfl); (case hx => rfl)) | ((with_reducible apply load24s); (case ho => rfl); (case hw => rfl); (case hx => rfl)) | ((with_reducible apply load25w); (case ho => rfl); (case hw => rfl); (case hx => rfl)) | ((with_reducible apply load25e); (case ho => rfl); (case hw => rfl); (case hx => rfl)) | ((with_reducible apply load25c); (case ho => rfl); (case hw => rfl); (case hx => rfl))); (case hc => first | exact (unhide LL).get 0 rfl | exact (unhide LL).get 1 rfl); simp only [Act.put, List.setIfInBounds_toArray, List.set_cons_succ, List.set_cons_zero]))
        go_ret2
        exact ⟨rfl, (unhide LL).below⟩
      · go_wp2_with (first | go_skip | ((first | ((with_reducible apply load27); (case ho => rfl); (case hw => rfl); (case hx => rfl)) | ((with_reducible apply load24v); (case ho => rfl); (case hw => rfl); (case hx => rfl)) | ((with_reducible apply load24g); (case ho => rfl); (case hw => rfl); (case hx => rfl)) | ((with_reducible apply load24s); (case ho => rfl); (case hw => rfl); (case hx => rfl)) | ((with_reducible apply load25w); (case ho => rfl); (case hw => rfl); (case hx => rfl)) | ((with_reducible apply load25e); (case ho => rfl); (case hw => rfl); (case hx => rfl)) | ((with_reducible apply load25c); (case ho => rfl); (case hw => rfl); (case hx => rfl))); (case hc => first | exact (unhide LL).get 0 rfl | exact (unhide LL).get 1 rfl); simp only [Act.put, List.setIfInBounds_toArray, List.set_cons_succ, List.set_cons_zero]))
        refine (unhide HZA _).mono ?_
        rintro _ w44 ⟨rfl, hb⟩
        replace LL := hide ((unhide LL).on hb)
        clear hb
        go_wp2_with (first | go_skip | ((first | ((with_reducible apply load27); (case ho => rfl); (case hw => rfl); (case hx => rfl)) | ((with_reducible apply load24v); (case ho => rfl); (case hw => rfl); (case hx => rfl)) | ((with_reducible apply load24g); (case ho => rfl); (case hw => rfl); (case hx => rfl)) | ((with_reducible apply load24s); (case ho => rfl); (case hw => rfl); (case hx => rfl)) | ((with_reducible apply load25w); (case ho => rfl); (case hw => rfl); (case hx => rfl)) | ((with_reducible apply load25e); (case ho => rfl); (case hw => rfl); (case hx => rfl)) | ((with_reducible apply load25c); (case ho => rfl); (case hw => rfl); (case hx => rfl))); (case hc => first | exact (unhide LL).get 0 rfl | exact (unhide LL).get 1 rfl); simp only [Act.put, List.setIfInBounds_toArray, List.set_cons_succ, List.set_cons_zero]))
        go_ret2
        exact ⟨rfl, (unhide LL).below⟩
    · go_wp2_with (first | go_skip | ((first | ((with_reducible apply load27); (case ho => rfl); (case hw => rfl); (case hx => rfl)) | ((with_reducible apply load24v); (case ho => rfl); (case hw => rfl); (case hx => rfl)) | ((with_reducible apply load24g); (case ho => rfl); (case hw => rfl); (case hx => rfl)) | ((with_reducible apply load24s); (case ho => rfl); (case hw => rfl); (case hx => rfl)) | ((with_reducible apply load25w); (case ho => rfl); (case hw => rfl); (case hx => rfl)) | ((with_reducible apply load25e); (case ho => rfl); (case hw => rfl); (case hx => rfl)) | ((with_reducible apply load25c); (case ho => rfl); (case hw => rfl); (case hx => rfl))); (case hc => first | exact (unhide LL).get 0 rfl | exact (unhide LL).get 1 rfl); simp only [Act.put, List.setIfInBounds_toArray, List.set_cons_succ, List.set_cons_zero]))
      refine (unhide HZA _).mono ?_
      rintro _ w45 ⟨rfl, hb⟩
      replace LL := hide ((unhide LL).on hb)
      clear hb
      go_wp2_with (first | go_skip | ((first | ((with_reducible apply load27); (case ho => rfl); (case hw => rfl); (case hx => rfl)) | ((with_reducible apply load24v); (case ho => rfl); (case hw => rfl); (case hx => rfl)) | ((with_reducible apply load24g); (case ho => rfl); (case hw => rfl); (case hx => rfl)) | ((with_reducible apply load24s); (case ho => rfl); (case hw => rfl); (case hx => rfl)) | ((with_reducible apply load25w); (case ho => rfl); (case hw => rfl); (case hx => rfl)) | ((with_reducible apply load25e); (case ho => rfl); (case hw => rfl); (case hx => rfl)) | ((with_reducible apply load25c); (case ho => rfl); (case hw => rfl); (case hx => rfl))); (case hc => first | exact (unhide LL).get 0 rfl | exact (unhide LL).get 1 rfl); simp only [Act.put, List.setIfInBounds_toArray, List.set_cons_succ, List.set_cons_zero]))
      go_ret2
      exact ⟨rfl, (unhide LL).below⟩
end Go.Proofs.YtcflglloopgieaaGreatDoor
