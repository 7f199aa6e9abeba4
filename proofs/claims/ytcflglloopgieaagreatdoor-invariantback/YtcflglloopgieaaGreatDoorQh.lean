import Derived.Test.YtcflglloopgieaaGreatDoorQg

/-! Eg -/
namespace Go.Proofs.YtcflglloopgieaaGreatDoor
open Go Go.Proofs Go.RowKit FM
set_option linter.unusedSimpArgs false
set_option linter.unusedVariables false
set_option maxHeartbeats 2000000 in
set_option maxRecDepth 100000 in
theorem keeps_any (a b : DD) (ha : FD a) (hb : FD b) (w : World) (hT : Lib.Utf8Tabs 1 2 w) : Calls Tryz.prog 74 #[a.agg, b.agg] w fun e w' => e = .returned (.tuple #[.bool (keepB a b), .int .i64 (keepE a b)]) ∧ Below w.heap.size w w' := by
  have HT := hide hT
  clear hT
  have HA := hide (fun w hT => stands_any a ha w hT)
  have HB := hide (fun w hT => stands_any b hb w hT)
  have HN := hide (nothing_any a ha)
  have HK := hide (fun w hT => kept_any a b ha hb w hT)
  clear ha hb
  have LL := hide (Lie.new2 w (.D a) (.D b))
  unfold keepB keepE
  generalize stV a = sa at *
  generalize stV b = sb at *
  generalize noV a = no at *
  generalize keptV a b = kt at *
  generalize hq : (a.c == 2) = q at *
  have hq0 : a.agg = .agg #[.int .i64 a.v.k, .bool a.v.b, .float .f64 a.v.x, .string a.v.s, .int .i64 a.v.i, .int .i64 a.g.k, .bool a.g.b, .float .f64 a.g.x, .string a.g.s, .int .i64 a.g.i, .int .i64 a.s.k, .bool a.s.b, .float .f64 a.s.x, .string a.s.s, .int .i64 a.s.i, .int .i64 a.w, .int .i64 a.e, .int .i64 a.c] := rfl
  have hq1 : b.agg = .agg #[.int .i64 b.v.k, .bool b.v.b, .float .f64 b.v.x, .string b.v.s, .int .i64 b.v.i, .int .i64 b.g.k, .bool b.g.b, .float .f64 b.g.x, .string b.g.s, .int .i64 b.g.i, .int .i64 b.s.k, .bool b.s.b, .float .f64 b.s.x, .string b.s.s, .int .i64 b.s.i, .int .i64 b.w, .int .i64 b.e, .int .i64 b.c] := rfl
  rw [hq0, hq1]
  clear hq0 hq1
  go_enter Tryz.func74, Tryz.ntmps74
  go_wp2_with (first | go_skip | ((first | ((with_reducible apply load27); (case ho => rfl); (case hw => rfl); (case hx => rfl)) | ((with_reducible apply load25c); (case ho => rfl); (case hw => rfl); (case hx => rfl))); (case hc => first | exact (unhide LL).one | exact (unhide LL).two); simp only [Act.put, List.setIfInBounds_toArray, List.set_cons_succ, List.set_cons_zero]))
  refine (unhide HA _ (tabs_below (unhide HT) (unhide LL).below)).mono ?_
  rintro _ w11 ⟨rfl, hb⟩
  replace LL := hide ((unhide LL).on hb)
  clear hb
  cases sa
  · go_wp2_with (first | go_skip | ((first | ((with_reducible apply load27); (case ho => rfl); (case hw => rfl); (case hx => rfl)) | ((with_reducible apply load25c); (case ho => rfl); (case hw => rfl); (case hx => rfl))); (case hc => first | exact (unhide LL).one | exact (unhide LL).two); simp only [Act.put, List.setIfInBounds_toArray, List.set_cons_succ, List.set_cons_zero]))
    go_ret2
    exact ⟨rfl, (unhide LL).below⟩
  · go_wp2_with (first | go_skip | ((first | ((with_reducible apply load27); (case ho => rfl); (case hw => rfl); (case hx => rfl)) | ((with_reducible apply load25c); (case ho => rfl); (case hw => rfl); (case hx => rfl))); (case hc => first | exact (unhide LL).one | exact (unhide LL).two); simp only [Act.put, List.setIfInBounds_toArray, List.set_cons_succ, List.set_cons_zero]))
    refine (unhide HB _ (tabs_below (unhide HT) (unhide LL).below)).mono ?_
    rintro _ w12 ⟨rfl, hb⟩
    replace LL := hide ((unhide LL).on hb)
    clear hb
    cases sb
    · go_wp2_with (first | go_skip | ((first | ((with_reducible apply load27); (case ho => rfl); (case hw => rfl); (case hx => rfl)) | ((with_reducible apply load25c); (case ho => rfl); (case hw => rfl); (case hx => rfl))); (case hc => first | exact (unhide LL).one | exact (unhide LL).two); simp only [Act.put, List.setIfInBounds_toArray, List.set_cons_succ, List.set_cons_zero]))
      go_ret2
      exact ⟨rfl, (unhide LL).below⟩
    · go_wp2_with (first | go_skip | ((first | ((with_reducible apply load27); (case ho => rfl); (case hw => rfl); (case hx => rfl)) | ((with_reducible apply load25c); (case ho => rfl); (case hw => rfl); (case hx => rfl))); (case hc => first | exact (unhide LL).one | exact (unhide LL).two); simp only [Act.put, List.setIfInBounds_toArray, List.set_cons_succ, List.set_cons_zero]))
      refine (unhide HN _).mono ?_
      rintro _ w13 ⟨rfl, hb⟩
      replace LL := hide ((unhide LL).on hb)
      clear hb
      cases no
      · cases q
        · go_wp2_with (first | go_skip | ((first | ((with_reducible apply load27); (case ho => rfl); (case hw => rfl); (case hx => rfl)) | ((with_reducible apply load25c); (case ho => rfl); (case hw => rfl); (case hx => rfl))); (case hc => first | exact (unhide LL).one | exact (unhide LL).two); simp only [Act.put, List.setIfInBounds_toArray, List.set_cons_succ, List.set_cons_zero]))
          refine (unhide HK _ (tabs_below (unhide HT) (unhide LL).below)).mono ?_
          rintro _ w14 ⟨rfl, hb⟩
          replace LL := hide ((unhide LL).on hb)
          clear hb
          go_wp2_with (first | go_skip | ((first | ((with_reducible apply load27); (case ho => rfl); (case hw => rfl); (case hx => rfl)) | ((with_reducible apply load25c); (case ho => rfl); (case hw => rfl); (case hx => rfl))); (case hc => first | exact (unhide LL).one | exact (unhide LL).two); simp only [Act.put, List.setIfInBounds_toArray, List.set_cons_succ, List.set_cons_zero]))
          go_ret2
          exact ⟨rfl, (unhide LL).below⟩
        · go_wp2_with (first | go_skip | ((first | ((with_reducible apply load27); (case ho => rfl); (case hw => rfl); (case hx => rfl)) | ((with_reducible apply load25c); (case ho => rfl); (case hw => rfl); (case hx => rfl))); (case hc => first | exact (unhide LL).one | exact (unhide LL).two); simp only [Act.put, List.setIfInBounds_toArray, List.set_cons_succ, List.set_cons_zero]))
          go_ret2
          exact ⟨rfl, (unhide LL).below⟩
      · go_wp2_with (first | go_skip | ((first | ((with_reducible apply load27); (case ho => rfl); (case hw => rfl); (case hx => rfl)) | ((with_reducible apply load25c); (case ho => rfl); (case hw => rfl); (case hx => rfl))); (case hc => first | exact (unhide LL).one | exact (unhide LL).two); simp only [Act.put, List.setIfInBounds_toArray, List.set_cons_succ, List.set_cons_zero]))
        go_ret2
        exact ⟨rfl, (unhide LL).below⟩
end Go.Proofs.YtcflglloopgieaaGreatDoor
