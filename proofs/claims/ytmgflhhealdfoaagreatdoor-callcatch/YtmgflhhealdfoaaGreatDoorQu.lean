import Derived.Test.YtmgflhhealdfoaaGreatDoorQt
set_option linter.all false
namespace Go.Proofs.YtmgflhhealdfoaaGreatDoor
section
open Go Go.Proofs Go.RowKit FM
/-- What Apply answers. -/
def appD (x : Bool) (n d : DD) : DD := if kindV d == 0 || !stV n then zeroD else if noV n then (if x then fillV d else zeroD) else if n.c == 1 && forbV n d then n else becV n d
def appB (x : Bool) (n d : DD) : Bool := if kindV d == 0 || !stV n then false else if noV n then x else !(n.c == 1 && forbV n d)
def appE (n d : DD) : Int := if kindV d == 0 || !stV n then 5 else 0
theorem no_str {n : DD} (h : noV n = true) : n.v.s.size ≤ 1048576 := by
  refine none_str ?_
  unfold noV shapeV at h
  cases ht : thV n.v
  · rfl
  · rw [ht] at h
    simp at h
    split at h <;> simp_all
theorem st_str {n : DD} (h : stV n = true) : n.v.s.size ≤ 1048576 := by
  unfold stV at h
  simp only [Bool.or_eq_true] at h
  rcases h with h | h
  · exact no_str h
  · exact sound_str (kind_sound (whole_kind h))
theorem bec_str {n d : DD} (h1 : n.v.s.size ≤ 1048576) (h2 : d.v.s.size ≤ 1048576) : (becV n d).v.s.size ≤ 1048576 := by
  unfold becV
  cases turnV n d
  · show (orV d.v n.v).s.size ≤ 1048576
    unfold orV
    cases thV d.v
    · exact h1
    · exact h2
  · exact fill_str h2
set_option maxHeartbeats 2000000 in
set_option maxRecDepth 100000 in
theorem apply_any (x : Bool) (n d : DD) (hn : FD n) (hd : FD d) (w : World) (hT : Lib.Utf8Tabs 1 2 w) : Calls Tryz.prog 127 #[.bool x, n.agg, d.agg] w fun e w' => e = .returned (.tuple #[(appD x n d).agg, .bool (appB x n d), .int .i64 (appE n d)]) ∧ Below w.heap.size w w' := by
  have HT := hide hT
  clear hT
  have HC := hide (fun w hT => check12D d hd w hT)
  have HSt := hide (fun w hT => stands_any n hn w hT)
  have HNo := hide (nothing_any n hn)
  have HFi := hide (filled_any d hd)
  have HFb := hide (fun w hT => forbidden_any n d hn hd w hT)
  have HBe := hide (become_any n d hn hd)
  have HAf := hide (fun (h : ¬ kindV d = 0) w => anew_any (fillV d) (fill_str (sound_str (kind_sound h))) w)
  have HAn := hide (fun (h : stV n = true) w => anew_any n (st_str h) w)
  have HAb := hide (fun (h : ¬ kindV d = 0) (h2 : stV n = true) w => anew_any (becV n d) (bec_str (st_str h2) (sound_str (kind_sound h))) w)
  clear hn hd
  have LL := hide (Lie.new3 w (.D n) (.D d) (.D zeroD))
  unfold appD appB appE
  unfold chkV at HC
  generalize kindV d = k at *
  generalize stV n = st at *
  generalize noV n = no at *
  generalize fillV d = fd at *
  generalize forbV n d = fb at *
  generalize becV n d = be at *
  generalize hq : (n.c == 1) = q at *
  have hq0 : n.agg = .agg #[.int .i64 n.v.k, .bool n.v.b, .float .f64 n.v.x, .string n.v.s, .int .i64 n.v.i, .int .i64 n.g.k, .bool n.g.b, .float .f64 n.g.x, .string n.g.s, .int .i64 n.g.i, .int .i64 n.s.k, .bool n.s.b, .float .f64 n.s.x, .string n.s.s, .int .i64 n.s.i, .int .i64 n.w, .int .i64 n.e, .int .i64 n.c] := rfl
  have hq1 : d.agg = .agg #[.int .i64 d.v.k, .bool d.v.b, .float .f64 d.v.x, .string d.v.s, .int .i64 d.v.i, .int .i64 d.g.k, .bool d.g.b, .float .f64 d.g.x, .string d.g.s, .int .i64 d.g.i, .int .i64 d.s.k, .bool d.s.b, .float .f64 d.s.x, .string d.s.s, .int .i64 d.s.i, .int .i64 d.w, .int .i64 d.e, .int .i64 d.c] := rfl
  rw [hq0, hq1]
  clear hq0 hq1
  by_cases hk : k = 0
  · clear HAf HAb HAn
    subst hk
    go_enter Tryz.func127, Tryz.ntmps127
    go_wp2_with (first | go_skip | ((with_reducible apply load27); (case ho => rfl); (case hw => rfl); (case hx => rfl); (case hc => first | exact (unhide LL).one | exact (unhide LL).two); simp only [Act.put, List.setIfInBounds_toArray, List.set_cons_succ, List.set_cons_zero]) | ((with_reducible apply store27 (u := zeroD) 2); (case ho => rfl); (case hw => rfl); (case hL => exact unhide LL); (case hi => rfl); (case hx => rfl); (case hy => rfl); (intro X LX; simp only [Act.put, List.setIfInBounds_toArray, List.set_cons_succ, List.set_cons_zero]; replace LL := hide LX; clear LX)))
    refine (unhide HC _ (tabs_below (unhide HT) (unhide LL).below)).mono ?_
    rintro _ w11 ⟨rfl, hb⟩
    replace LL := hide ((unhide LL).on hb)
    clear hb
    go_wp2_with (first | go_skip | ((with_reducible apply load27); (case ho => rfl); (case hw => rfl); (case hx => rfl); (case hc => first | exact (unhide LL).one | exact (unhide LL).two); simp only [Act.put, List.setIfInBounds_toArray, List.set_cons_succ, List.set_cons_zero]) | ((with_reducible apply store27 (u := zeroD) 2); (case ho => rfl); (case hw => rfl); (case hL => exact unhide LL); (case hi => rfl); (case hx => rfl); (case hy => rfl); (intro X LX; simp only [Act.put, List.setIfInBounds_toArray, List.set_cons_succ, List.set_cons_zero]; replace LL := hide LX; clear LX)))
    refine ret27_2 rfl rfl rfl rfl rfl (unhide LL).three ?_
    exact ⟨rfl, (unhide LL).below⟩
  · have e0 : (k == 0) = false := by simp [hk]
    simp only [e0] at HC ⊢
    replace HAf := hide (unhide HAf hk)
    replace HAb := hide (unhide HAb hk)
    clear hk e0
    cases st
    · clear HAn HAb
      go_enter Tryz.func127, Tryz.ntmps127
      go_wp2_with (first | go_skip | ((with_reducible apply load27); (case ho => rfl); (case hw => rfl); (case hx => rfl); (case hc => first | exact (unhide LL).one | exact (unhide LL).two); simp only [Act.put, List.setIfInBounds_toArray, List.set_cons_succ, List.set_cons_zero]) | ((with_reducible apply store27 (u := zeroD) 2); (case ho => rfl); (case hw => rfl); (case hL => exact unhide LL); (case hi => rfl); (case hx => rfl); (case hy => rfl); (intro X LX; simp only [Act.put, List.setIfInBounds_toArray, List.set_cons_succ, List.set_cons_zero]; replace LL := hide LX; clear LX)))
      refine (unhide HC _ (tabs_below (unhide HT) (unhide LL).below)).mono ?_
      rintro _ w12 ⟨rfl, hb⟩
      replace LL := hide ((unhide LL).on hb)
      clear hb
      go_wp2_with (first | go_skip | ((with_reducible apply load27); (case ho => rfl); (case hw => rfl); (case hx => rfl); (case hc => first | exact (unhide LL).one | exact (unhide LL).two); simp only [Act.put, List.setIfInBounds_toArray, List.set_cons_succ, List.set_cons_zero]) | ((with_reducible apply store27 (u := zeroD) 2); (case ho => rfl); (case hw => rfl); (case hL => exact unhide LL); (case hi => rfl); (case hx => rfl); (case hy => rfl); (intro X LX; simp only [Act.put, List.setIfInBounds_toArray, List.set_cons_succ, List.set_cons_zero]; replace LL := hide LX; clear LX)))
      refine (unhide HSt _ (tabs_below (unhide HT) (unhide LL).below)).mono ?_
      rintro _ w13 ⟨rfl, hb⟩
      replace LL := hide ((unhide LL).on hb)
      clear hb
      go_wp2_with (first | go_skip | ((with_reducible apply load27); (case ho => rfl); (case hw => rfl); (case hx => rfl); (case hc => first | exact (unhide LL).one | exact (unhide LL).two); simp only [Act.put, List.setIfInBounds_toArray, List.set_cons_succ, List.set_cons_zero]) | ((with_reducible apply store27 (u := zeroD) 2); (case ho => rfl); (case hw => rfl); (case hL => exact unhide LL); (case hi => rfl); (case hx => rfl); (case hy => rfl); (intro X LX; simp only [Act.put, List.setIfInBounds_toArray, List.set_cons_succ, List.set_cons_zero]; replace LL := hide LX; clear LX)))
      refine ret27_2 rfl rfl rfl rfl rfl (unhide LL).three ?_
      exact ⟨rfl, (unhide LL).below⟩
    · replace HAn := hide (unhide HAn rfl)
      replace HAb := hide (unhide HAb rfl)
      cases no
      · go_enter Tryz.func127, Tryz.ntmps127
        go_wp2_with (first | go_skip | ((with_reducible apply load27); (case ho => rfl); (case hw => rfl); (case hx => rfl); (case hc => first | exact (unhide LL).one | exact (unhide LL).two); simp only [Act.put, List.setIfInBounds_toArray, List.set_cons_succ, List.set_cons_zero]) | ((with_reducible apply load25c); (case ho => rfl); (case hw => rfl); (case hx => rfl); (case hc => first | exact (unhide LL).one | exact (unhide LL).two); simp only [Act.put, List.setIfInBounds_toArray, List.set_cons_succ, List.set_cons_zero]) | ((with_reducible apply store27 2); (case ho => rfl); (case hw => rfl); (case hL => exact unhide LL); (case hi => rfl); (case hx => rfl); (case hy => rfl); (intro X LX; simp only [Act.put, List.setIfInBounds_toArray, List.set_cons_succ, List.set_cons_zero]; replace LL := hide LX; clear LX)))
        refine (unhide HC _ (tabs_below (unhide HT) (unhide LL).below)).mono ?_
        rintro _ w17 ⟨rfl, hb⟩
        replace LL := hide ((unhide LL).on hb)
        clear hb
        go_wp2_with (first | go_skip | ((with_reducible apply load27); (case ho => rfl); (case hw => rfl); (case hx => rfl); (case hc => first | exact (unhide LL).one | exact (unhide LL).two); simp only [Act.put, List.setIfInBounds_toArray, List.set_cons_succ, List.set_cons_zero]) | ((with_reducible apply load25c); (case ho => rfl); (case hw => rfl); (case hx => rfl); (case hc => first | exact (unhide LL).one | exact (unhide LL).two); simp only [Act.put, List.setIfInBounds_toArray, List.set_cons_succ, List.set_cons_zero]) | ((with_reducible apply store27 2); (case ho => rfl); (case hw => rfl); (case hL => exact unhide LL); (case hi => rfl); (case hx => rfl); (case hy => rfl); (intro X LX; simp only [Act.put, List.setIfInBounds_toArray, List.set_cons_succ, List.set_cons_zero]; replace LL := hide LX; clear LX)))
        refine (unhide HSt _ (tabs_below (unhide HT) (unhide LL).below)).mono ?_
        rintro _ w18 ⟨rfl, hb⟩
        replace LL := hide ((unhide LL).on hb)
        clear hb
        go_wp2_with (first | go_skip | ((with_reducible apply load27); (case ho => rfl); (case hw => rfl); (case hx => rfl); (case hc => first | exact (unhide LL).one | exact (unhide LL).two); simp only [Act.put, List.setIfInBounds_toArray, List.set_cons_succ, List.set_cons_zero]) | ((with_reducible apply load25c); (case ho => rfl); (case hw => rfl); (case hx => rfl); (case hc => first | exact (unhide LL).one | exact (unhide LL).two); simp only [Act.put, List.setIfInBounds_toArray, List.set_cons_succ, List.set_cons_zero]) | ((with_reducible apply store27 2); (case ho => rfl); (case hw => rfl); (case hL => exact unhide LL); (case hi => rfl); (case hx => rfl); (case hy => rfl); (intro X LX; simp only [Act.put, List.setIfInBounds_toArray, List.set_cons_succ, List.set_cons_zero]; replace LL := hide LX; clear LX)))
        refine (unhide HNo _).mono ?_
        rintro _ w19 ⟨rfl, hb⟩
        replace LL := hide ((unhide LL).on hb)
        clear hb
        go_wp2_with (first | go_skip | ((with_reducible apply load27); (case ho => rfl); (case hw => rfl); (case hx => rfl); (case hc => first | exact (unhide LL).one | exact (unhide LL).two); simp only [Act.put, List.setIfInBounds_toArray, List.set_cons_succ, List.set_cons_zero]) | ((with_reducible apply load25c); (case ho => rfl); (case hw => rfl); (case hx => rfl); (case hc => first | exact (unhide LL).one | exact (unhide LL).two); simp only [Act.put, List.setIfInBounds_toArray, List.set_cons_succ, List.set_cons_zero]) | ((with_reducible apply store27 2); (case ho => rfl); (case hw => rfl); (case hL => exact unhide LL); (case hi => rfl); (case hx => rfl); (case hy => rfl); (intro X LX; simp only [Act.put, List.setIfInBounds_toArray, List.set_cons_succ, List.set_cons_zero]; replace LL := hide LX; clear LX)))
        refine (unhide HNo _).mono ?_
        rintro _ w20 ⟨rfl, hb⟩
        replace LL := hide ((unhide LL).on hb)
        clear hb
        cases q
        · go_wp2_with (first | go_skip | ((with_reducible apply load27); (case ho => rfl); (case hw => rfl); (case hx => rfl); (case hc => first | exact (unhide LL).one | exact (unhide LL).two); simp only [Act.put, List.setIfInBounds_toArray, List.set_cons_succ, List.set_cons_zero]) | ((with_reducible apply load25c); (case ho => rfl); (case hw => rfl); (case hx => rfl); (case hc => first | exact (unhide LL).one | exact (unhide LL).two); simp only [Act.put, List.setIfInBounds_toArray, List.set_cons_succ, List.set_cons_zero]) | ((with_reducible apply store27 2); (case ho => rfl); (case hw => rfl); (case hL => exact unhide LL); (case hi => rfl); (case hx => rfl); (case hy => rfl); (intro X LX; simp only [Act.put, List.setIfInBounds_toArray, List.set_cons_succ, List.set_cons_zero]; replace LL := hide LX; clear LX)))
          refine (unhide HBe _).mono ?_
          rintro _ w21 ⟨rfl, hb⟩
          replace LL := hide ((unhide LL).on hb)
          clear hb
          go_wp2_with (first | go_skip | ((with_reducible apply load27); (case ho => rfl); (case hw => rfl); (case hx => rfl); (case hc => first | exact (unhide LL).one | exact (unhide LL).two); simp only [Act.put, List.setIfInBounds_toArray, List.set_cons_succ, List.set_cons_zero]) | ((with_reducible apply load25c); (case ho => rfl); (case hw => rfl); (case hx => rfl); (case hc => first | exact (unhide LL).one | exact (unhide LL).two); simp only [Act.put, List.setIfInBounds_toArray, List.set_cons_succ, List.set_cons_zero]) | ((with_reducible apply store27 2); (case ho => rfl); (case hw => rfl); (case hL => exact unhide LL); (case hi => rfl); (case hx => rfl); (case hy => rfl); (intro X LX; simp only [Act.put, List.setIfInBounds_toArray, List.set_cons_succ, List.set_cons_zero]; replace LL := hide LX; clear LX)))
          refine (unhide HAb _).mono ?_
          rintro _ w22 ⟨rfl, hb⟩
          replace LL := hide ((unhide LL).on hb)
          clear hb
          go_wp2_with (first | go_skip | ((with_reducible apply load27); (case ho => rfl); (case hw => rfl); (case hx => rfl); (case hc => first | exact (unhide LL).one | exact (unhide LL).two); simp only [Act.put, List.setIfInBounds_toArray, List.set_cons_succ, List.set_cons_zero]) | ((with_reducible apply load25c); (case ho => rfl); (case hw => rfl); (case hx => rfl); (case hc => first | exact (unhide LL).one | exact (unhide LL).two); simp only [Act.put, List.setIfInBounds_toArray, List.set_cons_succ, List.set_cons_zero]) | ((with_reducible apply store27 2); (case ho => rfl); (case hw => rfl); (case hL => exact unhide LL); (case hi => rfl); (case hx => rfl); (case hy => rfl); (intro X LX; simp only [Act.put, List.setIfInBounds_toArray, List.set_cons_succ, List.set_cons_zero]; replace LL := hide LX; clear LX)))
          refine ret27_2 rfl rfl rfl rfl rfl (unhide LL).three ?_
          exact ⟨rfl, (unhide LL).below⟩
        · go_wp2_with (first | go_skip | ((with_reducible apply load27); (case ho => rfl); (case hw => rfl); (case hx => rfl); (case hc => first | exact (unhide LL).one | exact (unhide LL).two); simp only [Act.put, List.setIfInBounds_toArray, List.set_cons_succ, List.set_cons_zero]) | ((with_reducible apply load25c); (case ho => rfl); (case hw => rfl); (case hx => rfl); (case hc => first | exact (unhide LL).one | exact (unhide LL).two); simp only [Act.put, List.setIfInBounds_toArray, List.set_cons_succ, List.set_cons_zero]) | ((with_reducible apply store27 2); (case ho => rfl); (case hw => rfl); (case hL => exact unhide LL); (case hi => rfl); (case hx => rfl); (case hy => rfl); (intro X LX; simp only [Act.put, List.setIfInBounds_toArray, List.set_cons_succ, List.set_cons_zero]; replace LL := hide LX; clear LX)))
          refine (unhide HFb _ (tabs_below (unhide HT) (unhide LL).below)).mono ?_
          rintro _ w23 ⟨rfl, hb⟩
          replace LL := hide ((unhide LL).on hb)
          clear hb
          cases fb
          · go_wp2_with (first | go_skip | ((with_reducible apply load27); (case ho => rfl); (case hw => rfl); (case hx => rfl); (case hc => first | exact (unhide LL).one | exact (unhide LL).two); simp only [Act.put, List.setIfInBounds_toArray, List.set_cons_succ, List.set_cons_zero]) | ((with_reducible apply load25c); (case ho => rfl); (case hw => rfl); (case hx => rfl); (case hc => first | exact (unhide LL).one | exact (unhide LL).two); simp only [Act.put, List.setIfInBounds_toArray, List.set_cons_succ, List.set_cons_zero]) | ((with_reducible apply store27 2); (case ho => rfl); (case hw => rfl); (case hL => exact unhide LL); (case hi => rfl); (case hx => rfl); (case hy => rfl); (intro X LX; simp only [Act.put, List.setIfInBounds_toArray, List.set_cons_succ, List.set_cons_zero]; replace LL := hide LX; clear LX)))
            refine (unhide HBe _).mono ?_
            rintro _ w24 ⟨rfl, hb⟩
            replace LL := hide ((unhide LL).on hb)
            clear hb
            go_wp2_with (first | go_skip | ((with_reducible apply load27); (case ho => rfl); (case hw => rfl); (case hx => rfl); (case hc => first | exact (unhide LL).one | exact (unhide LL).two); simp only [Act.put, List.setIfInBounds_toArray, List.set_cons_succ, List.set_cons_zero]) | ((with_reducible apply load25c); (case ho => rfl); (case hw => rfl); (case hx => rfl); (case hc => first | exact (unhide LL).one | exact (unhide LL).two); simp only [Act.put, List.setIfInBounds_toArray, List.set_cons_succ, List.set_cons_zero]) | ((with_reducible apply store27 2); (case ho => rfl); (case hw => rfl); (case hL => exact unhide LL); (case hi => rfl); (case hx => rfl); (case hy => rfl); (intro X LX; simp only [Act.put, List.setIfInBounds_toArray, List.set_cons_succ, List.set_cons_zero]; replace LL := hide LX; clear LX)))
            refine (unhide HAb _).mono ?_
            rintro _ w25 ⟨rfl, hb⟩
            replace LL := hide ((unhide LL).on hb)
            clear hb
            go_wp2_with (first | go_skip | ((with_reducible apply load27); (case ho => rfl); (case hw => rfl); (case hx => rfl); (case hc => first | exact (unhide LL).one | exact (unhide LL).two); simp only [Act.put, List.setIfInBounds_toArray, List.set_cons_succ, List.set_cons_zero]) | ((with_reducible apply load25c); (case ho => rfl); (case hw => rfl); (case hx => rfl); (case hc => first | exact (unhide LL).one | exact (unhide LL).two); simp only [Act.put, List.setIfInBounds_toArray, List.set_cons_succ, List.set_cons_zero]) | ((with_reducible apply store27 2); (case ho => rfl); (case hw => rfl); (case hL => exact unhide LL); (case hi => rfl); (case hx => rfl); (case hy => rfl); (intro X LX; simp only [Act.put, List.setIfInBounds_toArray, List.set_cons_succ, List.set_cons_zero]; replace LL := hide LX; clear LX)))
            refine ret27_2 rfl rfl rfl rfl rfl (unhide LL).three ?_
            exact ⟨rfl, (unhide LL).below⟩
          · go_wp2_with (first | go_skip | ((with_reducible apply load27); (case ho => rfl); (case hw => rfl); (case hx => rfl); (case hc => first | exact (unhide LL).one | exact (unhide LL).two); simp only [Act.put, List.setIfInBounds_toArray, List.set_cons_succ, List.set_cons_zero]) | ((with_reducible apply load25c); (case ho => rfl); (case hw => rfl); (case hx => rfl); (case hc => first | exact (unhide LL).one | exact (unhide LL).two); simp only [Act.put, List.setIfInBounds_toArray, List.set_cons_succ, List.set_cons_zero]) | ((with_reducible apply store27 2); (case ho => rfl); (case hw => rfl); (case hL => exact unhide LL); (case hi => rfl); (case hx => rfl); (case hy => rfl); (intro X LX; simp only [Act.put, List.setIfInBounds_toArray, List.set_cons_succ, List.set_cons_zero]; replace LL := hide LX; clear LX)))
            refine (unhide HAn _).mono ?_
            rintro _ w26 ⟨rfl, hb⟩
            replace LL := hide ((unhide LL).on hb)
            clear hb
            go_wp2_with (first | go_skip | ((with_reducible apply load27); (case ho => rfl); (case hw => rfl); (case hx => rfl); (case hc => first | exact (unhide LL).one | exact (unhide LL).two); simp only [Act.put, List.setIfInBounds_toArray, List.set_cons_succ, List.set_cons_zero]) | ((with_reducible apply load25c); (case ho => rfl); (case hw => rfl); (case hx => rfl); (case hc => first | exact (unhide LL).one | exact (unhide LL).two); simp only [Act.put, List.setIfInBounds_toArray, List.set_cons_succ, List.set_cons_zero]) | ((with_reducible apply store27 2); (case ho => rfl); (case hw => rfl); (case hL => exact unhide LL); (case hi => rfl); (case hx => rfl); (case hy => rfl); (intro X LX; simp only [Act.put, List.setIfInBounds_toArray, List.set_cons_succ, List.set_cons_zero]; replace LL := hide LX; clear LX)))
            refine ret27_2 rfl rfl rfl rfl rfl (unhide LL).three ?_
            exact ⟨rfl, (unhide LL).below⟩
      · cases x
        · go_enter Tryz.func127, Tryz.ntmps127
          go_wp2_with (first | go_skip | ((with_reducible apply load27); (case ho => rfl); (case hw => rfl); (case hx => rfl); (case hc => first | exact (unhide LL).one | exact (unhide LL).two); simp only [Act.put, List.setIfInBounds_toArray, List.set_cons_succ, List.set_cons_zero]) | ((with_reducible apply store27 (u := zeroD) 2); (case ho => rfl); (case hw => rfl); (case hL => exact unhide LL); (case hi => rfl); (case hx => rfl); (case hy => rfl); (intro X LX; simp only [Act.put, List.setIfInBounds_toArray, List.set_cons_succ, List.set_cons_zero]; replace LL := hide LX; clear LX)))
          refine (unhide HC _ (tabs_below (unhide HT) (unhide LL).below)).mono ?_
          rintro _ w14 ⟨rfl, hb⟩
          replace LL := hide ((unhide LL).on hb)
          clear hb
          go_wp2_with (first | go_skip | ((with_reducible apply load27); (case ho => rfl); (case hw => rfl); (case hx => rfl); (case hc => first | exact (unhide LL).one | exact (unhide LL).two); simp only [Act.put, List.setIfInBounds_toArray, List.set_cons_succ, List.set_cons_zero]) | ((with_reducible apply store27 (u := zeroD) 2); (case ho => rfl); (case hw => rfl); (case hL => exact unhide LL); (case hi => rfl); (case hx => rfl); (case hy => rfl); (intro X LX; simp only [Act.put, List.setIfInBounds_toArray, List.set_cons_succ, List.set_cons_zero]; replace LL := hide LX; clear LX)))
          refine (unhide HSt _ (tabs_below (unhide HT) (unhide LL).below)).mono ?_
          rintro _ w15 ⟨rfl, hb⟩
          replace LL := hide ((unhide LL).on hb)
          clear hb
          go_wp2_with (first | go_skip | ((with_reducible apply load27); (case ho => rfl); (case hw => rfl); (case hx => rfl); (case hc => first | exact (unhide LL).one | exact (unhide LL).two); simp only [Act.put, List.setIfInBounds_toArray, List.set_cons_succ, List.set_cons_zero]) | ((with_reducible apply store27 (u := zeroD) 2); (case ho => rfl); (case hw => rfl); (case hL => exact unhide LL); (case hi => rfl); (case hx => rfl); (case hy => rfl); (intro X LX; simp only [Act.put, List.setIfInBounds_toArray, List.set_cons_succ, List.set_cons_zero]; replace LL := hide LX; clear LX)))
          refine (unhide HNo _).mono ?_
          rintro _ w16 ⟨rfl, hb⟩
          replace LL := hide ((unhide LL).on hb)
          clear hb
          go_wp2_with (first | go_skip | ((with_reducible apply load27); (case ho => rfl); (case hw => rfl); (case hx => rfl); (case hc => first | exact (unhide LL).one | exact (unhide LL).two); simp only [Act.put, List.setIfInBounds_toArray, List.set_cons_succ, List.set_cons_zero]) | ((with_reducible apply store27 (u := zeroD) 2); (case ho => rfl); (case hw => rfl); (case hL => exact unhide LL); (case hi => rfl); (case hx => rfl); (case hy => rfl); (intro X LX; simp only [Act.put, List.setIfInBounds_toArray, List.set_cons_succ, List.set_cons_zero]; replace LL := hide LX; clear LX)))
          refine ret27_2 rfl rfl rfl rfl rfl (unhide LL).three ?_
          exact ⟨rfl, (unhide LL).below⟩
        · go_enter Tryz.func127, Tryz.ntmps127
          go_wp2_with (first | go_skip | ((with_reducible apply load27); (case ho => rfl); (case hw => rfl); (case hx => rfl); (case hc => first | exact (unhide LL).one | exact (unhide LL).two); simp only [Act.put, List.setIfInBounds_toArray, List.set_cons_succ, List.set_cons_zero]) | ((with_reducible apply load25c); (case ho => rfl); (case hw => rfl); (case hx => rfl); (case hc => first | exact (unhide LL).one | exact (unhide LL).two); simp only [Act.put, List.setIfInBounds_toArray, List.set_cons_succ, List.set_cons_zero]) | ((with_reducible apply store27 2); (case ho => rfl); (case hw => rfl); (case hL => exact unhide LL); (case hi => rfl); (case hx => rfl); (case hy => rfl); (intro X LX; simp only [Act.put, List.setIfInBounds_toArray, List.set_cons_succ, List.set_cons_zero]; replace LL := hide LX; clear LX)))
          refine (unhide HC _ (tabs_below (unhide HT) (unhide LL).below)).mono ?_
          rintro _ w11 ⟨rfl, hb⟩
          replace LL := hide ((unhide LL).on hb)
          clear hb
          go_wp2_with (first | go_skip | ((with_reducible apply load27); (case ho => rfl); (case hw => rfl); (case hx => rfl); (case hc => first | exact (unhide LL).one | exact (unhide LL).two); simp only [Act.put, List.setIfInBounds_toArray, List.set_cons_succ, List.set_cons_zero]) | ((with_reducible apply load25c); (case ho => rfl); (case hw => rfl); (case hx => rfl); (case hc => first | exact (unhide LL).one | exact (unhide LL).two); simp only [Act.put, List.setIfInBounds_toArray, List.set_cons_succ, List.set_cons_zero]) | ((with_reducible apply store27 2); (case ho => rfl); (case hw => rfl); (case hL => exact unhide LL); (case hi => rfl); (case hx => rfl); (case hy => rfl); (intro X LX; simp only [Act.put, List.setIfInBounds_toArray, List.set_cons_succ, List.set_cons_zero]; replace LL := hide LX; clear LX)))
          refine (unhide HSt _ (tabs_below (unhide HT) (unhide LL).below)).mono ?_
          rintro _ w12 ⟨rfl, hb⟩
          replace LL := hide ((unhide LL).on hb)
          clear hb
          go_wp2_with (first | go_skip | ((with_reducible apply load27); (case ho => rfl); (case hw => rfl); (case hx => rfl); (case hc => first | exact (unhide LL).one | exact (unhide LL).two); simp only [Act.put, List.setIfInBounds_toArray, List.set_cons_succ, List.set_cons_zero]) | ((with_reducible apply load25c); (case ho => rfl); (case hw => rfl); (case hx => rfl); (case hc => first | exact (unhide LL).one | exact (unhide LL).two); simp only [Act.put, List.setIfInBounds_toArray, List.set_cons_succ, List.set_cons_zero]) | ((with_reducible apply store27 2); (case ho => rfl); (case hw => rfl); (case hL => exact unhide LL); (case hi => rfl); (case hx => rfl); (case hy => rfl); (intro X LX; simp only [Act.put, List.setIfInBounds_toArray, List.set_cons_succ, List.set_cons_zero]; replace LL := hide LX; clear LX)))
          refine (unhide HNo _).mono ?_
          rintro _ w13 ⟨rfl, hb⟩
          replace LL := hide ((unhide LL).on hb)
          clear hb
          go_wp2_with (first | go_skip | ((with_reducible apply load27); (case ho => rfl); (case hw => rfl); (case hx => rfl); (case hc => first | exact (unhide LL).one | exact (unhide LL).two); simp only [Act.put, List.setIfInBounds_toArray, List.set_cons_succ, List.set_cons_zero]) | ((with_reducible apply load25c); (case ho => rfl); (case hw => rfl); (case hx => rfl); (case hc => first | exact (unhide LL).one | exact (unhide LL).two); simp only [Act.put, List.setIfInBounds_toArray, List.set_cons_succ, List.set_cons_zero]) | ((with_reducible apply store27 2); (case ho => rfl); (case hw => rfl); (case hL => exact unhide LL); (case hi => rfl); (case hx => rfl); (case hy => rfl); (intro X LX; simp only [Act.put, List.setIfInBounds_toArray, List.set_cons_succ, List.set_cons_zero]; replace LL := hide LX; clear LX)))
          refine (unhide HNo _).mono ?_
          rintro _ w14 ⟨rfl, hb⟩
          replace LL := hide ((unhide LL).on hb)
          clear hb
          go_wp2_with (first | go_skip | ((with_reducible apply load27); (case ho => rfl); (case hw => rfl); (case hx => rfl); (case hc => first | exact (unhide LL).one | exact (unhide LL).two); simp only [Act.put, List.setIfInBounds_toArray, List.set_cons_succ, List.set_cons_zero]) | ((with_reducible apply load25c); (case ho => rfl); (case hw => rfl); (case hx => rfl); (case hc => first | exact (unhide LL).one | exact (unhide LL).two); simp only [Act.put, List.setIfInBounds_toArray, List.set_cons_succ, List.set_cons_zero]) | ((with_reducible apply store27 2); (case ho => rfl); (case hw => rfl); (case hL => exact unhide LL); (case hi => rfl); (case hx => rfl); (case hy => rfl); (intro X LX; simp only [Act.put, List.setIfInBounds_toArray, List.set_cons_succ, List.set_cons_zero]; replace LL := hide LX; clear LX)))
          refine (unhide HFi _).mono ?_
          rintro _ w15 ⟨rfl, hb⟩
          replace LL := hide ((unhide LL).on hb)
          clear hb
          go_wp2_with (first | go_skip | ((with_reducible apply load27); (case ho => rfl); (case hw => rfl); (case hx => rfl); (case hc => first | exact (unhide LL).one | exact (unhide LL).two); simp only [Act.put, List.setIfInBounds_toArray, List.set_cons_succ, List.set_cons_zero]) | ((with_reducible apply load25c); (case ho => rfl); (case hw => rfl); (case hx => rfl); (case hc => first | exact (unhide LL).one | exact (unhide LL).two); simp only [Act.put, List.setIfInBounds_toArray, List.set_cons_succ, List.set_cons_zero]) | ((with_reducible apply store27 2); (case ho => rfl); (case hw => rfl); (case hL => exact unhide LL); (case hi => rfl); (case hx => rfl); (case hy => rfl); (intro X LX; simp only [Act.put, List.setIfInBounds_toArray, List.set_cons_succ, List.set_cons_zero]; replace LL := hide LX; clear LX)))
          refine (unhide HAf _).mono ?_
          rintro _ w16 ⟨rfl, hb⟩
          replace LL := hide ((unhide LL).on hb)
          clear hb
          go_wp2_with (first | go_skip | ((with_reducible apply load27); (case ho => rfl); (case hw => rfl); (case hx => rfl); (case hc => first | exact (unhide LL).one | exact (unhide LL).two); simp only [Act.put, List.setIfInBounds_toArray, List.set_cons_succ, List.set_cons_zero]) | ((with_reducible apply load25c); (case ho => rfl); (case hw => rfl); (case hx => rfl); (case hc => first | exact (unhide LL).one | exact (unhide LL).two); simp only [Act.put, List.setIfInBounds_toArray, List.set_cons_succ, List.set_cons_zero]) | ((with_reducible apply store27 2); (case ho => rfl); (case hw => rfl); (case hL => exact unhide LL); (case hi => rfl); (case hx => rfl); (case hy => rfl); (intro X LX; simp only [Act.put, List.setIfInBounds_toArray, List.set_cons_succ, List.set_cons_zero]; replace LL := hide LX; clear LX)))
          refine ret27_2 rfl rfl rfl rfl rfl (unhide LL).three ?_
          exact ⟨rfl, (unhide LL).below⟩
