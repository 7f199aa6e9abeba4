import Derived.Test.YtedgaaaloigpdaaDoorEi
import Derived.Test.YtedgaaaloigpdaaDoorEg
import Derived.Test.YtedgaaaloigpdaaDoorEy
namespace Go.Proofs.YtedgaaaloigpdaaDoor
open Go Go.Proofs Go.RowKit FM
set_option linter.unusedSimpArgs false
set_option linter.unusedVariables false
def rappD (x : Bool) (n d : DD) : DD := if !rgoodV d || !rstV n then zeroD else if rzeroV n then (if x then rfillV d else n) else if n.c == 1 && rfbV n d then n else rbecV n d
def rappB (x : Bool) (n d : DD) : Bool := if !rgoodV d || !rstV n then false else if rzeroV n then x else !(n.c == 1 && rfbV n d)
def rappE (n d : DD) : Int := if !rgoodV d || !rstV n then 5 else 0
set_option maxHeartbeats 2000000 in
set_option maxRecDepth 100000 in
theorem refApply (x : Bool) (n d : DD) (hn : FD n) (hd : FD d) (w : World) : Calls Tryd.prog 24 #[.bool x, n.agg, d.agg] w fun e w' => e = .returned (.tuple #[(rappD x n d).agg, .bool (rappB x n d), .int .i64 (rappE n d)]) ∧ Below w.heap.size w w' := by
  have HG := hide (refGoodD d hd)
  have HZ := hide (refZero n hn)
  have HW := hide (refWhole n hn)
  have HFi := hide (refFilled d hd)
  have HFb := hide (refused_any n d hn hd)
  have HBe := hide (refBecome n d hn hd)
  clear hn hd
  have LL := hide (Lie.new3 w (.D n) (.D d) (.D zeroD))
  unfold rappD rappB rappE rstV
  generalize rgoodV d = gd at *
  generalize rzeroV n = zn at *
  generalize rwhoV n = wn at *
  generalize rfillV d = fd at *
  generalize rfbV n d = fb at *
  generalize rbecV n d = be at *
  generalize hq : (n.c == 1) = q at *
  have hq0 : n.agg = .agg #[.int .i64 n.v.k, .bool n.v.b, .float .f64 n.v.x, .string n.v.s, .int .i64 n.v.i, .int .i64 n.g.k, .bool n.g.b, .float .f64 n.g.x, .string n.g.s, .int .i64 n.g.i, .int .i64 n.s.k, .bool n.s.b, .float .f64 n.s.x, .string n.s.s, .int .i64 n.s.i, .int .i64 n.w, .int .i64 n.e, .int .i64 n.c] := rfl
  have hq1 : d.agg = .agg #[.int .i64 d.v.k, .bool d.v.b, .float .f64 d.v.x, .string d.v.s, .int .i64 d.v.i, .int .i64 d.g.k, .bool d.g.b, .float .f64 d.g.x, .string d.g.s, .int .i64 d.g.i, .int .i64 d.s.k, .bool d.s.b, .float .f64 d.s.x, .string d.s.s, .int .i64 d.s.i, .int .i64 d.w, .int .i64 d.e, .int .i64 d.c] := rfl
  rw [hq0, hq1]
  clear hq0 hq1
  cases gd
  · go_enter Tryd.func24, Tryd.ntmps24
    go_wp2_with (first | go_skip | ((with_reducible apply load27); (case ho => rfl); (case hw => rfl); (case hx => rfl); (case hc => first | exact (unhide LL).one | exact (unhide LL).two); simp only [Act.put, List.setIfInBounds_toArray, List.set_cons_succ, List.set_cons_zero]) | ((with_reducible apply store27 (u := zeroD) 2); (case ho => rfl); (case hw => rfl); (case hL => exact unhide LL); (case hi => rfl); (case hx => rfl); (case hy => rfl); (intro X LX; simp only [Act.put, List.setIfInBounds_toArray, List.set_cons_succ, List.set_cons_zero]; replace LL := hide LX; clear LX)))
    refine (unhide HG _).mono ?_
    rintro _ w11 ⟨rfl, hb⟩
    replace LL := hide ((unhide LL).on hb)
    clear hb
    go_wp2_with (first | go_skip | ((with_reducible apply load27); (case ho => rfl); (case hw => rfl); (case hx => rfl); (case hc => first | exact (unhide LL).one | exact (unhide LL).two); simp only [Act.put, List.setIfInBounds_toArray, List.set_cons_succ, List.set_cons_zero]) | ((with_reducible apply store27 (u := zeroD) 2); (case ho => rfl); (case hw => rfl); (case hL => exact unhide LL); (case hi => rfl); (case hx => rfl); (case hy => rfl); (intro X LX; simp only [Act.put, List.setIfInBounds_toArray, List.set_cons_succ, List.set_cons_zero]; replace LL := hide LX; clear LX)))
    refine ret27_2 rfl rfl rfl rfl rfl (unhide LL).three ?_
    exact ⟨rfl, (unhide LL).below⟩
  · cases zn
    · cases wn
      · go_enter Tryd.func24, Tryd.ntmps24
        go_wp2_with (first | go_skip | ((with_reducible apply load27); (case ho => rfl); (case hw => rfl); (case hx => rfl); (case hc => first | exact (unhide LL).one | exact (unhide LL).two); simp only [Act.put, List.setIfInBounds_toArray, List.set_cons_succ, List.set_cons_zero]) | ((with_reducible apply store27 (u := zeroD) 2); (case ho => rfl); (case hw => rfl); (case hL => exact unhide LL); (case hi => rfl); (case hx => rfl); (case hy => rfl); (intro X LX; simp only [Act.put, List.setIfInBounds_toArray, List.set_cons_succ, List.set_cons_zero]; replace LL := hide LX; clear LX)))
        refine (unhide HG _).mono ?_
        rintro _ w12 ⟨rfl, hb⟩
        replace LL := hide ((unhide LL).on hb)
        clear hb
        go_wp2_with (first | go_skip | ((with_reducible apply load27); (case ho => rfl); (case hw => rfl); (case hx => rfl); (case hc => first | exact (unhide LL).one | exact (unhide LL).two); simp only [Act.put, List.setIfInBounds_toArray, List.set_cons_succ, List.set_cons_zero]) | ((with_reducible apply store27 (u := zeroD) 2); (case ho => rfl); (case hw => rfl); (case hL => exact unhide LL); (case hi => rfl); (case hx => rfl); (case hy => rfl); (intro X LX; simp only [Act.put, List.setIfInBounds_toArray, List.set_cons_succ, List.set_cons_zero]; replace LL := hide LX; clear LX)))
        refine (unhide HZ _).mono ?_
        rintro _ w13 ⟨rfl, hb⟩
        replace LL := hide ((unhide LL).on hb)
        clear hb
        go_wp2_with (first | go_skip | ((with_reducible apply load27); (case ho => rfl); (case hw => rfl); (case hx => rfl); (case hc => first | exact (unhide LL).one | exact (unhide LL).two); simp only [Act.put, List.setIfInBounds_toArray, List.set_cons_succ, List.set_cons_zero]) | ((with_reducible apply store27 (u := zeroD) 2); (case ho => rfl); (case hw => rfl); (case hL => exact unhide LL); (case hi => rfl); (case hx => rfl); (case hy => rfl); (intro X LX; simp only [Act.put, List.setIfInBounds_toArray, List.set_cons_succ, List.set_cons_zero]; replace LL := hide LX; clear LX)))
        refine (unhide HW _).mono ?_
        rintro _ w14 ⟨rfl, hb⟩
        replace LL := hide ((unhide LL).on hb)
        clear hb
        go_wp2_with (first | go_skip | ((with_reducible apply load27); (case ho => rfl); (case hw => rfl); (case hx => rfl); (case hc => first | exact (unhide LL).one | exact (unhide LL).two); simp only [Act.put, List.setIfInBounds_toArray, List.set_cons_succ, List.set_cons_zero]) | ((with_reducible apply store27 (u := zeroD) 2); (case ho => rfl); (case hw => rfl); (case hL => exact unhide LL); (case hi => rfl); (case hx => rfl); (case hy => rfl); (intro X LX; simp only [Act.put, List.setIfInBounds_toArray, List.set_cons_succ, List.set_cons_zero]; replace LL := hide LX; clear LX)))
        refine ret27_2 rfl rfl rfl rfl rfl (unhide LL).three ?_
        exact ⟨rfl, (unhide LL).below⟩
      · go_enter Tryd.func24, Tryd.ntmps24
        go_wp2_with (first | go_skip | ((with_reducible apply load27); (case ho => rfl); (case hw => rfl); (case hx => rfl); (case hc => first | exact (unhide LL).one | exact (unhide LL).two); simp only [Act.put, List.setIfInBounds_toArray, List.set_cons_succ, List.set_cons_zero]) | ((with_reducible apply load25c); (case ho => rfl); (case hw => rfl); (case hx => rfl); (case hc => first | exact (unhide LL).one | exact (unhide LL).two); simp only [Act.put, List.setIfInBounds_toArray, List.set_cons_succ, List.set_cons_zero]) | ((with_reducible apply store27 2); (case ho => rfl); (case hw => rfl); (case hL => exact unhide LL); (case hi => rfl); (case hx => rfl); (case hy => rfl); (intro X LX; simp only [Act.put, List.setIfInBounds_toArray, List.set_cons_succ, List.set_cons_zero]; replace LL := hide LX; clear LX)))
        refine (unhide HG _).mono ?_
        rintro _ w11 ⟨rfl, hb⟩
        replace LL := hide ((unhide LL).on hb)
        clear hb
        go_wp2_with (first | go_skip | ((with_reducible apply load27); (case ho => rfl); (case hw => rfl); (case hx => rfl); (case hc => first | exact (unhide LL).one | exact (unhide LL).two); simp only [Act.put, List.setIfInBounds_toArray, List.set_cons_succ, List.set_cons_zero]) | ((with_reducible apply load25c); (case ho => rfl); (case hw => rfl); (case hx => rfl); (case hc => first | exact (unhide LL).one | exact (unhide LL).two); simp only [Act.put, List.setIfInBounds_toArray, List.set_cons_succ, List.set_cons_zero]) | ((with_reducible apply store27 2); (case ho => rfl); (case hw => rfl); (case hL => exact unhide LL); (case hi => rfl); (case hx => rfl); (case hy => rfl); (intro X LX; simp only [Act.put, List.setIfInBounds_toArray, List.set_cons_succ, List.set_cons_zero]; replace LL := hide LX; clear LX)))
        refine (unhide HZ _).mono ?_
        rintro _ w12 ⟨rfl, hb⟩
        replace LL := hide ((unhide LL).on hb)
        clear hb
        go_wp2_with (first | go_skip | ((with_reducible apply load27); (case ho => rfl); (case hw => rfl); (case hx => rfl); (case hc => first | exact (unhide LL).one | exact (unhide LL).two); simp only [Act.put, List.setIfInBounds_toArray, List.set_cons_succ, List.set_cons_zero]) | ((with_reducible apply load25c); (case ho => rfl); (case hw => rfl); (case hx => rfl); (case hc => first | exact (unhide LL).one | exact (unhide LL).two); simp only [Act.put, List.setIfInBounds_toArray, List.set_cons_succ, List.set_cons_zero]) | ((with_reducible apply store27 2); (case ho => rfl); (case hw => rfl); (case hL => exact unhide LL); (case hi => rfl); (case hx => rfl); (case hy => rfl); (intro X LX; simp only [Act.put, List.setIfInBounds_toArray, List.set_cons_succ, List.set_cons_zero]; replace LL := hide LX; clear LX)))
        refine (unhide HW _).mono ?_
        rintro _ w13 ⟨rfl, hb⟩
        replace LL := hide ((unhide LL).on hb)
        clear hb
        go_wp2_with (first | go_skip | ((with_reducible apply load27); (case ho => rfl); (case hw => rfl); (case hx => rfl); (case hc => first | exact (unhide LL).one | exact (unhide LL).two); simp only [Act.put, List.setIfInBounds_toArray, List.set_cons_succ, List.set_cons_zero]) | ((with_reducible apply load25c); (case ho => rfl); (case hw => rfl); (case hx => rfl); (case hc => first | exact (unhide LL).one | exact (unhide LL).two); simp only [Act.put, List.setIfInBounds_toArray, List.set_cons_succ, List.set_cons_zero]) | ((with_reducible apply store27 2); (case ho => rfl); (case hw => rfl); (case hL => exact unhide LL); (case hi => rfl); (case hx => rfl); (case hy => rfl); (intro X LX; simp only [Act.put, List.setIfInBounds_toArray, List.set_cons_succ, List.set_cons_zero]; replace LL := hide LX; clear LX)))
        refine (unhide HZ _).mono ?_
        rintro _ w14 ⟨rfl, hb⟩
        replace LL := hide ((unhide LL).on hb)
        clear hb
        cases q
        · go_wp2_with (first | go_skip | ((with_reducible apply load27); (case ho => rfl); (case hw => rfl); (case hx => rfl); (case hc => first | exact (unhide LL).one | exact (unhide LL).two); simp only [Act.put, List.setIfInBounds_toArray, List.set_cons_succ, List.set_cons_zero]) | ((with_reducible apply load25c); (case ho => rfl); (case hw => rfl); (case hx => rfl); (case hc => first | exact (unhide LL).one | exact (unhide LL).two); simp only [Act.put, List.setIfInBounds_toArray, List.set_cons_succ, List.set_cons_zero]) | ((with_reducible apply store27 2); (case ho => rfl); (case hw => rfl); (case hL => exact unhide LL); (case hi => rfl); (case hx => rfl); (case hy => rfl); (intro X LX; simp only [Act.put, List.setIfInBounds_toArray, List.set_cons_succ, List.set_cons_zero]; replace LL := hide LX; clear LX)))
          refine (unhide HBe _).mono ?_
          rintro _ w15 ⟨rfl, hb⟩
          replace LL := hide ((unhide LL).on hb)
          clear hb
          go_wp2_with (first | go_skip | ((with_reducible apply load27); (case ho => rfl); (case hw => rfl); (case hx => rfl); (case hc => first | exact (unhide LL).one | exact (unhide LL).two); simp only [Act.put, List.setIfInBounds_toArray, List.set_cons_succ, List.set_cons_zero]) | ((with_reducible apply load25c); (case ho => rfl); (case hw => rfl); (case hx => rfl); (case hc => first | exact (unhide LL).one | exact (unhide LL).two); simp only [Act.put, List.setIfInBounds_toArray, List.set_cons_succ, List.set_cons_zero]) | ((with_reducible apply store27 2); (case ho => rfl); (case hw => rfl); (case hL => exact unhide LL); (case hi => rfl); (case hx => rfl); (case hy => rfl); (intro X LX; simp only [Act.put, List.setIfInBounds_toArray, List.set_cons_succ, List.set_cons_zero]; replace LL := hide LX; clear LX)))
          refine ret27_2 rfl rfl rfl rfl rfl (unhide LL).three ?_
          exact ⟨rfl, (unhide LL).below⟩
        · go_wp2_with (first | go_skip | ((with_reducible apply load27); (case ho => rfl); (case hw => rfl); (case hx => rfl); (case hc => first | exact (unhide LL).one | exact (unhide LL).two); simp only [Act.put, List.setIfInBounds_toArray, List.set_cons_succ, List.set_cons_zero]) | ((with_reducible apply load25c); (case ho => rfl); (case hw => rfl); (case hx => rfl); (case hc => first | exact (unhide LL).one | exact (unhide LL).two); simp only [Act.put, List.setIfInBounds_toArray, List.set_cons_succ, List.set_cons_zero]) | ((with_reducible apply store27 2); (case ho => rfl); (case hw => rfl); (case hL => exact unhide LL); (case hi => rfl); (case hx => rfl); (case hy => rfl); (intro X LX; simp only [Act.put, List.setIfInBounds_toArray, List.set_cons_succ, List.set_cons_zero]; replace LL := hide LX; clear LX)))
          refine (unhide HFb _).mono ?_
          rintro _ w16 ⟨rfl, hb⟩
          replace LL := hide ((unhide LL).on hb)
          clear hb
          cases fb
          · go_wp2_with (first | go_skip | ((with_reducible apply load27); (case ho => rfl); (case hw => rfl); (case hx => rfl); (case hc => first | exact (unhide LL).one | exact (unhide LL).two); simp only [Act.put, List.setIfInBounds_toArray, List.set_cons_succ, List.set_cons_zero]) | ((with_reducible apply load25c); (case ho => rfl); (case hw => rfl); (case hx => rfl); (case hc => first | exact (unhide LL).one | exact (unhide LL).two); simp only [Act.put, List.setIfInBounds_toArray, List.set_cons_succ, List.set_cons_zero]) | ((with_reducible apply store27 2); (case ho => rfl); (case hw => rfl); (case hL => exact unhide LL); (case hi => rfl); (case hx => rfl); (case hy => rfl); (intro X LX; simp only [Act.put, List.setIfInBounds_toArray, List.set_cons_succ, List.set_cons_zero]; replace LL := hide LX; clear LX)))
            refine (unhide HBe _).mono ?_
            rintro _ w17 ⟨rfl, hb⟩
            replace LL := hide ((unhide LL).on hb)
            clear hb
            go_wp2_with (first | go_skip | ((with_reducible apply load27); (case ho => rfl); (case hw => rfl); (case hx => rfl); (case hc => first | exact (unhide LL).one | exact (unhide LL).two); simp only [Act.put, List.setIfInBounds_toArray, List.set_cons_succ, List.set_cons_zero]) | ((with_reducible apply load25c); (case ho => rfl); (case hw => rfl); (case hx => rfl); (case hc => first | exact (unhide LL).one | exact (unhide LL).two); simp only [Act.put, List.setIfInBounds_toArray, List.set_cons_succ, List.set_cons_zero]) | ((with_reducible apply store27 2); (case ho => rfl); (case hw => rfl); (case hL => exact unhide LL); (case hi => rfl); (case hx => rfl); (case hy => rfl); (intro X LX; simp only [Act.put, List.setIfInBounds_toArray, List.set_cons_succ, List.set_cons_zero]; replace LL := hide LX; clear LX)))
            refine ret27_2 rfl rfl rfl rfl rfl (unhide LL).three ?_
            exact ⟨rfl, (unhide LL).below⟩
          · go_wp2_with (first | go_skip | ((with_reducible apply load27); (case ho => rfl); (case hw => rfl); (case hx => rfl); (case hc => first | exact (unhide LL).one | exact (unhide LL).two); simp only [Act.put, List.setIfInBounds_toArray, List.set_cons_succ, List.set_cons_zero]) | ((with_reducible apply load25c); (case ho => rfl); (case hw => rfl); (case hx => rfl); (case hc => first | exact (unhide LL).one | exact (unhide LL).two); simp only [Act.put, List.setIfInBounds_toArray, List.set_cons_succ, List.set_cons_zero]) | ((with_reducible apply store27 2); (case ho => rfl); (case hw => rfl); (case hL => exact unhide LL); (case hi => rfl); (case hx => rfl); (case hy => rfl); (intro X LX; simp only [Act.put, List.setIfInBounds_toArray, List.set_cons_succ, List.set_cons_zero]; replace LL := hide LX; clear LX)))
            refine ret27_2 rfl rfl rfl rfl rfl (unhide LL).three ?_
            exact ⟨rfl, (unhide LL).below⟩
    · cases x
      · go_enter Tryd.func24, Tryd.ntmps24
        go_wp2_with (first | go_skip | ((with_reducible apply load27); (case ho => rfl); (case hw => rfl); (case hx => rfl); (case hc => first | exact (unhide LL).one | exact (unhide LL).two); simp only [Act.put, List.setIfInBounds_toArray, List.set_cons_succ, List.set_cons_zero]) | ((with_reducible apply load25c); (case ho => rfl); (case hw => rfl); (case hx => rfl); (case hc => first | exact (unhide LL).one | exact (unhide LL).two); simp only [Act.put, List.setIfInBounds_toArray, List.set_cons_succ, List.set_cons_zero]) | ((with_reducible apply store27 2); (case ho => rfl); (case hw => rfl); (case hL => exact unhide LL); (case hi => rfl); (case hx => rfl); (case hy => rfl); (intro X LX; simp only [Act.put, List.setIfInBounds_toArray, List.set_cons_succ, List.set_cons_zero]; replace LL := hide LX; clear LX)))
        refine (unhide HG _).mono ?_
        rintro _ w18 ⟨rfl, hb⟩
        replace LL := hide ((unhide LL).on hb)
        clear hb
        go_wp2_with (first | go_skip | ((with_reducible apply load27); (case ho => rfl); (case hw => rfl); (case hx => rfl); (case hc => first | exact (unhide LL).one | exact (unhide LL).two); simp only [Act.put, List.setIfInBounds_toArray, List.set_cons_succ, List.set_cons_zero]) | ((with_reducible apply load25c); (case ho => rfl); (case hw => rfl); (case hx => rfl); (case hc => first | exact (unhide LL).one | exact (unhide LL).two); simp only [Act.put, List.setIfInBounds_toArray, List.set_cons_succ, List.set_cons_zero]) | ((with_reducible apply store27 2); (case ho => rfl); (case hw => rfl); (case hL => exact unhide LL); (case hi => rfl); (case hx => rfl); (case hy => rfl); (intro X LX; simp only [Act.put, List.setIfInBounds_toArray, List.set_cons_succ, List.set_cons_zero]; replace LL := hide LX; clear LX)))
        refine (unhide HZ _).mono ?_
        rintro _ w19 ⟨rfl, hb⟩
        replace LL := hide ((unhide LL).on hb)
        clear hb
        go_wp2_with (first | go_skip | ((with_reducible apply load27); (case ho => rfl); (case hw => rfl); (case hx => rfl); (case hc => first | exact (unhide LL).one | exact (unhide LL).two); simp only [Act.put, List.setIfInBounds_toArray, List.set_cons_succ, List.set_cons_zero]) | ((with_reducible apply load25c); (case ho => rfl); (case hw => rfl); (case hx => rfl); (case hc => first | exact (unhide LL).one | exact (unhide LL).two); simp only [Act.put, List.setIfInBounds_toArray, List.set_cons_succ, List.set_cons_zero]) | ((with_reducible apply store27 2); (case ho => rfl); (case hw => rfl); (case hL => exact unhide LL); (case hi => rfl); (case hx => rfl); (case hy => rfl); (intro X LX; simp only [Act.put, List.setIfInBounds_toArray, List.set_cons_succ, List.set_cons_zero]; replace LL := hide LX; clear LX)))
        refine (unhide HZ _).mono ?_
        rintro _ w20 ⟨rfl, hb⟩
        replace LL := hide ((unhide LL).on hb)
        clear hb
        go_wp2_with (first | go_skip | ((with_reducible apply load27); (case ho => rfl); (case hw => rfl); (case hx => rfl); (case hc => first | exact (unhide LL).one | exact (unhide LL).two); simp only [Act.put, List.setIfInBounds_toArray, List.set_cons_succ, List.set_cons_zero]) | ((with_reducible apply load25c); (case ho => rfl); (case hw => rfl); (case hx => rfl); (case hc => first | exact (unhide LL).one | exact (unhide LL).two); simp only [Act.put, List.setIfInBounds_toArray, List.set_cons_succ, List.set_cons_zero]) | ((with_reducible apply store27 2); (case ho => rfl); (case hw => rfl); (case hL => exact unhide LL); (case hi => rfl); (case hx => rfl); (case hy => rfl); (intro X LX; simp only [Act.put, List.setIfInBounds_toArray, List.set_cons_succ, List.set_cons_zero]; replace LL := hide LX; clear LX)))
        refine ret27_2 rfl rfl rfl rfl rfl (unhide LL).three ?_
        exact ⟨rfl, (unhide LL).below⟩
      · go_enter Tryd.func24, Tryd.ntmps24
        go_wp2_with (first | go_skip | ((with_reducible apply load27); (case ho => rfl); (case hw => rfl); (case hx => rfl); (case hc => first | exact (unhide LL).one | exact (unhide LL).two); simp only [Act.put, List.setIfInBounds_toArray, List.set_cons_succ, List.set_cons_zero]) | ((with_reducible apply load25c); (case ho => rfl); (case hw => rfl); (case hx => rfl); (case hc => first | exact (unhide LL).one | exact (unhide LL).two); simp only [Act.put, List.setIfInBounds_toArray, List.set_cons_succ, List.set_cons_zero]) | ((with_reducible apply store27 2); (case ho => rfl); (case hw => rfl); (case hL => exact unhide LL); (case hi => rfl); (case hx => rfl); (case hy => rfl); (intro X LX; simp only [Act.put, List.setIfInBounds_toArray, List.set_cons_succ, List.set_cons_zero]; replace LL := hide LX; clear LX)))
        refine (unhide HG _).mono ?_
        rintro _ w21 ⟨rfl, hb⟩
        replace LL := hide ((unhide LL).on hb)
        clear hb
        go_wp2_with (first | go_skip | ((with_reducible apply load27); (case ho => rfl); (case hw => rfl); (case hx => rfl); (case hc => first | exact (unhide LL).one | exact (unhide LL).two); simp only [Act.put, List.setIfInBounds_toArray, List.set_cons_succ, List.set_cons_zero]) | ((with_reducible apply load25c); (case ho => rfl); (case hw => rfl); (case hx => rfl); (case hc => first | exact (unhide LL).one | exact (unhide LL).two); simp only [Act.put, List.setIfInBounds_toArray, List.set_cons_succ, List.set_cons_zero]) | ((with_reducible apply store27 2); (case ho => rfl); (case hw => rfl); (case hL => exact unhide LL); (case hi => rfl); (case hx => rfl); (case hy => rfl); (intro X LX; simp only [Act.put, List.setIfInBounds_toArray, List.set_cons_succ, List.set_cons_zero]; replace LL := hide LX; clear LX)))
        refine (unhide HZ _).mono ?_
        rintro _ w22 ⟨rfl, hb⟩
        replace LL := hide ((unhide LL).on hb)
        clear hb
        go_wp2_with (first | go_skip | ((with_reducible apply load27); (case ho => rfl); (case hw => rfl); (case hx => rfl); (case hc => first | exact (unhide LL).one | exact (unhide LL).two); simp only [Act.put, List.setIfInBounds_toArray, List.set_cons_succ, List.set_cons_zero]) | ((with_reducible apply load25c); (case ho => rfl); (case hw => rfl); (case hx => rfl); (case hc => first | exact (unhide LL).one | exact (unhide LL).two); simp only [Act.put, List.setIfInBounds_toArray, List.set_cons_succ, List.set_cons_zero]) | ((with_reducible apply store27 2); (case ho => rfl); (case hw => rfl); (case hL => exact unhide LL); (case hi => rfl); (case hx => rfl); (case hy => rfl); (intro X LX; simp only [Act.put, List.setIfInBounds_toArray, List.set_cons_succ, List.set_cons_zero]; replace LL := hide LX; clear LX)))
        refine (unhide HZ _).mono ?_
        rintro _ w23 ⟨rfl, hb⟩
        replace LL := hide ((unhide LL).on hb)
        clear hb
        go_wp2_with (first | go_skip | ((with_reducible apply load27); (case ho => rfl); (case hw => rfl); (case hx => rfl); (case hc => first | exact (unhide LL).one | exact (unhide LL).two); simp only [Act.put, List.setIfInBounds_toArray, List.set_cons_succ, List.set_cons_zero]) | ((with_reducible apply load25c); (case ho => rfl); (case hw => rfl); (case hx => rfl); (case hc => first | exact (unhide LL).one | exact (unhide LL).two); simp only [Act.put, List.setIfInBounds_toArray, List.set_cons_succ, List.set_cons_zero]) | ((with_reducible apply store27 2); (case ho => rfl); (case hw => rfl); (case hL => exact unhide LL); (case hi => rfl); (case hx => rfl); (case hy => rfl); (intro X LX; simp only [Act.put, List.setIfInBounds_toArray, List.set_cons_succ, List.set_cons_zero]; replace LL := hide LX; clear LX)))
        refine (unhide HFi _).mono ?_
        rintro _ w24 ⟨rfl, hb⟩
        replace LL := hide ((unhide LL).on hb)
        clear hb
        go_wp2_with (first | go_skip | ((with_reducible apply load27); (case ho => rfl); (case hw => rfl); (case hx => rfl); (case hc => first | exact (unhide LL).one | exact (unhide LL).two); simp only [Act.put, List.setIfInBounds_toArray, List.set_cons_succ, List.set_cons_zero]) | ((with_reducible apply load25c); (case ho => rfl); (case hw => rfl); (case hx => rfl); (case hc => first | exact (unhide LL).one | exact (unhide LL).two); simp only [Act.put, List.setIfInBounds_toArray, List.set_cons_succ, List.set_cons_zero]) | ((with_reducible apply store27 2); (case ho => rfl); (case hw => rfl); (case hL => exact unhide LL); (case hi => rfl); (case hx => rfl); (case hy => rfl); (intro X LX; simp only [Act.put, List.setIfInBounds_toArray, List.set_cons_succ, List.set_cons_zero]; replace LL := hide LX; clear LX)))
        refine ret27_2 rfl rfl rfl rfl rfl (unhide LL).three ?_
        exact ⟨rfl, (unhide LL).below⟩

theorem cnd {α : Type} (b : Bool) (x y : α) : cond b x y = if b then x else y := by cases b <;> rfl
theorem st_same (n : DD) : rstV n = stV n := by
  unfold rstV stV
  rw [zero_no, (four n).2]
theorem sam_same {a b : VV} (ha : okF a) (hb : okF b) : rsamV a b = samV a b := by
  unfold rsamV samV
  have ea : (a.k == 0) = !thV a := by rw [← ha.1]; exact (Bool.not_not _).symm
  have eb : (b.k == 0) = !thV b := by rw [← hb.1]; exact (Bool.not_not _).symm
  rw [ea, eb, ha.1, hb.1]
  cases hta : thV a
  · rfl
  · cases htb : thV b
    · rfl
    · rw [ha.2 hta, hb.2 htb]
      rfl
theorem dif_same {n d : VV} (hn : okF n) (hd : okF d) : (d.k != 0 && !rsamV d n) = difV n d := by
  unfold difV
  rw [hd.1, sam_same hd hn, sam_symm]
theorem turn_same {n d : DD} (hn : wholeV n = true) (hd : ¬ kindV d = 0) : (raccV d && rdatV n || rdatV d && raccV n) = turnV n d := by
  unfold turnV
  rw [(four d).1.2.1, (four n).1.2.2.1, (four d).1.2.2.1, (four n).1.2.1, kind_shape hd, kind_shape (whole_kind hn)]
  rcases whole_23 hn with h | h <;> rw [h] <;> rcases kind_cases d with e | e | e | e <;> rw [e] <;> first | rfl | exact absurd e hd
theorem forb_same {n d : DD} (hn : wholeV n = true) (hd : ¬ kindV d = 0) : rfbV n d = forbV n d := by
  have sn := kind_sound (whole_kind hn)
  have sd := kind_sound hd
  unfold rfbV forbV
  rw [turn_same hn hd, (four n).1.2.1, kind_shape (whole_kind hn), dif_same (okG sn) (okG sd), dif_same (okS sn) (okS sd), dif_same (okV sn) (okV sd)]
  generalize (d.c == 2 || d.e != 0 && d.e != n.e) = q
  generalize turnV n d = t
  cases q <;> cases t <;> rfl
theorem bec_same {n d : DD} (hn : wholeV n = true) (hd : ¬ kindV d = 0) : rbecV n d = becV n d := by
  have sn := kind_sound (whole_kind hn)
  have sd := kind_sound hd
  have ht := turn_same hn hd
  have ht2 : (rdatV n && raccV d || raccV n && rdatV d) = turnV n d := by rw [← ht, Bool.and_comm, Bool.and_comm (raccV n)]
  have ec : ∀ t a : Int, cond (t == 0) a t = orT t a := fun t a => by
    unfold orT
    have : (t != 0) = !(t == 0) := rfl
    rw [this]
    cases (t == 0) <;> rfl
  have en : ∀ t a : Int, cond (t != 0) t a = orT t a := fun t a => cnd _ _ _
  unfold rbecV becV
  rw [ht2, ec, ec, en, en, en, (okV sd).1, (okG sd).1, (okS sd).1, cnd, cnd, cnd]
  cases turnV n d
  · rfl
  · refine fill_same ?_
    intro hk
    refine hd ?_
    have hs : soundV ⟨d.v, d.g, d.s, d.w, orT d.e n.e, orT d.c n.c⟩ = true := by
      unfold soundV at sn sd ⊢
      simp only [Bool.and_eq_true] at sn sd ⊢
      exact ⟨⟨sd.1.1, tri_or sd.1.2 sn.1.2⟩, tri_or sd.2 sn.2⟩
    unfold kindV at hk ⊢
    rw [hs] at hk
    rw [sd]
    exact hk
theorem good_kind (d : DD) : (!rgoodV d) = (kindV d == 0) := by
  rw [(four d).1.1]
  exact Bool.not_not _
theorem app_same (x : Bool) (n d : DD) : rappD x n d = appD x n d ∧ rappB x n d = appB x n d ∧ rappE n d = appE n d := by
  unfold rappD appD rappB appB rappE appE
  rw [good_kind, st_same, zero_no]
  by_cases hk : kindV d = 0
  · have e0 : (kindV d == 0) = true := by simp [hk]
    rw [e0]
    exact ⟨rfl, rfl, rfl⟩
  · have e0 : (kindV d == 0) = false := by simp [hk]
    rw [e0]
    cases hs : stV n
    · exact ⟨rfl, rfl, rfl⟩
    · cases hz : noV n
      · have hw := st_whole hs hz
        rw [forb_same hw hk, bec_same hw hk]
        exact ⟨rfl, rfl, rfl⟩
      · rw [fill_same hk, no_zero hz]
        exact ⟨rfl, rfl, rfl⟩
theorem keep_same (a b : DD) : rkeepB a b = keepB a b ∧ rkeepE a b = keepE a b := by
  unfold rkeepB keepB rkeepE keepE
  rw [st_same, st_same, zero_no]
  refine ⟨?_, rfl⟩
  cases hsa : stV a
  · rfl
  · cases hsb : stV b
    · rfl
    · cases hna : noV a
      · have wa := st_whole hsa hna
        have hkk : rkeptV a b = keptV a b := by
          unfold rkeptV keptV
          rw [zero_no]
          cases hnb : noV b
          · have wb := st_whole hsb hnb
            have sa := kind_sound (whole_kind wa)
            have sb := kind_sound (whole_kind wb)
            rw [sam_same (okG sa) (okG sb), sam_same (okS sa) (okS sb), sam_same (okV sa) (okV sb), (four a).1.2.1, (four b).1.2.1, kind_shape (whole_kind wa), kind_shape (whole_kind wb), Bool.and_comm (samV a.v b.v)]
            have hx : ((kindV a == 3) != (kindV b == 3)) = (kindV b != kindV a) := by
              rcases whole_23 wa with h | h <;> rw [h] <;> rcases whole_23 wb with e | e <;> rw [e] <;> rfl
            rw [hx]
            rfl
          · have hb := no_zero hnb
            subst hb
            rfl
        rw [hkk]
      · rfl
theorem same_same {a b : DD} (ha : ¬ kindV a = 0) (hb : ¬ kindV b = 0) : rsamD a b = samD a b := by
  have sa := kind_sound ha
  have sb := kind_sound hb
  unfold rsamD samD
  rw [sam_same (okV sa) (okV sb), sam_same (okG sa) (okG sb), sam_same (okS sa) (okS sb)]
end Go.Proofs.YtedgaaaloigpdaaDoor
