import Derived.Test.YtedgaaaloigpdaaDoorDi
namespace Go.Proofs.YtedgaaaloigpdaaDoor
open Go Go.Proofs Go.RowKit FM
set_option linter.unusedSimpArgs false
set_option linter.unusedVariables false
def orT (t a : Int) : Int := if t != 0 then t else a
/-- What filled makes of a descriptor. -/
def fillV (d : DD) : DD := if shapeV d == 3 then ⟨d.v, orV d.g undV, orV d.s undV, d.w, orT d.e 1, orT d.c 1⟩ else ⟨orV d.v undV, d.g, d.s, orT d.w 1, orT d.e 1, orT d.c 1⟩
def frzV (d : DD) : DD := if wholeV d then ⟨zeroV, zeroV, zeroV, if shapeV d == 2 then 1 else 0, 0, 1⟩ else zeroD
set_option maxHeartbeats 2000000 in
set_option maxRecDepth 100000 in
theorem anew_any (d : DD) (hs : d.v.s.size ≤ 1048576) (w : World) : Calls Tryd.prog 31 #[d.agg] w fun e w' => e = .returned d.agg ∧ Below w.heap.size w w' := by
  have HC := hide (fun w => clone_any d.v.s w hs)
  have LL := hide (Lie.new2 w (.D d) (.D zeroD))
  have hq0 : d.agg = .agg #[.int .i64 d.v.k, .bool d.v.b, .float .f64 d.v.x, .string d.v.s, .int .i64 d.v.i, .int .i64 d.g.k, .bool d.g.b, .float .f64 d.g.x, .string d.g.s, .int .i64 d.g.i, .int .i64 d.s.k, .bool d.s.b, .float .f64 d.s.x, .string d.s.s, .int .i64 d.s.i, .int .i64 d.w, .int .i64 d.e, .int .i64 d.c] := rfl
  rw [hq0]
  clear hq0
  go_enter Tryd.func31, Tryd.ntmps31
  go_wp2_with (first | go_skip | ((with_reducible apply load27); (case ho => rfl); (case hw => rfl); (case hx => rfl); (case hc => first | exact (unhide LL).one | exact (unhide LL).two); simp only [Act.put, List.setIfInBounds_toArray, List.set_cons_succ, List.set_cons_zero]) | ((with_reducible apply store27 1); (case ho => rfl); (case hL => exact unhide LL); (case hi => rfl); (case hx => rfl); (case hw => rfl); (case hy => rfl); (intro X LX; simp only [Act.put, List.setIfInBounds_toArray, List.set_cons_succ, List.set_cons_zero]; replace LL := hide LX; clear LX)) | ((with_reducible apply store9 0); (case ho => rfl); (case hL => exact unhide LL); (case hi => rfl); (case hx => rfl); (case hw => rfl); (case hy => rfl); (intro X LX; simp only [Act.put, List.setIfInBounds_toArray, List.set_cons_succ, List.set_cons_zero]; replace LL := hide LX; clear LX)))
  refine (unhide HC _).mono ?_
  rintro _ w1 ⟨rfl, hb⟩
  replace LL := hide ((unhide LL).on hb)
  clear hb
  go_wp2_with (first | go_skip | ((with_reducible apply load27); (case ho => rfl); (case hw => rfl); (case hx => rfl); (case hc => first | exact (unhide LL).one | exact (unhide LL).two); simp only [Act.put, List.setIfInBounds_toArray, List.set_cons_succ, List.set_cons_zero]) | ((with_reducible apply store27 1); (case ho => rfl); (case hL => exact unhide LL); (case hi => rfl); (case hx => rfl); (case hw => rfl); (case hy => rfl); (intro X LX; simp only [Act.put, List.setIfInBounds_toArray, List.set_cons_succ, List.set_cons_zero]; replace LL := hide LX; clear LX)) | ((with_reducible apply store9 0); (case ho => rfl); (case hL => exact unhide LL); (case hi => rfl); (case hx => rfl); (case hw => rfl); (case hy => rfl); (intro X LX; simp only [Act.put, List.setIfInBounds_toArray, List.set_cons_succ, List.set_cons_zero]; replace LL := hide LX; clear LX)))
  refine ret27 rfl rfl rfl (unhide LL).two ?_
  exact ⟨rfl, (unhide LL).below⟩
set_option maxHeartbeats 2000000 in
set_option maxRecDepth 100000 in
theorem freeze_any (d : DD) (hd : FD d) (w : World) (hT : Lib.Utf8Tabs 1 2 w) : Calls Tryd.prog 9 #[d.agg] w fun e w' => e = .returned (.tuple #[(frzV d).agg, .int .i64 (if wholeV d then 0 else 5)]) ∧ Below w.heap.size w w' := by
  have HW := hide (fun w hT => whole_any d hd w hT)
  have HB := hide (shape_any d hd)
  have HT := hide hT
  clear hT
  clear hd
  have LL := hide (Lie.new2 w (.D d) (.D zeroD))
  unfold frzV
  generalize wholeV d = wh at *
  generalize shapeV d = sh at *
  have hq0 : d.agg = .agg #[.int .i64 d.v.k, .bool d.v.b, .float .f64 d.v.x, .string d.v.s, .int .i64 d.v.i, .int .i64 d.g.k, .bool d.g.b, .float .f64 d.g.x, .string d.g.s, .int .i64 d.g.i, .int .i64 d.s.k, .bool d.s.b, .float .f64 d.s.x, .string d.s.s, .int .i64 d.s.i, .int .i64 d.w, .int .i64 d.e, .int .i64 d.c] := rfl
  rw [hq0]
  clear hq0
  cases wh
  · go_enter Tryd.func9, Tryd.ntmps9
    go_wp2_with (first | go_skip | ((with_reducible apply load27); (case ho => rfl); (case hw => rfl); (case hx => rfl); (case hc => first | exact (unhide LL).one); simp only [Act.put, List.setIfInBounds_toArray, List.set_cons_succ, List.set_cons_zero]) | ((with_reducible apply store27 (u := zeroD) 1); (case ho => rfl); (case hw => rfl); (case hL => exact unhide LL); (case hi => rfl); (case hx => rfl); (case hy => rfl); (intro X LX; simp only [Act.put, List.setIfInBounds_toArray, List.set_cons_succ, List.set_cons_zero]; replace LL := hide LX; clear LX)))
    refine (unhide HW _ (tabs_below (unhide HT) (unhide LL).below)).mono ?_
    rintro _ w11 ⟨rfl, hb⟩
    replace LL := hide ((unhide LL).on hb)
    clear hb
    go_wp2_with (first | go_skip | ((with_reducible apply load27); (case ho => rfl); (case hw => rfl); (case hx => rfl); (case hc => first | exact (unhide LL).one); simp only [Act.put, List.setIfInBounds_toArray, List.set_cons_succ, List.set_cons_zero]) | ((with_reducible apply store27 (u := zeroD) 1); (case ho => rfl); (case hw => rfl); (case hL => exact unhide LL); (case hi => rfl); (case hx => rfl); (case hy => rfl); (intro X LX; simp only [Act.put, List.setIfInBounds_toArray, List.set_cons_succ, List.set_cons_zero]; replace LL := hide LX; clear LX)))
    refine ret27_1 rfl rfl rfl rfl (unhide LL).two ?_
    exact ⟨rfl, (unhide LL).below⟩
  · by_cases h2 : sh = 2
    · subst h2
      go_enter Tryd.func9, Tryd.ntmps9
      go_wp2_with (first | go_skip | ((with_reducible apply load27); (case ho => rfl); (case hw => rfl); (case hx => rfl); (case hc => first | exact (unhide LL).one); simp only [Act.put, List.setIfInBounds_toArray, List.set_cons_succ, List.set_cons_zero]) | ((with_reducible apply store27 (u := zeroD) 1); (case ho => rfl); (case hw => rfl); (case hL => exact unhide LL); (case hi => rfl); (case hx => rfl); (case hy => rfl); (intro X LX; simp only [Act.put, List.setIfInBounds_toArray, List.set_cons_succ, List.set_cons_zero]; replace LL := hide LX; clear LX)))
      refine (unhide HW _ (tabs_below (unhide HT) (unhide LL).below)).mono ?_
      rintro _ w12 ⟨rfl, hb⟩
      replace LL := hide ((unhide LL).on hb)
      clear hb
      have MM := hide (Lie.new1 w12 (.D zeroD))
      go_wp2_with (first | go_skip | ((with_reducible apply load27); (case ho => rfl); (case hw => rfl); (case hx => rfl); (case hc => first | exact (unhide MM).one | exact ((unhide LL).on (unhide MM).below).one); simp only [Act.put, List.setIfInBounds_toArray, List.set_cons_succ, List.set_cons_zero]) | ((with_reducible apply store27 (u := ⟨zeroV, zeroV, zeroV, 0, 0, 1⟩) 0); (case ho => rfl); (case hw => rfl); (case hL => exact unhide MM); (case hi => rfl); (case hx => rfl); (case hy => rfl); (intro X LX; simp only [Act.put, List.setIfInBounds_toArray, List.set_cons_succ, List.set_cons_zero]; replace MM := hide LX; clear LX)))
      refine (unhide HB _).mono ?_
      rintro _ w11 ⟨rfl, hb⟩
      replace MM := hide ((unhide MM).on hb)
      clear hb
      go_wp2_with (first | go_skip | ((with_reducible apply load27); (case ho => rfl); (case hw => rfl); (case hx => rfl); (case hc => first | exact (unhide MM).one | exact ((unhide LL).on (unhide MM).below).one); simp only [Act.put, List.setIfInBounds_toArray, List.set_cons_succ, List.set_cons_zero]) | ((with_reducible apply store25w 0); (case ho => rfl); (case hw => rfl); (case hL => exact unhide MM); (case hi => rfl); (case hx => rfl); (case hy => rfl); (intro X LX; simp only [Act.put, List.setIfInBounds_toArray, List.set_cons_succ, List.set_cons_zero]; replace MM := hide LX; clear LX)) | ((with_reducible apply store27 1); (case ho => rfl); (case hw => rfl); (case hL => exact (unhide LL).on (unhide MM).below); (case hi => rfl); (case hx => rfl); (case hy => rfl); (intro X LX; simp only [Act.put, List.setIfInBounds_toArray, List.set_cons_succ, List.set_cons_zero]; replace LL := hide LX; clear LX)))
      refine ret27_1 rfl rfl rfl rfl (unhide LL).two ?_
      exact ⟨rfl, (unhide LL).below⟩
    · have e2 : (sh == 2) = false := by simp [h2]
      rw [e2]
      go_enter Tryd.func9, Tryd.ntmps9
      go_wp2_with (first | go_skip | ((with_reducible apply load27); (case ho => rfl); (case hw => rfl); (case hx => rfl); (case hc => first | exact (unhide LL).one); simp only [Act.put, List.setIfInBounds_toArray, List.set_cons_succ, List.set_cons_zero]) | ((with_reducible apply store27 (u := zeroD) 1); (case ho => rfl); (case hw => rfl); (case hL => exact unhide LL); (case hi => rfl); (case hx => rfl); (case hy => rfl); (intro X LX; simp only [Act.put, List.setIfInBounds_toArray, List.set_cons_succ, List.set_cons_zero]; replace LL := hide LX; clear LX)))
      refine (unhide HW _ (tabs_below (unhide HT) (unhide LL).below)).mono ?_
      rintro _ w13 ⟨rfl, hb⟩
      replace LL := hide ((unhide LL).on hb)
      clear hb
      have MM := hide (Lie.new1 w13 (.D zeroD))
      go_wp2_with (first | go_skip | ((with_reducible apply load27); (case ho => rfl); (case hw => rfl); (case hx => rfl); (case hc => first | exact (unhide MM).one | exact ((unhide LL).on (unhide MM).below).one); simp only [Act.put, List.setIfInBounds_toArray, List.set_cons_succ, List.set_cons_zero]) | ((with_reducible apply store27 (u := ⟨zeroV, zeroV, zeroV, 0, 0, 1⟩) 0); (case ho => rfl); (case hw => rfl); (case hL => exact unhide MM); (case hi => rfl); (case hx => rfl); (case hy => rfl); (intro X LX; simp only [Act.put, List.setIfInBounds_toArray, List.set_cons_succ, List.set_cons_zero]; replace MM := hide LX; clear LX)))
      refine (unhide HB _).mono ?_
      rintro _ w12 ⟨rfl, hb⟩
      replace MM := hide ((unhide MM).on hb)
      clear hb
      go_wp2_with (first | go_skip | ((with_reducible apply load27); (case ho => rfl); (case hw => rfl); (case hx => rfl); (case hc => first | exact (unhide MM).one | exact ((unhide LL).on (unhide MM).below).one); simp only [Act.put, List.setIfInBounds_toArray, List.set_cons_succ, List.set_cons_zero]) | ((with_reducible apply store25w 0); (case ho => rfl); (case hw => rfl); (case hL => exact unhide MM); (case hi => rfl); (case hx => rfl); (case hy => rfl); (intro X LX; simp only [Act.put, List.setIfInBounds_toArray, List.set_cons_succ, List.set_cons_zero]; replace MM := hide LX; clear LX)) | ((with_reducible apply store27 1); (case ho => rfl); (case hw => rfl); (case hL => exact (unhide LL).on (unhide MM).below); (case hi => rfl); (case hx => rfl); (case hy => rfl); (intro X LX; simp only [Act.put, List.setIfInBounds_toArray, List.set_cons_succ, List.set_cons_zero]; replace LL := hide LX; clear LX)))
      refine ret27_1 rfl rfl rfl rfl (unhide LL).two ?_
      exact ⟨rfl, (unhide LL).below⟩
theorem triOr_T (t a : Int) (w : World) : Calls Tryd.prog 58 #[.int .i64 t, .int .i64 a] w fun e w' => e = .returned (.int .i64 (orT t a)) ∧ w' = w := triOr_any t a w
theorem refNo_T (t : Int) (w : World) : Calls Tryd.prog 41 #[.int .i64 t] w fun e w' => e = .returned (.int .i64 (orT t 1)) ∧ w' = w := refNo_any t w
theorem Lie.putv {w W : World} {d : DD} {l : List PB} (h : Lie w W (.D d :: l)) (u : VV) : Lie w (W.setCells w.heap.size 0 u.cs) (.D { d with v := u } :: l) :=
  Lie.put (i := 0) (o := 0) (vs := u.cs) (p := .D { d with v := u }) (q := .D d) h rfl (fun hq => Lies.setv hq)
theorem Lie.putg {w W : World} {d : DD} {l : List PB} (h : Lie w W (.D d :: l)) (u : VV) : Lie w (W.setCells w.heap.size 5 u.cs) (.D { d with g := u } :: l) :=
  Lie.put (i := 0) (o := 5) (vs := u.cs) (p := .D { d with g := u }) (q := .D d) h rfl (fun hq => Lies.setg hq)
theorem Lie.puts {w W : World} {d : DD} {l : List PB} (h : Lie w W (.D d :: l)) (u : VV) : Lie w (W.setCells w.heap.size 10 u.cs) (.D { d with s := u } :: l) :=
  Lie.put (i := 0) (o := 10) (vs := u.cs) (p := .D { d with s := u }) (q := .D d) h rfl (fun hq => Lies.sets hq)
attribute [local go_sem] run_store_float
set_option maxHeartbeats 2000000 in
set_option maxRecDepth 100000 in
theorem filled_any (d : DD) (hd : FD d) (w : World) : Calls Tryd.prog 32 #[d.agg] w fun e w' => e = .returned (fillV d).agg ∧ Below w.heap.size w w' := by
  have HB := hide (shape_any d hd)
  have HU := hide (undefined_any)
  have HV := hide (valueOr_any d.v undV hd.1)
  have HG := hide (valueOr_any d.g undV hd.2.1)
  have HS := hide (valueOr_any d.s undV hd.2.2)
  clear hd
  have LL := hide (Lie.new2 w (.D d) (.D zeroD))
  unfold fillV
  generalize shapeV d = sh at *
  unfold VV.agg at HU HV HG HS
  dsimp only at HU
  have hq0 : d.agg = .agg #[.int .i64 d.v.k, .bool d.v.b, .float .f64 d.v.x, .string d.v.s, .int .i64 d.v.i, .int .i64 d.g.k, .bool d.g.b, .float .f64 d.g.x, .string d.g.s, .int .i64 d.g.i, .int .i64 d.s.k, .bool d.s.b, .float .f64 d.s.x, .string d.s.s, .int .i64 d.s.i, .int .i64 d.w, .int .i64 d.e, .int .i64 d.c] := rfl
  rw [hq0]
  clear hq0
  by_cases h3 : sh = 3
  · subst h3
    go_enter Tryd.func32, Tryd.ntmps32
    go_wp2_with (first | go_skip | ((with_reducible apply load27); (case ho => rfl); (case hw => rfl); (case hx => rfl); (case hc => first | exact (unhide LL).one | exact (unhide LL).two); simp only [Act.put, List.setIfInBounds_toArray, List.set_cons_succ, List.set_cons_zero]) | (go_at_call 42; refine (said_any _ _).mono ?_; rintro _ _ ⟨rfl, rfl⟩) | (go_at_call 73; refine (oneOfThree_any _ _).mono ?_; rintro _ _ ⟨rfl, rfl⟩) | (go_at_call 37; refine (refTri_any _ _).mono ?_; rintro _ _ ⟨rfl, rfl⟩))
    refine (unhide HB _).mono ?_
    rintro _ w1 ⟨rfl, hb⟩
    replace LL := hide ((unhide LL).on hb)
    clear hb
    go_wp2_with fail
    obtain ⟨f0, c0, c1, c2, c3, c4, c5, c6, c7, c8, c9, c10, c11, c12, c13, c14, c15, c16, c17⟩ := (unhide LL).one
    try dsimp only at f0 c0 c1 c2 c3 c4 c5 c6 c7 c8 c9 c10 c11 c12 c13 c14 c15 c16 c17
    go_region_with (first | (go_at_call 57; refine (unhide HU _).mono ?_; rintro _ wu ⟨rfl, hbwu⟩; have LU := hide ((unhide LL).drew.on hbwu); clear f0 c0 c1 c2 c3 c4 c5 c6 c7 c8 c9 c10 c11 c12 c13 c14 c15 c16 c17; obtain ⟨f0, c0, c1, c2, c3, c4, c5, c6, c7, c8, c9, c10, c11, c12, c13, c14, c15, c16, c17⟩ := (unhide LU).one; try dsimp only at f0 c0 c1 c2 c3 c4 c5 c6 c7 c8 c9 c10 c11 c12 c13 c14 c15 c16 c17) | (go_at_call 56; refine (unhide HG _).mono ?_; rintro _ wv ⟨rfl, hbwv⟩; have LV := hide ((unhide LU).on hbwv); clear f0 c0 c1 c2 c3 c4 c5 c6 c7 c8 c9 c10 c11 c12 c13 c14 c15 c16 c17; obtain ⟨f0, c0, c1, c2, c3, c4, c5, c6, c7, c8, c9, c10, c11, c12, c13, c14, c15, c16, c17⟩ := (unhide LV).one; try dsimp only at f0 c0 c1 c2 c3 c4 c5 c6 c7 c8 c9 c10 c11 c12 c13 c14 c15 c16 c17))
    all_goals
      clear hbwu hbwv LU f0 c0 c1 c2 c3 c4 c5 c6 c7 c8 c9 c10 c11 c12 c13 c14 c15 c16 c17
      have LX : Lie w (World.setCell (World.setCell (World.setCell (World.setCell (World.setCell wv ⟨w.heap.size, 5, none⟩ (.int .i64 (orV d.g undV).k)) ⟨w.heap.size, 6, none⟩ (.bool (orV d.g undV).b)) ⟨w.heap.size, 7, none⟩ (.float .f64 (orV d.g undV).x)) ⟨w.heap.size, 8, none⟩ (.string (orV d.g undV).s)) ⟨w.heap.size, 9, none⟩ (.int .i64 (orV d.g undV).i)) [.D { d with g := orV d.g undV }, .D zeroD] := (unhide LV).putg (orV d.g undV)
      replace LL := hide LX
      clear LV LX
      generalize (World.setCell (World.setCell (World.setCell (World.setCell (World.setCell wv ⟨w.heap.size, 5, none⟩ (.int .i64 (orV d.g undV).k)) ⟨w.heap.size, 6, none⟩ (.bool (orV d.g undV).b)) ⟨w.heap.size, 7, none⟩ (.float .f64 (orV d.g undV).x)) ⟨w.heap.size, 8, none⟩ (.string (orV d.g undV).s)) ⟨w.heap.size, 9, none⟩ (.int .i64 (orV d.g undV).i)) = X at LL ⊢
    all_goals
      go_wp2_with fail
      obtain ⟨f0, c0, c1, c2, c3, c4, c5, c6, c7, c8, c9, c10, c11, c12, c13, c14, c15, c16, c17⟩ := (unhide LL).one
      try dsimp only at f0 c0 c1 c2 c3 c4 c5 c6 c7 c8 c9 c10 c11 c12 c13 c14 c15 c16 c17
      go_region_with (first | (go_at_call 57; refine (unhide HU _).mono ?_; rintro _ wu ⟨rfl, hbwu⟩; have LU := hide ((unhide LL).drew.on hbwu); clear f0 c0 c1 c2 c3 c4 c5 c6 c7 c8 c9 c10 c11 c12 c13 c14 c15 c16 c17; obtain ⟨f0, c0, c1, c2, c3, c4, c5, c6, c7, c8, c9, c10, c11, c12, c13, c14, c15, c16, c17⟩ := (unhide LU).one; try dsimp only at f0 c0 c1 c2 c3 c4 c5 c6 c7 c8 c9 c10 c11 c12 c13 c14 c15 c16 c17) | (go_at_call 56; refine (unhide HS _).mono ?_; rintro _ wv ⟨rfl, hbwv⟩; have LV := hide ((unhide LU).on hbwv); clear f0 c0 c1 c2 c3 c4 c5 c6 c7 c8 c9 c10 c11 c12 c13 c14 c15 c16 c17; obtain ⟨f0, c0, c1, c2, c3, c4, c5, c6, c7, c8, c9, c10, c11, c12, c13, c14, c15, c16, c17⟩ := (unhide LV).one; try dsimp only at f0 c0 c1 c2 c3 c4 c5 c6 c7 c8 c9 c10 c11 c12 c13 c14 c15 c16 c17))
      all_goals
        clear hbwu hbwv LU f0 c0 c1 c2 c3 c4 c5 c6 c7 c8 c9 c10 c11 c12 c13 c14 c15 c16 c17
        have LX : Lie w (World.setCell (World.setCell (World.setCell (World.setCell (World.setCell wv ⟨w.heap.size, 10, none⟩ (.int .i64 (orV d.s undV).k)) ⟨w.heap.size, 11, none⟩ (.bool (orV d.s undV).b)) ⟨w.heap.size, 12, none⟩ (.float .f64 (orV d.s undV).x)) ⟨w.heap.size, 13, none⟩ (.string (orV d.s undV).s)) ⟨w.heap.size, 14, none⟩ (.int .i64 (orV d.s undV).i)) [.D { { d with g := orV d.g undV } with s := orV d.s undV }, .D zeroD] := (unhide LV).puts (orV d.s undV)
        replace LL := hide LX
        clear LV LX
        generalize (World.setCell (World.setCell (World.setCell (World.setCell (World.setCell wv ⟨w.heap.size, 10, none⟩ (.int .i64 (orV d.s undV).k)) ⟨w.heap.size, 11, none⟩ (.bool (orV d.s undV).b)) ⟨w.heap.size, 12, none⟩ (.float .f64 (orV d.s undV).x)) ⟨w.heap.size, 13, none⟩ (.string (orV d.s undV).s)) ⟨w.heap.size, 14, none⟩ (.int .i64 (orV d.s undV).i)) = X at LL ⊢
      all_goals
        go_wp2_with (first | go_skip | ((with_reducible apply load27); (case ho => rfl); (case hw => rfl); (case hx => rfl); (case hc => first | exact (unhide LL).one); simp only [Act.put, List.setIfInBounds_toArray, List.set_cons_succ, List.set_cons_zero]) | ((with_reducible apply load25w); (case ho => rfl); (case hw => rfl); (case hx => rfl); (case hc => first | exact (unhide LL).one); simp only [Act.put, List.setIfInBounds_toArray, List.set_cons_succ, List.set_cons_zero]) | ((with_reducible apply load25e); (case ho => rfl); (case hw => rfl); (case hx => rfl); (case hc => first | exact (unhide LL).one); simp only [Act.put, List.setIfInBounds_toArray, List.set_cons_succ, List.set_cons_zero]) | ((with_reducible apply load25c); (case ho => rfl); (case hw => rfl); (case hx => rfl); (case hc => first | exact (unhide LL).one); simp only [Act.put, List.setIfInBounds_toArray, List.set_cons_succ, List.set_cons_zero]) | ((with_reducible apply store25w 0); (case ho => rfl); (case hw => rfl); (case hL => exact unhide LL); (case hi => rfl); (case hx => rfl); (case hy => rfl); (intro X LX; simp only [Act.put, List.setIfInBounds_toArray, List.set_cons_succ, List.set_cons_zero]; replace LL := hide LX; clear LX)) | ((with_reducible apply store25e 0); (case ho => rfl); (case hw => rfl); (case hL => exact unhide LL); (case hi => rfl); (case hx => rfl); (case hy => rfl); (intro X LX; simp only [Act.put, List.setIfInBounds_toArray, List.set_cons_succ, List.set_cons_zero]; replace LL := hide LX; clear LX)) | ((with_reducible apply store25c 0); (case ho => rfl); (case hw => rfl); (case hL => exact unhide LL); (case hi => rfl); (case hx => rfl); (case hy => rfl); (intro X LX; simp only [Act.put, List.setIfInBounds_toArray, List.set_cons_succ, List.set_cons_zero]; replace LL := hide LX; clear LX)) | ((with_reducible apply store27 1); (case ho => rfl); (case hw => rfl); (case hL => exact unhide LL); (case hi => rfl); (case hx => rfl); (case hy => rfl); (intro X LX; simp only [Act.put, List.setIfInBounds_toArray, List.set_cons_succ, List.set_cons_zero]; replace LL := hide LX; clear LX)) | (go_at_call 58; refine (triOr_T _ _ _).mono ?_; rintro _ _ ⟨rfl, rfl⟩))
        refine ret27 rfl rfl rfl (unhide LL).two ?_
        exact ⟨rfl, (unhide LL).below⟩
  · have e3 : (sh == 3) = false := by simp [h3]
    rw [e3]
    go_enter Tryd.func32, Tryd.ntmps32
    go_wp2_with (first | go_skip | ((with_reducible apply load27); (case ho => rfl); (case hw => rfl); (case hx => rfl); (case hc => first | exact (unhide LL).one | exact (unhide LL).two); simp only [Act.put, List.setIfInBounds_toArray, List.set_cons_succ, List.set_cons_zero]) | (go_at_call 42; refine (said_any _ _).mono ?_; rintro _ _ ⟨rfl, rfl⟩) | (go_at_call 73; refine (oneOfThree_any _ _).mono ?_; rintro _ _ ⟨rfl, rfl⟩) | (go_at_call 37; refine (refTri_any _ _).mono ?_; rintro _ _ ⟨rfl, rfl⟩))
    refine (unhide HB _).mono ?_
    rintro _ w2 ⟨rfl, hb⟩
    replace LL := hide ((unhide LL).on hb)
    clear hb
    go_wp2_with fail
    obtain ⟨f0, c0, c1, c2, c3, c4, c5, c6, c7, c8, c9, c10, c11, c12, c13, c14, c15, c16, c17⟩ := (unhide LL).one
    try dsimp only at f0 c0 c1 c2 c3 c4 c5 c6 c7 c8 c9 c10 c11 c12 c13 c14 c15 c16 c17
    go_region_with (first | (go_at_call 57; refine (unhide HU _).mono ?_; rintro _ wu ⟨rfl, hbwu⟩; have LU := hide ((unhide LL).drew.on hbwu); clear f0 c0 c1 c2 c3 c4 c5 c6 c7 c8 c9 c10 c11 c12 c13 c14 c15 c16 c17; obtain ⟨f0, c0, c1, c2, c3, c4, c5, c6, c7, c8, c9, c10, c11, c12, c13, c14, c15, c16, c17⟩ := (unhide LU).one; try dsimp only at f0 c0 c1 c2 c3 c4 c5 c6 c7 c8 c9 c10 c11 c12 c13 c14 c15 c16 c17) | (go_at_call 56; refine (unhide HV _).mono ?_; rintro _ wv ⟨rfl, hbwv⟩; have LV := hide ((unhide LU).on hbwv); clear f0 c0 c1 c2 c3 c4 c5 c6 c7 c8 c9 c10 c11 c12 c13 c14 c15 c16 c17; obtain ⟨f0, c0, c1, c2, c3, c4, c5, c6, c7, c8, c9, c10, c11, c12, c13, c14, c15, c16, c17⟩ := (unhide LV).one; try dsimp only at f0 c0 c1 c2 c3 c4 c5 c6 c7 c8 c9 c10 c11 c12 c13 c14 c15 c16 c17))
    all_goals
      clear hbwu hbwv LU f0 c0 c1 c2 c3 c4 c5 c6 c7 c8 c9 c10 c11 c12 c13 c14 c15 c16 c17
      have LX : Lie w (World.setCell (World.setCell (World.setCell (World.setCell (World.setCell wv ⟨w.heap.size, 0, none⟩ (.int .i64 (orV d.v undV).k)) ⟨w.heap.size, 1, none⟩ (.bool (orV d.v undV).b)) ⟨w.heap.size, 2, none⟩ (.float .f64 (orV d.v undV).x)) ⟨w.heap.size, 3, none⟩ (.string (orV d.v undV).s)) ⟨w.heap.size, 4, none⟩ (.int .i64 (orV d.v undV).i)) [.D { d with v := orV d.v undV }, .D zeroD] := (unhide LV).putv (orV d.v undV)
      replace LL := hide LX
      clear LV LX
      generalize (World.setCell (World.setCell (World.setCell (World.setCell (World.setCell wv ⟨w.heap.size, 0, none⟩ (.int .i64 (orV d.v undV).k)) ⟨w.heap.size, 1, none⟩ (.bool (orV d.v undV).b)) ⟨w.heap.size, 2, none⟩ (.float .f64 (orV d.v undV).x)) ⟨w.heap.size, 3, none⟩ (.string (orV d.v undV).s)) ⟨w.heap.size, 4, none⟩ (.int .i64 (orV d.v undV).i)) = X at LL ⊢
    all_goals
      go_wp2_with (first | go_skip | ((with_reducible apply load27); (case ho => rfl); (case hw => rfl); (case hx => rfl); (case hc => first | exact (unhide LL).one); simp only [Act.put, List.setIfInBounds_toArray, List.set_cons_succ, List.set_cons_zero]) | ((with_reducible apply load25w); (case ho => rfl); (case hw => rfl); (case hx => rfl); (case hc => first | exact (unhide LL).one); simp only [Act.put, List.setIfInBounds_toArray, List.set_cons_succ, List.set_cons_zero]) | ((with_reducible apply load25e); (case ho => rfl); (case hw => rfl); (case hx => rfl); (case hc => first | exact (unhide LL).one); simp only [Act.put, List.setIfInBounds_toArray, List.set_cons_succ, List.set_cons_zero]) | ((with_reducible apply load25c); (case ho => rfl); (case hw => rfl); (case hx => rfl); (case hc => first | exact (unhide LL).one); simp only [Act.put, List.setIfInBounds_toArray, List.set_cons_succ, List.set_cons_zero]) | ((with_reducible apply store25w 0); (case ho => rfl); (case hw => rfl); (case hL => exact unhide LL); (case hi => rfl); (case hx => rfl); (case hy => rfl); (intro X LX; simp only [Act.put, List.setIfInBounds_toArray, List.set_cons_succ, List.set_cons_zero]; replace LL := hide LX; clear LX)) | ((with_reducible apply store25e 0); (case ho => rfl); (case hw => rfl); (case hL => exact unhide LL); (case hi => rfl); (case hx => rfl); (case hy => rfl); (intro X LX; simp only [Act.put, List.setIfInBounds_toArray, List.set_cons_succ, List.set_cons_zero]; replace LL := hide LX; clear LX)) | ((with_reducible apply store25c 0); (case ho => rfl); (case hw => rfl); (case hL => exact unhide LL); (case hi => rfl); (case hx => rfl); (case hy => rfl); (intro X LX; simp only [Act.put, List.setIfInBounds_toArray, List.set_cons_succ, List.set_cons_zero]; replace LL := hide LX; clear LX)) | ((with_reducible apply store27 1); (case ho => rfl); (case hw => rfl); (case hL => exact unhide LL); (case hi => rfl); (case hx => rfl); (case hy => rfl); (intro X LX; simp only [Act.put, List.setIfInBounds_toArray, List.set_cons_succ, List.set_cons_zero]; replace LL := hide LX; clear LX)) | (go_at_call 58; refine (triOr_T _ _ _).mono ?_; rintro _ _ ⟨rfl, rfl⟩))
      refine ret27 rfl rfl rfl (unhide LL).two ?_
      exact ⟨rfl, (unhide LL).below⟩
end Go.Proofs.YtedgaaaloigpdaaDoor
