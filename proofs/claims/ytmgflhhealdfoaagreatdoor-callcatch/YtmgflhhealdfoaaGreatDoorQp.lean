import Derived.Test.YtmgflhhealdfoaaGreatDoorQo
set_option linter.all false
namespace Go.Proofs.YtmgflhhealdfoaaGreatDoor
section
open Go Go.Proofs Go.RowKit FM
def rgoodV (d : DD) : Bool := if (thV d.v && !d.v.good) || (thV d.g && !slotV d.g) || (thV d.s && !slotV d.s) || !triV d.w || !triV d.e || !triV d.c then false else !((d.v.k != 0 || d.w != 0) && (d.g.k != 0 || d.s.k != 0))
def raccV (d : DD) : Bool := rgoodV d && (d.g.k != 0 || d.s.k != 0)
def rdatV (d : DD) : Bool := rgoodV d && (d.v.k != 0 || d.w != 0)
def rgenV (d : DD) : Bool := rgoodV d && !raccV d && !rdatV d
def rwhoV (d : DD) : Bool := if !rgoodV d || d.e == 0 || d.c == 0 then false else d.g.k != 0 && d.s.k != 0 || d.v.k != 0 && d.w != 0
def orT (t a : Int) : Int := if t != 0 then t else a
/-- What filled makes of a descriptor. -/
def fillV (d : DD) : DD := if shapeV d == 3 then ⟨d.v, orV d.g undV, orV d.s undV, d.w, orT d.e 1, orT d.c 1⟩ else ⟨orV d.v undV, d.g, d.s, orT d.w 1, orT d.e 1, orT d.c 1⟩
set_option maxHeartbeats 2000000 in
set_option maxRecDepth 100000 in
theorem anew_any (d : DD) (hs : d.v.s.size ≤ 1048576) (w : World) : Calls Tryz.prog 134 #[d.agg] w fun e w' => e = .returned d.agg ∧ Below w.heap.size w w' := by
  have HC := hide (fun w => clone_any d.v.s w hs)
  have LL := hide (Lie.new2 w (.D d) (.D zeroD))
  have hq0 : d.agg = .agg #[.int .i64 d.v.k, .bool d.v.b, .float .f64 d.v.x, .string d.v.s, .int .i64 d.v.i, .int .i64 d.g.k, .bool d.g.b, .float .f64 d.g.x, .string d.g.s, .int .i64 d.g.i, .int .i64 d.s.k, .bool d.s.b, .float .f64 d.s.x, .string d.s.s, .int .i64 d.s.i, .int .i64 d.w, .int .i64 d.e, .int .i64 d.c] := rfl
  rw [hq0]
  clear hq0
  go_enter Tryz.func134, Tryz.ntmps134
  go_wp2_with (first | go_skip | ((with_reducible apply load27); (case ho => rfl); (case hw => rfl); (case hx => rfl); (case hc => first | exact (unhide LL).one | exact (unhide LL).two); simp only [Act.put, List.setIfInBounds_toArray, List.set_cons_succ, List.set_cons_zero]) | ((with_reducible apply store27 1); (case ho => rfl); (case hL => exact unhide LL); (case hi => rfl); (case hx => rfl); (case hw => rfl); (case hy => rfl); (intro X LX; simp only [Act.put, List.setIfInBounds_toArray, List.set_cons_succ, List.set_cons_zero]; replace LL := hide LX; clear LX)) | ((with_reducible apply store9 0); (case ho => rfl); (case hL => exact unhide LL); (case hi => rfl); (case hx => rfl); (case hw => rfl); (case hy => rfl); (intro X LX; simp only [Act.put, List.setIfInBounds_toArray, List.set_cons_succ, List.set_cons_zero]; replace LL := hide LX; clear LX)))
  refine (unhide HC _).mono ?_
  rintro _ w1 ⟨rfl, hb⟩
  replace LL := hide ((unhide LL).on hb)
  clear hb
  go_wp2_with (first | go_skip | ((with_reducible apply load27); (case ho => rfl); (case hw => rfl); (case hx => rfl); (case hc => first | exact (unhide LL).one | exact (unhide LL).two); simp only [Act.put, List.setIfInBounds_toArray, List.set_cons_succ, List.set_cons_zero]) | ((with_reducible apply store27 1); (case ho => rfl); (case hL => exact unhide LL); (case hi => rfl); (case hx => rfl); (case hw => rfl); (case hy => rfl); (intro X LX; simp only [Act.put, List.setIfInBounds_toArray, List.set_cons_succ, List.set_cons_zero]; replace LL := hide LX; clear LX)) | ((with_reducible apply store9 0); (case ho => rfl); (case hL => exact unhide LL); (case hi => rfl); (case hx => rfl); (case hw => rfl); (case hy => rfl); (intro X LX; simp only [Act.put, List.setIfInBounds_toArray, List.set_cons_succ, List.set_cons_zero]; replace LL := hide LX; clear LX)))
  refine ret27 rfl rfl rfl (unhide LL).two ?_
  exact ⟨rfl, (unhide LL).below⟩
theorem triOr_T (t a : Int) (w : World) : Calls Tryz.prog 144 #[.int .i64 t, .int .i64 a] w fun e w' => e = .returned (.int .i64 (orT t a)) ∧ w' = w := triOr_any t a w
theorem Lie.putv {w W : World} {d : DD} {l : List PB} (h : Lie w W (.D d :: l)) (u : VV) : Lie w (W.setCells w.heap.size 0 u.cs) (.D { d with v := u } :: l) :=
  Lie.put (i := 0) (o := 0) (vs := u.cs) (p := .D { d with v := u }) (q := .D d) h rfl (fun hq => Lies.setv hq)
theorem Lie.putg {w W : World} {d : DD} {l : List PB} (h : Lie w W (.D d :: l)) (u : VV) : Lie w (W.setCells w.heap.size 5 u.cs) (.D { d with g := u } :: l) :=
  Lie.put (i := 0) (o := 5) (vs := u.cs) (p := .D { d with g := u }) (q := .D d) h rfl (fun hq => Lies.setg hq)
theorem Lie.puts {w W : World} {d : DD} {l : List PB} (h : Lie w W (.D d :: l)) (u : VV) : Lie w (W.setCells w.heap.size 10 u.cs) (.D { d with s := u } :: l) :=
  Lie.put (i := 0) (o := 10) (vs := u.cs) (p := .D { d with s := u }) (q := .D d) h rfl (fun hq => Lies.sets hq)
attribute [local go_sem] run_store_floatD
set_option maxHeartbeats 2000000 in
set_option maxRecDepth 100000 in
theorem filled_any (d : DD) (hd : FD d) (w : World) : Calls Tryz.prog 135 #[d.agg] w fun e w' => e = .returned (fillV d).agg ∧ Below w.heap.size w w' := by
  have HB := hide (shape_any d hd)
  have HU := hide (undefined_any)
  have HV := hide (valueOr_any d.v undV hd.1)
  have HG := hide (valueOr_any d.g undV hd.2.1)
  have HS := hide (valueOr_any d.s undV hd.2.2)
  clear hd
  have LL := hide (Lie.new2 w (.D d) (.D zeroD))
  unfold fillV
  generalize shapeV d = sh at *
  unfold VV.agg at HU HV HG HS
  dsimp only at HU
  have hq0 : d.agg = .agg #[.int .i64 d.v.k, .bool d.v.b, .float .f64 d.v.x, .string d.v.s, .int .i64 d.v.i, .int .i64 d.g.k, .bool d.g.b, .float .f64 d.g.x, .string d.g.s, .int .i64 d.g.i, .int .i64 d.s.k, .bool d.s.b, .float .f64 d.s.x, .string d.s.s, .int .i64 d.s.i, .int .i64 d.w, .int .i64 d.e, .int .i64 d.c] := rfl
  rw [hq0]
  clear hq0
  by_cases h3 : sh = 3
  · subst h3
    go_enter Tryz.func135, Tryz.ntmps135
    go_wp2_with (first | go_skip | ((with_reducible apply load27); (case ho => rfl); (case hw => rfl); (case hx => rfl); (case hc => first | exact (unhide LL).one | exact (unhide LL).two); simp only [Act.put, List.setIfInBounds_toArray, List.set_cons_succ, List.set_cons_zero]) | (go_at_call 93; refine (said_any _ _).mono ?_; rintro _ _ ⟨rfl, rfl⟩) | (go_at_call 92; refine (oneOfThree_any _ _).mono ?_; rintro _ _ ⟨rfl, rfl⟩))
    refine (unhide HB _).mono ?_
    rintro _ w1 ⟨rfl, hb⟩
    replace LL := hide ((unhide LL).on hb)
    clear hb
    go_wp2_with fail
    obtain ⟨f0, c0, c1, c2, c3, c4, c5, c6, c7, c8, c9, c10, c11, c12, c13, c14, c15, c16, c17⟩ := (unhide LL).one
    try dsimp only at f0 c0 c1 c2 c3 c4 c5 c6 c7 c8 c9 c10 c11 c12 c13 c14 c15 c16 c17
    go_region_with (first | (go_at_call 131; refine (unhide HU _).mono ?_; rintro _ wu ⟨rfl, hbwu⟩; have LU := hide ((unhide LL).drew.on hbwu); clear f0 c0 c1 c2 c3 c4 c5 c6 c7 c8 c9 c10 c11 c12 c13 c14 c15 c16 c17; obtain ⟨f0, c0, c1, c2, c3, c4, c5, c6, c7, c8, c9, c10, c11, c12, c13, c14, c15, c16, c17⟩ := (unhide LU).one; try dsimp only at f0 c0 c1 c2 c3 c4 c5 c6 c7 c8 c9 c10 c11 c12 c13 c14 c15 c16 c17) | (go_at_call 143; refine (unhide HG _).mono ?_; rintro _ wv ⟨rfl, hbwv⟩; have LV := hide ((unhide LU).on hbwv); clear f0 c0 c1 c2 c3 c4 c5 c6 c7 c8 c9 c10 c11 c12 c13 c14 c15 c16 c17; obtain ⟨f0, c0, c1, c2, c3, c4, c5, c6, c7, c8, c9, c10, c11, c12, c13, c14, c15, c16, c17⟩ := (unhide LV).one; try dsimp only at f0 c0 c1 c2 c3 c4 c5 c6 c7 c8 c9 c10 c11 c12 c13 c14 c15 c16 c17))
    all_goals
      clear hbwu hbwv LU f0 c0 c1 c2 c3 c4 c5 c6 c7 c8 c9 c10 c11 c12 c13 c14 c15 c16 c17
      have LX : Lie w (World.setCell (World.setCell (World.setCell (World.setCell (World.setCell wv ⟨w.heap.size, 5, none⟩ (.int .i64 (orV d.g undV).k)) ⟨w.heap.size, 6, none⟩ (.bool (orV d.g undV).b)) ⟨w.heap.size, 7, none⟩ (.float .f64 (orV d.g undV).x)) ⟨w.heap.size, 8, none⟩ (.string (orV d.g undV).s)) ⟨w.heap.size, 9, none⟩ (.int .i64 (orV d.g undV).i)) [.D { d with g := orV d.g undV }, .D zeroD] := (unhide LV).putg (orV d.g undV)
      replace LL := hide LX
      clear LV LX
      generalize (World.setCell (World.setCell (World.setCell (World.setCell (World.setCell wv ⟨w.heap.size, 5, none⟩ (.int .i64 (orV d.g undV).k)) ⟨w.heap.size, 6, none⟩ (.bool (orV d.g undV).b)) ⟨w.heap.size, 7, none⟩ (.float .f64 (orV d.g undV).x)) ⟨w.heap.size, 8, none⟩ (.string (orV d.g undV).s)) ⟨w.heap.size, 9, none⟩ (.int .i64 (orV d.g undV).i)) = X at LL ⊢
    all_goals
      go_wp2_with fail
      obtain ⟨f0, c0, c1, c2, c3, c4, c5, c6, c7, c8, c9, c10, c11, c12, c13, c14, c15, c16, c17⟩ := (unhide LL).one
      try dsimp only at f0 c0 c1 c2 c3 c4 c5 c6 c7 c8 c9 c10 c11 c12 c13 c14 c15 c16 c17
      go_region_with (first | (go_at_call 131; refine (unhide HU _).mono ?_; rintro _ wu ⟨rfl, hbwu⟩; have LU := hide ((unhide LL).drew.on hbwu); clear f0 c0 c1 c2 c3 c4 c5 c6 c7 c8 c9 c10 c11 c12 c13 c14 c15 c16 c17; obtain ⟨f0, c0, c1, c2, c3, c4, c5, c6, c7, c8, c9, c10, c11, c12, c13, c14, c15, c16, c17⟩ := (unhide LU).one; try dsimp only at f0 c0 c1 c2 c3 c4 c5 c6 c7 c8 c9 c10 c11 c12 c13 c14 c15 c16 c17) | (go_at_call 143; refine (unhide HS _).mono ?_; rintro _ wv ⟨rfl, hbwv⟩; have LV := hide ((unhide LU).on hbwv); clear f0 c0 c1 c2 c3 c4 c5 c6 c7 c8 c9 c10 c11 c12 c13 c14 c15 c16 c17; obtain ⟨f0, c0, c1, c2, c3, c4, c5, c6, c7, c8, c9, c10, c11, c12, c13, c14, c15, c16, c17⟩ := (unhide LV).one; try dsimp only at f0 c0 c1 c2 c3 c4 c5 c6 c7 c8 c9 c10 c11 c12 c13 c14 c15 c16 c17))
      all_goals
        clear hbwu hbwv LU f0 c0 c1 c2 c3 c4 c5 c6 c7 c8 c9 c10 c11 c12 c13 c14 c15 c16 c17
        have LX : Lie w (World.setCell (World.setCell (World.setCell (World.setCell (World.setCell wv ⟨w.heap.size, 10, none⟩ (.int .i64 (orV d.s undV).k)) ⟨w.heap.size, 11, none⟩ (.bool (orV d.s undV).b)) ⟨w.heap.size, 12, none⟩ (.float .f64 (orV d.s undV).x)) ⟨w.heap.size, 13, none⟩ (.string (orV d.s undV).s)) ⟨w.heap.size, 14, none⟩ (.int .i64 (orV d.s undV).i)) [.D { { d with g := orV d.g undV } with s := orV d.s undV }, .D zeroD] := (unhide LV).puts (orV d.s undV)
        replace LL := hide LX
        clear LV LX
        generalize (World.setCell (World.setCell (World.setCell (World.setCell (World.setCell wv ⟨w.heap.size, 10, none⟩ (.int .i64 (orV d.s undV).k)) ⟨w.heap.size, 11, none⟩ (.bool (orV d.s undV).b)) ⟨w.heap.size, 12, none⟩ (.float .f64 (orV d.s undV).x)) ⟨w.heap.size, 13, none⟩ (.string (orV d.s undV).s)) ⟨w.heap.size, 14, none⟩ (.int .i64 (orV d.s undV).i)) = X at LL ⊢
      all_goals
        go_wp2_with (first | go_skip | ((with_reducible apply load27); (case ho => rfl); (case hw => rfl); (case hx => rfl); (case hc => first | exact (unhide LL).one); simp only [Act.put, List.setIfInBounds_toArray, List.set_cons_succ, List.set_cons_zero]) | ((with_reducible apply load25w); (case ho => rfl); (case hw => rfl); (case hx => rfl); (case hc => first | exact (unhide LL).one); simp only [Act.put, List.setIfInBounds_toArray, List.set_cons_succ, List.set_cons_zero]) | ((with_reducible apply load25e); (case ho => rfl); (case hw => rfl); (case hx => rfl); (case hc => first | exact (unhide LL).one); simp only [Act.put, List.setIfInBounds_toArray, List.set_cons_succ, List.set_cons_zero]) | ((with_reducible apply load25c); (case ho => rfl); (case hw => rfl); (case hx => rfl); (case hc => first | exact (unhide LL).one); simp only [Act.put, List.setIfInBounds_toArray, List.set_cons_succ, List.set_cons_zero]) | ((with_reducible apply store25w 0); (case ho => rfl); (case hw => rfl); (case hL => exact unhide LL); (case hi => rfl); (case hx => rfl); (case hy => rfl); (intro X LX; simp only [Act.put, List.setIfInBounds_toArray, List.set_cons_succ, List.set_cons_zero]; replace LL := hide LX; clear LX)) | ((with_reducible apply store25e 0); (case ho => rfl); (case hw => rfl); (case hL => exact unhide LL); (case hi => rfl); (case hx => rfl); (case hy => rfl); (intro X LX; simp only [Act.put, List.setIfInBounds_toArray, List.set_cons_succ, List.set_cons_zero]; replace LL := hide LX; clear LX)) | ((with_reducible apply store25c 0); (case ho => rfl); (case hw => rfl); (case hL => exact unhide LL); (case hi => rfl); (case hx => rfl); (case hy => rfl); (intro X LX; simp only [Act.put, List.setIfInBounds_toArray, List.set_cons_succ, List.set_cons_zero]; replace LL := hide LX; clear LX)) | ((with_reducible apply store27 1); (case ho => rfl); (case hw => rfl); (case hL => exact unhide LL); (case hi => rfl); (case hx => rfl); (case hy => rfl); (intro X LX; simp only [Act.put, List.setIfInBounds_toArray, List.set_cons_succ, List.set_cons_zero]; replace LL := hide LX; clear LX)) | (go_at_call 144; refine (triOr_T _ _ _).mono ?_; rintro _ _ ⟨rfl, rfl⟩))
        refine ret27 rfl rfl rfl (unhide LL).two ?_
        exact ⟨rfl, (unhide LL).below⟩
  · have e3 : (sh == 3) = false := by simp [h3]
    rw [e3]
    go_enter Tryz.func135, Tryz.ntmps135
    go_wp2_with (first | go_skip | ((with_reducible apply load27); (case ho => rfl); (case hw => rfl); (case hx => rfl); (case hc => first | exact (unhide LL).one | exact (unhide LL).two); simp only [Act.put, List.setIfInBounds_toArray, List.set_cons_succ, List.set_cons_zero]) | (go_at_call 93; refine (said_any _ _).mono ?_; rintro _ _ ⟨rfl, rfl⟩) | (go_at_call 92; refine (oneOfThree_any _ _).mono ?_; rintro _ _ ⟨rfl, rfl⟩))
    refine (unhide HB _).mono ?_
    rintro _ w2 ⟨rfl, hb⟩
    replace LL := hide ((unhide LL).on hb)
    clear hb
    go_wp2_with fail
    obtain ⟨f0, c0, c1, c2, c3, c4, c5, c6, c7, c8, c9, c10, c11, c12, c13, c14, c15, c16, c17⟩ := (unhide LL).one
    try dsimp only at f0 c0 c1 c2 c3 c4 c5 c6 c7 c8 c9 c10 c11 c12 c13 c14 c15 c16 c17
    go_region_with (first | (go_at_call 131; refine (unhide HU _).mono ?_; rintro _ wu ⟨rfl, hbwu⟩; have LU := hide ((unhide LL).drew.on hbwu); clear f0 c0 c1 c2 c3 c4 c5 c6 c7 c8 c9 c10 c11 c12 c13 c14 c15 c16 c17; obtain ⟨f0, c0, c1, c2, c3, c4, c5, c6, c7, c8, c9, c10, c11, c12, c13, c14, c15, c16, c17⟩ := (unhide LU).one; try dsimp only at f0 c0 c1 c2 c3 c4 c5 c6 c7 c8 c9 c10 c11 c12 c13 c14 c15 c16 c17) | (go_at_call 143; refine (unhide HV _).mono ?_; rintro _ wv ⟨rfl, hbwv⟩; have LV := hide ((unhide LU).on hbwv); clear f0 c0 c1 c2 c3 c4 c5 c6 c7 c8 c9 c10 c11 c12 c13 c14 c15 c16 c17; obtain ⟨f0, c0, c1, c2, c3, c4, c5, c6, c7, c8, c9, c10, c11, c12, c13, c14, c15, c16, c17⟩ := (unhide LV).one; try dsimp only at f0 c0 c1 c2 c3 c4 c5 c6 c7 c8 c9 c10 c11 c12 c13 c14 c15 c16 c17))
    all_goals
      clear hbwu hbwv LU f0 c0 c1 c2 c3 c4 c5 c6 c7 c8 c9 c10 c11 c12 c13 c14 c15 c16 c17
      have LX : Lie w (World.setCell (World.setCell (World.setCell (World.setCell (World.setCell wv ⟨w.heap.size, 0, none⟩ (.int .i64 (orV d.v undV).k)) ⟨w.heap.size, 1, none⟩ (.bool (orV d.v undV).b)) ⟨w.heap.size, 2, none⟩ (.float .f64 (orV d.v undV).x)) ⟨w.heap.size, 3, none⟩ (.string (orV d.v undV).s)) ⟨w.heap.size, 4, none⟩ (.int .i64 (orV d.v undV).i)) [.D { d with v := orV d.v undV }, .D zeroD] := (unhide LV).putv (orV d.v undV)
      replace LL := hide LX
      clear LV LX
      generalize (World.setCell (World.setCell (World.setCell (World.setCell (World.setCell wv ⟨w.heap.size, 0, none⟩ (.int .i64 (orV d.v undV).k)) ⟨w.heap.size, 1, none⟩ (.bool (orV d.v undV).b)) ⟨w.heap.size, 2, none⟩ (.float .f64 (orV d.v undV).x)) ⟨w.heap.size, 3, none⟩ (.string (orV d.v undV).s)) ⟨w.heap.size, 4, none⟩ (.int .i64 (orV d.v undV).i)) = X at LL ⊢
    all_goals
      go_wp2_with (first | go_skip | ((with_reducible apply load27); (case ho => rfl); (case hw => rfl); (case hx => rfl); (case hc => first | exact (unhide LL).one); simp only [Act.put, List.setIfInBounds_toArray, List.set_cons_succ, List.set_cons_zero]) | ((with_reducible apply load25w); (case ho => rfl); (case hw => rfl); (case hx => rfl); (case hc => first | exact (unhide LL).one); simp only [Act.put, List.setIfInBounds_toArray, List.set_cons_succ, List.set_cons_zero]) | ((with_reducible apply load25e); (case ho => rfl); (case hw => rfl); (case hx => rfl); (case hc => first | exact (unhide LL).one); simp only [Act.put, List.setIfInBounds_toArray, List.set_cons_succ, List.set_cons_zero]) | ((with_reducible apply load25c); (case ho => rfl); (case hw => rfl); (case hx => rfl); (case hc => first | exact (unhide LL).one); simp only [Act.put, List.setIfInBounds_toArray, List.set_cons_succ, List.set_cons_zero]) | ((with_reducible apply store25w 0); (case ho => rfl); (case hw => rfl); (case hL => exact unhide LL); (case hi => rfl); (case hx => rfl); (case hy => rfl); (intro X LX; simp only [Act.put, List.setIfInBounds_toArray, List.set_cons_succ, List.set_cons_zero]; replace LL := hide LX; clear LX)) | ((with_reducible apply store25e 0); (case ho => rfl); (case hw => rfl); (case hL => exact unhide LL); (case hi => rfl); (case hx => rfl); (case hy => rfl); (intro X LX; simp only [Act.put, List.setIfInBounds_toArray, List.set_cons_succ, List.set_cons_zero]; replace LL := hide LX; clear LX)) | ((with_reducible apply store25c 0); (case ho => rfl); (case hw => rfl); (case hL => exact unhide LL); (case hi => rfl); (case hx => rfl); (case hy => rfl); (intro X LX; simp only [Act.put, List.setIfInBounds_toArray, List.set_cons_succ, List.set_cons_zero]; replace LL := hide LX; clear LX)) | ((with_reducible apply store27 1); (case ho => rfl); (case hw => rfl); (case hL => exact unhide LL); (case hi => rfl); (case hx => rfl); (case hy => rfl); (intro X LX; simp only [Act.put, List.setIfInBounds_toArray, List.set_cons_succ, List.set_cons_zero]; replace LL := hide LX; clear LX)) | (go_at_call 144; refine (triOr_T _ _ _).mono ?_; rintro _ _ ⟨rfl, rfl⟩))
      refine ret27 rfl rfl rfl (unhide LL).two ?_
      exact ⟨rfl, (unhide LL).below⟩
