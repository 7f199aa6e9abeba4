import Derived.Test.YthilnaeomkppaaaGreatFmtQn
set_option linter.all false
namespace Go.Proofs.YthilnaeomkppaaaGreatFmt
section
open Go Go.Proofs Go.RowKit FM
def rgoodV (d : DD) : Bool := if (thV d.v && !d.v.good) || (thV d.g && !slotV d.g) || (thV d.s && !slotV d.s) || !triV d.w || !triV d.e || !triV d.c then false else !((d.v.k != 0 || d.w != 0) && (d.g.k != 0 || d.s.k != 0))
def raccV (d : DD) : Bool := rgoodV d && (d.g.k != 0 || d.s.k != 0)
def rdatV (d : DD) : Bool := rgoodV d && (d.v.k != 0 || d.w != 0)
def rgenV (d : DD) : Bool := rgoodV d && !raccV d && !rdatV d
def rwhoV (d : DD) : Bool := if !rgoodV d || d.e == 0 || d.c == 0 then false else d.g.k != 0 && d.s.k != 0 || d.v.k != 0 && d.w != 0
def rzeroV (d : DD) : Bool := !thV d.v && !thV d.g && !thV d.s && d.w == 0 && d.e == 0 && d.c == 0

def orT (t a : Int) : Int := if t != 0 then t else a
/-- What filled makes of a descriptor. -/
def fillV (d : DD) : DD := if shapeV d == 3 then ⟨d.v, orV d.g undV, orV d.s undV, d.w, orT d.e 1, orT d.c 1⟩ else ⟨orV d.v undV, d.g, d.s, orT d.w 1, orT d.e 1, orT d.c 1⟩
def frzV (d : DD) : DD := if wholeV d then ⟨zeroV, zeroV, zeroV, if shapeV d == 2 then 1 else 0, 0, 1⟩ else zeroD
set_option maxHeartbeats 2000000 in
set_option maxRecDepth 100000 in
theorem anew_any (d : DD) (hs : d.v.s.size ≤ 1048576) (w : World) : Calls Tryz.prog 67 #[d.agg] w fun e w' => e = .returned d.agg ∧ Below w.heap.size w w' := by
  have HC := hide (fun w => clone_any d.v.s w hs)
  have LL := hide (Lie.new2 w (.D d) (.D zeroD))
  have hq0 : d.agg = .agg #[.int .i64 d.v.k, .bool d.v.b, .float .f64 d.v.x, .string d.v.s, .int .i64 d.v.i, .int .i64 d.g.k, .bool d.g.b, .float .f64 d.g.x, .string d.g.s, .int .i64 d.g.i, .int .i64 d.s.k, .bool d.s.b, .float .f64 d.s.x, .string d.s.s, .int .i64 d.s.i, .int .i64 d.w, .int .i64 d.e, .int .i64 d.c] := rfl
  rw [hq0]
  clear hq0
  go_enter Tryz.func67, Tryz.ntmps67
  go_wp2_with (first | go_skip | ((with_reducible apply load27); (case ho => rfl); (case hw => rfl); (case hx => rfl); (case hc => first | exact (unhide LL).one | exact (unhide LL).two); simp only [Act.put, List.setIfInBounds_toArray, List.set_cons_succ, List.set_cons_zero]) | ((with_reducible apply store27 1); (case ho => rfl); (case hL => exact unhide LL); (case hi => rfl); (case hx => rfl); (case hw => rfl); (case hy => rfl); (intro X LX; simp only [Act.put, List.setIfInBounds_toArray, List.set_cons_succ, List.set_cons_zero]; replace LL := hide LX; clear LX)) | ((with_reducible apply store9 0); (case ho => rfl); (case hL => exact unhide LL); (case hi => rfl); (case hx => rfl); (case hw => rfl); (case hy => rfl); (intro X LX; simp only [Act.put, List.setIfInBounds_toArray, List.set_cons_succ, List.set_cons_zero]; replace LL := hide LX; clear LX)))
  refine (unhide HC _).mono ?_
  rintro _ w1 ⟨rfl, hb⟩
  replace LL := hide ((unhide LL).on hb)
  clear hb
  go_wp2_with (first | go_skip | ((with_reducible apply load27); (case ho => rfl); (case hw => rfl); (case hx => rfl); (case hc => first | exact (unhide LL).one | exact (unhide LL).two); simp only [Act.put, List.setIfInBounds_toArray, List.set_cons_succ, List.set_cons_zero]) | ((with_reducible apply store27 1); (case ho => rfl); (case hL => exact unhide LL); (case hi => rfl); (case hx => rfl); (case hw => rfl); (case hy => rfl); (intro X LX; simp only [Act.put, List.setIfInBounds_toArray, List.set_cons_succ, List.set_cons_zero]; replace LL := hide LX; clear LX)) | ((with_reducible apply store9 0); (case ho => rfl); (case hL => exact unhide LL); (case hi => rfl); (case hx => rfl); (case hw => rfl); (case hy => rfl); (intro X LX; simp only [Act.put, List.setIfInBounds_toArray, List.set_cons_succ, List.set_cons_zero]; replace LL := hide LX; clear LX)))
  refine ret27 rfl rfl rfl (unhide LL).two ?_
  exact ⟨rfl, (unhide LL).below⟩
theorem triOr_T (t a : Int) (w : World) : Calls Tryz.prog 84 #[.int .i64 t, .int .i64 a] w fun e w' => e = .returned (.int .i64 (orT t a)) ∧ w' = w := triOr_any t a w
theorem Lie.putv {w W : World} {d : DD} {l : List PB} (h : Lie w W (.D d :: l)) (u : VV) : Lie w (W.setCells w.heap.size 0 u.cs) (.D { d with v := u } :: l) :=
  Lie.put (i := 0) (o := 0) (vs := u.cs) (p := .D { d with v := u }) (q := .D d) h rfl (fun hq => Lies.setv hq)
theorem Lie.putg {w W : World} {d : DD} {l : List PB} (h : Lie w W (.D d :: l)) (u : VV) : Lie w (W.setCells w.heap.size 5 u.cs) (.D { d with g := u } :: l) :=
  Lie.put (i := 0) (o := 5) (vs := u.cs) (p := .D { d with g := u }) (q := .D d) h rfl (fun hq => Lies.setg hq)
theorem Lie.puts {w W : World} {d : DD} {l : List PB} (h : Lie w W (.D d :: l)) (u : VV) : Lie w (W.setCells w.heap.size 10 u.cs) (.D { d with s := u } :: l) :=
  Lie.put (i := 0) (o := 10) (vs := u.cs) (p := .D { d with s := u }) (q := .D d) h rfl (fun hq => Lies.sets hq)
attribute [local go_sem] run_store_floatD
set_option maxHeartbeats 2000000 in
set_option maxRecDepth 100000 in
theorem filled_any (d : DD) (hd : FD d) (w : World) : Calls Tryz.prog 68 #[d.agg] w fun e w' => e = .returned (fillV d).agg ∧ Below w.heap.size w w' := by
  have HB := hide (shape_any d hd)
  have HU := hide (undefined_any)
  have HV := hide (valueOr_any d.v undV hd.1)
  have HG := hide (valueOr_any d.g undV hd.2.1)
  have HS := hide (valueOr_any d.s undV hd.2.2)
  clear hd
  have LL := hide (Lie.new2 w (.D d) (.D zeroD))
  unfold fillV
  generalize shapeV d = sh at *
  unfold VV.agg at HU HV HG HS
  dsimp only at HU
  have hq0 : d.agg = .agg #[.int .i64 d.v.k, .bool d.v.b, .float .f64 d.v.x, .string d.v.s, .int .i64 d.v.i, .int .i64 d.g.k, .bool d.g.b, .float .f64 d.g.x, .string d.g.s, .int .i64 d.g.i, .int .i64 d.s.k, .bool d.s.b, .float .f64 d.s.x, .string d.s.s, .int .i64 d.s.i, .int .i64 d.w, .int .i64 d.e, .int .i64 d.c] := rfl
  rw [hq0]
  clear hq0
  by_cases h3 : sh = 3
  · subst h3
    go_enter Tryz.func68, Tryz.ntmps68
    go_wp2_with (first | go_skip | ((with_reducible apply load27); (case ho => rfl); (case hw => rfl); (case hx => rfl); (case hc => first | exact (unhide LL).one | exact (unhide LL).two); simp only [Act.put, List.setIfInBounds_toArray, List.set_cons_succ, List.set_cons_zero]) | (go_at_call 79; refine (said_any _ _).mono ?_; rintro _ _ ⟨rfl, rfl⟩) | (go_at_call 78; refine (oneOfThree_any _ _).mono ?_; rintro _ _ ⟨rfl, rfl⟩))
    refine (unhide HB _).mono ?_
    rintro _ w1 ⟨rfl, hb⟩
    replace LL := hide ((unhide LL).on hb)
    clear hb
    go_wp2_with fail
    obtain ⟨f0, c0, c1, c2, c3, c4, c5, c6, c7, c8, c9, c10, c11, c12, c13, c14, c15, c16, c17⟩ := (unhide LL).one
    try dsimp only at f0 c0 c1 c2 c3 c4 c5 c6 c7 c8 c9 c10 c11 c12 c13 c14 c15 c16 c17
    go_region_with (first | (go_at_call 83; refine (unhide HU _).mono ?_; rintro _ wu ⟨rfl, hbwu⟩; have LU := hide ((unhide LL).drew.on hbwu); clear f0 c0 c1 c2 c3 c4 c5 c6 c7 c8 c9 c10 c11 c12 c13 c14 c15 c16 c17; obtain ⟨f0, c0, c1, c2, c3, c4, c5, c6, c7, c8, c9, c10, c11, c12, c13, c14, c15, c16, c17⟩ := (unhide LU).one; try dsimp only at f0 c0 c1 c2 c3 c4 c5 c6 c7 c8 c9 c10 c11 c12 c13 c14 c15 c16 c17) | (go_at_call 82; refine (unhide HG _).mono ?_; rintro _ wv ⟨rfl, hbwv⟩; have LV := hide ((unhide LU).on hbwv); clear f0 c0 c1 c2 c3 c4 c5 c6 c7 c8 c9 c10 c11 c12 c13 c14 c15 c16 c17; obtain ⟨f0, c0, c1, c2, c3, c4, c5, c6, c7, c8, c9, c10, c11, c12, c13, c14, c15, c16, c17⟩ := (unhide LV).one; try dsimp only at f0 c0 c1 c2 c3 c4 c5 c6 c7 c8 c9 c10 c11 c12 c13 c14 c15 c16 c17))
    all_goals
      clear hbwu hbwv LU f0 c0 c1 c2 c3 c4 c5 c6 c7 c8 c9 c10 c11 c12 c13 c14 c15 c16 c17
      have LX : Lie w (World.setCell (World.setCell (World.setCell (World.setCell (World.setCell wv ⟨w.heap.size, 5, none⟩ (.int .i64 (orV d.g undV).k)) ⟨w.heap.size, 6, none⟩ (.bool (orV d.g undV).b)) ⟨w.heap.size, 7, none⟩ (.float .f64 (orV d.g undV).x)) ⟨w.heap.size, 8, none⟩ (.string (orV d.g undV).s)) ⟨w.heap.size, 9, none⟩ (.int .i64 (orV d.g undV).i)) [.D { d with g := orV d.g undV }, .D zeroD] := (unhide LV).putg (orV d.g undV)
      replace LL := hide LX
      clear LV LX
      generalize (World.setCell (World.setCell (World.setCell (World.setCell (World.setCell wv ⟨w.heap.size, 5, none⟩ (.int .i64 (orV d.g undV).k)) ⟨w.heap.size, 6, none⟩ (.bool (orV d.g undV).b)) ⟨w.heap.size, 7, none⟩ (.float .f64 (orV d.g undV).x)) ⟨w.heap.size, 8, none⟩ (.string (orV d.g undV).s)) ⟨w.heap.size, 9, none⟩ (.int .i64 (orV d.g undV).i)) = X at LL ⊢
    all_goals
      go_wp2_with fail
      obtain ⟨f0, c0, c1, c2, c3, c4, c5, c6, c7, c8, c9, c10, c11, c12, c13, c14, c15, c16, c17⟩ := (unhide LL).one
      try dsimp only at f0 c0 c1 c2 c3 c4 c5 c6 c7 c8 c9 c10 c11 c12 c13 c14 c15 c16 c17
      go_region_with (first | (go_at_call 83; refine (unhide HU _).mono ?_; rintro _ wu ⟨rfl, hbwu⟩; have LU := hide ((unhide LL).drew.on hbwu); clear f0 c0 c1 c2 c3 c4 c5 c6 c7 c8 c9 c10 c11 c12 c13 c14 c15 c16 c17; obtain ⟨f0, c0, c1, c2, c3, c4, c5, c6, c7, c8, c9, c10, c11, c12, c13, c14, c15, c16, c17⟩ := (unhide LU).one; try dsimp only at f0 c0 c1 c2 c3 c4 c5 c6 c7 c8 c9 c10 c11 c12 c13 c14 c15 c16 c17) | (go_at_call 82; refine (unhide HS _).mono ?_; rintro _ wv ⟨rfl, hbwv⟩; have LV := hide ((unhide LU).on hbwv); clear f0 c0 c1 c2 c3 c4 c5 c6 c7 c8 c9 c10 c11 c12 c13 c14 c15 c16 c17; obtain ⟨f0, c0, c1, c2, c3, c4, c5, c6, c7, c8, c9, c10, c11, c12, c13, c14, c15, c16, c17⟩ := (unhide LV).one; try dsimp only at f0 c0 c1 c2 c3 c4 c5 c6 c7 c8 c9 c10 c11 c12 c13 c14 c15 c16 c17))
      all_goals
        clear hbwu hbwv LU f0 c0 c1 c2 c3 c4 c5 c6 c7 c8 c9 c10 c11 c12 c13 c14 c15 c16 c17
        have LX : Lie w (World.setCell (World.setCell (World.setCell (World.setCell (World.setCell wv ⟨w.heap.size, 10, none⟩ (.int .i64 (orV d.s undV).k)) ⟨w.heap.size, 11, none⟩ (.bool (orV d.s undV).b)) ⟨w.heap.size, 12, none⟩ (.float .f64 (orV d.s undV).x)) ⟨w.heap.size, 13, none⟩ (.string (orV d.s undV).s)) ⟨w.heap.size, 14, none⟩ (.int .i64 (orV d.s undV).i)) [.D { { d with g := orV d.g undV } with s := orV d.s undV }, .D zeroD] := (unhide LV).puts (orV d.s undV)
        replace LL := hide LX
        clear LV LX
        generalize (World.setCell (World.setCell (World.setCell (World.setCell (World.setCell wv ⟨w.heap.size, 10, none⟩ (.int .i64 (orV d.s undV).k)) ⟨w.heap.size, 11, none⟩ (.bool (orV d.s undV).b)) ⟨w.heap.size, 12, none⟩ (.float .f64 (orV d.s undV).x)) ⟨w.heap.size, 13, none⟩ (.string (orV d.s undV).s)) ⟨w.heap.size, 14, none⟩ (.int .i64 (orV d.s undV).i)) = X at LL ⊢
      all_goals
        go_wp2_with (first | go_skip | ((with_reducible apply load27); (case ho => rfl); (case hw => rfl); (case hx => rfl); (case hc => first | exact (unhide LL).one); simp only [Act.put, List.setIfInBounds_toArray, List.set_cons_succ, List.set_cons_zero]) | ((with_reducible apply load25w); (case ho => rfl); (case hw => rfl); (case hx => rfl); (case hc => first | exact (unhide LL).one); simp only [Act.put, List.setIfInBounds_toArray, List.set_cons_succ, List.set_cons_zero]) | ((with_reducible apply load25e); (case ho => rfl); (case hw => rfl); (case hx => rfl); (case hc => first | exact (unhide LL).one); simp only [Act.put, List.setIfInBounds_toArray, List.set_cons_succ, List.set_cons_zero]) | ((with_reducible apply load25c); (case ho => rfl); (case hw => rfl); (case hx => rfl); (case hc => first | exact (unhide LL).one); simp only [Act.put, List.setIfInBounds_toArray, List.set_cons_succ, List.set_cons_zero]) | ((with_reducible apply store25w 0); (case ho => rfl); (case hw => rfl); (case hL => exact unhide LL); (case hi => rfl); (case hx => rfl); (case hy => rfl); (intro X LX; simp only [Act.put, List.setIfInBounds_toArray, List.set_cons_succ, List.set_cons_zero]; replace LL := hide LX; clear LX)) | ((with_reducible apply store25e 0); (case ho => rfl); (case hw => rfl); (case hL => exact unhide LL); (case hi => rfl); (case hx => rfl); (case hy => rfl); (intro X LX; simp only [Act.put, List.setIfInBounds_toArray, List.set_cons_succ, List.set_cons_zero]; replace LL := hide LX; clear LX)) | ((with_reducible apply store25c 0); (case ho => rfl); (case hw => rfl); (case hL => exact unhide LL); (case hi => rfl); (case hx => rfl); (case hy => rfl); (intro X LX; simp only [Act.put, List.setIfInBounds_toArray, List.set_cons_succ, List.set_cons_zero]; replace LL := hide LX; clear LX)) | ((with_reducible apply store27 1); (case ho => rfl); (case hw => rfl); (case hL => exact unhide LL); (case hi => rfl); (case hx => rfl); (case hy => rfl); (intro X LX; simp only [Act.put, List.setIfInBounds_toArray, List.set_cons_succ, List.set_cons_zero]; replace LL := hide LX; clear LX)) | (go_at_call 84; refine (triOr_T _ _ _).mono ?_; rintro _ _ ⟨rfl, rfl⟩))
        refine ret27 rfl rfl rfl (unhide LL).two ?_
        exact ⟨rfl, (unhide LL).below⟩
  · have e3 : (sh == 3) = false := by simp [h3]
    rw [e3]
    go_enter Tryz.func68, Tryz.ntmps68
    go_wp2_with (first | go_skip | ((with_reducible apply load27); (case ho => rfl); (case hw => rfl); (case hx => rfl); (case hc => first | exact (unhide LL).one | exact (unhide LL).two); simp only [Act.put, List.setIfInBounds_toArray, List.set_cons_succ, List.set_cons_zero]) | (go_at_call 79; refine (said_any _ _).mono ?_; rintro _ _ ⟨rfl, rfl⟩) | (go_at_call 78; refine (oneOfThree_any _ _).mono ?_; rintro _ _ ⟨rfl, rfl⟩))
    refine (unhide HB _).mono ?_
    rintro _ w2 ⟨rfl, hb⟩
    replace LL := hide ((unhide LL).on hb)
    clear hb
    go_wp2_with fail
    obtain ⟨f0, c0, c1, c2, c3, c4, c5, c6, c7, c8, c9, c10, c11, c12, c13, c14, c15, c16, c17⟩ := (unhide LL).one
    try dsimp only at f0 c0 c1 c2 c3 c4 c5 c6 c7 c8 c9 c10 c11 c12 c13 c14 c15 c16 c17
    go_region_with (first | (go_at_call 83; refine (unhide HU _).mono ?_; rintro _ wu ⟨rfl, hbwu⟩; have LU := hide ((unhide LL).drew.on hbwu); clear f0 c0 c1 c2 c3 c4 c5 c6 c7 c8 c9 c10 c11 c12 c13 c14 c15 c16 c17; obtain ⟨f0, c0, c1, c2, c3, c4, c5, c6, c7, c8, c9, c10, c11, c12, c13, c14, c15, c16, c17⟩ := (unhide LU).one; try dsimp only at f0 c0 c1 c2 c3 c4 c5 c6 c7 c8 c9 c10 c11 c12 c13 c14 c15 c16 c17) | (go_at_call 82; refine (unhide HV _).mono ?_; rintro _ wv ⟨rfl, hbwv⟩; have LV := hide ((unhide LU).on hbwv); clear f0 c0 c1 c2 c3 c4 c5 c6 c7 c8 c9 c10 c11 c12 c13 c14 c15 c16 c17; obtain ⟨f0, c0, c1, c2, c3, c4, c5, c6, c7, c8, c9, c10, c11, c12, c13, c14, c15, c16, c17⟩ := (unhide LV).one; try dsimp only at f0 c0 c1 c2 c3 c4 c5 c6 c7 c8 c9 c10 c11 c12 c13 c14 c15 c16 c17))
    all_goals
      clear hbwu hbwv LU f0 c0 c1 c2 c3 c4 c5 c6 c7 c8 c9 c10 c11 c12 c13 c14 c15 c16 c17
      have LX : Lie w (World.setCell (World.setCell (World.setCell (World.setCell (World.setCell wv ⟨w.heap.size, 0, none⟩ (.int .i64 (orV d.v undV).k)) ⟨w.heap.size, 1, none⟩ (.bool (orV d.v undV).b)) ⟨w.heap.size, 2, none⟩ (.float .f64 (orV d.v undV).x)) ⟨w.heap.size, 3, none⟩ (.string (orV d.v undV).s)) ⟨w.heap.size, 4, none⟩ (.int .i64 (orV d.v undV).i)) [.D { d with v := orV d.v undV }, .D zeroD] := (unhide LV).putv (orV d.v undV)
      replace LL := hide LX
      clear LV LX
      generalize (World.setCell (World.setCell (World.setCell (World.setCell (World.setCell wv ⟨w.heap.size, 0, none⟩ (.int .i64 (orV d.v undV).k)) ⟨w.heap.size, 1, none⟩ (.bool (orV d.v undV).b)) ⟨w.heap.size, 2, none⟩ (.float .f64 (orV d.v undV).x)) ⟨w.heap.size, 3, none⟩ (.string (orV d.v undV).s)) ⟨w.heap.size, 4, none⟩ (.int .i64 (orV d.v undV).i)) = X at LL ⊢
    all_goals
      go_wp2_with (first | go_skip | ((with_reducible apply load27); (case ho => rfl); (case hw => rfl); (case hx => rfl); (case hc => first | exact (unhide LL).one); simp only [Act.put, List.setIfInBounds_toArray, List.set_cons_succ, List.set_cons_zero]) | ((with_reducible apply load25w); (case ho => rfl); (case hw => rfl); (case hx => rfl); (case hc => first | exact (unhide LL).one); simp only [Act.put, List.setIfInBounds_toArray, List.set_cons_succ, List.set_cons_zero]) | ((with_reducible apply load25e); (case ho => rfl); (case hw => rfl); (case hx => rfl); (case hc => first | exact (unhide LL).one); simp only [Act.put, List.setIfInBounds_toArray, List.set_cons_succ, List.set_cons_zero]) | ((with_reducible apply load25c); (case ho => rfl); (case hw => rfl); (case hx => rfl); (case hc => first | exact (unhide LL).one); simp only [Act.put, List.setIfInBounds_toArray, List.set_cons_succ, List.set_cons_zero]) | ((with_reducible apply store25w 0); (case ho => rfl); (case hw => rfl); (case hL => exact unhide LL); (case hi => rfl); (case hx => rfl); (case hy => rfl); (intro X LX; simp only [Act.put, List.setIfInBounds_toArray, List.set_cons_succ, List.set_cons_zero]; replace LL := hide LX; clear LX)) | ((with_reducible apply store25e 0); (case ho => rfl); (case hw => rfl); (case hL => exact unhide LL); (case hi => rfl); (case hx => rfl); (case hy => rfl); (intro X LX; simp only [Act.put, List.setIfInBounds_toArray, List.set_cons_succ, List.set_cons_zero]; replace LL := hide LX; clear LX)) | ((with_reducible apply store25c 0); (case ho => rfl); (case hw => rfl); (case hL => exact unhide LL); (case hi => rfl); (case hx => rfl); (case hy => rfl); (intro X LX; simp only [Act.put, List.setIfInBounds_toArray, List.set_cons_succ, List.set_cons_zero]; replace LL := hide LX; clear LX)) | ((with_reducible apply store27 1); (case ho => rfl); (case hw => rfl); (case hL => exact unhide LL); (case hi => rfl); (case hx => rfl); (case hy => rfl); (intro X LX; simp only [Act.put, List.setIfInBounds_toArray, List.set_cons_succ, List.set_cons_zero]; replace LL := hide LX; clear LX)) | (go_at_call 84; refine (triOr_T _ _ _).mono ?_; rintro _ _ ⟨rfl, rfl⟩))
      refine ret27 rfl rfl rfl (unhide LL).two ?_
      exact ⟨rfl, (unhide LL).below⟩
theorem good_str {v : VV} (h : v.good = true) : v.s.size ≤ 1048576 := by
  have e0 : ByteArray.empty.size ≤ 1048576 := by decide
  obtain ⟨k, b, x, s, i⟩ := v
  rcases good_cases h with ⟨_, _, _, rfl, _⟩ | ⟨_, _, _, rfl, _⟩ | ⟨_, _, rfl, _⟩ | ⟨_, _, rfl, _⟩ | ⟨_, _, _, _, hf⟩ | ⟨_, _, _, rfl, _⟩ | ⟨_, _, _, rfl, _⟩
  · exact e0
  · exact e0
  · exact e0
  · exact e0
  · unfold fitV at hf
    simp at hf
    exact hf.1
  · exact e0
  · exact e0
theorem none_str {v : VV} (h : thV v = false) : v.s.size ≤ 1048576 := by
  unfold thV at h
  simp only [Bool.not_eq_false', Bool.and_eq_true] at h
  rw [empty_of h.1.2]
  decide
theorem sound_str {d : DD} (h : soundV d = true) : d.v.s.size ≤ 1048576 := by
  unfold soundV at h
  simp only [Bool.and_eq_true, Bool.or_eq_true, Bool.not_eq_true'] at h
  rcases h.1.1.1.1.1 with h | h
  · exact none_str h
  · exact good_str h
theorem kind_sound {d : DD} (h : ¬ kindV d = 0) : soundV d = true := by
  unfold kindV at h
  cases hs : soundV d
  · rw [hs] at h
    exact absurd rfl h
  · rfl
theorem or_str {v : VV} (h : v.s.size ≤ 1048576) : (orV v undV).s.size ≤ 1048576 := by
  unfold orV
  cases thV v
  · show undV.s.size ≤ 1048576
    decide
  · exact h
theorem fill_str {d : DD} (h : d.v.s.size ≤ 1048576) : (fillV d).v.s.size ≤ 1048576 := by
  unfold fillV
  cases shapeV d == 3
  · exact or_str h
  · exact h
def cmpV (d : DD) : DD := if kindV d == 0 then zeroD else fillV d
def rfillV (d : DD) : DD := if raccV d then ⟨d.v, rorV d.g, rorV d.s, d.w, orT d.e 1, orT d.c 1⟩ else ⟨rorV d.v, d.g, d.s, orT d.w 1, orT d.e 1, orT d.c 1⟩
def rfrzV (d : DD) : DD := if rwhoV d then ⟨zeroV, zeroV, zeroV, if rdatV d then 1 else 0, 0, 1⟩ else zeroD
def eqD (a b : DD) : Bool := eqB a.v b.v && eqB a.g b.g && eqB a.s b.s && a.w == b.w && a.e == b.e && a.c == b.c
/-- Blocks that are ours hold what they held, and what was there ahead is as it was. -/
structure Kp (w X : World) (l : List (Nat × PB)) : Prop where
  below : Below w.heap.size w X
  all : ∀ q ∈ l, w.heap.size ≤ q.1 ∧ q.1 < X.heap.size ∧ q.2.lies X q.1
  nd : (l.map (·.1)).Nodup
theorem Kp.of1 {w X : World} {p : PB} (h : Lie w X [p]) : Kp w X [(w.heap.size, p)] :=
  ⟨h.below, fun q hq => by
    obtain rfl : q = (w.heap.size, p) := by simpa using hq
    exact ⟨Nat.le_refl _, by have := h.size; simp at this; omega, h.holds.1⟩, by simp⟩
theorem Kp.of2 {w X : World} {p p2 : PB} (h : Lie w X [p, p2]) : Kp w X [(w.heap.size, p), (w.heap.size + 1, p2)] :=
  ⟨h.below, fun q hq => by
    have hs := h.size
    simp at hs hq
    rcases hq with rfl | rfl
    · exact ⟨Nat.le_refl _, by show w.heap.size < X.heap.size; omega, h.holds.1⟩
    · exact ⟨Nat.le_succ _, by show w.heap.size + 1 < X.heap.size; omega, h.holds.2.1⟩, by simp⟩
theorem Kp.on {w X X1 : World} {l : List (Nat × PB)} (h : Kp w X l) (hb : Below X.heap.size X X1) : Kp w X1 l :=
  ⟨h.below.trans (hb.mono h.below.size), fun q hq => ⟨(h.all q hq).1, Nat.lt_of_lt_of_le (h.all q hq).2.1 hb.size, PB.on (h.all q hq).2.2 (h.all q hq).2.1 hb⟩, h.nd⟩
theorem Kp.drew {w X : World} {l : List (Nat × PB)} (h : Kp w X l) : Kp w X.drew l := ⟨h.below.drew, fun q hq => ⟨(h.all q hq).1, (h.all q hq).2.1, PB.drew (h.all q hq).2.2⟩, h.nd⟩
theorem Kp.get {w X : World} {l : List (Nat × PB)} (h : Kp w X l) (i : Nat) {b : Nat} {p : PB} (hi : l[i]? = some (b, p)) : p.lies X b := (h.all _ (List.mem_of_getElem? hi)).2.2
theorem Kp.new {w X : World} {l : List (Nat × PB)} (h : Kp w X l) (p : PB) : Kp w (X.alloc p.obj) (l ++ [(X.heap.size, p)]) := by
  have hb : Below X.heap.size X (X.alloc p.obj) := (Below.refl _ _).alloc (Nat.le_refl _) _
  refine ⟨(h.on hb).below, fun q hq => ?_, ?_⟩
  · rcases List.mem_append.1 hq with hq | hq
    · exact (h.on hb).all q hq
    · obtain rfl : q = (X.heap.size, p) := by simpa using hq
      exact ⟨h.below.size, by simp, PB.new X _ rfl p⟩
  · rw [List.map_append, List.nodup_append]
    refine ⟨h.nd, by simp, ?_⟩
    intro a ha b hb
    obtain ⟨q, hq, rfl⟩ := List.mem_map.1 ha
    obtain rfl : b = X.heap.size := by simpa using hb
    exact Nat.ne_of_lt (h.all q hq).2.1
theorem Kp.put {w X : World} {l : List (Nat × PB)} (h : Kp w X l) (i : Nat) {b : Nat} {d u : DD} (hi : l[i]? = some (b, .D d)) : Kp w (X.setCells b 0 u.cs) (l.set i (b, .D u)) := by
  have hb := h.all _ (List.mem_of_getElem? hi)
  have hlt := (List.getElem?_eq_some_iff.1 hi).1
  refine ⟨below_setCellsD (W := X) hb.1 _ _ _ h.below, fun q hq => ?_, ?_⟩
  · rw [size_setCellsD]
    obtain ⟨j, hj, rfl⟩ := List.mem_iff_getElem.1 hq
    by_cases hij : i = j
    · subst hij
      rw [List.getElem_set_self]
      exact ⟨hb.1, hb.2.1, Lies.setD hb.2.2⟩
    · rw [List.getElem_set_ne hij]
      have hj' : j < l.length := by simpa using hj
      have ha := h.all _ (List.getElem_mem hj')
      refine ⟨ha.1, ha.2.1, PB.far ha.2.2 ?_⟩
      intro e
      have hn := List.pairwise_iff_getElem.1 h.nd
      have hie : l[i].1 = b := by
        have := (List.getElem?_eq_some_iff.1 hi).2
        rw [this]
      rcases Nat.lt_or_gt_of_ne hij with hlt2 | hlt2
      · exact hn i j (by simpa using hlt) (by simpa using hj') hlt2 (by simp [hie, e])
      · exact hn j i (by simpa using hj') (by simpa using hlt) hlt2 (by simp [hie, e])
  · rw [List.map_set]
    have : (l.map (·.1)).set i b = l.map (·.1) := by
      refine List.ext_getElem? fun j => ?_
      by_cases hij : i = j
      · subst hij
        have := (List.getElem?_eq_some_iff.1 hi).2
        simp [hlt, this]
      · rw [List.getElem?_set_ne hij]
    rw [this]
    exact h.nd

theorem kload27 {ops : Array Oper} {rest : List Oper} {o : Oper} {a : Act} {w w0 : World} {Q : Exit → Act → World → Prop} {l : List (Nat × PB)} {x : Operand} {b : Nat} {d : DD} (hw : Region.wanted o (yielded ops a.tmps) = true) (ho : o.op = .load 47 x)
    (hx : a.eval x = .pointer (some ⟨b, 0, none⟩)) (hL : Kp w0 w l) (hc : Lies w b d) (h : wpList Tryz.prog ops Q rest (a.put o.dst d.agg) w) : wpList Tryz.prog ops Q (o :: rest) a w := load27 hw ho hx hc h
theorem kstore27 {ops : Array Oper} {rest : List Oper} {o : Oper} {a : Act} {w w0 : World} {Q : Exit → Act → World → Prop} {l : List (Nat × PB)} {x y : Operand} (i : Nat) {b : Nat} {d u : DD} (hw : Region.wanted o (yielded ops a.tmps) = true) (ho : o.op = .store 47 x y) (hL : Kp w0 w l)
    (hx : a.eval x = .pointer (some ⟨b, 0, none⟩)) (hy : a.eval y = u.agg) (hi : l[i]? = some (b, .D d)) (h : ∀ X, Kp w0 X (l.set i (b, .D u)) → wpList Tryz.prog ops Q rest (a.put o.dst undef) X) : wpList Tryz.prog ops Q (o :: rest) a w := by
  refine BigFrame.wpList_want hw fun K hK => ?_
  exact wp_store_mid 47 x y ho _ 0 u.cs.toArray hx hy (Lies.there (hL.get i hi)) info47 (by simp [DD.cs, Value.oneCell']) (hK _ _ (h _ (hL.put i hi)))
theorem kalloc27 {ops : Array Oper} {rest : List Oper} {o : Oper} {a : Act} {w w0 : World} {Q : Exit → Act → World → Prop} {l : List (Nat × PB)} (hw : Region.wanted o (yielded ops a.tmps) = true) (ho : o.op = .alloc 47) (hL : Kp w0 w l)
    (h : ∀ X, Kp w0 X (l ++ [(w.heap.size, .D zeroD)]) → wpList Tryz.prog ops Q rest (a.put o.dst (.pointer (some ⟨w.heap.size, 0, none⟩))) X) : wpList Tryz.prog ops Q (o :: rest) a w := by
  refine BigFrame.wpList_want hw fun K hK => ?_
  have hP := hK _ _ (h _ (hL.new (.D zeroD)))
  unfold Oper.wp execOp
  simp only [ho]
  simp [go_sem, Tryz.zeroValue47]
  exact hP

/-! Regions that draw their order, under Kp. -/
section
variable {md : Region.Mode} {ops : Array Oper} {Q : Exit → Act → World → Prop} {w0 w : World} {l : List (Nat × PB)} {fuel : Nat} {listed : Array Bool} {a : Act} {o : Oper}
theorem hload27 (i j : Nat) (dst : Option Tmp) {x : Operand} {b : Nat} {d : DD} (hi : ops[i]? = some o) (hs : Region.noSelect ops = true) (hf : Region.free md ops listed i = true) (hr : (Region.ready md ops listed).contains i = true)
    (hQ : ∀ c a w, Q (.panic c) (a.put dst d.agg) w → Q (.panic c) a w) (hd : o.dst = dst) (hw : Region.wanted o (yielded ops a.tmps) = true) (ho : o.op = .load 47 x) (hx : a.eval x = .pointer (some ⟨b, 0, none⟩)) (hl : l[j]? = some (b, .D d))
    (hS : Kp w0 w l) (h : wpAnyH Tryz.prog md ops Q (fun X => Kp w0 X l) fuel (listed.setIfInBounds i true) (a.put dst d.agg) w) : wpAnyH Tryz.prog md ops Q (fun X => Kp w0 X l) (fuel + 1) listed a w := by
  subst hd
  obtain ⟨t, hu, hd⟩ := isrow27
  exact wpAnyH_take hi hs hf hr hQ (yieldsIf_load_mid hw 47 x ho b 0 hx d.cs t (fun X hX => Lies.range (hX.get j hl)) hu hd info47) hS h
theorem hpure (i : Nat) (dst : Option Tmp) (v : Value) (hi : ops[i]? = some o) (hs : Region.noSelect ops = true) (hf : Region.free md ops listed i = true) (hr : (Region.ready md ops listed).contains i = true)
    (hQ : ∀ c a w, Q (.panic c) (a.put dst v) w → Q (.panic c) a w) (hd : o.dst = dst) (hw : Region.wanted o (yielded ops a.tmps) = true) (hy : ∀ w, (execOp a.eval o).run Tryz.prog w = .ok (.value v) w)
    (hS : Kp w0 w l) (h : wpAnyH Tryz.prog md ops Q (fun X => Kp w0 X l) fuel (listed.setIfInBounds i true) (a.put dst v) w) : wpAnyH Tryz.prog md ops Q (fun X => Kp w0 X l) (fuel + 1) listed a w := by
  subst hd
  exact wpAnyH_take hi hs hf hr hQ (Or.inl ⟨hw, fun X _ => hy X⟩) hS h
theorem hskip (i : Nat) (dst : Option Tmp) (hi : ops[i]? = some o) (hs : Region.noSelect ops = true) (hf : Region.free md ops listed i = true) (hr : (Region.ready md ops listed).contains i = true)
    (hQ : ∀ c a w, Q (.panic c) (a.put dst undef) w → Q (.panic c) a w) (hd : o.dst = dst) (hw : Region.wanted o (yielded ops a.tmps) = false)
    (hS : Kp w0 w l) (h : wpAnyH Tryz.prog md ops Q (fun X => Kp w0 X l) fuel (listed.setIfInBounds i true) (a.put dst undef) w) : wpAnyH Tryz.prog md ops Q (fun X => Kp w0 X l) (fuel + 1) listed a w := by
  subst hd
  exact wpAnyH_take hi hs hf hr hQ (Or.inr ⟨hw, rfl⟩) hS h
theorem hcall (i : Nat) (dst : Option Tmp) {f : FuncId} {args : Array Value} {V : Value} (hi : ops[i]? = some o) (hr : Region.ready md ops listed = [i]) (hd : o.dst = dst) (hw : Region.wanted o (yielded ops a.tmps) = true)
    (he : (execOp a.eval o).run Tryz.prog w = .ok (.enter f args) w) (hC : Calls Tryz.prog f args w fun e w' => e = .returned V ∧ Below w.heap.size w w') (hS : Kp w0 w l)
    (h : ∀ X, Kp w0 X l → wpAnyH Tryz.prog md ops Q (fun X => Kp w0 X l) fuel (listed.setIfInBounds i true) (a.put dst V) X) : wpAnyH Tryz.prog md ops Q (fun X => Kp w0 X l) (fuel + 1) listed a w := by
  subst hd
  refine wpAnyH_ready hr (by simp) (AllReadyH.cons hi (fun K hK => ?_) AllReadyH.nil)
  rw [if_pos hw]
  unfold Oper.wp
  rw [he, Oper.upon_enter]
  refine hC.mono ?_
  rintro _ X ⟨rfl, hb⟩
  exact hK.out _ _ (hS.on hb) (fun hX => h X hX)
end
