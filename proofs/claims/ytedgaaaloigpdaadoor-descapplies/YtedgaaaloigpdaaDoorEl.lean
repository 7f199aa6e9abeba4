import Derived.Test.YtedgaaaloigpdaaDoorEk
namespace Go.Proofs.YtedgaaaloigpdaaDoor
open Go Go.Proofs Go.RowKit FM
set_option linter.unusedSimpArgs false
set_option linter.unusedVariables false
set_option maxHeartbeats 20000000 in
set_option maxRecDepth 100000 in
theorem law_applies (x : Bool) (n d : DD) (hn : FD n) (hd : FD d) (w : World) (hT : Lib.Utf8Tabs 1 2 w) : Calls Tryd.prog 4 #[.bool x, n.agg, d.agg] w fun e w' => e = .returned (.bool true) ∧ Below w.heap.size w w' := by
  have HAp := hide (fun w hT => apply_any x n d hn hd w hT)
  have HRp := hide (refApply x n d hn hd)
  have HSm := hide (fun w hT => sameD_any n d hn hd w hT)
  have HKe := hide (fun w hT => keeps_any n d hn hd w hT)
  have HRk := hide (refKeeps n d hn hd)
  have HEq := hide (eqD_any (appD x n d) (appD x n d))
  have HGn := hide (refGoodD n hn)
  have HGd := hide (refGoodD d hd)
  have HIs := hide (refIsD n d hn hd)
  have HT := hide hT
  clear hT
  clear hn hd
  have LL := hide (Kp.of2 (Lie.new2 w (.D n) (.D d)))
  obtain ⟨r1, r2, r3⟩ := app_same x n d
  rw [r1, r2, r3] at HRp
  obtain ⟨s1, s2⟩ := keep_same n d
  rw [s1, s2] at HRk
  rw [eqD_self] at HEq
  rw [(four n).1.1] at HGn
  rw [(four d).1.1] at HGd
  clear r1 r2 r3 s1 s2
  unfold smB smE at HSm
  by_cases hn : kindV n = 0
  · rw [hn] at HGn HSm
    generalize appD x n d = A at *
    generalize appB x n d = bB at *
    generalize appE n d = eE at *
    generalize keepB n d = kB at *
    generalize keepE n d = kE at *
    cases bB
    · cases kB
      · have hq0 : n.agg = .agg #[.int .i64 n.v.k, .bool n.v.b, .float .f64 n.v.x, .string n.v.s, .int .i64 n.v.i, .int .i64 n.g.k, .bool n.g.b, .float .f64 n.g.x, .string n.g.s, .int .i64 n.g.i, .int .i64 n.s.k, .bool n.s.b, .float .f64 n.s.x, .string n.s.s, .int .i64 n.s.i, .int .i64 n.w, .int .i64 n.e, .int .i64 n.c] := rfl
        have hq1 : d.agg = .agg #[.int .i64 d.v.k, .bool d.v.b, .float .f64 d.v.x, .string d.v.s, .int .i64 d.v.i, .int .i64 d.g.k, .bool d.g.b, .float .f64 d.g.x, .string d.g.s, .int .i64 d.g.i, .int .i64 d.s.k, .bool d.s.b, .float .f64 d.s.x, .string d.s.s, .int .i64 d.s.i, .int .i64 d.w, .int .i64 d.e, .int .i64 d.c] := rfl
        rw [hq0, hq1]
        clear hq0 hq1
        go_enter Tryd.func4, Tryd.ntmps4
        go_wp2_with (first | go_skip | ((with_reducible apply load27); (case ho => rfl); (case hw => rfl); (case hx => rfl); (case hc => first | exact (unhide LL).get 0 rfl | exact (unhide LL).get 1 rfl); simp only [Act.put, List.setIfInBounds_toArray, List.set_cons_succ, List.set_cons_zero]) | ((with_reducible apply kalloc27); (case ho => rfl); (case hw => rfl); (case hL => exact unhide LL); (intro X LX; simp only [Act.put, List.setIfInBounds_toArray, List.set_cons_succ, List.set_cons_zero]; simp only [List.cons_append, List.nil_append] at LX; replace LL := hide LX; clear LX)))
        refine (unhide HAp _ (tabs_below (unhide HT) (unhide LL).below)).mono ?_
        rintro _ w1 ⟨rfl, hb⟩
        replace LL := hide ((unhide LL).on hb)
        clear hb
        go_wp2_with (first | go_skip | ((with_reducible apply load27); (case ho => rfl); (case hw => rfl); (case hx => rfl); (case hc => first | exact (unhide LL).get 0 rfl | exact (unhide LL).get 1 rfl | exact (unhide LL).get 2 rfl); simp only [Act.put, List.setIfInBounds_toArray, List.set_cons_succ, List.set_cons_zero]) | ((with_reducible apply kstore27 2); (case ho => rfl); (case hw => rfl); (case hL => exact unhide LL); (case hx => rfl); (case hy => rfl); (case hi => rfl); (intro X LX; simp only [Act.put, List.setIfInBounds_toArray, List.set_cons_succ, List.set_cons_zero]; simp only [List.set_cons_succ, List.set_cons_zero] at LX; replace LL := hide LX; clear LX)) | ((with_reducible apply kalloc27); (case ho => rfl); (case hw => rfl); (case hL => exact unhide LL); (intro X LX; simp only [Act.put, List.setIfInBounds_toArray, List.set_cons_succ, List.set_cons_zero]; simp only [List.cons_append, List.nil_append] at LX; replace LL := hide LX; clear LX)))
        refine (unhide HRp _).mono ?_
        rintro _ w2 ⟨rfl, hb⟩
        replace LL := hide ((unhide LL).on hb)
        clear hb
        go_wp2_with (first | go_skip | ((with_reducible apply load27); (case ho => rfl); (case hw => rfl); (case hx => rfl); (case hc => first | exact (unhide LL).get 0 rfl | exact (unhide LL).get 1 rfl | exact (unhide LL).get 2 rfl | exact (unhide LL).get 3 rfl); simp only [Act.put, List.setIfInBounds_toArray, List.set_cons_succ, List.set_cons_zero]) | ((with_reducible apply kstore27 2); (case ho => rfl); (case hw => rfl); (case hL => exact unhide LL); (case hx => rfl); (case hy => rfl); (case hi => rfl); (intro X LX; simp only [Act.put, List.setIfInBounds_toArray, List.set_cons_succ, List.set_cons_zero]; simp only [List.set_cons_succ, List.set_cons_zero] at LX; replace LL := hide LX; clear LX)) | ((with_reducible apply kstore27 3); (case ho => rfl); (case hw => rfl); (case hL => exact unhide LL); (case hx => rfl); (case hy => rfl); (case hi => rfl); (intro X LX; simp only [Act.put, List.setIfInBounds_toArray, List.set_cons_succ, List.set_cons_zero]; simp only [List.set_cons_succ, List.set_cons_zero] at LX; replace LL := hide LX; clear LX)) | ((with_reducible apply kalloc27); (case ho => rfl); (case hw => rfl); (case hL => exact unhide LL); (intro X LX; simp only [Act.put, List.setIfInBounds_toArray, List.set_cons_succ, List.set_cons_zero]; simp only [List.cons_append, List.nil_append] at LX; replace LL := hide LX; clear LX)))
        refine (unhide HSm _ (tabs_below (unhide HT) (unhide LL).below)).mono ?_
        rintro _ w3 ⟨rfl, hb⟩
        replace LL := hide ((unhide LL).on hb)
        clear hb
        go_wp2_with (first | go_skip | ((with_reducible apply load27); (case ho => rfl); (case hw => rfl); (case hx => rfl); (case hc => first | exact (unhide LL).get 0 rfl | exact (unhide LL).get 1 rfl | exact (unhide LL).get 2 rfl | exact (unhide LL).get 3 rfl); simp only [Act.put, List.setIfInBounds_toArray, List.set_cons_succ, List.set_cons_zero]))
        refine (unhide HKe _ (tabs_below (unhide HT) (unhide LL).below)).mono ?_
        rintro _ w4 ⟨rfl, hb⟩
        replace LL := hide ((unhide LL).on hb)
        clear hb
        go_wp2_with (first | go_skip | ((with_reducible apply load27); (case ho => rfl); (case hw => rfl); (case hx => rfl); (case hc => first | exact (unhide LL).get 0 rfl | exact (unhide LL).get 1 rfl | exact (unhide LL).get 2 rfl | exact (unhide LL).get 3 rfl); simp only [Act.put, List.setIfInBounds_toArray, List.set_cons_succ, List.set_cons_zero]))
        refine (unhide HRk _).mono ?_
        rintro _ w5 ⟨rfl, hb⟩
        replace LL := hide ((unhide LL).on hb)
        clear hb
        go_wp2_with (first | go_skip | ((with_reducible apply load27); (case ho => rfl); (case hw => rfl); (case hx => rfl); (case hc => first | exact (unhide LL).get 0 rfl | exact (unhide LL).get 1 rfl | exact (unhide LL).get 2 rfl | exact (unhide LL).get 3 rfl); simp only [Act.put, List.setIfInBounds_toArray, List.set_cons_succ, List.set_cons_zero]))
        refine (unhide HEq _).mono ?_
        rintro _ w6 ⟨rfl, hb⟩
        replace LL := hide ((unhide LL).on hb)
        clear hb
        go_wp2_with (first | go_skip | ((with_reducible apply load27); (case ho => rfl); (case hw => rfl); (case hx => rfl); (case hc => first | exact (unhide LL).get 0 rfl | exact (unhide LL).get 1 rfl | exact (unhide LL).get 2 rfl | exact (unhide LL).get 3 rfl); simp only [Act.put, List.setIfInBounds_toArray, List.set_cons_succ, List.set_cons_zero]))
        refine (unhide HGn _).mono ?_
        rintro _ w1 ⟨rfl, hb⟩
        replace LL := hide ((unhide LL).on hb)
        clear hb
        go_wp2_with (first | go_skip | ((with_reducible apply load27); (case ho => rfl); (case hw => rfl); (case hx => rfl); (case hc => first | exact (unhide LL).get 0 rfl | exact (unhide LL).get 1 rfl | exact (unhide LL).get 2 rfl | exact (unhide LL).get 3 rfl); simp only [Act.put, List.setIfInBounds_toArray, List.set_cons_succ, List.set_cons_zero]))
        go_ret
        exact ⟨rfl, (unhide LL).below⟩
      · have hq0 : n.agg = .agg #[.int .i64 n.v.k, .bool n.v.b, .float .f64 n.v.x, .string n.v.s, .int .i64 n.v.i, .int .i64 n.g.k, .bool n.g.b, .float .f64 n.g.x, .string n.g.s, .int .i64 n.g.i, .int .i64 n.s.k, .bool n.s.b, .float .f64 n.s.x, .string n.s.s, .int .i64 n.s.i, .int .i64 n.w, .int .i64 n.e, .int .i64 n.c] := rfl
        have hq1 : d.agg = .agg #[.int .i64 d.v.k, .bool d.v.b, .float .f64 d.v.x, .string d.v.s, .int .i64 d.v.i, .int .i64 d.g.k, .bool d.g.b, .float .f64 d.g.x, .string d.g.s, .int .i64 d.g.i, .int .i64 d.s.k, .bool d.s.b, .float .f64 d.s.x, .string d.s.s, .int .i64 d.s.i, .int .i64 d.w, .int .i64 d.e, .int .i64 d.c] := rfl
        rw [hq0, hq1]
        clear hq0 hq1
        go_enter Tryd.func4, Tryd.ntmps4
        go_wp2_with (first | go_skip | ((with_reducible apply load27); (case ho => rfl); (case hw => rfl); (case hx => rfl); (case hc => first | exact (unhide LL).get 0 rfl | exact (unhide LL).get 1 rfl); simp only [Act.put, List.setIfInBounds_toArray, List.set_cons_succ, List.set_cons_zero]) | ((with_reducible apply kalloc27); (case ho => rfl); (case hw => rfl); (case hL => exact unhide LL); (intro X LX; simp only [Act.put, List.setIfInBounds_toArray, List.set_cons_succ, List.set_cons_zero]; simp only [List.cons_append, List.nil_append] at LX; replace LL := hide LX; clear LX)))
        refine (unhide HAp _ (tabs_below (unhide HT) (unhide LL).below)).mono ?_
        rintro _ w1 ⟨rfl, hb⟩
        replace LL := hide ((unhide LL).on hb)
        clear hb
        go_wp2_with (first | go_skip | ((with_reducible apply load27); (case ho => rfl); (case hw => rfl); (case hx => rfl); (case hc => first | exact (unhide LL).get 0 rfl | exact (unhide LL).get 1 rfl | exact (unhide LL).get 2 rfl); simp only [Act.put, List.setIfInBounds_toArray, List.set_cons_succ, List.set_cons_zero]) | ((with_reducible apply kstore27 2); (case ho => rfl); (case hw => rfl); (case hL => exact unhide LL); (case hx => rfl); (case hy => rfl); (case hi => rfl); (intro X LX; simp only [Act.put, List.setIfInBounds_toArray, List.set_cons_succ, List.set_cons_zero]; simp only [List.set_cons_succ, List.set_cons_zero] at LX; replace LL := hide LX; clear LX)) | ((with_reducible apply kalloc27); (case ho => rfl); (case hw => rfl); (case hL => exact unhide LL); (intro X LX; simp only [Act.put, List.setIfInBounds_toArray, List.set_cons_succ, List.set_cons_zero]; simp only [List.cons_append, List.nil_append] at LX; replace LL := hide LX; clear LX)))
        refine (unhide HRp _).mono ?_
        rintro _ w2 ⟨rfl, hb⟩
        replace LL := hide ((unhide LL).on hb)
        clear hb
        go_wp2_with (first | go_skip | ((with_reducible apply load27); (case ho => rfl); (case hw => rfl); (case hx => rfl); (case hc => first | exact (unhide LL).get 0 rfl | exact (unhide LL).get 1 rfl | exact (unhide LL).get 2 rfl | exact (unhide LL).get 3 rfl); simp only [Act.put, List.setIfInBounds_toArray, List.set_cons_succ, List.set_cons_zero]) | ((with_reducible apply kstore27 2); (case ho => rfl); (case hw => rfl); (case hL => exact unhide LL); (case hx => rfl); (case hy => rfl); (case hi => rfl); (intro X LX; simp only [Act.put, List.setIfInBounds_toArray, List.set_cons_succ, List.set_cons_zero]; simp only [List.set_cons_succ, List.set_cons_zero] at LX; replace LL := hide LX; clear LX)) | ((with_reducible apply kstore27 3); (case ho => rfl); (case hw => rfl); (case hL => exact unhide LL); (case hx => rfl); (case hy => rfl); (case hi => rfl); (intro X LX; simp only [Act.put, List.setIfInBounds_toArray, List.set_cons_succ, List.set_cons_zero]; simp only [List.set_cons_succ, List.set_cons_zero] at LX; replace LL := hide LX; clear LX)) | ((with_reducible apply kalloc27); (case ho => rfl); (case hw => rfl); (case hL => exact unhide LL); (intro X LX; simp only [Act.put, List.setIfInBounds_toArray, List.set_cons_succ, List.set_cons_zero]; simp only [List.cons_append, List.nil_append] at LX; replace LL := hide LX; clear LX)))
        refine (unhide HSm _ (tabs_below (unhide HT) (unhide LL).below)).mono ?_
        rintro _ w3 ⟨rfl, hb⟩
        replace LL := hide ((unhide LL).on hb)
        clear hb
        go_wp2_with (first | go_skip | ((with_reducible apply load27); (case ho => rfl); (case hw => rfl); (case hx => rfl); (case hc => first | exact (unhide LL).get 0 rfl | exact (unhide LL).get 1 rfl | exact (unhide LL).get 2 rfl | exact (unhide LL).get 3 rfl); simp only [Act.put, List.setIfInBounds_toArray, List.set_cons_succ, List.set_cons_zero]))
        refine (unhide HKe _ (tabs_below (unhide HT) (unhide LL).below)).mono ?_
        rintro _ w4 ⟨rfl, hb⟩
        replace LL := hide ((unhide LL).on hb)
        clear hb
        go_wp2_with (first | go_skip | ((with_reducible apply load27); (case ho => rfl); (case hw => rfl); (case hx => rfl); (case hc => first | exact (unhide LL).get 0 rfl | exact (unhide LL).get 1 rfl | exact (unhide LL).get 2 rfl | exact (unhide LL).get 3 rfl); simp only [Act.put, List.setIfInBounds_toArray, List.set_cons_succ, List.set_cons_zero]))
        refine (unhide HRk _).mono ?_
        rintro _ w5 ⟨rfl, hb⟩
        replace LL := hide ((unhide LL).on hb)
        clear hb
        go_wp2_with (first | go_skip | ((with_reducible apply load27); (case ho => rfl); (case hw => rfl); (case hx => rfl); (case hc => first | exact (unhide LL).get 0 rfl | exact (unhide LL).get 1 rfl | exact (unhide LL).get 2 rfl | exact (unhide LL).get 3 rfl); simp only [Act.put, List.setIfInBounds_toArray, List.set_cons_succ, List.set_cons_zero]))
        refine (unhide HEq _).mono ?_
        rintro _ w6 ⟨rfl, hb⟩
        replace LL := hide ((unhide LL).on hb)
        clear hb
        go_wp2_with (first | go_skip | ((with_reducible apply load27); (case ho => rfl); (case hw => rfl); (case hx => rfl); (case hc => first | exact (unhide LL).get 0 rfl | exact (unhide LL).get 1 rfl | exact (unhide LL).get 2 rfl | exact (unhide LL).get 3 rfl); simp only [Act.put, List.setIfInBounds_toArray, List.set_cons_succ, List.set_cons_zero]))
        refine (unhide HGn _).mono ?_
        rintro _ w7 ⟨rfl, hb⟩
        replace LL := hide ((unhide LL).on hb)
        clear hb
        go_wp2_with (first | go_skip | ((with_reducible apply load27); (case ho => rfl); (case hw => rfl); (case hx => rfl); (case hc => first | exact (unhide LL).get 0 rfl | exact (unhide LL).get 1 rfl | exact (unhide LL).get 2 rfl | exact (unhide LL).get 3 rfl); simp only [Act.put, List.setIfInBounds_toArray, List.set_cons_succ, List.set_cons_zero]))
        go_ret
        exact ⟨rfl, (unhide LL).below⟩
    · cases kB
      · have hq0 : n.agg = .agg #[.int .i64 n.v.k, .bool n.v.b, .float .f64 n.v.x, .string n.v.s, .int .i64 n.v.i, .int .i64 n.g.k, .bool n.g.b, .float .f64 n.g.x, .string n.g.s, .int .i64 n.g.i, .int .i64 n.s.k, .bool n.s.b, .float .f64 n.s.x, .string n.s.s, .int .i64 n.s.i, .int .i64 n.w, .int .i64 n.e, .int .i64 n.c] := rfl
        have hq1 : d.agg = .agg #[.int .i64 d.v.k, .bool d.v.b, .float .f64 d.v.x, .string d.v.s, .int .i64 d.v.i, .int .i64 d.g.k, .bool d.g.b, .float .f64 d.g.x, .string d.g.s, .int .i64 d.g.i, .int .i64 d.s.k, .bool d.s.b, .float .f64 d.s.x, .string d.s.s, .int .i64 d.s.i, .int .i64 d.w, .int .i64 d.e, .int .i64 d.c] := rfl
        rw [hq0, hq1]
        clear hq0 hq1
        go_enter Tryd.func4, Tryd.ntmps4
        go_wp2_with (first | go_skip | ((with_reducible apply load27); (case ho => rfl); (case hw => rfl); (case hx => rfl); (case hc => first | exact (unhide LL).get 0 rfl | exact (unhide LL).get 1 rfl); simp only [Act.put, List.setIfInBounds_toArray, List.set_cons_succ, List.set_cons_zero]) | ((with_reducible apply kalloc27); (case ho => rfl); (case hw => rfl); (case hL => exact unhide LL); (intro X LX; simp only [Act.put, List.setIfInBounds_toArray, List.set_cons_succ, List.set_cons_zero]; simp only [List.cons_append, List.nil_append] at LX; replace LL := hide LX; clear LX)))
        refine (unhide HAp _ (tabs_below (unhide HT) (unhide LL).below)).mono ?_
        rintro _ w1 ⟨rfl, hb⟩
        replace LL := hide ((unhide LL).on hb)
        clear hb
        go_wp2_with (first | go_skip | ((with_reducible apply load27); (case ho => rfl); (case hw => rfl); (case hx => rfl); (case hc => first | exact (unhide LL).get 0 rfl | exact (unhide LL).get 1 rfl | exact (unhide LL).get 2 rfl); simp only [Act.put, List.setIfInBounds_toArray, List.set_cons_succ, List.set_cons_zero]) | ((with_reducible apply kstore27 2); (case ho => rfl); (case hw => rfl); (case hL => exact unhide LL); (case hx => rfl); (case hy => rfl); (case hi => rfl); (intro X LX; simp only [Act.put, List.setIfInBounds_toArray, List.set_cons_succ, List.set_cons_zero]; simp only [List.set_cons_succ, List.set_cons_zero] at LX; replace LL := hide LX; clear LX)) | ((with_reducible apply kalloc27); (case ho => rfl); (case hw => rfl); (case hL => exact unhide LL); (intro X LX; simp only [Act.put, List.setIfInBounds_toArray, List.set_cons_succ, List.set_cons_zero]; simp only [List.cons_append, List.nil_append] at LX; replace LL := hide LX; clear LX)))
        refine (unhide HRp _).mono ?_
        rintro _ w2 ⟨rfl, hb⟩
        replace LL := hide ((unhide LL).on hb)
        clear hb
        go_wp2_with (first | go_skip | ((with_reducible apply load27); (case ho => rfl); (case hw => rfl); (case hx => rfl); (case hc => first | exact (unhide LL).get 0 rfl | exact (unhide LL).get 1 rfl | exact (unhide LL).get 2 rfl | exact (unhide LL).get 3 rfl); simp only [Act.put, List.setIfInBounds_toArray, List.set_cons_succ, List.set_cons_zero]) | ((with_reducible apply kstore27 2); (case ho => rfl); (case hw => rfl); (case hL => exact unhide LL); (case hx => rfl); (case hy => rfl); (case hi => rfl); (intro X LX; simp only [Act.put, List.setIfInBounds_toArray, List.set_cons_succ, List.set_cons_zero]; simp only [List.set_cons_succ, List.set_cons_zero] at LX; replace LL := hide LX; clear LX)) | ((with_reducible apply kstore27 3); (case ho => rfl); (case hw => rfl); (case hL => exact unhide LL); (case hx => rfl); (case hy => rfl); (case hi => rfl); (intro X LX; simp only [Act.put, List.setIfInBounds_toArray, List.set_cons_succ, List.set_cons_zero]; simp only [List.set_cons_succ, List.set_cons_zero] at LX; replace LL := hide LX; clear LX)) | ((with_reducible apply kalloc27); (case ho => rfl); (case hw => rfl); (case hL => exact unhide LL); (intro X LX; simp only [Act.put, List.setIfInBounds_toArray, List.set_cons_succ, List.set_cons_zero]; simp only [List.cons_append, List.nil_append] at LX; replace LL := hide LX; clear LX)))
        refine (unhide HSm _ (tabs_below (unhide HT) (unhide LL).below)).mono ?_
        rintro _ w3 ⟨rfl, hb⟩
        replace LL := hide ((unhide LL).on hb)
        clear hb
        go_wp2_with (first | go_skip | ((with_reducible apply load27); (case ho => rfl); (case hw => rfl); (case hx => rfl); (case hc => first | exact (unhide LL).get 0 rfl | exact (unhide LL).get 1 rfl | exact (unhide LL).get 2 rfl | exact (unhide LL).get 3 rfl); simp only [Act.put, List.setIfInBounds_toArray, List.set_cons_succ, List.set_cons_zero]))
        refine (unhide HKe _ (tabs_below (unhide HT) (unhide LL).below)).mono ?_
        rintro _ w4 ⟨rfl, hb⟩
        replace LL := hide ((unhide LL).on hb)
        clear hb
        go_wp2_with (first | go_skip | ((with_reducible apply load27); (case ho => rfl); (case hw => rfl); (case hx => rfl); (case hc => first | exact (unhide LL).get 0 rfl | exact (unhide LL).get 1 rfl | exact (unhide LL).get 2 rfl | exact (unhide LL).get 3 rfl); simp only [Act.put, List.setIfInBounds_toArray, List.set_cons_succ, List.set_cons_zero]))
        refine (unhide HRk _).mono ?_
        rintro _ w5 ⟨rfl, hb⟩
        replace LL := hide ((unhide LL).on hb)
        clear hb
        go_wp2_with (first | go_skip | ((with_reducible apply load27); (case ho => rfl); (case hw => rfl); (case hx => rfl); (case hc => first | exact (unhide LL).get 0 rfl | exact (unhide LL).get 1 rfl | exact (unhide LL).get 2 rfl | exact (unhide LL).get 3 rfl); simp only [Act.put, List.setIfInBounds_toArray, List.set_cons_succ, List.set_cons_zero]))
        refine (unhide HEq _).mono ?_
        rintro _ w6 ⟨rfl, hb⟩
        replace LL := hide ((unhide LL).on hb)
        clear hb
        go_wp2_with (first | go_skip | ((with_reducible apply load27); (case ho => rfl); (case hw => rfl); (case hx => rfl); (case hc => first | exact (unhide LL).get 0 rfl | exact (unhide LL).get 1 rfl | exact (unhide LL).get 2 rfl | exact (unhide LL).get 3 rfl); simp only [Act.put, List.setIfInBounds_toArray, List.set_cons_succ, List.set_cons_zero]))
        refine (unhide HGn _).mono ?_
        rintro _ w7 ⟨rfl, hb⟩
        replace LL := hide ((unhide LL).on hb)
        clear hb
        go_wp2_with (first | go_skip | ((with_reducible apply load27); (case ho => rfl); (case hw => rfl); (case hx => rfl); (case hc => first | exact (unhide LL).get 0 rfl | exact (unhide LL).get 1 rfl | exact (unhide LL).get 2 rfl | exact (unhide LL).get 3 rfl); simp only [Act.put, List.setIfInBounds_toArray, List.set_cons_succ, List.set_cons_zero]))
        go_ret
        exact ⟨rfl, (unhide LL).below⟩
      · have hq0 : n.agg = .agg #[.int .i64 n.v.k, .bool n.v.b, .float .f64 n.v.x, .string n.v.s, .int .i64 n.v.i, .int .i64 n.g.k, .bool n.g.b, .float .f64 n.g.x, .string n.g.s, .int .i64 n.g.i, .int .i64 n.s.k, .bool n.s.b, .float .f64 n.s.x, .string n.s.s, .int .i64 n.s.i, .int .i64 n.w, .int .i64 n.e, .int .i64 n.c] := rfl
        have hq1 : d.agg = .agg #[.int .i64 d.v.k, .bool d.v.b, .float .f64 d.v.x, .string d.v.s, .int .i64 d.v.i, .int .i64 d.g.k, .bool d.g.b, .float .f64 d.g.x, .string d.g.s, .int .i64 d.g.i, .int .i64 d.s.k, .bool d.s.b, .float .f64 d.s.x, .string d.s.s, .int .i64 d.s.i, .int .i64 d.w, .int .i64 d.e, .int .i64 d.c] := rfl
        rw [hq0, hq1]
        clear hq0 hq1
        go_enter Tryd.func4, Tryd.ntmps4
        go_wp2_with (first | go_skip | ((with_reducible apply load27); (case ho => rfl); (case hw => rfl); (case hx => rfl); (case hc => first | exact (unhide LL).get 0 rfl | exact (unhide LL).get 1 rfl); simp only [Act.put, List.setIfInBounds_toArray, List.set_cons_succ, List.set_cons_zero]) | ((with_reducible apply kalloc27); (case ho => rfl); (case hw => rfl); (case hL => exact unhide LL); (intro X LX; simp only [Act.put, List.setIfInBounds_toArray, List.set_cons_succ, List.set_cons_zero]; simp only [List.cons_append, List.nil_append] at LX; replace LL := hide LX; clear LX)))
        refine (unhide HAp _ (tabs_below (unhide HT) (unhide LL).below)).mono ?_
        rintro _ w1 ⟨rfl, hb⟩
        replace LL := hide ((unhide LL).on hb)
        clear hb
        go_wp2_with (first | go_skip | ((with_reducible apply load27); (case ho => rfl); (case hw => rfl); (case hx => rfl); (case hc => first | exact (unhide LL).get 0 rfl | exact (unhide LL).get 1 rfl | exact (unhide LL).get 2 rfl); simp only [Act.put, List.setIfInBounds_toArray, List.set_cons_succ, List.set_cons_zero]) | ((with_reducible apply kstore27 2); (case ho => rfl); (case hw => rfl); (case hL => exact unhide LL); (case hx => rfl); (case hy => rfl); (case hi => rfl); (intro X LX; simp only [Act.put, List.setIfInBounds_toArray, List.set_cons_succ, List.set_cons_zero]; simp only [List.set_cons_succ, List.set_cons_zero] at LX; replace LL := hide LX; clear LX)) | ((with_reducible apply kalloc27); (case ho => rfl); (case hw => rfl); (case hL => exact unhide LL); (intro X LX; simp only [Act.put, List.setIfInBounds_toArray, List.set_cons_succ, List.set_cons_zero]; simp only [List.cons_append, List.nil_append] at LX; replace LL := hide LX; clear LX)))
        refine (unhide HRp _).mono ?_
        rintro _ w2 ⟨rfl, hb⟩
        replace LL := hide ((unhide LL).on hb)
        clear hb
        go_wp2_with (first | go_skip | ((with_reducible apply load27); (case ho => rfl); (case hw => rfl); (case hx => rfl); (case hc => first | exact (unhide LL).get 0 rfl | exact (unhide LL).get 1 rfl | exact (unhide LL).get 2 rfl | exact (unhide LL).get 3 rfl); simp only [Act.put, List.setIfInBounds_toArray, List.set_cons_succ, List.set_cons_zero]) | ((with_reducible apply kstore27 2); (case ho => rfl); (case hw => rfl); (case hL => exact unhide LL); (case hx => rfl); (case hy => rfl); (case hi => rfl); (intro X LX; simp only [Act.put, List.setIfInBounds_toArray, List.set_cons_succ, List.set_cons_zero]; simp only [List.set_cons_succ, List.set_cons_zero] at LX; replace LL := hide LX; clear LX)) | ((with_reducible apply kstore27 3); (case ho => rfl); (case hw => rfl); (case hL => exact unhide LL); (case hx => rfl); (case hy => rfl); (case hi => rfl); (intro X LX; simp only [Act.put, List.setIfInBounds_toArray, List.set_cons_succ, List.set_cons_zero]; simp only [List.set_cons_succ, List.set_cons_zero] at LX; replace LL := hide LX; clear LX)) | ((with_reducible apply kalloc27); (case ho => rfl); (case hw => rfl); (case hL => exact unhide LL); (intro X LX; simp only [Act.put, List.setIfInBounds_toArray, List.set_cons_succ, List.set_cons_zero]; simp only [List.cons_append, List.nil_append] at LX; replace LL := hide LX; clear LX)))
        refine (unhide HSm _ (tabs_below (unhide HT) (unhide LL).below)).mono ?_
        rintro _ w3 ⟨rfl, hb⟩
        replace LL := hide ((unhide LL).on hb)
        clear hb
        go_wp2_with (first | go_skip | ((with_reducible apply load27); (case ho => rfl); (case hw => rfl); (case hx => rfl); (case hc => first | exact (unhide LL).get 0 rfl | exact (unhide LL).get 1 rfl | exact (unhide LL).get 2 rfl | exact (unhide LL).get 3 rfl); simp only [Act.put, List.setIfInBounds_toArray, List.set_cons_succ, List.set_cons_zero]))
        refine (unhide HKe _ (tabs_below (unhide HT) (unhide LL).below)).mono ?_
        rintro _ w4 ⟨rfl, hb⟩
        replace LL := hide ((unhide LL).on hb)
        clear hb
        go_wp2_with (first | go_skip | ((with_reducible apply load27); (case ho => rfl); (case hw => rfl); (case hx => rfl); (case hc => first | exact (unhide LL).get 0 rfl | exact (unhide LL).get 1 rfl | exact (unhide LL).get 2 rfl | exact (unhide LL).get 3 rfl); simp only [Act.put, List.setIfInBounds_toArray, List.set_cons_succ, List.set_cons_zero]))
        refine (unhide HRk _).mono ?_
        rintro _ w5 ⟨rfl, hb⟩
        replace LL := hide ((unhide LL).on hb)
        clear hb
        go_wp2_with (first | go_skip | ((with_reducible apply load27); (case ho => rfl); (case hw => rfl); (case hx => rfl); (case hc => first | exact (unhide LL).get 0 rfl | exact (unhide LL).get 1 rfl | exact (unhide LL).get 2 rfl | exact (unhide LL).get 3 rfl); simp only [Act.put, List.setIfInBounds_toArray, List.set_cons_succ, List.set_cons_zero]))
        refine (unhide HEq _).mono ?_
        rintro _ w6 ⟨rfl, hb⟩
        replace LL := hide ((unhide LL).on hb)
        clear hb
        go_wp2_with (first | go_skip | ((with_reducible apply load27); (case ho => rfl); (case hw => rfl); (case hx => rfl); (case hc => first | exact (unhide LL).get 0 rfl | exact (unhide LL).get 1 rfl | exact (unhide LL).get 2 rfl | exact (unhide LL).get 3 rfl); simp only [Act.put, List.setIfInBounds_toArray, List.set_cons_succ, List.set_cons_zero]))
        refine (unhide HGn _).mono ?_
        rintro _ w7 ⟨rfl, hb⟩
        replace LL := hide ((unhide LL).on hb)
        clear hb
        go_wp2_with (first | go_skip | ((with_reducible apply load27); (case ho => rfl); (case hw => rfl); (case hx => rfl); (case hc => first | exact (unhide LL).get 0 rfl | exact (unhide LL).get 1 rfl | exact (unhide LL).get 2 rfl | exact (unhide LL).get 3 rfl); simp only [Act.put, List.setIfInBounds_toArray, List.set_cons_succ, List.set_cons_zero]))
        go_ret
        exact ⟨rfl, (unhide LL).below⟩
  · have en : (kindV n == 0) = false := by simp [hn]
    have en2 : (kindV n != 0) = true := by simp [hn]
    rw [en2] at HGn
    simp only [en] at HSm
    by_cases hd : kindV d = 0
    · rw [hd] at HGd HSm
      clear hn en en2
      generalize appD x n d = A at *
      generalize appB x n d = bB at *
      generalize appE n d = eE at *
      generalize keepB n d = kB at *
      generalize keepE n d = kE at *
      cases bB
      · cases kB
        · have hq0 : n.agg = .agg #[.int .i64 n.v.k, .bool n.v.b, .float .f64 n.v.x, .string n.v.s, .int .i64 n.v.i, .int .i64 n.g.k, .bool n.g.b, .float .f64 n.g.x, .string n.g.s, .int .i64 n.g.i, .int .i64 n.s.k, .bool n.s.b, .float .f64 n.s.x, .string n.s.s, .int .i64 n.s.i, .int .i64 n.w, .int .i64 n.e, .int .i64 n.c] := rfl
          have hq1 : d.agg = .agg #[.int .i64 d.v.k, .bool d.v.b, .float .f64 d.v.x, .string d.v.s, .int .i64 d.v.i, .int .i64 d.g.k, .bool d.g.b, .float .f64 d.g.x, .string d.g.s, .int .i64 d.g.i, .int .i64 d.s.k, .bool d.s.b, .float .f64 d.s.x, .string d.s.s, .int .i64 d.s.i, .int .i64 d.w, .int .i64 d.e, .int .i64 d.c] := rfl
          rw [hq0, hq1]
          clear hq0 hq1
          go_enter Tryd.func4, Tryd.ntmps4
          go_wp2_with (first | go_skip | ((with_reducible apply load27); (case ho => rfl); (case hw => rfl); (case hx => rfl); (case hc => first | exact (unhide LL).get 0 rfl | exact (unhide LL).get 1 rfl); simp only [Act.put, List.setIfInBounds_toArray, List.set_cons_succ, List.set_cons_zero]) | ((with_reducible apply kalloc27); (case ho => rfl); (case hw => rfl); (case hL => exact unhide LL); (intro X LX; simp only [Act.put, List.setIfInBounds_toArray, List.set_cons_succ, List.set_cons_zero]; simp only [List.cons_append, List.nil_append] at LX; replace LL := hide LX; clear LX)))
          refine (unhide HAp _ (tabs_below (unhide HT) (unhide LL).below)).mono ?_
          rintro _ w1 ⟨rfl, hb⟩
          replace LL := hide ((unhide LL).on hb)
          clear hb
          go_wp2_with (first | go_skip | ((with_reducible apply load27); (case ho => rfl); (case hw => rfl); (case hx => rfl); (case hc => first | exact (unhide LL).get 0 rfl | exact (unhide LL).get 1 rfl | exact (unhide LL).get 2 rfl); simp only [Act.put, List.setIfInBounds_toArray, List.set_cons_succ, List.set_cons_zero]) | ((with_reducible apply kstore27 2); (case ho => rfl); (case hw => rfl); (case hL => exact unhide LL); (case hx => rfl); (case hy => rfl); (case hi => rfl); (intro X LX; simp only [Act.put, List.setIfInBounds_toArray, List.set_cons_succ, List.set_cons_zero]; simp only [List.set_cons_succ, List.set_cons_zero] at LX; replace LL := hide LX; clear LX)) | ((with_reducible apply kalloc27); (case ho => rfl); (case hw => rfl); (case hL => exact unhide LL); (intro X LX; simp only [Act.put, List.setIfInBounds_toArray, List.set_cons_succ, List.set_cons_zero]; simp only [List.cons_append, List.nil_append] at LX; replace LL := hide LX; clear LX)))
          refine (unhide HRp _).mono ?_
          rintro _ w2 ⟨rfl, hb⟩
          replace LL := hide ((unhide LL).on hb)
          clear hb
          go_wp2_with (first | go_skip | ((with_reducible apply load27); (case ho => rfl); (case hw => rfl); (case hx => rfl); (case hc => first | exact (unhide LL).get 0 rfl | exact (unhide LL).get 1 rfl | exact (unhide LL).get 2 rfl | exact (unhide LL).get 3 rfl); simp only [Act.put, List.setIfInBounds_toArray, List.set_cons_succ, List.set_cons_zero]) | ((with_reducible apply kstore27 2); (case ho => rfl); (case hw => rfl); (case hL => exact unhide LL); (case hx => rfl); (case hy => rfl); (case hi => rfl); (intro X LX; simp only [Act.put, List.setIfInBounds_toArray, List.set_cons_succ, List.set_cons_zero]; simp only [List.set_cons_succ, List.set_cons_zero] at LX; replace LL := hide LX; clear LX)) | ((with_reducible apply kstore27 3); (case ho => rfl); (case hw => rfl); (case hL => exact unhide LL); (case hx => rfl); (case hy => rfl); (case hi => rfl); (intro X LX; simp only [Act.put, List.setIfInBounds_toArray, List.set_cons_succ, List.set_cons_zero]; simp only [List.set_cons_succ, List.set_cons_zero] at LX; replace LL := hide LX; clear LX)) | ((with_reducible apply kalloc27); (case ho => rfl); (case hw => rfl); (case hL => exact unhide LL); (intro X LX; simp only [Act.put, List.setIfInBounds_toArray, List.set_cons_succ, List.set_cons_zero]; simp only [List.cons_append, List.nil_append] at LX; replace LL := hide LX; clear LX)))
          refine (unhide HSm _ (tabs_below (unhide HT) (unhide LL).below)).mono ?_
          rintro _ w3 ⟨rfl, hb⟩
          replace LL := hide ((unhide LL).on hb)
          clear hb
          go_wp2_with (first | go_skip | ((with_reducible apply load27); (case ho => rfl); (case hw => rfl); (case hx => rfl); (case hc => first | exact (unhide LL).get 0 rfl | exact (unhide LL).get 1 rfl | exact (unhide LL).get 2 rfl | exact (unhide LL).get 3 rfl); simp only [Act.put, List.setIfInBounds_toArray, List.set_cons_succ, List.set_cons_zero]))
          refine (unhide HKe _ (tabs_below (unhide HT) (unhide LL).below)).mono ?_
          rintro _ w4 ⟨rfl, hb⟩
          replace LL := hide ((unhide LL).on hb)
          clear hb
          go_wp2_with (first | go_skip | ((with_reducible apply load27); (case ho => rfl); (case hw => rfl); (case hx => rfl); (case hc => first | exact (unhide LL).get 0 rfl | exact (unhide LL).get 1 rfl | exact (unhide LL).get 2 rfl | exact (unhide LL).get 3 rfl); simp only [Act.put, List.setIfInBounds_toArray, List.set_cons_succ, List.set_cons_zero]))
          refine (unhide HRk _).mono ?_
          rintro _ w5 ⟨rfl, hb⟩
          replace LL := hide ((unhide LL).on hb)
          clear hb
          go_wp2_with (first | go_skip | ((with_reducible apply load27); (case ho => rfl); (case hw => rfl); (case hx => rfl); (case hc => first | exact (unhide LL).get 0 rfl | exact (unhide LL).get 1 rfl | exact (unhide LL).get 2 rfl | exact (unhide LL).get 3 rfl); simp only [Act.put, List.setIfInBounds_toArray, List.set_cons_succ, List.set_cons_zero]))
          refine (unhide HEq _).mono ?_
          rintro _ w6 ⟨rfl, hb⟩
          replace LL := hide ((unhide LL).on hb)
          clear hb
          go_wp2_with (first | go_skip | ((with_reducible apply load27); (case ho => rfl); (case hw => rfl); (case hx => rfl); (case hc => first | exact (unhide LL).get 0 rfl | exact (unhide LL).get 1 rfl | exact (unhide LL).get 2 rfl | exact (unhide LL).get 3 rfl); simp only [Act.put, List.setIfInBounds_toArray, List.set_cons_succ, List.set_cons_zero]))
          refine (unhide HGn _).mono ?_
          rintro _ w7 ⟨rfl, hb⟩
          replace LL := hide ((unhide LL).on hb)
          clear hb
          go_wp2_with (first | go_skip | ((with_reducible apply load27); (case ho => rfl); (case hw => rfl); (case hx => rfl); (case hc => first | exact (unhide LL).get 0 rfl | exact (unhide LL).get 1 rfl | exact (unhide LL).get 2 rfl | exact (unhide LL).get 3 rfl); simp only [Act.put, List.setIfInBounds_toArray, List.set_cons_succ, List.set_cons_zero]))
          refine (unhide HGd _).mono ?_
          rintro _ w8 ⟨rfl, hb⟩
          replace LL := hide ((unhide LL).on hb)
          clear hb
          go_wp2_with (first | go_skip | ((with_reducible apply load27); (case ho => rfl); (case hw => rfl); (case hx => rfl); (case hc => first | exact (unhide LL).get 0 rfl | exact (unhide LL).get 1 rfl | exact (unhide LL).get 2 rfl | exact (unhide LL).get 3 rfl); simp only [Act.put, List.setIfInBounds_toArray, List.set_cons_succ, List.set_cons_zero]))
          go_ret
          exact ⟨rfl, (unhide LL).below⟩
        · have hq0 : n.agg = .agg #[.int .i64 n.v.k, .bool n.v.b, .float .f64 n.v.x, .string n.v.s, .int .i64 n.v.i, .int .i64 n.g.k, .bool n.g.b, .float .f64 n.g.x, .string n.g.s, .int .i64 n.g.i, .int .i64 n.s.k, .bool n.s.b, .float .f64 n.s.x, .string n.s.s, .int .i64 n.s.i, .int .i64 n.w, .int .i64 n.e, .int .i64 n.c] := rfl
          have hq1 : d.agg = .agg #[.int .i64 d.v.k, .bool d.v.b, .float .f64 d.v.x, .string d.v.s, .int .i64 d.v.i, .int .i64 d.g.k, .bool d.g.b, .float .f64 d.g.x, .string d.g.s, .int .i64 d.g.i, .int .i64 d.s.k, .bool d.s.b, .float .f64 d.s.x, .string d.s.s, .int .i64 d.s.i, .int .i64 d.w, .int .i64 d.e, .int .i64 d.c] := rfl
          rw [hq0, hq1]
          clear hq0 hq1
          go_enter Tryd.func4, Tryd.ntmps4
          go_wp2_with (first | go_skip | ((with_reducible apply load27); (case ho => rfl); (case hw => rfl); (case hx => rfl); (case hc => first | exact (unhide LL).get 0 rfl | exact (unhide LL).get 1 rfl); simp only [Act.put, List.setIfInBounds_toArray, List.set_cons_succ, List.set_cons_zero]) | ((with_reducible apply kalloc27); (case ho => rfl); (case hw => rfl); (case hL => exact unhide LL); (intro X LX; simp only [Act.put, List.setIfInBounds_toArray, List.set_cons_succ, List.set_cons_zero]; simp only [List.cons_append, List.nil_append] at LX; replace LL := hide LX; clear LX)))
          refine (unhide HAp _ (tabs_below (unhide HT) (unhide LL).below)).mono ?_
          rintro _ w1 ⟨rfl, hb⟩
          replace LL := hide ((unhide LL).on hb)
          clear hb
          go_wp2_with (first | go_skip | ((with_reducible apply load27); (case ho => rfl); (case hw => rfl); (case hx => rfl); (case hc => first | exact (unhide LL).get 0 rfl | exact (unhide LL).get 1 rfl | exact (unhide LL).get 2 rfl); simp only [Act.put, List.setIfInBounds_toArray, List.set_cons_succ, List.set_cons_zero]) | ((with_reducible apply kstore27 2); (case ho => rfl); (case hw => rfl); (case hL => exact unhide LL); (case hx => rfl); (case hy => rfl); (case hi => rfl); (intro X LX; simp only [Act.put, List.setIfInBounds_toArray, List.set_cons_succ, List.set_cons_zero]; simp only [List.set_cons_succ, List.set_cons_zero] at LX; replace LL := hide LX; clear LX)) | ((with_reducible apply kalloc27); (case ho => rfl); (case hw => rfl); (case hL => exact unhide LL); (intro X LX; simp only [Act.put, List.setIfInBounds_toArray, List.set_cons_succ, List.set_cons_zero]; simp only [List.cons_append, List.nil_append] at LX; replace LL := hide LX; clear LX)))
          refine (unhide HRp _).mono ?_
          rintro _ w2 ⟨rfl, hb⟩
          replace LL := hide ((unhide LL).on hb)
          clear hb
          go_wp2_with (first | go_skip | ((with_reducible apply load27); (case ho => rfl); (case hw => rfl); (case hx => rfl); (case hc => first | exact (unhide LL).get 0 rfl | exact (unhide LL).get 1 rfl | exact (unhide LL).get 2 rfl | exact (unhide LL).get 3 rfl); simp only [Act.put, List.setIfInBounds_toArray, List.set_cons_succ, List.set_cons_zero]) | ((with_reducible apply kstore27 2); (case ho => rfl); (case hw => rfl); (case hL => exact unhide LL); (case hx => rfl); (case hy => rfl); (case hi => rfl); (intro X LX; simp only [Act.put, List.setIfInBounds_toArray, List.set_cons_succ, List.set_cons_zero]; simp only [List.set_cons_succ, List.set_cons_zero] at LX; replace LL := hide LX; clear LX)) | ((with_reducible apply kstore27 3); (case ho => rfl); (case hw => rfl); (case hL => exact unhide LL); (case hx => rfl); (case hy => rfl); (case hi => rfl); (intro X LX; simp only [Act.put, List.setIfInBounds_toArray, List.set_cons_succ, List.set_cons_zero]; simp only [List.set_cons_succ, List.set_cons_zero] at LX; replace LL := hide LX; clear LX)) | ((with_reducible apply kalloc27); (case ho => rfl); (case hw => rfl); (case hL => exact unhide LL); (intro X LX; simp only [Act.put, List.setIfInBounds_toArray, List.set_cons_succ, List.set_cons_zero]; simp only [List.cons_append, List.nil_append] at LX; replace LL := hide LX; clear LX)))
          refine (unhide HSm _ (tabs_below (unhide HT) (unhide LL).below)).mono ?_
          rintro _ w3 ⟨rfl, hb⟩
          replace LL := hide ((unhide LL).on hb)
          clear hb
          go_wp2_with (first | go_skip | ((with_reducible apply load27); (case ho => rfl); (case hw => rfl); (case hx => rfl); (case hc => first | exact (unhide LL).get 0 rfl | exact (unhide LL).get 1 rfl | exact (unhide LL).get 2 rfl | exact (unhide LL).get 3 rfl); simp only [Act.put, List.setIfInBounds_toArray, List.set_cons_succ, List.set_cons_zero]))
          refine (unhide HKe _ (tabs_below (unhide HT) (unhide LL).below)).mono ?_
          rintro _ w4 ⟨rfl, hb⟩
          replace LL := hide ((unhide LL).on hb)
          clear hb
          go_wp2_with (first | go_skip | ((with_reducible apply load27); (case ho => rfl); (case hw => rfl); (case hx => rfl); (case hc => first | exact (unhide LL).get 0 rfl | exact (unhide LL).get 1 rfl | exact (unhide LL).get 2 rfl | exact (unhide LL).get 3 rfl); simp only [Act.put, List.setIfInBounds_toArray, List.set_cons_succ, List.set_cons_zero]))
          refine (unhide HRk _).mono ?_
          rintro _ w5 ⟨rfl, hb⟩
          replace LL := hide ((unhide LL).on hb)
          clear hb
          go_wp2_with (first | go_skip | ((with_reducible apply load27); (case ho => rfl); (case hw => rfl); (case hx => rfl); (case hc => first | exact (unhide LL).get 0 rfl | exact (unhide LL).get 1 rfl | exact (unhide LL).get 2 rfl | exact (unhide LL).get 3 rfl); simp only [Act.put, List.setIfInBounds_toArray, List.set_cons_succ, List.set_cons_zero]))
          refine (unhide HEq _).mono ?_
          rintro _ w6 ⟨rfl, hb⟩
          replace LL := hide ((unhide LL).on hb)
          clear hb
          go_wp2_with (first | go_skip | ((with_reducible apply load27); (case ho => rfl); (case hw => rfl); (case hx => rfl); (case hc => first | exact (unhide LL).get 0 rfl | exact (unhide LL).get 1 rfl | exact (unhide LL).get 2 rfl | exact (unhide LL).get 3 rfl); simp only [Act.put, List.setIfInBounds_toArray, List.set_cons_succ, List.set_cons_zero]))
          refine (unhide HGn _).mono ?_
          rintro _ w7 ⟨rfl, hb⟩
          replace LL := hide ((unhide LL).on hb)
          clear hb
          go_wp2_with (first | go_skip | ((with_reducible apply load27); (case ho => rfl); (case hw => rfl); (case hx => rfl); (case hc => first | exact (unhide LL).get 0 rfl | exact (unhide LL).get 1 rfl | exact (unhide LL).get 2 rfl | exact (unhide LL).get 3 rfl); simp only [Act.put, List.setIfInBounds_toArray, List.set_cons_succ, List.set_cons_zero]))
          refine (unhide HGd _).mono ?_
          rintro _ w8 ⟨rfl, hb⟩
          replace LL := hide ((unhide LL).on hb)
          clear hb
          go_wp2_with (first | go_skip | ((with_reducible apply load27); (case ho => rfl); (case hw => rfl); (case hx => rfl); (case hc => first | exact (unhide LL).get 0 rfl | exact (unhide LL).get 1 rfl | exact (unhide LL).get 2 rfl | exact (unhide LL).get 3 rfl); simp only [Act.put, List.setIfInBounds_toArray, List.set_cons_succ, List.set_cons_zero]))
          go_ret
          exact ⟨rfl, (unhide LL).below⟩
      · cases kB
        · have hq0 : n.agg = .agg #[.int .i64 n.v.k, .bool n.v.b, .float .f64 n.v.x, .string n.v.s, .int .i64 n.v.i, .int .i64 n.g.k, .bool n.g.b, .float .f64 n.g.x, .string n.g.s, .int .i64 n.g.i, .int .i64 n.s.k, .bool n.s.b, .float .f64 n.s.x, .string n.s.s, .int .i64 n.s.i, .int .i64 n.w, .int .i64 n.e, .int .i64 n.c] := rfl
          have hq1 : d.agg = .agg #[.int .i64 d.v.k, .bool d.v.b, .float .f64 d.v.x, .string d.v.s, .int .i64 d.v.i, .int .i64 d.g.k, .bool d.g.b, .float .f64 d.g.x, .string d.g.s, .int .i64 d.g.i, .int .i64 d.s.k, .bool d.s.b, .float .f64 d.s.x, .string d.s.s, .int .i64 d.s.i, .int .i64 d.w, .int .i64 d.e, .int .i64 d.c] := rfl
          rw [hq0, hq1]
          clear hq0 hq1
          go_enter Tryd.func4, Tryd.ntmps4
          go_wp2_with (first | go_skip | ((with_reducible apply load27); (case ho => rfl); (case hw => rfl); (case hx => rfl); (case hc => first | exact (unhide LL).get 0 rfl | exact (unhide LL).get 1 rfl); simp only [Act.put, List.setIfInBounds_toArray, List.set_cons_succ, List.set_cons_zero]) | ((with_reducible apply kalloc27); (case ho => rfl); (case hw => rfl); (case hL => exact unhide LL); (intro X LX; simp only [Act.put, List.setIfInBounds_toArray, List.set_cons_succ, List.set_cons_zero]; simp only [List.cons_append, List.nil_append] at LX; replace LL := hide LX; clear LX)))
          refine (unhide HAp _ (tabs_below (unhide HT) (unhide LL).below)).mono ?_
          rintro _ w1 ⟨rfl, hb⟩
          replace LL := hide ((unhide LL).on hb)
          clear hb
          go_wp2_with (first | go_skip | ((with_reducible apply load27); (case ho => rfl); (case hw => rfl); (case hx => rfl); (case hc => first | exact (unhide LL).get 0 rfl | exact (unhide LL).get 1 rfl | exact (unhide LL).get 2 rfl); simp only [Act.put, List.setIfInBounds_toArray, List.set_cons_succ, List.set_cons_zero]) | ((with_reducible apply kstore27 2); (case ho => rfl); (case hw => rfl); (case hL => exact unhide LL); (case hx => rfl); (case hy => rfl); (case hi => rfl); (intro X LX; simp only [Act.put, List.setIfInBounds_toArray, List.set_cons_succ, List.set_cons_zero]; simp only [List.set_cons_succ, List.set_cons_zero] at LX; replace LL := hide LX; clear LX)) | ((with_reducible apply kalloc27); (case ho => rfl); (case hw => rfl); (case hL => exact unhide LL); (intro X LX; simp only [Act.put, List.setIfInBounds_toArray, List.set_cons_succ, List.set_cons_zero]; simp only [List.cons_append, List.nil_append] at LX; replace LL := hide LX; clear LX)))
          refine (unhide HRp _).mono ?_
          rintro _ w2 ⟨rfl, hb⟩
          replace LL := hide ((unhide LL).on hb)
          clear hb
          go_wp2_with (first | go_skip | ((with_reducible apply load27); (case ho => rfl); (case hw => rfl); (case hx => rfl); (case hc => first | exact (unhide LL).get 0 rfl | exact (unhide LL).get 1 rfl | exact (unhide LL).get 2 rfl | exact (unhide LL).get 3 rfl); simp only [Act.put, List.setIfInBounds_toArray, List.set_cons_succ, List.set_cons_zero]) | ((with_reducible apply kstore27 2); (case ho => rfl); (case hw => rfl); (case hL => exact unhide LL); (case hx => rfl); (case hy => rfl); (case hi => rfl); (intro X LX; simp only [Act.put, List.setIfInBounds_toArray, List.set_cons_succ, List.set_cons_zero]; simp only [List.set_cons_succ, List.set_cons_zero] at LX; replace LL := hide LX; clear LX)) | ((with_reducible apply kstore27 3); (case ho => rfl); (case hw => rfl); (case hL => exact unhide LL); (case hx => rfl); (case hy => rfl); (case hi => rfl); (intro X LX; simp only [Act.put, List.setIfInBounds_toArray, List.set_cons_succ, List.set_cons_zero]; simp only [List.set_cons_succ, List.set_cons_zero] at LX; replace LL := hide LX; clear LX)) | ((with_reducible apply kalloc27); (case ho => rfl); (case hw => rfl); (case hL => exact unhide LL); (intro X LX; simp only [Act.put, List.setIfInBounds_toArray, List.set_cons_succ, List.set_cons_zero]; simp only [List.cons_append, List.nil_append] at LX; replace LL := hide LX; clear LX)))
          refine (unhide HSm _ (tabs_below (unhide HT) (unhide LL).below)).mono ?_
          rintro _ w3 ⟨rfl, hb⟩
          replace LL := hide ((unhide LL).on hb)
          clear hb
          go_wp2_with (first | go_skip | ((with_reducible apply load27); (case ho => rfl); (case hw => rfl); (case hx => rfl); (case hc => first | exact (unhide LL).get 0 rfl | exact (unhide LL).get 1 rfl | exact (unhide LL).get 2 rfl | exact (unhide LL).get 3 rfl); simp only [Act.put, List.setIfInBounds_toArray, List.set_cons_succ, List.set_cons_zero]))
          refine (unhide HKe _ (tabs_below (unhide HT) (unhide LL).below)).mono ?_
          rintro _ w4 ⟨rfl, hb⟩
          replace LL := hide ((unhide LL).on hb)
          clear hb
          go_wp2_with (first | go_skip | ((with_reducible apply load27); (case ho => rfl); (case hw => rfl); (case hx => rfl); (case hc => first | exact (unhide LL).get 0 rfl | exact (unhide LL).get 1 rfl | exact (unhide LL).get 2 rfl | exact (unhide LL).get 3 rfl); simp only [Act.put, List.setIfInBounds_toArray, List.set_cons_succ, List.set_cons_zero]))
          refine (unhide HRk _).mono ?_
          rintro _ w5 ⟨rfl, hb⟩
          replace LL := hide ((unhide LL).on hb)
          clear hb
          go_wp2_with (first | go_skip | ((with_reducible apply load27); (case ho => rfl); (case hw => rfl); (case hx => rfl); (case hc => first | exact (unhide LL).get 0 rfl | exact (unhide LL).get 1 rfl | exact (unhide LL).get 2 rfl | exact (unhide LL).get 3 rfl); simp only [Act.put, List.setIfInBounds_toArray, List.set_cons_succ, List.set_cons_zero]))
          refine (unhide HEq _).mono ?_
          rintro _ w6 ⟨rfl, hb⟩
          replace LL := hide ((unhide LL).on hb)
          clear hb
          go_wp2_with (first | go_skip | ((with_reducible apply load27); (case ho => rfl); (case hw => rfl); (case hx => rfl); (case hc => first | exact (unhide LL).get 0 rfl | exact (unhide LL).get 1 rfl | exact (unhide LL).get 2 rfl | exact (unhide LL).get 3 rfl); simp only [Act.put, List.setIfInBounds_toArray, List.set_cons_succ, List.set_cons_zero]))
          refine (unhide HGn _).mono ?_
          rintro _ w7 ⟨rfl, hb⟩
          replace LL := hide ((unhide LL).on hb)
          clear hb
          go_wp2_with (first | go_skip | ((with_reducible apply load27); (case ho => rfl); (case hw => rfl); (case hx => rfl); (case hc => first | exact (unhide LL).get 0 rfl | exact (unhide LL).get 1 rfl | exact (unhide LL).get 2 rfl | exact (unhide LL).get 3 rfl); simp only [Act.put, List.setIfInBounds_toArray, List.set_cons_succ, List.set_cons_zero]))
          refine (unhide HGd _).mono ?_
          rintro _ w8 ⟨rfl, hb⟩
          replace LL := hide ((unhide LL).on hb)
          clear hb
          go_wp2_with (first | go_skip | ((with_reducible apply load27); (case ho => rfl); (case hw => rfl); (case hx => rfl); (case hc => first | exact (unhide LL).get 0 rfl | exact (unhide LL).get 1 rfl | exact (unhide LL).get 2 rfl | exact (unhide LL).get 3 rfl); simp only [Act.put, List.setIfInBounds_toArray, List.set_cons_succ, List.set_cons_zero]))
          go_ret
          exact ⟨rfl, (unhide LL).below⟩
        · have hq0 : n.agg = .agg #[.int .i64 n.v.k, .bool n.v.b, .float .f64 n.v.x, .string n.v.s, .int .i64 n.v.i, .int .i64 n.g.k, .bool n.g.b, .float .f64 n.g.x, .string n.g.s, .int .i64 n.g.i, .int .i64 n.s.k, .bool n.s.b, .float .f64 n.s.x, .string n.s.s, .int .i64 n.s.i, .int .i64 n.w, .int .i64 n.e, .int .i64 n.c] := rfl
          have hq1 : d.agg = .agg #[.int .i64 d.v.k, .bool d.v.b, .float .f64 d.v.x, .string d.v.s, .int .i64 d.v.i, .int .i64 d.g.k, .bool d.g.b, .float .f64 d.g.x, .string d.g.s, .int .i64 d.g.i, .int .i64 d.s.k, .bool d.s.b, .float .f64 d.s.x, .string d.s.s, .int .i64 d.s.i, .int .i64 d.w, .int .i64 d.e, .int .i64 d.c] := rfl
          rw [hq0, hq1]
          clear hq0 hq1
          go_enter Tryd.func4, Tryd.ntmps4
          go_wp2_with (first | go_skip | ((with_reducible apply load27); (case ho => rfl); (case hw => rfl); (case hx => rfl); (case hc => first | exact (unhide LL).get 0 rfl | exact (unhide LL).get 1 rfl); simp only [Act.put, List.setIfInBounds_toArray, List.set_cons_succ, List.set_cons_zero]) | ((with_reducible apply kalloc27); (case ho => rfl); (case hw => rfl); (case hL => exact unhide LL); (intro X LX; simp only [Act.put, List.setIfInBounds_toArray, List.set_cons_succ, List.set_cons_zero]; simp only [List.cons_append, List.nil_append] at LX; replace LL := hide LX; clear LX)))
          refine (unhide HAp _ (tabs_below (unhide HT) (unhide LL).below)).mono ?_
          rintro _ w1 ⟨rfl, hb⟩
          replace LL := hide ((unhide LL).on hb)
          clear hb
          go_wp2_with (first | go_skip | ((with_reducible apply load27); (case ho => rfl); (case hw => rfl); (case hx => rfl); (case hc => first | exact (unhide LL).get 0 rfl | exact (unhide LL).get 1 rfl | exact (unhide LL).get 2 rfl); simp only [Act.put, List.setIfInBounds_toArray, List.set_cons_succ, List.set_cons_zero]) | ((with_reducible apply kstore27 2); (case ho => rfl); (case hw => rfl); (case hL => exact unhide LL); (case hx => rfl); (case hy => rfl); (case hi => rfl); (intro X LX; simp only [Act.put, List.setIfInBounds_toArray, List.set_cons_succ, List.set_cons_zero]; simp only [List.set_cons_succ, List.set_cons_zero] at LX; replace LL := hide LX; clear LX)) | ((with_reducible apply kalloc27); (case ho => rfl); (case hw => rfl); (case hL => exact unhide LL); (intro X LX; simp only [Act.put, List.setIfInBounds_toArray, List.set_cons_succ, List.set_cons_zero]; simp only [List.cons_append, List.nil_append] at LX; replace LL := hide LX; clear LX)))
          refine (unhide HRp _).mono ?_
          rintro _ w2 ⟨rfl, hb⟩
          replace LL := hide ((unhide LL).on hb)
          clear hb
          go_wp2_with (first | go_skip | ((with_reducible apply load27); (case ho => rfl); (case hw => rfl); (case hx => rfl); (case hc => first | exact (unhide LL).get 0 rfl | exact (unhide LL).get 1 rfl | exact (unhide LL).get 2 rfl | exact (unhide LL).get 3 rfl); simp only [Act.put, List.setIfInBounds_toArray, List.set_cons_succ, List.set_cons_zero]) | ((with_reducible apply kstore27 2); (case ho => rfl); (case hw => rfl); (case hL => exact unhide LL); (case hx => rfl); (case hy => rfl); (case hi => rfl); (intro X LX; simp only [Act.put, List.setIfInBounds_toArray, List.set_cons_succ, List.set_cons_zero]; simp only [List.set_cons_succ, List.set_cons_zero] at LX; replace LL := hide LX; clear LX)) | ((with_reducible apply kstore27 3); (case ho => rfl); (case hw => rfl); (case hL => exact unhide LL); (case hx => rfl); (case hy => rfl); (case hi => rfl); (intro X LX; simp only [Act.put, List.setIfInBounds_toArray, List.set_cons_succ, List.set_cons_zero]; simp only [List.set_cons_succ, List.set_cons_zero] at LX; replace LL := hide LX; clear LX)) | ((with_reducible apply kalloc27); (case ho => rfl); (case hw => rfl); (case hL => exact unhide LL); (intro X LX; simp only [Act.put, List.setIfInBounds_toArray, List.set_cons_succ, List.set_cons_zero]; simp only [List.cons_append, List.nil_append] at LX; replace LL := hide LX; clear LX)))
          refine (unhide HSm _ (tabs_below (unhide HT) (unhide LL).below)).mono ?_
          rintro _ w3 ⟨rfl, hb⟩
          replace LL := hide ((unhide LL).on hb)
          clear hb
          go_wp2_with (first | go_skip | ((with_reducible apply load27); (case ho => rfl); (case hw => rfl); (case hx => rfl); (case hc => first | exact (unhide LL).get 0 rfl | exact (unhide LL).get 1 rfl | exact (unhide LL).get 2 rfl | exact (unhide LL).get 3 rfl); simp only [Act.put, List.setIfInBounds_toArray, List.set_cons_succ, List.set_cons_zero]))
          refine (unhide HKe _ (tabs_below (unhide HT) (unhide LL).below)).mono ?_
          rintro _ w4 ⟨rfl, hb⟩
          replace LL := hide ((unhide LL).on hb)
          clear hb
          go_wp2_with (first | go_skip | ((with_reducible apply load27); (case ho => rfl); (case hw => rfl); (case hx => rfl); (case hc => first | exact (unhide LL).get 0 rfl | exact (unhide LL).get 1 rfl | exact (unhide LL).get 2 rfl | exact (unhide LL).get 3 rfl); simp only [Act.put, List.setIfInBounds_toArray, List.set_cons_succ, List.set_cons_zero]))
          refine (unhide HRk _).mono ?_
          rintro _ w5 ⟨rfl, hb⟩
          replace LL := hide ((unhide LL).on hb)
          clear hb
          go_wp2_with (first | go_skip | ((with_reducible apply load27); (case ho => rfl); (case hw => rfl); (case hx => rfl); (case hc => first | exact (unhide LL).get 0 rfl | exact (unhide LL).get 1 rfl | exact (unhide LL).get 2 rfl | exact (unhide LL).get 3 rfl); simp only [Act.put, List.setIfInBounds_toArray, List.set_cons_succ, List.set_cons_zero]))
          refine (unhide HEq _).mono ?_
          rintro _ w6 ⟨rfl, hb⟩
          replace LL := hide ((unhide LL).on hb)
          clear hb
          go_wp2_with (first | go_skip | ((with_reducible apply load27); (case ho => rfl); (case hw => rfl); (case hx => rfl); (case hc => first | exact (unhide LL).get 0 rfl | exact (unhide LL).get 1 rfl | exact (unhide LL).get 2 rfl | exact (unhide LL).get 3 rfl); simp only [Act.put, List.setIfInBounds_toArray, List.set_cons_succ, List.set_cons_zero]))
          refine (unhide HGn _).mono ?_
          rintro _ w7 ⟨rfl, hb⟩
          replace LL := hide ((unhide LL).on hb)
          clear hb
          go_wp2_with (first | go_skip | ((with_reducible apply load27); (case ho => rfl); (case hw => rfl); (case hx => rfl); (case hc => first | exact (unhide LL).get 0 rfl | exact (unhide LL).get 1 rfl | exact (unhide LL).get 2 rfl | exact (unhide LL).get 3 rfl); simp only [Act.put, List.setIfInBounds_toArray, List.set_cons_succ, List.set_cons_zero]))
          refine (unhide HGd _).mono ?_
          rintro _ w8 ⟨rfl, hb⟩
          replace LL := hide ((unhide LL).on hb)
          clear hb
          go_wp2_with (first | go_skip | ((with_reducible apply load27); (case ho => rfl); (case hw => rfl); (case hx => rfl); (case hc => first | exact (unhide LL).get 0 rfl | exact (unhide LL).get 1 rfl | exact (unhide LL).get 2 rfl | exact (unhide LL).get 3 rfl); simp only [Act.put, List.setIfInBounds_toArray, List.set_cons_succ, List.set_cons_zero]))
          go_ret
          exact ⟨rfl, (unhide LL).below⟩
    · have ed : (kindV d == 0) = false := by simp [hd]
      have ed2 : (kindV d != 0) = true := by simp [hd]
      rw [ed2] at HGd
      simp only [ed] at HSm
      rw [same_same hn hd] at HIs
      clear hn en en2 hd ed ed2
      generalize samD n d = sm at *
      generalize appD x n d = A at *
      generalize appB x n d = bB at *
      generalize appE n d = eE at *
      generalize keepB n d = kB at *
      generalize keepE n d = kE at *
      cases bB
      · cases kB
        · cases sm
          · have hq0 : n.agg = .agg #[.int .i64 n.v.k, .bool n.v.b, .float .f64 n.v.x, .string n.v.s, .int .i64 n.v.i, .int .i64 n.g.k, .bool n.g.b, .float .f64 n.g.x, .string n.g.s, .int .i64 n.g.i, .int .i64 n.s.k, .bool n.s.b, .float .f64 n.s.x, .string n.s.s, .int .i64 n.s.i, .int .i64 n.w, .int .i64 n.e, .int .i64 n.c] := rfl
            have hq1 : d.agg = .agg #[.int .i64 d.v.k, .bool d.v.b, .float .f64 d.v.x, .string d.v.s, .int .i64 d.v.i, .int .i64 d.g.k, .bool d.g.b, .float .f64 d.g.x, .string d.g.s, .int .i64 d.g.i, .int .i64 d.s.k, .bool d.s.b, .float .f64 d.s.x, .string d.s.s, .int .i64 d.s.i, .int .i64 d.w, .int .i64 d.e, .int .i64 d.c] := rfl
            rw [hq0, hq1]
            clear hq0 hq1
            go_enter Tryd.func4, Tryd.ntmps4
            go_wp2_with (first | go_skip | ((with_reducible apply load27); (case ho => rfl); (case hw => rfl); (case hx => rfl); (case hc => first | exact (unhide LL).get 0 rfl | exact (unhide LL).get 1 rfl); simp only [Act.put, List.setIfInBounds_toArray, List.set_cons_succ, List.set_cons_zero]) | ((with_reducible apply kalloc27); (case ho => rfl); (case hw => rfl); (case hL => exact unhide LL); (intro X LX; simp only [Act.put, List.setIfInBounds_toArray, List.set_cons_succ, List.set_cons_zero]; simp only [List.cons_append, List.nil_append] at LX; replace LL := hide LX; clear LX)))
            refine (unhide HAp _ (tabs_below (unhide HT) (unhide LL).below)).mono ?_
            rintro _ w1 ⟨rfl, hb⟩
            replace LL := hide ((unhide LL).on hb)
            clear hb
            go_wp2_with (first | go_skip | ((with_reducible apply load27); (case ho => rfl); (case hw => rfl); (case hx => rfl); (case hc => first | exact (unhide LL).get 0 rfl | exact (unhide LL).get 1 rfl | exact (unhide LL).get 2 rfl); simp only [Act.put, List.setIfInBounds_toArray, List.set_cons_succ, List.set_cons_zero]) | ((with_reducible apply kstore27 2); (case ho => rfl); (case hw => rfl); (case hL => exact unhide LL); (case hx => rfl); (case hy => rfl); (case hi => rfl); (intro X LX; simp only [Act.put, List.setIfInBounds_toArray, List.set_cons_succ, List.set_cons_zero]; simp only [List.set_cons_succ, List.set_cons_zero] at LX; replace LL := hide LX; clear LX)) | ((with_reducible apply kalloc27); (case ho => rfl); (case hw => rfl); (case hL => exact unhide LL); (intro X LX; simp only [Act.put, List.setIfInBounds_toArray, List.set_cons_succ, List.set_cons_zero]; simp only [List.cons_append, List.nil_append] at LX; replace LL := hide LX; clear LX)))
            refine (unhide HRp _).mono ?_
            rintro _ w2 ⟨rfl, hb⟩
            replace LL := hide ((unhide LL).on hb)
            clear hb
            go_wp2_with (first | go_skip | ((with_reducible apply load27); (case ho => rfl); (case hw => rfl); (case hx => rfl); (case hc => first | exact (unhide LL).get 0 rfl | exact (unhide LL).get 1 rfl | exact (unhide LL).get 2 rfl | exact (unhide LL).get 3 rfl); simp only [Act.put, List.setIfInBounds_toArray, List.set_cons_succ, List.set_cons_zero]) | ((with_reducible apply kstore27 2); (case ho => rfl); (case hw => rfl); (case hL => exact unhide LL); (case hx => rfl); (case hy => rfl); (case hi => rfl); (intro X LX; simp only [Act.put, List.setIfInBounds_toArray, List.set_cons_succ, List.set_cons_zero]; simp only [List.set_cons_succ, List.set_cons_zero] at LX; replace LL := hide LX; clear LX)) | ((with_reducible apply kstore27 3); (case ho => rfl); (case hw => rfl); (case hL => exact unhide LL); (case hx => rfl); (case hy => rfl); (case hi => rfl); (intro X LX; simp only [Act.put, List.setIfInBounds_toArray, List.set_cons_succ, List.set_cons_zero]; simp only [List.set_cons_succ, List.set_cons_zero] at LX; replace LL := hide LX; clear LX)) | ((with_reducible apply kalloc27); (case ho => rfl); (case hw => rfl); (case hL => exact unhide LL); (intro X LX; simp only [Act.put, List.setIfInBounds_toArray, List.set_cons_succ, List.set_cons_zero]; simp only [List.cons_append, List.nil_append] at LX; replace LL := hide LX; clear LX)))
            refine (unhide HSm _ (tabs_below (unhide HT) (unhide LL).below)).mono ?_
            rintro _ w3 ⟨rfl, hb⟩
            replace LL := hide ((unhide LL).on hb)
            clear hb
            go_wp2_with (first | go_skip | ((with_reducible apply load27); (case ho => rfl); (case hw => rfl); (case hx => rfl); (case hc => first | exact (unhide LL).get 0 rfl | exact (unhide LL).get 1 rfl | exact (unhide LL).get 2 rfl | exact (unhide LL).get 3 rfl); simp only [Act.put, List.setIfInBounds_toArray, List.set_cons_succ, List.set_cons_zero]))
            refine (unhide HKe _ (tabs_below (unhide HT) (unhide LL).below)).mono ?_
            rintro _ w4 ⟨rfl, hb⟩
            replace LL := hide ((unhide LL).on hb)
            clear hb
            go_wp2_with (first | go_skip | ((with_reducible apply load27); (case ho => rfl); (case hw => rfl); (case hx => rfl); (case hc => first | exact (unhide LL).get 0 rfl | exact (unhide LL).get 1 rfl | exact (unhide LL).get 2 rfl | exact (unhide LL).get 3 rfl); simp only [Act.put, List.setIfInBounds_toArray, List.set_cons_succ, List.set_cons_zero]))
            refine (unhide HRk _).mono ?_
            rintro _ w5 ⟨rfl, hb⟩
            replace LL := hide ((unhide LL).on hb)
            clear hb
            go_wp2_with (first | go_skip | ((with_reducible apply load27); (case ho => rfl); (case hw => rfl); (case hx => rfl); (case hc => first | exact (unhide LL).get 0 rfl | exact (unhide LL).get 1 rfl | exact (unhide LL).get 2 rfl | exact (unhide LL).get 3 rfl); simp only [Act.put, List.setIfInBounds_toArray, List.set_cons_succ, List.set_cons_zero]))
            refine (unhide HEq _).mono ?_
            rintro _ w6 ⟨rfl, hb⟩
            replace LL := hide ((unhide LL).on hb)
            clear hb
            go_wp2_with (first | go_skip | ((with_reducible apply load27); (case ho => rfl); (case hw => rfl); (case hx => rfl); (case hc => first | exact (unhide LL).get 0 rfl | exact (unhide LL).get 1 rfl | exact (unhide LL).get 2 rfl | exact (unhide LL).get 3 rfl); simp only [Act.put, List.setIfInBounds_toArray, List.set_cons_succ, List.set_cons_zero]))
            refine (unhide HGn _).mono ?_
            rintro _ w7 ⟨rfl, hb⟩
            replace LL := hide ((unhide LL).on hb)
            clear hb
            go_wp2_with (first | go_skip | ((with_reducible apply load27); (case ho => rfl); (case hw => rfl); (case hx => rfl); (case hc => first | exact (unhide LL).get 0 rfl | exact (unhide LL).get 1 rfl | exact (unhide LL).get 2 rfl | exact (unhide LL).get 3 rfl); simp only [Act.put, List.setIfInBounds_toArray, List.set_cons_succ, List.set_cons_zero]))
            refine (unhide HGd _).mono ?_
            rintro _ w8 ⟨rfl, hb⟩
            replace LL := hide ((unhide LL).on hb)
            clear hb
            go_wp2_with (first | go_skip | ((with_reducible apply load27); (case ho => rfl); (case hw => rfl); (case hx => rfl); (case hc => first | exact (unhide LL).get 0 rfl | exact (unhide LL).get 1 rfl | exact (unhide LL).get 2 rfl | exact (unhide LL).get 3 rfl); simp only [Act.put, List.setIfInBounds_toArray, List.set_cons_succ, List.set_cons_zero]))
            refine (unhide HIs _).mono ?_
            rintro _ w9 ⟨rfl, hb⟩
            replace LL := hide ((unhide LL).on hb)
            clear hb
            go_wp2_with (first | go_skip | ((with_reducible apply load27); (case ho => rfl); (case hw => rfl); (case hx => rfl); (case hc => first | exact (unhide LL).get 0 rfl | exact (unhide LL).get 1 rfl | exact (unhide LL).get 2 rfl | exact (unhide LL).get 3 rfl); simp only [Act.put, List.setIfInBounds_toArray, List.set_cons_succ, List.set_cons_zero]))
            go_ret
            exact ⟨rfl, (unhide LL).below⟩
          · have hq0 : n.agg = .agg #[.int .i64 n.v.k, .bool n.v.b, .float .f64 n.v.x, .string n.v.s, .int .i64 n.v.i, .int .i64 n.g.k, .bool n.g.b, .float .f64 n.g.x, .string n.g.s, .int .i64 n.g.i, .int .i64 n.s.k, .bool n.s.b, .float .f64 n.s.x, .string n.s.s, .int .i64 n.s.i, .int .i64 n.w, .int .i64 n.e, .int .i64 n.c] := rfl
            have hq1 : d.agg = .agg #[.int .i64 d.v.k, .bool d.v.b, .float .f64 d.v.x, .string d.v.s, .int .i64 d.v.i, .int .i64 d.g.k, .bool d.g.b, .float .f64 d.g.x, .string d.g.s, .int .i64 d.g.i, .int .i64 d.s.k, .bool d.s.b, .float .f64 d.s.x, .string d.s.s, .int .i64 d.s.i, .int .i64 d.w, .int .i64 d.e, .int .i64 d.c] := rfl
            rw [hq0, hq1]
            clear hq0 hq1
            go_enter Tryd.func4, Tryd.ntmps4
            go_wp2_with (first | go_skip | ((with_reducible apply load27); (case ho => rfl); (case hw => rfl); (case hx => rfl); (case hc => first | exact (unhide LL).get 0 rfl | exact (unhide LL).get 1 rfl); simp only [Act.put, List.setIfInBounds_toArray, List.set_cons_succ, List.set_cons_zero]) | ((with_reducible apply kalloc27); (case ho => rfl); (case hw => rfl); (case hL => exact unhide LL); (intro X LX; simp only [Act.put, List.setIfInBounds_toArray, List.set_cons_succ, List.set_cons_zero]; simp only [List.cons_append, List.nil_append] at LX; replace LL := hide LX; clear LX)))
            refine (unhide HAp _ (tabs_below (unhide HT) (unhide LL).below)).mono ?_
            rintro _ w1 ⟨rfl, hb⟩
            replace LL := hide ((unhide LL).on hb)
            clear hb
            go_wp2_with (first | go_skip | ((with_reducible apply load27); (case ho => rfl); (case hw => rfl); (case hx => rfl); (case hc => first | exact (unhide LL).get 0 rfl | exact (unhide LL).get 1 rfl | exact (unhide LL).get 2 rfl); simp only [Act.put, List.setIfInBounds_toArray, List.set_cons_succ, List.set_cons_zero]) | ((with_reducible apply kstore27 2); (case ho => rfl); (case hw => rfl); (case hL => exact unhide LL); (case hx => rfl); (case hy => rfl); (case hi => rfl); (intro X LX; simp only [Act.put, List.setIfInBounds_toArray, List.set_cons_succ, List.set_cons_zero]; simp only [List.set_cons_succ, List.set_cons_zero] at LX; replace LL := hide LX; clear LX)) | ((with_reducible apply kalloc27); (case ho => rfl); (case hw => rfl); (case hL => exact unhide LL); (intro X LX; simp only [Act.put, List.setIfInBounds_toArray, List.set_cons_succ, List.set_cons_zero]; simp only [List.cons_append, List.nil_append] at LX; replace LL := hide LX; clear LX)))
            refine (unhide HRp _).mono ?_
            rintro _ w2 ⟨rfl, hb⟩
            replace LL := hide ((unhide LL).on hb)
            clear hb
            go_wp2_with (first | go_skip | ((with_reducible apply load27); (case ho => rfl); (case hw => rfl); (case hx => rfl); (case hc => first | exact (unhide LL).get 0 rfl | exact (unhide LL).get 1 rfl | exact (unhide LL).get 2 rfl | exact (unhide LL).get 3 rfl); simp only [Act.put, List.setIfInBounds_toArray, List.set_cons_succ, List.set_cons_zero]) | ((with_reducible apply kstore27 2); (case ho => rfl); (case hw => rfl); (case hL => exact unhide LL); (case hx => rfl); (case hy => rfl); (case hi => rfl); (intro X LX; simp only [Act.put, List.setIfInBounds_toArray, List.set_cons_succ, List.set_cons_zero]; simp only [List.set_cons_succ, List.set_cons_zero] at LX; replace LL := hide LX; clear LX)) | ((with_reducible apply kstore27 3); (case ho => rfl); (case hw => rfl); (case hL => exact unhide LL); (case hx => rfl); (case hy => rfl); (case hi => rfl); (intro X LX; simp only [Act.put, List.setIfInBounds_toArray, List.set_cons_succ, List.set_cons_zero]; simp only [List.set_cons_succ, List.set_cons_zero] at LX; replace LL := hide LX; clear LX)) | ((with_reducible apply kalloc27); (case ho => rfl); (case hw => rfl); (case hL => exact unhide LL); (intro X LX; simp only [Act.put, List.setIfInBounds_toArray, List.set_cons_succ, List.set_cons_zero]; simp only [List.cons_append, List.nil_append] at LX; replace LL := hide LX; clear LX)))
            refine (unhide HSm _ (tabs_below (unhide HT) (unhide LL).below)).mono ?_
            rintro _ w3 ⟨rfl, hb⟩
            replace LL := hide ((unhide LL).on hb)
            clear hb
            go_wp2_with (first | go_skip | ((with_reducible apply load27); (case ho => rfl); (case hw => rfl); (case hx => rfl); (case hc => first | exact (unhide LL).get 0 rfl | exact (unhide LL).get 1 rfl | exact (unhide LL).get 2 rfl | exact (unhide LL).get 3 rfl); simp only [Act.put, List.setIfInBounds_toArray, List.set_cons_succ, List.set_cons_zero]))
            refine (unhide HKe _ (tabs_below (unhide HT) (unhide LL).below)).mono ?_
            rintro _ w4 ⟨rfl, hb⟩
            replace LL := hide ((unhide LL).on hb)
            clear hb
            go_wp2_with (first | go_skip | ((with_reducible apply load27); (case ho => rfl); (case hw => rfl); (case hx => rfl); (case hc => first | exact (unhide LL).get 0 rfl | exact (unhide LL).get 1 rfl | exact (unhide LL).get 2 rfl | exact (unhide LL).get 3 rfl); simp only [Act.put, List.setIfInBounds_toArray, List.set_cons_succ, List.set_cons_zero]))
            refine (unhide HRk _).mono ?_
            rintro _ w5 ⟨rfl, hb⟩
            replace LL := hide ((unhide LL).on hb)
            clear hb
            go_wp2_with (first | go_skip | ((with_reducible apply load27); (case ho => rfl); (case hw => rfl); (case hx => rfl); (case hc => first | exact (unhide LL).get 0 rfl | exact (unhide LL).get 1 rfl | exact (unhide LL).get 2 rfl | exact (unhide LL).get 3 rfl); simp only [Act.put, List.setIfInBounds_toArray, List.set_cons_succ, List.set_cons_zero]))
            refine (unhide HEq _).mono ?_
            rintro _ w6 ⟨rfl, hb⟩
            replace LL := hide ((unhide LL).on hb)
            clear hb
            go_wp2_with (first | go_skip | ((with_reducible apply load27); (case ho => rfl); (case hw => rfl); (case hx => rfl); (case hc => first | exact (unhide LL).get 0 rfl | exact (unhide LL).get 1 rfl | exact (unhide LL).get 2 rfl | exact (unhide LL).get 3 rfl); simp only [Act.put, List.setIfInBounds_toArray, List.set_cons_succ, List.set_cons_zero]))
            refine (unhide HGn _).mono ?_
            rintro _ w7 ⟨rfl, hb⟩
            replace LL := hide ((unhide LL).on hb)
            clear hb
            go_wp2_with (first | go_skip | ((with_reducible apply load27); (case ho => rfl); (case hw => rfl); (case hx => rfl); (case hc => first | exact (unhide LL).get 0 rfl | exact (unhide LL).get 1 rfl | exact (unhide LL).get 2 rfl | exact (unhide LL).get 3 rfl); simp only [Act.put, List.setIfInBounds_toArray, List.set_cons_succ, List.set_cons_zero]))
            refine (unhide HGd _).mono ?_
            rintro _ w8 ⟨rfl, hb⟩
            replace LL := hide ((unhide LL).on hb)
            clear hb
            go_wp2_with (first | go_skip | ((with_reducible apply load27); (case ho => rfl); (case hw => rfl); (case hx => rfl); (case hc => first | exact (unhide LL).get 0 rfl | exact (unhide LL).get 1 rfl | exact (unhide LL).get 2 rfl | exact (unhide LL).get 3 rfl); simp only [Act.put, List.setIfInBounds_toArray, List.set_cons_succ, List.set_cons_zero]))
            refine (unhide HIs _).mono ?_
            rintro _ w9 ⟨rfl, hb⟩
            replace LL := hide ((unhide LL).on hb)
            clear hb
            go_wp2_with (first | go_skip | ((with_reducible apply load27); (case ho => rfl); (case hw => rfl); (case hx => rfl); (case hc => first | exact (unhide LL).get 0 rfl | exact (unhide LL).get 1 rfl | exact (unhide LL).get 2 rfl | exact (unhide LL).get 3 rfl); simp only [Act.put, List.setIfInBounds_toArray, List.set_cons_succ, List.set_cons_zero]))
            go_ret
            exact ⟨rfl, (unhide LL).below⟩
        · cases sm
          · have hq0 : n.agg = .agg #[.int .i64 n.v.k, .bool n.v.b, .float .f64 n.v.x, .string n.v.s, .int .i64 n.v.i, .int .i64 n.g.k, .bool n.g.b, .float .f64 n.g.x, .string n.g.s, .int .i64 n.g.i, .int .i64 n.s.k, .bool n.s.b, .float .f64 n.s.x, .string n.s.s, .int .i64 n.s.i, .int .i64 n.w, .int .i64 n.e, .int .i64 n.c] := rfl
            have hq1 : d.agg = .agg #[.int .i64 d.v.k, .bool d.v.b, .float .f64 d.v.x, .string d.v.s, .int .i64 d.v.i, .int .i64 d.g.k, .bool d.g.b, .float .f64 d.g.x, .string d.g.s, .int .i64 d.g.i, .int .i64 d.s.k, .bool d.s.b, .float .f64 d.s.x, .string d.s.s, .int .i64 d.s.i, .int .i64 d.w, .int .i64 d.e, .int .i64 d.c] := rfl
            rw [hq0, hq1]
            clear hq0 hq1
            go_enter Tryd.func4, Tryd.ntmps4
            go_wp2_with (first | go_skip | ((with_reducible apply load27); (case ho => rfl); (case hw => rfl); (case hx => rfl); (case hc => first | exact (unhide LL).get 0 rfl | exact (unhide LL).get 1 rfl); simp only [Act.put, List.setIfInBounds_toArray, List.set_cons_succ, List.set_cons_zero]) | ((with_reducible apply kalloc27); (case ho => rfl); (case hw => rfl); (case hL => exact unhide LL); (intro X LX; simp only [Act.put, List.setIfInBounds_toArray, List.set_cons_succ, List.set_cons_zero]; simp only [List.cons_append, List.nil_append] at LX; replace LL := hide LX; clear LX)))
            refine (unhide HAp _ (tabs_below (unhide HT) (unhide LL).below)).mono ?_
            rintro _ w1 ⟨rfl, hb⟩
            replace LL := hide ((unhide LL).on hb)
            clear hb
            go_wp2_with (first | go_skip | ((with_reducible apply load27); (case ho => rfl); (case hw => rfl); (case hx => rfl); (case hc => first | exact (unhide LL).get 0 rfl | exact (unhide LL).get 1 rfl | exact (unhide LL).get 2 rfl); simp only [Act.put, List.setIfInBounds_toArray, List.set_cons_succ, List.set_cons_zero]) | ((with_reducible apply kstore27 2); (case ho => rfl); (case hw => rfl); (case hL => exact unhide LL); (case hx => rfl); (case hy => rfl); (case hi => rfl); (intro X LX; simp only [Act.put, List.setIfInBounds_toArray, List.set_cons_succ, List.set_cons_zero]; simp only [List.set_cons_succ, List.set_cons_zero] at LX; replace LL := hide LX; clear LX)) | ((with_reducible apply kalloc27); (case ho => rfl); (case hw => rfl); (case hL => exact unhide LL); (intro X LX; simp only [Act.put, List.setIfInBounds_toArray, List.set_cons_succ, List.set_cons_zero]; simp only [List.cons_append, List.nil_append] at LX; replace LL := hide LX; clear LX)))
            refine (unhide HRp _).mono ?_
            rintro _ w2 ⟨rfl, hb⟩
            replace LL := hide ((unhide LL).on hb)
            clear hb
            go_wp2_with (first | go_skip | ((with_reducible apply load27); (case ho => rfl); (case hw => rfl); (case hx => rfl); (case hc => first | exact (unhide LL).get 0 rfl | exact (unhide LL).get 1 rfl | exact (unhide LL).get 2 rfl | exact (unhide LL).get 3 rfl); simp only [Act.put, List.setIfInBounds_toArray, List.set_cons_succ, List.set_cons_zero]) | ((with_reducible apply kstore27 2); (case ho => rfl); (case hw => rfl); (case hL => exact unhide LL); (case hx => rfl); (case hy => rfl); (case hi => rfl); (intro X LX; simp only [Act.put, List.setIfInBounds_toArray, List.set_cons_succ, List.set_cons_zero]; simp only [List.set_cons_succ, List.set_cons_zero] at LX; replace LL := hide LX; clear LX)) | ((with_reducible apply kstore27 3); (case ho => rfl); (case hw => rfl); (case hL => exact unhide LL); (case hx => rfl); (case hy => rfl); (case hi => rfl); (intro X LX; simp only [Act.put, List.setIfInBounds_toArray, List.set_cons_succ, List.set_cons_zero]; simp only [List.set_cons_succ, List.set_cons_zero] at LX; replace LL := hide LX; clear LX)) | ((with_reducible apply kalloc27); (case ho => rfl); (case hw => rfl); (case hL => exact unhide LL); (intro X LX; simp only [Act.put, List.setIfInBounds_toArray, List.set_cons_succ, List.set_cons_zero]; simp only [List.cons_append, List.nil_append] at LX; replace LL := hide LX; clear LX)))
            refine (unhide HSm _ (tabs_below (unhide HT) (unhide LL).below)).mono ?_
            rintro _ w3 ⟨rfl, hb⟩
            replace LL := hide ((unhide LL).on hb)
            clear hb
            go_wp2_with (first | go_skip | ((with_reducible apply load27); (case ho => rfl); (case hw => rfl); (case hx => rfl); (case hc => first | exact (unhide LL).get 0 rfl | exact (unhide LL).get 1 rfl | exact (unhide LL).get 2 rfl | exact (unhide LL).get 3 rfl); simp only [Act.put, List.setIfInBounds_toArray, List.set_cons_succ, List.set_cons_zero]))
            refine (unhide HKe _ (tabs_below (unhide HT) (unhide LL).below)).mono ?_
            rintro _ w4 ⟨rfl, hb⟩
            replace LL := hide ((unhide LL).on hb)
            clear hb
            go_wp2_with (first | go_skip | ((with_reducible apply load27); (case ho => rfl); (case hw => rfl); (case hx => rfl); (case hc => first | exact (unhide LL).get 0 rfl | exact (unhide LL).get 1 rfl | exact (unhide LL).get 2 rfl | exact (unhide LL).get 3 rfl); simp only [Act.put, List.setIfInBounds_toArray, List.set_cons_succ, List.set_cons_zero]))
            refine (unhide HRk _).mono ?_
            rintro _ w5 ⟨rfl, hb⟩
            replace LL := hide ((unhide LL).on hb)
            clear hb
            go_wp2_with (first | go_skip | ((with_reducible apply load27); (case ho => rfl); (case hw => rfl); (case hx => rfl); (case hc => first | exact (unhide LL).get 0 rfl | exact (unhide LL).get 1 rfl | exact (unhide LL).get 2 rfl | exact (unhide LL).get 3 rfl); simp only [Act.put, List.setIfInBounds_toArray, List.set_cons_succ, List.set_cons_zero]))
            refine (unhide HEq _).mono ?_
            rintro _ w6 ⟨rfl, hb⟩
            replace LL := hide ((unhide LL).on hb)
            clear hb
            go_wp2_with (first | go_skip | ((with_reducible apply load27); (case ho => rfl); (case hw => rfl); (case hx => rfl); (case hc => first | exact (unhide LL).get 0 rfl | exact (unhide LL).get 1 rfl | exact (unhide LL).get 2 rfl | exact (unhide LL).get 3 rfl); simp only [Act.put, List.setIfInBounds_toArray, List.set_cons_succ, List.set_cons_zero]))
            refine (unhide HGn _).mono ?_
            rintro _ w7 ⟨rfl, hb⟩
            replace LL := hide ((unhide LL).on hb)
            clear hb
            go_wp2_with (first | go_skip | ((with_reducible apply load27); (case ho => rfl); (case hw => rfl); (case hx => rfl); (case hc => first | exact (unhide LL).get 0 rfl | exact (unhide LL).get 1 rfl | exact (unhide LL).get 2 rfl | exact (unhide LL).get 3 rfl); simp only [Act.put, List.setIfInBounds_toArray, List.set_cons_succ, List.set_cons_zero]))
            refine (unhide HGd _).mono ?_
            rintro _ w8 ⟨rfl, hb⟩
            replace LL := hide ((unhide LL).on hb)
            clear hb
            go_wp2_with (first | go_skip | ((with_reducible apply load27); (case ho => rfl); (case hw => rfl); (case hx => rfl); (case hc => first | exact (unhide LL).get 0 rfl | exact (unhide LL).get 1 rfl | exact (unhide LL).get 2 rfl | exact (unhide LL).get 3 rfl); simp only [Act.put, List.setIfInBounds_toArray, List.set_cons_succ, List.set_cons_zero]))
            refine (unhide HIs _).mono ?_
            rintro _ w9 ⟨rfl, hb⟩
            replace LL := hide ((unhide LL).on hb)
            clear hb
            go_wp2_with (first | go_skip | ((with_reducible apply load27); (case ho => rfl); (case hw => rfl); (case hx => rfl); (case hc => first | exact (unhide LL).get 0 rfl | exact (unhide LL).get 1 rfl | exact (unhide LL).get 2 rfl | exact (unhide LL).get 3 rfl); simp only [Act.put, List.setIfInBounds_toArray, List.set_cons_succ, List.set_cons_zero]))
            go_ret
            exact ⟨rfl, (unhide LL).below⟩
          · have hq0 : n.agg = .agg #[.int .i64 n.v.k, .bool n.v.b, .float .f64 n.v.x, .string n.v.s, .int .i64 n.v.i, .int .i64 n.g.k, .bool n.g.b, .float .f64 n.g.x, .string n.g.s, .int .i64 n.g.i, .int .i64 n.s.k, .bool n.s.b, .float .f64 n.s.x, .string n.s.s, .int .i64 n.s.i, .int .i64 n.w, .int .i64 n.e, .int .i64 n.c] := rfl
            have hq1 : d.agg = .agg #[.int .i64 d.v.k, .bool d.v.b, .float .f64 d.v.x, .string d.v.s, .int .i64 d.v.i, .int .i64 d.g.k, .bool d.g.b, .float .f64 d.g.x, .string d.g.s, .int .i64 d.g.i, .int .i64 d.s.k, .bool d.s.b, .float .f64 d.s.x, .string d.s.s, .int .i64 d.s.i, .int .i64 d.w, .int .i64 d.e, .int .i64 d.c] := rfl
            rw [hq0, hq1]
            clear hq0 hq1
            go_enter Tryd.func4, Tryd.ntmps4
            go_wp2_with (first | go_skip | ((with_reducible apply load27); (case ho => rfl); (case hw => rfl); (case hx => rfl); (case hc => first | exact (unhide LL).get 0 rfl | exact (unhide LL).get 1 rfl); simp only [Act.put, List.setIfInBounds_toArray, List.set_cons_succ, List.set_cons_zero]) | ((with_reducible apply kalloc27); (case ho => rfl); (case hw => rfl); (case hL => exact unhide LL); (intro X LX; simp only [Act.put, List.setIfInBounds_toArray, List.set_cons_succ, List.set_cons_zero]; simp only [List.cons_append, List.nil_append] at LX; replace LL := hide LX; clear LX)))
            refine (unhide HAp _ (tabs_below (unhide HT) (unhide LL).below)).mono ?_
            rintro _ w1 ⟨rfl, hb⟩
            replace LL := hide ((unhide LL).on hb)
            clear hb
            go_wp2_with (first | go_skip | ((with_reducible apply load27); (case ho => rfl); (case hw => rfl); (case hx => rfl); (case hc => first | exact (unhide LL).get 0 rfl | exact (unhide LL).get 1 rfl | exact (unhide LL).get 2 rfl); simp only [Act.put, List.setIfInBounds_toArray, List.set_cons_succ, List.set_cons_zero]) | ((with_reducible apply kstore27 2); (case ho => rfl); (case hw => rfl); (case hL => exact unhide LL); (case hx => rfl); (case hy => rfl); (case hi => rfl); (intro X LX; simp only [Act.put, List.setIfInBounds_toArray, List.set_cons_succ, List.set_cons_zero]; simp only [List.set_cons_succ, List.set_cons_zero] at LX; replace LL := hide LX; clear LX)) | ((with_reducible apply kalloc27); (case ho => rfl); (case hw => rfl); (case hL => exact unhide LL); (intro X LX; simp only [Act.put, List.setIfInBounds_toArray, List.set_cons_succ, List.set_cons_zero]; simp only [List.cons_append, List.nil_append] at LX; replace LL := hide LX; clear LX)))
            refine (unhide HRp _).mono ?_
            rintro _ w2 ⟨rfl, hb⟩
            replace LL := hide ((unhide LL).on hb)
            clear hb
            go_wp2_with (first | go_skip | ((with_reducible apply load27); (case ho => rfl); (case hw => rfl); (case hx => rfl); (case hc => first | exact (unhide LL).get 0 rfl | exact (unhide LL).get 1 rfl | exact (unhide LL).get 2 rfl | exact (unhide LL).get 3 rfl); simp only [Act.put, List.setIfInBounds_toArray, List.set_cons_succ, List.set_cons_zero]) | ((with_reducible apply kstore27 2); (case ho => rfl); (case hw => rfl); (case hL => exact unhide LL); (case hx => rfl); (case hy => rfl); (case hi => rfl); (intro X LX; simp only [Act.put, List.setIfInBounds_toArray, List.set_cons_succ, List.set_cons_zero]; simp only [List.set_cons_succ, List.set_cons_zero] at LX; replace LL := hide LX; clear LX)) | ((with_reducible apply kstore27 3); (case ho => rfl); (case hw => rfl); (case hL => exact unhide LL); (case hx => rfl); (case hy => rfl); (case hi => rfl); (intro X LX; simp only [Act.put, List.setIfInBounds_toArray, List.set_cons_succ, List.set_cons_zero]; simp only [List.set_cons_succ, List.set_cons_zero] at LX; replace LL := hide LX; clear LX)) | ((with_reducible apply kalloc27); (case ho => rfl); (case hw => rfl); (case hL => exact unhide LL); (intro X LX; simp only [Act.put, List.setIfInBounds_toArray, List.set_cons_succ, List.set_cons_zero]; simp only [List.cons_append, List.nil_append] at LX; replace LL := hide LX; clear LX)))
            refine (unhide HSm _ (tabs_below (unhide HT) (unhide LL).below)).mono ?_
            rintro _ w3 ⟨rfl, hb⟩
            replace LL := hide ((unhide LL).on hb)
            clear hb
            go_wp2_with (first | go_skip | ((with_reducible apply load27); (case ho => rfl); (case hw => rfl); (case hx => rfl); (case hc => first | exact (unhide LL).get 0 rfl | exact (unhide LL).get 1 rfl | exact (unhide LL).get 2 rfl | exact (unhide LL).get 3 rfl); simp only [Act.put, List.setIfInBounds_toArray, List.set_cons_succ, List.set_cons_zero]))
            refine (unhide HKe _ (tabs_below (unhide HT) (unhide LL).below)).mono ?_
            rintro _ w4 ⟨rfl, hb⟩
            replace LL := hide ((unhide LL).on hb)
            clear hb
            go_wp2_with (first | go_skip | ((with_reducible apply load27); (case ho => rfl); (case hw => rfl); (case hx => rfl); (case hc => first | exact (unhide LL).get 0 rfl | exact (unhide LL).get 1 rfl | exact (unhide LL).get 2 rfl | exact (unhide LL).get 3 rfl); simp only [Act.put, List.setIfInBounds_toArray, List.set_cons_succ, List.set_cons_zero]))
            refine (unhide HRk _).mono ?_
            rintro _ w5 ⟨rfl, hb⟩
            replace LL := hide ((unhide LL).on hb)
            clear hb
            go_wp2_with (first | go_skip | ((with_reducible apply load27); (case ho => rfl); (case hw => rfl); (case hx => rfl); (case hc => first | exact (unhide LL).get 0 rfl | exact (unhide LL).get 1 rfl | exact (unhide LL).get 2 rfl | exact (unhide LL).get 3 rfl); simp only [Act.put, List.setIfInBounds_toArray, List.set_cons_succ, List.set_cons_zero]))
            refine (unhide HEq _).mono ?_
            rintro _ w6 ⟨rfl, hb⟩
            replace LL := hide ((unhide LL).on hb)
            clear hb
            go_wp2_with (first | go_skip | ((with_reducible apply load27); (case ho => rfl); (case hw => rfl); (case hx => rfl); (case hc => first | exact (unhide LL).get 0 rfl | exact (unhide LL).get 1 rfl | exact (unhide LL).get 2 rfl | exact (unhide LL).get 3 rfl); simp only [Act.put, List.setIfInBounds_toArray, List.set_cons_succ, List.set_cons_zero]))
            refine (unhide HGn _).mono ?_
            rintro _ w7 ⟨rfl, hb⟩
            replace LL := hide ((unhide LL).on hb)
            clear hb
            go_wp2_with (first | go_skip | ((with_reducible apply load27); (case ho => rfl); (case hw => rfl); (case hx => rfl); (case hc => first | exact (unhide LL).get 0 rfl | exact (unhide LL).get 1 rfl | exact (unhide LL).get 2 rfl | exact (unhide LL).get 3 rfl); simp only [Act.put, List.setIfInBounds_toArray, List.set_cons_succ, List.set_cons_zero]))
            refine (unhide HGd _).mono ?_
            rintro _ w8 ⟨rfl, hb⟩
            replace LL := hide ((unhide LL).on hb)
            clear hb
            go_wp2_with (first | go_skip | ((with_reducible apply load27); (case ho => rfl); (case hw => rfl); (case hx => rfl); (case hc => first | exact (unhide LL).get 0 rfl | exact (unhide LL).get 1 rfl | exact (unhide LL).get 2 rfl | exact (unhide LL).get 3 rfl); simp only [Act.put, List.setIfInBounds_toArray, List.set_cons_succ, List.set_cons_zero]))
            refine (unhide HIs _).mono ?_
            rintro _ w9 ⟨rfl, hb⟩
            replace LL := hide ((unhide LL).on hb)
            clear hb
            go_wp2_with (first | go_skip | ((with_reducible apply load27); (case ho => rfl); (case hw => rfl); (case hx => rfl); (case hc => first | exact (unhide LL).get 0 rfl | exact (unhide LL).get 1 rfl | exact (unhide LL).get 2 rfl | exact (unhide LL).get 3 rfl); simp only [Act.put, List.setIfInBounds_toArray, List.set_cons_succ, List.set_cons_zero]))
            go_ret
            exact ⟨rfl, (unhide LL).below⟩
      · cases kB
        · cases sm
          · have hq0 : n.agg = .agg #[.int .i64 n.v.k, .bool n.v.b, .float .f64 n.v.x, .string n.v.s, .int .i64 n.v.i, .int .i64 n.g.k, .bool n.g.b, .float .f64 n.g.x, .string n.g.s, .int .i64 n.g.i, .int .i64 n.s.k, .bool n.s.b, .float .f64 n.s.x, .string n.s.s, .int .i64 n.s.i, .int .i64 n.w, .int .i64 n.e, .int .i64 n.c] := rfl
            have hq1 : d.agg = .agg #[.int .i64 d.v.k, .bool d.v.b, .float .f64 d.v.x, .string d.v.s, .int .i64 d.v.i, .int .i64 d.g.k, .bool d.g.b, .float .f64 d.g.x, .string d.g.s, .int .i64 d.g.i, .int .i64 d.s.k, .bool d.s.b, .float .f64 d.s.x, .string d.s.s, .int .i64 d.s.i, .int .i64 d.w, .int .i64 d.e, .int .i64 d.c] := rfl
            rw [hq0, hq1]
            clear hq0 hq1
            go_enter Tryd.func4, Tryd.ntmps4
            go_wp2_with (first | go_skip | ((with_reducible apply load27); (case ho => rfl); (case hw => rfl); (case hx => rfl); (case hc => first | exact (unhide LL).get 0 rfl | exact (unhide LL).get 1 rfl); simp only [Act.put, List.setIfInBounds_toArray, List.set_cons_succ, List.set_cons_zero]) | ((with_reducible apply kalloc27); (case ho => rfl); (case hw => rfl); (case hL => exact unhide LL); (intro X LX; simp only [Act.put, List.setIfInBounds_toArray, List.set_cons_succ, List.set_cons_zero]; simp only [List.cons_append, List.nil_append] at LX; replace LL := hide LX; clear LX)))
            refine (unhide HAp _ (tabs_below (unhide HT) (unhide LL).below)).mono ?_
            rintro _ w1 ⟨rfl, hb⟩
            replace LL := hide ((unhide LL).on hb)
            clear hb
            go_wp2_with (first | go_skip | ((with_reducible apply load27); (case ho => rfl); (case hw => rfl); (case hx => rfl); (case hc => first | exact (unhide LL).get 0 rfl | exact (unhide LL).get 1 rfl | exact (unhide LL).get 2 rfl); simp only [Act.put, List.setIfInBounds_toArray, List.set_cons_succ, List.set_cons_zero]) | ((with_reducible apply kstore27 2); (case ho => rfl); (case hw => rfl); (case hL => exact unhide LL); (case hx => rfl); (case hy => rfl); (case hi => rfl); (intro X LX; simp only [Act.put, List.setIfInBounds_toArray, List.set_cons_succ, List.set_cons_zero]; simp only [List.set_cons_succ, List.set_cons_zero] at LX; replace LL := hide LX; clear LX)) | ((with_reducible apply kalloc27); (case ho => rfl); (case hw => rfl); (case hL => exact unhide LL); (intro X LX; simp only [Act.put, List.setIfInBounds_toArray, List.set_cons_succ, List.set_cons_zero]; simp only [List.cons_append, List.nil_append] at LX; replace LL := hide LX; clear LX)))
            refine (unhide HRp _).mono ?_
            rintro _ w2 ⟨rfl, hb⟩
            replace LL := hide ((unhide LL).on hb)
            clear hb
            go_wp2_with (first | go_skip | ((with_reducible apply load27); (case ho => rfl); (case hw => rfl); (case hx => rfl); (case hc => first | exact (unhide LL).get 0 rfl | exact (unhide LL).get 1 rfl | exact (unhide LL).get 2 rfl | exact (unhide LL).get 3 rfl); simp only [Act.put, List.setIfInBounds_toArray, List.set_cons_succ, List.set_cons_zero]) | ((with_reducible apply kstore27 2); (case ho => rfl); (case hw => rfl); (case hL => exact unhide LL); (case hx => rfl); (case hy => rfl); (case hi => rfl); (intro X LX; simp only [Act.put, List.setIfInBounds_toArray, List.set_cons_succ, List.set_cons_zero]; simp only [List.set_cons_succ, List.set_cons_zero] at LX; replace LL := hide LX; clear LX)) | ((with_reducible apply kstore27 3); (case ho => rfl); (case hw => rfl); (case hL => exact unhide LL); (case hx => rfl); (case hy => rfl); (case hi => rfl); (intro X LX; simp only [Act.put, List.setIfInBounds_toArray, List.set_cons_succ, List.set_cons_zero]; simp only [List.set_cons_succ, List.set_cons_zero] at LX; replace LL := hide LX; clear LX)) | ((with_reducible apply kalloc27); (case ho => rfl); (case hw => rfl); (case hL => exact unhide LL); (intro X LX; simp only [Act.put, List.setIfInBounds_toArray, List.set_cons_succ, List.set_cons_zero]; simp only [List.cons_append, List.nil_append] at LX; replace LL := hide LX; clear LX)))
            refine (unhide HSm _ (tabs_below (unhide HT) (unhide LL).below)).mono ?_
            rintro _ w3 ⟨rfl, hb⟩
            replace LL := hide ((unhide LL).on hb)
            clear hb
            go_wp2_with (first | go_skip | ((with_reducible apply load27); (case ho => rfl); (case hw => rfl); (case hx => rfl); (case hc => first | exact (unhide LL).get 0 rfl | exact (unhide LL).get 1 rfl | exact (unhide LL).get 2 rfl | exact (unhide LL).get 3 rfl); simp only [Act.put, List.setIfInBounds_toArray, List.set_cons_succ, List.set_cons_zero]))
            refine (unhide HKe _ (tabs_below (unhide HT) (unhide LL).below)).mono ?_
            rintro _ w4 ⟨rfl, hb⟩
            replace LL := hide ((unhide LL).on hb)
            clear hb
            go_wp2_with (first | go_skip | ((with_reducible apply load27); (case ho => rfl); (case hw => rfl); (case hx => rfl); (case hc => first | exact (unhide LL).get 0 rfl | exact (unhide LL).get 1 rfl | exact (unhide LL).get 2 rfl | exact (unhide LL).get 3 rfl); simp only [Act.put, List.setIfInBounds_toArray, List.set_cons_succ, List.set_cons_zero]))
            refine (unhide HRk _).mono ?_
            rintro _ w5 ⟨rfl, hb⟩
            replace LL := hide ((unhide LL).on hb)
            clear hb
            go_wp2_with (first | go_skip | ((with_reducible apply load27); (case ho => rfl); (case hw => rfl); (case hx => rfl); (case hc => first | exact (unhide LL).get 0 rfl | exact (unhide LL).get 1 rfl | exact (unhide LL).get 2 rfl | exact (unhide LL).get 3 rfl); simp only [Act.put, List.setIfInBounds_toArray, List.set_cons_succ, List.set_cons_zero]))
            refine (unhide HEq _).mono ?_
            rintro _ w6 ⟨rfl, hb⟩
            replace LL := hide ((unhide LL).on hb)
            clear hb
            go_wp2_with (first | go_skip | ((with_reducible apply load27); (case ho => rfl); (case hw => rfl); (case hx => rfl); (case hc => first | exact (unhide LL).get 0 rfl | exact (unhide LL).get 1 rfl | exact (unhide LL).get 2 rfl | exact (unhide LL).get 3 rfl); simp only [Act.put, List.setIfInBounds_toArray, List.set_cons_succ, List.set_cons_zero]))
            refine (unhide HGn _).mono ?_
            rintro _ w7 ⟨rfl, hb⟩
            replace LL := hide ((unhide LL).on hb)
            clear hb
            go_wp2_with (first | go_skip | ((with_reducible apply load27); (case ho => rfl); (case hw => rfl); (case hx => rfl); (case hc => first | exact (unhide LL).get 0 rfl | exact (unhide LL).get 1 rfl | exact (unhide LL).get 2 rfl | exact (unhide LL).get 3 rfl); simp only [Act.put, List.setIfInBounds_toArray, List.set_cons_succ, List.set_cons_zero]))
            refine (unhide HGd _).mono ?_
            rintro _ w8 ⟨rfl, hb⟩
            replace LL := hide ((unhide LL).on hb)
            clear hb
            go_wp2_with (first | go_skip | ((with_reducible apply load27); (case ho => rfl); (case hw => rfl); (case hx => rfl); (case hc => first | exact (unhide LL).get 0 rfl | exact (unhide LL).get 1 rfl | exact (unhide LL).get 2 rfl | exact (unhide LL).get 3 rfl); simp only [Act.put, List.setIfInBounds_toArray, List.set_cons_succ, List.set_cons_zero]))
            refine (unhide HIs _).mono ?_
            rintro _ w9 ⟨rfl, hb⟩
            replace LL := hide ((unhide LL).on hb)
            clear hb
            go_wp2_with (first | go_skip | ((with_reducible apply load27); (case ho => rfl); (case hw => rfl); (case hx => rfl); (case hc => first | exact (unhide LL).get 0 rfl | exact (unhide LL).get 1 rfl | exact (unhide LL).get 2 rfl | exact (unhide LL).get 3 rfl); simp only [Act.put, List.setIfInBounds_toArray, List.set_cons_succ, List.set_cons_zero]))
            go_ret
            exact ⟨rfl, (unhide LL).below⟩
          · have hq0 : n.agg = .agg #[.int .i64 n.v.k, .bool n.v.b, .float .f64 n.v.x, .string n.v.s, .int .i64 n.v.i, .int .i64 n.g.k, .bool n.g.b, .float .f64 n.g.x, .string n.g.s, .int .i64 n.g.i, .int .i64 n.s.k, .bool n.s.b, .float .f64 n.s.x, .string n.s.s, .int .i64 n.s.i, .int .i64 n.w, .int .i64 n.e, .int .i64 n.c] := rfl
            have hq1 : d.agg = .agg #[.int .i64 d.v.k, .bool d.v.b, .float .f64 d.v.x, .string d.v.s, .int .i64 d.v.i, .int .i64 d.g.k, .bool d.g.b, .float .f64 d.g.x, .string d.g.s, .int .i64 d.g.i, .int .i64 d.s.k, .bool d.s.b, .float .f64 d.s.x, .string d.s.s, .int .i64 d.s.i, .int .i64 d.w, .int .i64 d.e, .int .i64 d.c] := rfl
            rw [hq0, hq1]
            clear hq0 hq1
            go_enter Tryd.func4, Tryd.ntmps4
            go_wp2_with (first | go_skip | ((with_reducible apply load27); (case ho => rfl); (case hw => rfl); (case hx => rfl); (case hc => first | exact (unhide LL).get 0 rfl | exact (unhide LL).get 1 rfl); simp only [Act.put, List.setIfInBounds_toArray, List.set_cons_succ, List.set_cons_zero]) | ((with_reducible apply kalloc27); (case ho => rfl); (case hw => rfl); (case hL => exact unhide LL); (intro X LX; simp only [Act.put, List.setIfInBounds_toArray, List.set_cons_succ, List.set_cons_zero]; simp only [List.cons_append, List.nil_append] at LX; replace LL := hide LX; clear LX)))
            refine (unhide HAp _ (tabs_below (unhide HT) (unhide LL).below)).mono ?_
            rintro _ w1 ⟨rfl, hb⟩
            replace LL := hide ((unhide LL).on hb)
            clear hb
            go_wp2_with (first | go_skip | ((with_reducible apply load27); (case ho => rfl); (case hw => rfl); (case hx => rfl); (case hc => first | exact (unhide LL).get 0 rfl | exact (unhide LL).get 1 rfl | exact (unhide LL).get 2 rfl); simp only [Act.put, List.setIfInBounds_toArray, List.set_cons_succ, List.set_cons_zero]) | ((with_reducible apply kstore27 2); (case ho => rfl); (case hw => rfl); (case hL => exact unhide LL); (case hx => rfl); (case hy => rfl); (case hi => rfl); (intro X LX; simp only [Act.put, List.setIfInBounds_toArray, List.set_cons_succ, List.set_cons_zero]; simp only [List.set_cons_succ, List.set_cons_zero] at LX; replace LL := hide LX; clear LX)) | ((with_reducible apply kalloc27); (case ho => rfl); (case hw => rfl); (case hL => exact unhide LL); (intro X LX; simp only [Act.put, List.setIfInBounds_toArray, List.set_cons_succ, List.set_cons_zero]; simp only [List.cons_append, List.nil_append] at LX; replace LL := hide LX; clear LX)))
            refine (unhide HRp _).mono ?_
            rintro _ w2 ⟨rfl, hb⟩
            replace LL := hide ((unhide LL).on hb)
            clear hb
            go_wp2_with (first | go_skip | ((with_reducible apply load27); (case ho => rfl); (case hw => rfl); (case hx => rfl); (case hc => first | exact (unhide LL).get 0 rfl | exact (unhide LL).get 1 rfl | exact (unhide LL).get 2 rfl | exact (unhide LL).get 3 rfl); simp only [Act.put, List.setIfInBounds_toArray, List.set_cons_succ, List.set_cons_zero]) | ((with_reducible apply kstore27 2); (case ho => rfl); (case hw => rfl); (case hL => exact unhide LL); (case hx => rfl); (case hy => rfl); (case hi => rfl); (intro X LX; simp only [Act.put, List.setIfInBounds_toArray, List.set_cons_succ, List.set_cons_zero]; simp only [List.set_cons_succ, List.set_cons_zero] at LX; replace LL := hide LX; clear LX)) | ((with_reducible apply kstore27 3); (case ho => rfl); (case hw => rfl); (case hL => exact unhide LL); (case hx => rfl); (case hy => rfl); (case hi => rfl); (intro X LX; simp only [Act.put, List.setIfInBounds_toArray, List.set_cons_succ, List.set_cons_zero]; simp only [List.set_cons_succ, List.set_cons_zero] at LX; replace LL := hide LX; clear LX)) | ((with_reducible apply kalloc27); (case ho => rfl); (case hw => rfl); (case hL => exact unhide LL); (intro X LX; simp only [Act.put, List.setIfInBounds_toArray, List.set_cons_succ, List.set_cons_zero]; simp only [List.cons_append, List.nil_append] at LX; replace LL := hide LX; clear LX)))
            refine (unhide HSm _ (tabs_below (unhide HT) (unhide LL).below)).mono ?_
            rintro _ w3 ⟨rfl, hb⟩
            replace LL := hide ((unhide LL).on hb)
            clear hb
            go_wp2_with (first | go_skip | ((with_reducible apply load27); (case ho => rfl); (case hw => rfl); (case hx => rfl); (case hc => first | exact (unhide LL).get 0 rfl | exact (unhide LL).get 1 rfl | exact (unhide LL).get 2 rfl | exact (unhide LL).get 3 rfl); simp only [Act.put, List.setIfInBounds_toArray, List.set_cons_succ, List.set_cons_zero]))
            refine (unhide HKe _ (tabs_below (unhide HT) (unhide LL).below)).mono ?_
            rintro _ w4 ⟨rfl, hb⟩
            replace LL := hide ((unhide LL).on hb)
            clear hb
            go_wp2_with (first | go_skip | ((with_reducible apply load27); (case ho => rfl); (case hw => rfl); (case hx => rfl); (case hc => first | exact (unhide LL).get 0 rfl | exact (unhide LL).get 1 rfl | exact (unhide LL).get 2 rfl | exact (unhide LL).get 3 rfl); simp only [Act.put, List.setIfInBounds_toArray, List.set_cons_succ, List.set_cons_zero]))
            refine (unhide HRk _).mono ?_
            rintro _ w5 ⟨rfl, hb⟩
            replace LL := hide ((unhide LL).on hb)
            clear hb
            go_wp2_with (first | go_skip | ((with_reducible apply load27); (case ho => rfl); (case hw => rfl); (case hx => rfl); (case hc => first | exact (unhide LL).get 0 rfl | exact (unhide LL).get 1 rfl | exact (unhide LL).get 2 rfl | exact (unhide LL).get 3 rfl); simp only [Act.put, List.setIfInBounds_toArray, List.set_cons_succ, List.set_cons_zero]))
            refine (unhide HEq _).mono ?_
            rintro _ w6 ⟨rfl, hb⟩
            replace LL := hide ((unhide LL).on hb)
            clear hb
            go_wp2_with (first | go_skip | ((with_reducible apply load27); (case ho => rfl); (case hw => rfl); (case hx => rfl); (case hc => first | exact (unhide LL).get 0 rfl | exact (unhide LL).get 1 rfl | exact (unhide LL).get 2 rfl | exact (unhide LL).get 3 rfl); simp only [Act.put, List.setIfInBounds_toArray, List.set_cons_succ, List.set_cons_zero]))
            refine (unhide HGn _).mono ?_
            rintro _ w7 ⟨rfl, hb⟩
            replace LL := hide ((unhide LL).on hb)
            clear hb
            go_wp2_with (first | go_skip | ((with_reducible apply load27); (case ho => rfl); (case hw => rfl); (case hx => rfl); (case hc => first | exact (unhide LL).get 0 rfl | exact (unhide LL).get 1 rfl | exact (unhide LL).get 2 rfl | exact (unhide LL).get 3 rfl); simp only [Act.put, List.setIfInBounds_toArray, List.set_cons_succ, List.set_cons_zero]))
            refine (unhide HGd _).mono ?_
            rintro _ w8 ⟨rfl, hb⟩
            replace LL := hide ((unhide LL).on hb)
            clear hb
            go_wp2_with (first | go_skip | ((with_reducible apply load27); (case ho => rfl); (case hw => rfl); (case hx => rfl); (case hc => first | exact (unhide LL).get 0 rfl | exact (unhide LL).get 1 rfl | exact (unhide LL).get 2 rfl | exact (unhide LL).get 3 rfl); simp only [Act.put, List.setIfInBounds_toArray, List.set_cons_succ, List.set_cons_zero]))
            refine (unhide HIs _).mono ?_
            rintro _ w9 ⟨rfl, hb⟩
            replace LL := hide ((unhide LL).on hb)
            clear hb
            go_wp2_with (first | go_skip | ((with_reducible apply load27); (case ho => rfl); (case hw => rfl); (case hx => rfl); (case hc => first | exact (unhide LL).get 0 rfl | exact (unhide LL).get 1 rfl | exact (unhide LL).get 2 rfl | exact (unhide LL).get 3 rfl); simp only [Act.put, List.setIfInBounds_toArray, List.set_cons_succ, List.set_cons_zero]))
            go_ret
            exact ⟨rfl, (unhide LL).below⟩
        · cases sm
          · have hq0 : n.agg = .agg #[.int .i64 n.v.k, .bool n.v.b, .float .f64 n.v.x, .string n.v.s, .int .i64 n.v.i, .int .i64 n.g.k, .bool n.g.b, .float .f64 n.g.x, .string n.g.s, .int .i64 n.g.i, .int .i64 n.s.k, .bool n.s.b, .float .f64 n.s.x, .string n.s.s, .int .i64 n.s.i, .int .i64 n.w, .int .i64 n.e, .int .i64 n.c] := rfl
            have hq1 : d.agg = .agg #[.int .i64 d.v.k, .bool d.v.b, .float .f64 d.v.x, .string d.v.s, .int .i64 d.v.i, .int .i64 d.g.k, .bool d.g.b, .float .f64 d.g.x, .string d.g.s, .int .i64 d.g.i, .int .i64 d.s.k, .bool d.s.b, .float .f64 d.s.x, .string d.s.s, .int .i64 d.s.i, .int .i64 d.w, .int .i64 d.e, .int .i64 d.c] := rfl
            rw [hq0, hq1]
            clear hq0 hq1
            go_enter Tryd.func4, Tryd.ntmps4
            go_wp2_with (first | go_skip | ((with_reducible apply load27); (case ho => rfl); (case hw => rfl); (case hx => rfl); (case hc => first | exact (unhide LL).get 0 rfl | exact (unhide LL).get 1 rfl); simp only [Act.put, List.setIfInBounds_toArray, List.set_cons_succ, List.set_cons_zero]) | ((with_reducible apply kalloc27); (case ho => rfl); (case hw => rfl); (case hL => exact unhide LL); (intro X LX; simp only [Act.put, List.setIfInBounds_toArray, List.set_cons_succ, List.set_cons_zero]; simp only [List.cons_append, List.nil_append] at LX; replace LL := hide LX; clear LX)))
            refine (unhide HAp _ (tabs_below (unhide HT) (unhide LL).below)).mono ?_
            rintro _ w1 ⟨rfl, hb⟩
            replace LL := hide ((unhide LL).on hb)
            clear hb
            go_wp2_with (first | go_skip | ((with_reducible apply load27); (case ho => rfl); (case hw => rfl); (case hx => rfl); (case hc => first | exact (unhide LL).get 0 rfl | exact (unhide LL).get 1 rfl | exact (unhide LL).get 2 rfl); simp only [Act.put, List.setIfInBounds_toArray, List.set_cons_succ, List.set_cons_zero]) | ((with_reducible apply kstore27 2); (case ho => rfl); (case hw => rfl); (case hL => exact unhide LL); (case hx => rfl); (case hy => rfl); (case hi => rfl); (intro X LX; simp only [Act.put, List.setIfInBounds_toArray, List.set_cons_succ, List.set_cons_zero]; simp only [List.set_cons_succ, List.set_cons_zero] at LX; replace LL := hide LX; clear LX)) | ((with_reducible apply kalloc27); (case ho => rfl); (case hw => rfl); (case hL => exact unhide LL); (intro X LX; simp only [Act.put, List.setIfInBounds_toArray, List.set_cons_succ, List.set_cons_zero]; simp only [List.cons_append, List.nil_append] at LX; replace LL := hide LX; clear LX)))
            refine (unhide HRp _).mono ?_
            rintro _ w2 ⟨rfl, hb⟩
            replace LL := hide ((unhide LL).on hb)
            clear hb
            go_wp2_with (first | go_skip | ((with_reducible apply load27); (case ho => rfl); (case hw => rfl); (case hx => rfl); (case hc => first | exact (unhide LL).get 0 rfl | exact (unhide LL).get 1 rfl | exact (unhide LL).get 2 rfl | exact (unhide LL).get 3 rfl); simp only [Act.put, List.setIfInBounds_toArray, List.set_cons_succ, List.set_cons_zero]) | ((with_reducible apply kstore27 2); (case ho => rfl); (case hw => rfl); (case hL => exact unhide LL); (case hx => rfl); (case hy => rfl); (case hi => rfl); (intro X LX; simp only [Act.put, List.setIfInBounds_toArray, List.set_cons_succ, List.set_cons_zero]; simp only [List.set_cons_succ, List.set_cons_zero] at LX; replace LL := hide LX; clear LX)) | ((with_reducible apply kstore27 3); (case ho => rfl); (case hw => rfl); (case hL => exact unhide LL); (case hx => rfl); (case hy => rfl); (case hi => rfl); (intro X LX; simp only [Act.put, List.setIfInBounds_toArray, List.set_cons_succ, List.set_cons_zero]; simp only [List.set_cons_succ, List.set_cons_zero] at LX; replace LL := hide LX; clear LX)) | ((with_reducible apply kalloc27); (case ho => rfl); (case hw => rfl); (case hL => exact unhide LL); (intro X LX; simp only [Act.put, List.setIfInBounds_toArray, List.set_cons_succ, List.set_cons_zero]; simp only [List.cons_append, List.nil_append] at LX; replace LL := hide LX; clear LX)))
            refine (unhide HSm _ (tabs_below (unhide HT) (unhide LL).below)).mono ?_
            rintro _ w3 ⟨rfl, hb⟩
            replace LL := hide ((unhide LL).on hb)
            clear hb
            go_wp2_with (first | go_skip | ((with_reducible apply load27); (case ho => rfl); (case hw => rfl); (case hx => rfl); (case hc => first | exact (unhide LL).get 0 rfl | exact (unhide LL).get 1 rfl | exact (unhide LL).get 2 rfl | exact (unhide LL).get 3 rfl); simp only [Act.put, List.setIfInBounds_toArray, List.set_cons_succ, List.set_cons_zero]))
            refine (unhide HKe _ (tabs_below (unhide HT) (unhide LL).below)).mono ?_
            rintro _ w4 ⟨rfl, hb⟩
            replace LL := hide ((unhide LL).on hb)
            clear hb
            go_wp2_with (first | go_skip | ((with_reducible apply load27); (case ho => rfl); (case hw => rfl); (case hx => rfl); (case hc => first | exact (unhide LL).get 0 rfl | exact (unhide LL).get 1 rfl | exact (unhide LL).get 2 rfl | exact (unhide LL).get 3 rfl); simp only [Act.put, List.setIfInBounds_toArray, List.set_cons_succ, List.set_cons_zero]))
            refine (unhide HRk _).mono ?_
            rintro _ w5 ⟨rfl, hb⟩
            replace LL := hide ((unhide LL).on hb)
            clear hb
            go_wp2_with (first | go_skip | ((with_reducible apply load27); (case ho => rfl); (case hw => rfl); (case hx => rfl); (case hc => first | exact (unhide LL).get 0 rfl | exact (unhide LL).get 1 rfl | exact (unhide LL).get 2 rfl | exact (unhide LL).get 3 rfl); simp only [Act.put, List.setIfInBounds_toArray, List.set_cons_succ, List.set_cons_zero]))
            refine (unhide HEq _).mono ?_
            rintro _ w6 ⟨rfl, hb⟩
            replace LL := hide ((unhide LL).on hb)
            clear hb
            go_wp2_with (first | go_skip | ((with_reducible apply load27); (case ho => rfl); (case hw => rfl); (case hx => rfl); (case hc => first | exact (unhide LL).get 0 rfl | exact (unhide LL).get 1 rfl | exact (unhide LL).get 2 rfl | exact (unhide LL).get 3 rfl); simp only [Act.put, List.setIfInBounds_toArray, List.set_cons_succ, List.set_cons_zero]))
            refine (unhide HGn _).mono ?_
            rintro _ w7 ⟨rfl, hb⟩
            replace LL := hide ((unhide LL).on hb)
            clear hb
            go_wp2_with (first | go_skip | ((with_reducible apply load27); (case ho => rfl); (case hw => rfl); (case hx => rfl); (case hc => first | exact (unhide LL).get 0 rfl | exact (unhide LL).get 1 rfl | exact (unhide LL).get 2 rfl | exact (unhide LL).get 3 rfl); simp only [Act.put, List.setIfInBounds_toArray, List.set_cons_succ, List.set_cons_zero]))
            refine (unhide HGd _).mono ?_
            rintro _ w8 ⟨rfl, hb⟩
            replace LL := hide ((unhide LL).on hb)
            clear hb
            go_wp2_with (first | go_skip | ((with_reducible apply load27); (case ho => rfl); (case hw => rfl); (case hx => rfl); (case hc => first | exact (unhide LL).get 0 rfl | exact (unhide LL).get 1 rfl | exact (unhide LL).get 2 rfl | exact (unhide LL).get 3 rfl); simp only [Act.put, List.setIfInBounds_toArray, List.set_cons_succ, List.set_cons_zero]))
            refine (unhide HIs _).mono ?_
            rintro _ w9 ⟨rfl, hb⟩
            replace LL := hide ((unhide LL).on hb)
            clear hb
            go_wp2_with (first | go_skip | ((with_reducible apply load27); (case ho => rfl); (case hw => rfl); (case hx => rfl); (case hc => first | exact (unhide LL).get 0 rfl | exact (unhide LL).get 1 rfl | exact (unhide LL).get 2 rfl | exact (unhide LL).get 3 rfl); simp only [Act.put, List.setIfInBounds_toArray, List.set_cons_succ, List.set_cons_zero]))
            go_ret
            exact ⟨rfl, (unhide LL).below⟩
          · have hq0 : n.agg = .agg #[.int .i64 n.v.k, .bool n.v.b, .float .f64 n.v.x, .string n.v.s, .int .i64 n.v.i, .int .i64 n.g.k, .bool n.g.b, .float .f64 n.g.x, .string n.g.s, .int .i64 n.g.i, .int .i64 n.s.k, .bool n.s.b, .float .f64 n.s.x, .string n.s.s, .int .i64 n.s.i, .int .i64 n.w, .int .i64 n.e, .int .i64 n.c] := rfl
            have hq1 : d.agg = .agg #[.int .i64 d.v.k, .bool d.v.b, .float .f64 d.v.x, .string d.v.s, .int .i64 d.v.i, .int .i64 d.g.k, .bool d.g.b, .float .f64 d.g.x, .string d.g.s, .int .i64 d.g.i, .int .i64 d.s.k, .bool d.s.b, .float .f64 d.s.x, .string d.s.s, .int .i64 d.s.i, .int .i64 d.w, .int .i64 d.e, .int .i64 d.c] := rfl
            rw [hq0, hq1]
            clear hq0 hq1
            go_enter Tryd.func4, Tryd.ntmps4
            go_wp2_with (first | go_skip | ((with_reducible apply load27); (case ho => rfl); (case hw => rfl); (case hx => rfl); (case hc => first | exact (unhide LL).get 0 rfl | exact (unhide LL).get 1 rfl); simp only [Act.put, List.setIfInBounds_toArray, List.set_cons_succ, List.set_cons_zero]) | ((with_reducible apply kalloc27); (case ho => rfl); (case hw => rfl); (case hL => exact unhide LL); (intro X LX; simp only [Act.put, List.setIfInBounds_toArray, List.set_cons_succ, List.set_cons_zero]; simp only [List.cons_append, List.nil_append] at LX; replace LL := hide LX; clear LX)))
            refine (unhide HAp _ (tabs_below (unhide HT) (unhide LL).below)).mono ?_
            rintro _ w1 ⟨rfl, hb⟩
            replace LL := hide ((unhide LL).on hb)
            clear hb
            go_wp2_with (first | go_skip | ((with_reducible apply load27); (case ho => rfl); (case hw => rfl); (case hx => rfl); (case hc => first | exact (unhide LL).get 0 rfl | exact (unhide LL).get 1 rfl | exact (unhide LL).get 2 rfl); simp only [Act.put, List.setIfInBounds_toArray, List.set_cons_succ, List.set_cons_zero]) | ((with_reducible apply kstore27 2); (case ho => rfl); (case hw => rfl); (case hL => exact unhide LL); (case hx => rfl); (case hy => rfl); (case hi => rfl); (intro X LX; simp only [Act.put, List.setIfInBounds_toArray, List.set_cons_succ, List.set_cons_zero]; simp only [List.set_cons_succ, List.set_cons_zero] at LX; replace LL := hide LX; clear LX)) | ((with_reducible apply kalloc27); (case ho => rfl); (case hw => rfl); (case hL => exact unhide LL); (intro X LX; simp only [Act.put, List.setIfInBounds_toArray, List.set_cons_succ, List.set_cons_zero]; simp only [List.cons_append, List.nil_append] at LX; replace LL := hide LX; clear LX)))
            refine (unhide HRp _).mono ?_
            rintro _ w2 ⟨rfl, hb⟩
            replace LL := hide ((unhide LL).on hb)
            clear hb
            go_wp2_with (first | go_skip | ((with_reducible apply load27); (case ho => rfl); (case hw => rfl); (case hx => rfl); (case hc => first | exact (unhide LL).get 0 rfl | exact (unhide LL).get 1 rfl | exact (unhide LL).get 2 rfl | exact (unhide LL).get 3 rfl); simp only [Act.put, List.setIfInBounds_toArray, List.set_cons_succ, List.set_cons_zero]) | ((with_reducible apply kstore27 2); (case ho => rfl); (case hw => rfl); (case hL => exact unhide LL); (case hx => rfl); (case hy => rfl); (case hi => rfl); (intro X LX; simp only [Act.put, List.setIfInBounds_toArray, List.set_cons_succ, List.set_cons_zero]; simp only [List.set_cons_succ, List.set_cons_zero] at LX; replace LL := hide LX; clear LX)) | ((with_reducible apply kstore27 3); (case ho => rfl); (case hw => rfl); (case hL => exact unhide LL); (case hx => rfl); (case hy => rfl); (case hi => rfl); (intro X LX; simp only [Act.put, List.setIfInBounds_toArray, List.set_cons_succ, List.set_cons_zero]; simp only [List.set_cons_succ, List.set_cons_zero] at LX; replace LL := hide LX; clear LX)) | ((with_reducible apply kalloc27); (case ho => rfl); (case hw => rfl); (case hL => exact unhide LL); (intro X LX; simp only [Act.put, List.setIfInBounds_toArray, List.set_cons_succ, List.set_cons_zero]; simp only [List.cons_append, List.nil_append] at LX; replace LL := hide LX; clear LX)))
            refine (unhide HSm _ (tabs_below (unhide HT) (unhide LL).below)).mono ?_
            rintro _ w3 ⟨rfl, hb⟩
            replace LL := hide ((unhide LL).on hb)
            clear hb
            go_wp2_with (first | go_skip | ((with_reducible apply load27); (case ho => rfl); (case hw => rfl); (case hx => rfl); (case hc => first | exact (unhide LL).get 0 rfl | exact (unhide LL).get 1 rfl | exact (unhide LL).get 2 rfl | exact (unhide LL).get 3 rfl); simp only [Act.put, List.setIfInBounds_toArray, List.set_cons_succ, List.set_cons_zero]))
            refine (unhide HKe _ (tabs_below (unhide HT) (unhide LL).below)).mono ?_
            rintro _ w4 ⟨rfl, hb⟩
            replace LL := hide ((unhide LL).on hb)
            clear hb
            go_wp2_with (first | go_skip | ((with_reducible apply load27); (case ho => rfl); (case hw => rfl); (case hx => rfl); (case hc => first | exact (unhide LL).get 0 rfl | exact (unhide LL).get 1 rfl | exact (unhide LL).get 2 rfl | exact (unhide LL).get 3 rfl); simp only [Act.put, List.setIfInBounds_toArray, List.set_cons_succ, List.set_cons_zero]))
            refine (unhide HRk _).mono ?_
            rintro _ w5 ⟨rfl, hb⟩
            replace LL := hide ((unhide LL).on hb)
            clear hb
            go_wp2_with (first | go_skip | ((with_reducible apply load27); (case ho => rfl); (case hw => rfl); (case hx => rfl); (case hc => first | exact (unhide LL).get 0 rfl | exact (unhide LL).get 1 rfl | exact (unhide LL).get 2 rfl | exact (unhide LL).get 3 rfl); simp only [Act.put, List.setIfInBounds_toArray, List.set_cons_succ, List.set_cons_zero]))
            refine (unhide HEq _).mono ?_
            rintro _ w6 ⟨rfl, hb⟩
            replace LL := hide ((unhide LL).on hb)
            clear hb
            go_wp2_with (first | go_skip | ((with_reducible apply load27); (case ho => rfl); (case hw => rfl); (case hx => rfl); (case hc => first | exact (unhide LL).get 0 rfl | exact (unhide LL).get 1 rfl | exact (unhide LL).get 2 rfl | exact (unhide LL).get 3 rfl); simp only [Act.put, List.setIfInBounds_toArray, List.set_cons_succ, List.set_cons_zero]))
            refine (unhide HGn _).mono ?_
            rintro _ w7 ⟨rfl, hb⟩
            replace LL := hide ((unhide LL).on hb)
            clear hb
            go_wp2_with (first | go_skip | ((with_reducible apply load27); (case ho => rfl); (case hw => rfl); (case hx => rfl); (case hc => first | exact (unhide LL).get 0 rfl | exact (unhide LL).get 1 rfl | exact (unhide LL).get 2 rfl | exact (unhide LL).get 3 rfl); simp only [Act.put, List.setIfInBounds_toArray, List.set_cons_succ, List.set_cons_zero]))
            refine (unhide HGd _).mono ?_
            rintro _ w8 ⟨rfl, hb⟩
            replace LL := hide ((unhide LL).on hb)
            clear hb
            go_wp2_with (first | go_skip | ((with_reducible apply load27); (case ho => rfl); (case hw => rfl); (case hx => rfl); (case hc => first | exact (unhide LL).get 0 rfl | exact (unhide LL).get 1 rfl | exact (unhide LL).get 2 rfl | exact (unhide LL).get 3 rfl); simp only [Act.put, List.setIfInBounds_toArray, List.set_cons_succ, List.set_cons_zero]))
            refine (unhide HIs _).mono ?_
            rintro _ w9 ⟨rfl, hb⟩
            replace LL := hide ((unhide LL).on hb)
            clear hb
            go_wp2_with (first | go_skip | ((with_reducible apply load27); (case ho => rfl); (case hw => rfl); (case hx => rfl); (case hc => first | exact (unhide LL).get 0 rfl | exact (unhide LL).get 1 rfl | exact (unhide LL).get 2 rfl | exact (unhide LL).get 3 rfl); simp only [Act.put, List.setIfInBounds_toArray, List.set_cons_succ, List.set_cons_zero]))
            go_ret
            exact ⟨rfl, (unhide LL).below⟩
end Go.Proofs.YtedgaaaloigpdaaDoor
