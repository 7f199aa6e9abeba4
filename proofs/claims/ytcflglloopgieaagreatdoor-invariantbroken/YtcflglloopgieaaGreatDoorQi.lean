import Derived.Test.YtcflglloopgieaaGreatDoorQh

/-! Di -/
namespace Go.Proofs.YtcflglloopgieaaGreatDoor
open Go Go.Proofs Go.RowKit FM
set_option linter.unusedSimpArgs false
set_option linter.unusedVariables false
set_option maxHeartbeats 2000000 in
set_option maxRecDepth 100000 in
theorem refAcc (d : DD) (hd : FD d) (w : World) : Calls Tryz.prog 63 #[d.agg] w fun e w' => e = .returned (.bool (raccV d)) ∧ Below w.heap.size w w' := by
  have HG := hide (refGoodD d hd)
  have HKV := hide (refThere_any d.v)
  have HKG := hide (refThere_any d.g)
  have HKS := hide (refThere_any d.s)
  clear hd
  have LL := hide (Lie.new1 w (.D d))
  unfold raccV
  generalize rgoodV d = gd at *
  generalize hkv : (d.v.k != 0) = kv at *
  generalize hkg : (d.g.k != 0) = kg at *
  generalize hks : (d.s.k != 0) = ks at *
  generalize hqa : (d.w != 0) = qa at *
  clear hkv hkg hks
  have hq0 : d.agg = .agg #[.int .i64 d.v.k, .bool d.v.b, .float .f64 d.v.x, .string d.v.s, .int .i64 d.v.i, .int .i64 d.g.k, .bool d.g.b, .float .f64 d.g.x, .string d.g.s, .int .i64 d.g.i, .int .i64 d.s.k, .bool d.s.b, .float .f64 d.s.x, .string d.s.s, .int .i64 d.s.i, .int .i64 d.w, .int .i64 d.e, .int .i64 d.c] := rfl
  rw [hq0]
  clear hq0
  go_enter Tryz.func63, Tryz.ntmps63
  go_wp2_with (first | go_skip | ((with_reducible apply load27); (case ho => rfl); (case hw => rfl); (case hx => rfl); (case hc => first | exact (unhide LL).one); simp only [Act.put, List.setIfInBounds_toArray, List.set_cons_succ, List.set_cons_zero]) | ((with_reducible apply load24v); (case ho => rfl); (case hw => rfl); (case hx => rfl); (case hc => first | exact (unhide LL).one); simp only [Act.put, List.setIfInBounds_toArray, List.set_cons_succ, List.set_cons_zero]) | ((with_reducible apply load24g); (case ho => rfl); (case hw => rfl); (case hx => rfl); (case hc => first | exact (unhide LL).one); simp only [Act.put, List.setIfInBounds_toArray, List.set_cons_succ, List.set_cons_zero]) | ((with_reducible apply load24s); (case ho => rfl); (case hw => rfl); (case hx => rfl); (case hc => first | exact (unhide LL).one); simp only [Act.put, List.setIfInBounds_toArray, List.set_cons_succ, List.set_cons_zero]) | ((with_reducible apply load25w); (case ho => rfl); (case hw => rfl); (case hx => rfl); (case hc => first | exact (unhide LL).one); simp only [Act.put, List.setIfInBounds_toArray, List.set_cons_succ, List.set_cons_zero]) | ((with_reducible apply load25e); (case ho => rfl); (case hw => rfl); (case hx => rfl); (case hc => first | exact (unhide LL).one); simp only [Act.put, List.setIfInBounds_toArray, List.set_cons_succ, List.set_cons_zero]) | ((with_reducible apply load25c); (case ho => rfl); (case hw => rfl); (case hx => rfl); (case hc => first | exact (unhide LL).one); simp only [Act.put, List.setIfInBounds_toArray, List.set_cons_succ, List.set_cons_zero]) | (go_at_call 97; refine (said_any _ _).mono ?_; rintro _ _ ⟨rfl, rfl⟩) | (go_at_call 117; refine (oneOfThree_any _ _).mono ?_; rintro _ _ ⟨rfl, rfl⟩) | (go_at_call 90; refine (refTri_any _ _).mono ?_; rintro _ _ ⟨rfl, rfl⟩))
  refine (unhide HG _).mono ?_
  rintro _ w1 ⟨rfl, hb⟩
  replace LL := hide ((unhide LL).on hb)
  clear hb
  cases gd
  · go_wp2_with (first | go_skip | ((with_reducible apply load27); (case ho => rfl); (case hw => rfl); (case hx => rfl); (case hc => first | exact (unhide LL).one); simp only [Act.put, List.setIfInBounds_toArray, List.set_cons_succ, List.set_cons_zero]) | ((with_reducible apply load24v); (case ho => rfl); (case hw => rfl); (case hx => rfl); (case hc => first | exact (unhide LL).one); simp only [Act.put, List.setIfInBounds_toArray, List.set_cons_succ, List.set_cons_zero]) | ((with_reducible apply load24g); (case ho => rfl); (case hw => rfl); (case hx => rfl); (case hc => first | exact (unhide LL).one); simp only [Act.put, List.setIfInBounds_toArray, List.set_cons_succ, List.set_cons_zero]) | ((with_reducible apply load24s); (case ho => rfl); (case hw => rfl); (case hx => rfl); (case hc => first | exact (unhide LL).one); simp only [Act.put, List.setIfInBounds_toArray, List.set_cons_succ, List.set_cons_zero]) | ((with_reducible apply load25w); (case ho => rfl); (case hw => rfl); (case hx => rfl); (case hc => first | exact (unhide LL).one); simp only [Act.put, List.setIfInBounds_toArray, List.set_cons_succ, List.set_cons_zero]) | ((with_reducible apply load25e); (case ho => rfl); (case hw => rfl); (case hx => rfl); (case hc => first | exact (unhide LL).one); simp only [Act.put, List.setIfInBounds_toArray, List.set_cons_succ, List.set_cons_zero]) | ((with_reducible apply load25c); (case ho => rfl); (case hw => rfl); (case hx => rfl); (case hc => first | exact (unhide LL).one); simp only [Act.put, List.setIfInBounds_toArray, List.set_cons_succ, List.set_cons_zero]) | (go_at_call 97; refine (said_any _ _).mono ?_; rintro _ _ ⟨rfl, rfl⟩) | (go_at_call 117; refine (oneOfThree_any _ _).mono ?_; rintro _ _ ⟨rfl, rfl⟩) | (go_at_call 90; refine (refTri_any _ _).mono ?_; rintro _ _ ⟨rfl, rfl⟩))
    go_ret
    exact ⟨rfl, (unhide LL).below⟩
  · go_wp2_with (first | go_skip | ((with_reducible apply load27); (case ho => rfl); (case hw => rfl); (case hx => rfl); (case hc => first | exact (unhide LL).one); simp only [Act.put, List.setIfInBounds_toArray, List.set_cons_succ, List.set_cons_zero]) | ((with_reducible apply load24v); (case ho => rfl); (case hw => rfl); (case hx => rfl); (case hc => first | exact (unhide LL).one); simp only [Act.put, List.setIfInBounds_toArray, List.set_cons_succ, List.set_cons_zero]) | ((with_reducible apply load24g); (case ho => rfl); (case hw => rfl); (case hx => rfl); (case hc => first | exact (unhide LL).one); simp only [Act.put, List.setIfInBounds_toArray, List.set_cons_succ, List.set_cons_zero]) | ((with_reducible apply load24s); (case ho => rfl); (case hw => rfl); (case hx => rfl); (case hc => first | exact (unhide LL).one); simp only [Act.put, List.setIfInBounds_toArray, List.set_cons_succ, List.set_cons_zero]) | ((with_reducible apply load25w); (case ho => rfl); (case hw => rfl); (case hx => rfl); (case hc => first | exact (unhide LL).one); simp only [Act.put, List.setIfInBounds_toArray, List.set_cons_succ, List.set_cons_zero]) | ((with_reducible apply load25e); (case ho => rfl); (case hw => rfl); (case hx => rfl); (case hc => first | exact (unhide LL).one); simp only [Act.put, List.setIfInBounds_toArray, List.set_cons_succ, List.set_cons_zero]) | ((with_reducible apply load25c); (case ho => rfl); (case hw => rfl); (case hx => rfl); (case hc => first | exact (unhide LL).one); simp only [Act.put, List.setIfInBounds_toArray, List.set_cons_succ, List.set_cons_zero]) | (go_at_call 97; refine (said_any _ _).mono ?_; rintro _ _ ⟨rfl, rfl⟩) | (go_at_call 117; refine (oneOfThree_any _ _).mono ?_; rintro _ _ ⟨rfl, rfl⟩) | (go_at_call 90; refine (refTri_any _ _).mono ?_; rintro _ _ ⟨rfl, rfl⟩))
    refine (unhide HKG _).mono ?_
    rintro _ w2 ⟨rfl, hb⟩
    replace LL := hide ((unhide LL).on hb)
    clear hb
    cases kg
    · go_wp2_with (first | go_skip | ((with_reducible apply load27); (case ho => rfl); (case hw => rfl); (case hx => rfl); (case hc => first | exact (unhide LL).one); simp only [Act.put, List.setIfInBounds_toArray, List.set_cons_succ, List.set_cons_zero]) | ((with_reducible apply load24v); (case ho => rfl); (case hw => rfl); (case hx => rfl); (case hc => first | exact (unhide LL).one); simp only [Act.put, List.setIfInBounds_toArray, List.set_cons_succ, List.set_cons_zero]) | ((with_reducible apply load24g); (case ho => rfl); (case hw => rfl); (case hx => rfl); (case hc => first | exact (unhide LL).one); simp only [Act.put, List.setIfInBounds_toArray, List.set_cons_succ, List.set_cons_zero]) | ((with_reducible apply load24s); (case ho => rfl); (case hw => rfl); (case hx => rfl); (case hc => first | exact (unhide LL).one); simp only [Act.put, List.setIfInBounds_toArray, List.set_cons_succ, List.set_cons_zero]) | ((with_reducible apply load25w); (case ho => rfl); (case hw => rfl); (case hx => rfl); (case hc => first | exact (unhide LL).one); simp only [Act.put, List.setIfInBounds_toArray, List.set_cons_succ, List.set_cons_zero]) | ((with_reducible apply load25e); (case ho => rfl); (case hw => rfl); (case hx => rfl); (case hc => first | exact (unhide LL).one); simp only [Act.put, List.setIfInBounds_toArray, List.set_cons_succ, List.set_cons_zero]) | ((with_reducible apply load25c); (case ho => rfl); (case hw => rfl); (case hx => rfl); (case hc => first | exact (unhide LL).one); simp only [Act.put, List.setIfInBounds_toArray, List.set_cons_succ, List.set_cons_zero]) | (go_at_call 97; refine (said_any _ _).mono ?_; rintro _ _ ⟨rfl, rfl⟩) | (go_at_call 117; refine (oneOfThree_any _ _).mono ?_; rintro _ _ ⟨rfl, rfl⟩) | (go_at_call 90; refine (refTri_any _ _).mono ?_; rintro _ _ ⟨rfl, rfl⟩))
      refine (unhide HKS _).mono ?_
      rintro _ w3 ⟨rfl, hb⟩
      replace LL := hide ((unhide LL).on hb)
      clear hb
      go_wp2_with (first | go_skip | ((with_reducible apply load27); (case ho => rfl); (case hw => rfl); (case hx => rfl); (case hc => first | exact (unhide LL).one); simp only [Act.put, List.setIfInBounds_toArray, List.set_cons_succ, List.set_cons_zero]) | ((with_reducible apply load24v); (case ho => rfl); (case hw => rfl); (case hx => rfl); (case hc => first | exact (unhide LL).one); simp only [Act.put, List.setIfInBounds_toArray, List.set_cons_succ, List.set_cons_zero]) | ((with_reducible apply load24g); (case ho => rfl); (case hw => rfl); (case hx => rfl); (case hc => first | exact (unhide LL).one); simp only [Act.put, List.setIfInBounds_toArray, List.set_cons_succ, List.set_cons_zero]) | ((with_reducible apply load24s); (case ho => rfl); (case hw => rfl); (case hx => rfl); (case hc => first | exact (unhide LL).one); simp only [Act.put, List.setIfInBounds_toArray, List.set_cons_succ, List.set_cons_zero]) | ((with_reducible apply load25w); (case ho => rfl); (case hw => rfl); (case hx => rfl); (case hc => first | exact (unhide LL).one); simp only [Act.put, List.setIfInBounds_toArray, List.set_cons_succ, List.set_cons_zero]) | ((with_reducible apply load25e); (case ho => rfl); (case hw => rfl); (case hx => rfl); (case hc => first | exact (unhide LL).one); simp only [Act.put, List.setIfInBounds_toArray, List.set_cons_succ, List.set_cons_zero]) | ((with_reducible apply load25c); (case ho => rfl); (case hw => rfl); (case hx => rfl); (case hc => first | exact (unhide LL).one); simp only [Act.put, List.setIfInBounds_toArray, List.set_cons_succ, List.set_cons_zero]) | (go_at_call 97; refine (said_any _ _).mono ?_; rintro _ _ ⟨rfl, rfl⟩) | (go_at_call 117; refine (oneOfThree_any _ _).mono ?_; rintro _ _ ⟨rfl, rfl⟩) | (go_at_call 90; refine (refTri_any _ _).mono ?_; rintro _ _ ⟨rfl, rfl⟩))
      go_ret
      exact ⟨rfl, (unhide LL).below⟩
    · go_wp2_with (first | go_skip | ((with_reducible apply load27); (case ho => rfl); (case hw => rfl); (case hx => rfl); (case hc => first | exact (unhide LL).one); simp only [Act.put, List.setIfInBounds_toArray, List.set_cons_succ, List.set_cons_zero]) | ((with_reducible apply load24v); (case ho => rfl); (case hw => rfl); (case hx => rfl); (case hc => first | exact (unhide LL).one); simp only [Act.put, List.setIfInBounds_toArray, List.set_cons_succ, List.set_cons_zero]) | ((with_reducible apply load24g); (case ho => rfl); (case hw => rfl); (case hx => rfl); (case hc => first | exact (unhide LL).one); simp only [Act.put, List.setIfInBounds_toArray, List.set_cons_succ, List.set_cons_zero]) | ((with_reducible apply load24s); (case ho => rfl); (case hw => rfl); (case hx => rfl); (case hc => first | exact (unhide LL).one); simp only [Act.put, List.setIfInBounds_toArray, List.set_cons_succ, List.set_cons_zero]) | ((with_reducible apply load25w); (case ho => rfl); (case hw => rfl); (case hx => rfl); (case hc => first | exact (unhide LL).one); simp only [Act.put, List.setIfInBounds_toArray, List.set_cons_succ, List.set_cons_zero]) | ((with_reducible apply load25e); (case ho => rfl); (case hw => rfl); (case hx => rfl); (case hc => first | exact (unhide LL).one); simp only [Act.put, List.setIfInBounds_toArray, List.set_cons_succ, List.set_cons_zero]) | ((with_reducible apply load25c); (case ho => rfl); (case hw => rfl); (case hx => rfl); (case hc => first | exact (unhide LL).one); simp only [Act.put, List.setIfInBounds_toArray, List.set_cons_succ, List.set_cons_zero]) | (go_at_call 97; refine (said_any _ _).mono ?_; rintro _ _ ⟨rfl, rfl⟩) | (go_at_call 117; refine (oneOfThree_any _ _).mono ?_; rintro _ _ ⟨rfl, rfl⟩) | (go_at_call 90; refine (refTri_any _ _).mono ?_; rintro _ _ ⟨rfl, rfl⟩))
      go_ret
      exact ⟨rfl, (unhide LL).below⟩
set_option maxHeartbeats 2000000 in
set_option maxRecDepth 100000 in
theorem refWhole (d : DD) (hd : FD d) (w : World) : Calls Tryz.prog 62 #[d.agg] w fun e w' => e = .returned (.bool (rwhoV d)) ∧ Below w.heap.size w w' := by
  have HG := hide (refGoodD d hd)
  have HKV := hide (refThere_any d.v)
  have HKG := hide (refThere_any d.g)
  have HKS := hide (refThere_any d.s)
  clear hd
  have LL := hide (Lie.new1 w (.D d))
  unfold rwhoV
  generalize rgoodV d = gd at *
  have ee : (d.e == 0) = !(d.e != 0) := (Bool.not_not _).symm
  have ec : (d.c == 0) = !(d.c != 0) := (Bool.not_not _).symm
  have ew : (d.w == 0) = !(d.w != 0) := (Bool.not_not _).symm
  rw [ee, ec]
  generalize hqe : (d.e != 0) = qe at *
  generalize hqc : (d.c != 0) = qc at *
  generalize hkv : (d.v.k != 0) = kv at *
  generalize hkg : (d.g.k != 0) = kg at *
  generalize hks : (d.s.k != 0) = ks at *
  generalize hqa : (d.w != 0) = qa at *
  clear hkv hkg hks
  have hq0 : d.agg = .agg #[.int .i64 d.v.k, .bool d.v.b, .float .f64 d.v.x, .string d.v.s, .int .i64 d.v.i, .int .i64 d.g.k, .bool d.g.b, .float .f64 d.g.x, .string d.g.s, .int .i64 d.g.i, .int .i64 d.s.k, .bool d.s.b, .float .f64 d.s.x, .string d.s.s, .int .i64 d.s.i, .int .i64 d.w, .int .i64 d.e, .int .i64 d.c] := rfl
  rw [hq0]
  clear hq0
  go_enter Tryz.func62, Tryz.ntmps62
  go_wp2_with (first | go_skip | ((with_reducible apply load27); (case ho => rfl); (case hw => rfl); (case hx => rfl); (case hc => first | exact (unhide LL).one); simp only [Act.put, List.setIfInBounds_toArray, List.set_cons_succ, List.set_cons_zero]) | ((with_reducible apply load24v); (case ho => rfl); (case hw => rfl); (case hx => rfl); (case hc => first | exact (unhide LL).one); simp only [Act.put, List.setIfInBounds_toArray, List.set_cons_succ, List.set_cons_zero]) | ((with_reducible apply load24g); (case ho => rfl); (case hw => rfl); (case hx => rfl); (case hc => first | exact (unhide LL).one); simp only [Act.put, List.setIfInBounds_toArray, List.set_cons_succ, List.set_cons_zero]) | ((with_reducible apply load24s); (case ho => rfl); (case hw => rfl); (case hx => rfl); (case hc => first | exact (unhide LL).one); simp only [Act.put, List.setIfInBounds_toArray, List.set_cons_succ, List.set_cons_zero]) | ((with_reducible apply load25w); (case ho => rfl); (case hw => rfl); (case hx => rfl); (case hc => first | exact (unhide LL).one); simp only [Act.put, List.setIfInBounds_toArray, List.set_cons_succ, List.set_cons_zero]) | ((with_reducible apply load25e); (case ho => rfl); (case hw => rfl); (case hx => rfl); (case hc => first | exact (unhide LL).one); simp only [Act.put, List.setIfInBounds_toArray, List.set_cons_succ, List.set_cons_zero]) | ((with_reducible apply load25c); (case ho => rfl); (case hw => rfl); (case hx => rfl); (case hc => first | exact (unhide LL).one); simp only [Act.put, List.setIfInBounds_toArray, List.set_cons_succ, List.set_cons_zero]) | (go_at_call 97; refine (said_any _ _).mono ?_; rintro _ _ ⟨rfl, rfl⟩) | (go_at_call 117; refine (oneOfThree_any _ _).mono ?_; rintro _ _ ⟨rfl, rfl⟩) | (go_at_call 90; refine (refTri_any _ _).mono ?_; rintro _ _ ⟨rfl, rfl⟩))
  refine (unhide HG _).mono ?_
  rintro _ w9 ⟨rfl, hb⟩
  replace LL := hide ((unhide LL).on hb)
  clear hb
  cases gd
  · go_wp2_with (first | go_skip | ((with_reducible apply load27); (case ho => rfl); (case hw => rfl); (case hx => rfl); (case hc => first | exact (unhide LL).one); simp only [Act.put, List.setIfInBounds_toArray, List.set_cons_succ, List.set_cons_zero]) | ((with_reducible apply load24v); (case ho => rfl); (case hw => rfl); (case hx => rfl); (case hc => first | exact (unhide LL).one); simp only [Act.put, List.setIfInBounds_toArray, List.set_cons_succ, List.set_cons_zero]) | ((with_reducible apply load24g); (case ho => rfl); (case hw => rfl); (case hx => rfl); (case hc => first | exact (unhide LL).one); simp only [Act.put, List.setIfInBounds_toArray, List.set_cons_succ, List.set_cons_zero]) | ((with_reducible apply load24s); (case ho => rfl); (case hw => rfl); (case hx => rfl); (case hc => first | exact (unhide LL).one); simp only [Act.put, List.setIfInBounds_toArray, List.set_cons_succ, List.set_cons_zero]) | ((with_reducible apply load25w); (case ho => rfl); (case hw => rfl); (case hx => rfl); (case hc => first | exact (unhide LL).one); simp only [Act.put, List.setIfInBounds_toArray, List.set_cons_succ, List.set_cons_zero]) | ((with_reducible apply load25e); (case ho => rfl); (case hw => rfl); (case hx => rfl); (case hc => first | exact (unhide LL).one); simp only [Act.put, List.setIfInBounds_toArray, List.set_cons_succ, List.set_cons_zero]) | ((with_reducible apply load25c); (case ho => rfl); (case hw => rfl); (case hx => rfl); (case hc => first | exact (unhide LL).one); simp only [Act.put, List.setIfInBounds_toArray, List.set_cons_succ, List.set_cons_zero]) | (go_at_call 97; refine (said_any _ _).mono ?_; rintro _ _ ⟨rfl, rfl⟩) | (go_at_call 117; refine (oneOfThree_any _ _).mono ?_; rintro _ _ ⟨rfl, rfl⟩) | (go_at_call 90; refine (refTri_any _ _).mono ?_; rintro _ _ ⟨rfl, rfl⟩))
    go_ret
    exact ⟨rfl, (unhide LL).below⟩
  · cases qe
    · go_wp2_with (first | go_skip | ((with_reducible apply load27); (case ho => rfl); (case hw => rfl); (case hx => rfl); (case hc => first | exact (unhide LL).one); simp only [Act.put, List.setIfInBounds_toArray, List.set_cons_succ, List.set_cons_zero]) | ((with_reducible apply load24v); (case ho => rfl); (case hw => rfl); (case hx => rfl); (case hc => first | exact (unhide LL).one); simp only [Act.put, List.setIfInBounds_toArray, List.set_cons_succ, List.set_cons_zero]) | ((with_reducible apply load24g); (case ho => rfl); (case hw => rfl); (case hx => rfl); (case hc => first | exact (unhide LL).one); simp only [Act.put, List.setIfInBounds_toArray, List.set_cons_succ, List.set_cons_zero]) | ((with_reducible apply load24s); (case ho => rfl); (case hw => rfl); (case hx => rfl); (case hc => first | exact (unhide LL).one); simp only [Act.put, List.setIfInBounds_toArray, List.set_cons_succ, List.set_cons_zero]) | ((with_reducible apply load25w); (case ho => rfl); (case hw => rfl); (case hx => rfl); (case hc => first | exact (unhide LL).one); simp only [Act.put, List.setIfInBounds_toArray, List.set_cons_succ, List.set_cons_zero]) | ((with_reducible apply load25e); (case ho => rfl); (case hw => rfl); (case hx => rfl); (case hc => first | exact (unhide LL).one); simp only [Act.put, List.setIfInBounds_toArray, List.set_cons_succ, List.set_cons_zero]) | ((with_reducible apply load25c); (case ho => rfl); (case hw => rfl); (case hx => rfl); (case hc => first | exact (unhide LL).one); simp only [Act.put, List.setIfInBounds_toArray, List.set_cons_succ, List.set_cons_zero]) | (go_at_call 97; refine (said_any _ _).mono ?_; rintro _ _ ⟨rfl, rfl⟩) | (go_at_call 117; refine (oneOfThree_any _ _).mono ?_; rintro _ _ ⟨rfl, rfl⟩) | (go_at_call 90; refine (refTri_any _ _).mono ?_; rintro _ _ ⟨rfl, rfl⟩))
      go_ret
      exact ⟨rfl, (unhide LL).below⟩
    · cases qc
      · go_wp2_with (first | go_skip | ((with_reducible apply load27); (case ho => rfl); (case hw => rfl); (case hx => rfl); (case hc => first | exact (unhide LL).one); simp only [Act.put, List.setIfInBounds_toArray, List.set_cons_succ, List.set_cons_zero]) | ((with_reducible apply load24v); (case ho => rfl); (case hw => rfl); (case hx => rfl); (case hc => first | exact (unhide LL).one); simp only [Act.put, List.setIfInBounds_toArray, List.set_cons_succ, List.set_cons_zero]) | ((with_reducible apply load24g); (case ho => rfl); (case hw => rfl); (case hx => rfl); (case hc => first | exact (unhide LL).one); simp only [Act.put, List.setIfInBounds_toArray, List.set_cons_succ, List.set_cons_zero]) | ((with_reducible apply load24s); (case ho => rfl); (case hw => rfl); (case hx => rfl); (case hc => first | exact (unhide LL).one); simp only [Act.put, List.setIfInBounds_toArray, List.set_cons_succ, List.set_cons_zero]) | ((with_reducible apply load25w); (case ho => rfl); (case hw => rfl); (case hx => rfl); (case hc => first | exact (unhide LL).one); simp only [Act.put, List.setIfInBounds_toArray, List.set_cons_succ, List.set_cons_zero]) | ((with_reducible apply load25e); (case ho => rfl); (case hw => rfl); (case hx => rfl); (case hc => first | exact (unhide LL).one); simp only [Act.put, List.setIfInBounds_toArray, List.set_cons_succ, List.set_cons_zero]) | ((with_reducible apply load25c); (case ho => rfl); (case hw => rfl); (case hx => rfl); (case hc => first | exact (unhide LL).one); simp only [Act.put, List.setIfInBounds_toArray, List.set_cons_succ, List.set_cons_zero]) | (go_at_call 97; refine (said_any _ _).mono ?_; rintro _ _ ⟨rfl, rfl⟩) | (go_at_call 117; refine (oneOfThree_any _ _).mono ?_; rintro _ _ ⟨rfl, rfl⟩) | (go_at_call 90; refine (refTri_any _ _).mono ?_; rintro _ _ ⟨rfl, rfl⟩))
        go_ret
        exact ⟨rfl, (unhide LL).below⟩
      · go_wp2_with (first | go_skip | ((with_reducible apply load27); (case ho => rfl); (case hw => rfl); (case hx => rfl); (case hc => first | exact (unhide LL).one); simp only [Act.put, List.setIfInBounds_toArray, List.set_cons_succ, List.set_cons_zero]) | ((with_reducible apply load24v); (case ho => rfl); (case hw => rfl); (case hx => rfl); (case hc => first | exact (unhide LL).one); simp only [Act.put, List.setIfInBounds_toArray, List.set_cons_succ, List.set_cons_zero]) | ((with_reducible apply load24g); (case ho => rfl); (case hw => rfl); (case hx => rfl); (case hc => first | exact (unhide LL).one); simp only [Act.put, List.setIfInBounds_toArray, List.set_cons_succ, List.set_cons_zero]) | ((with_reducible apply load24s); (case ho => rfl); (case hw => rfl); (case hx => rfl); (case hc => first | exact (unhide LL).one); simp only [Act.put, List.setIfInBounds_toArray, List.set_cons_succ, List.set_cons_zero]) | ((with_reducible apply load25w); (case ho => rfl); (case hw => rfl); (case hx => rfl); (case hc => first | exact (unhide LL).one); simp only [Act.put, List.setIfInBounds_toArray, List.set_cons_succ, List.set_cons_zero]) | ((with_reducible apply load25e); (case ho => rfl); (case hw => rfl); (case hx => rfl); (case hc => first | exact (unhide LL).one); simp only [Act.put, List.setIfInBounds_toArray, List.set_cons_succ, List.set_cons_zero]) | ((with_reducible apply load25c); (case ho => rfl); (case hw => rfl); (case hx => rfl); (case hc => first | exact (unhide LL).one); simp only [Act.put, List.setIfInBounds_toArray, List.set_cons_succ, List.set_cons_zero]) | (go_at_call 97; refine (said_any _ _).mono ?_; rintro _ _ ⟨rfl, rfl⟩) | (go_at_call 117; refine (oneOfThree_any _ _).mono ?_; rintro _ _ ⟨rfl, rfl⟩) | (go_at_call 90; refine (refTri_any _ _).mono ?_; rintro _ _ ⟨rfl, rfl⟩))
        refine (unhide HKG _).mono ?_
        rintro _ w10 ⟨rfl, hb⟩
        replace LL := hide ((unhide LL).on hb)
        clear hb
        cases kg
        · go_wp2_with (first | go_skip | ((with_reducible apply load27); (case ho => rfl); (case hw => rfl); (case hx => rfl); (case hc => first | exact (unhide LL).one); simp only [Act.put, List.setIfInBounds_toArray, List.set_cons_succ, List.set_cons_zero]) | ((with_reducible apply load24v); (case ho => rfl); (case hw => rfl); (case hx => rfl); (case hc => first | exact (unhide LL).one); simp only [Act.put, List.setIfInBounds_toArray, List.set_cons_succ, List.set_cons_zero]) | ((with_reducible apply load24g); (case ho => rfl); (case hw => rfl); (case hx => rfl); (case hc => first | exact (unhide LL).one); simp only [Act.put, List.setIfInBounds_toArray, List.set_cons_succ, List.set_cons_zero]) | ((with_reducible apply load24s); (case ho => rfl); (case hw => rfl); (case hx => rfl); (case hc => first | exact (unhide LL).one); simp only [Act.put, List.setIfInBounds_toArray, List.set_cons_succ, List.set_cons_zero]) | ((with_reducible apply load25w); (case ho => rfl); (case hw => rfl); (case hx => rfl); (case hc => first | exact (unhide LL).one); simp only [Act.put, List.setIfInBounds_toArray, List.set_cons_succ, List.set_cons_zero]) | ((with_reducible apply load25e); (case ho => rfl); (case hw => rfl); (case hx => rfl); (case hc => first | exact (unhide LL).one); simp only [Act.put, List.setIfInBounds_toArray, List.set_cons_succ, List.set_cons_zero]) | ((with_reducible apply load25c); (case ho => rfl); (case hw => rfl); (case hx => rfl); (case hc => first | exact (unhide LL).one); simp only [Act.put, List.setIfInBounds_toArray, List.set_cons_succ, List.set_cons_zero]) | (go_at_call 97; refine (said_any _ _).mono ?_; rintro _ _ ⟨rfl, rfl⟩) | (go_at_call 117; refine (oneOfThree_any _ _).mono ?_; rintro _ _ ⟨rfl, rfl⟩) | (go_at_call 90; refine (refTri_any _ _).mono ?_; rintro _ _ ⟨rfl, rfl⟩))
          refine (unhide HKV _).mono ?_
          rintro _ w11 ⟨rfl, hb⟩
          replace LL := hide ((unhide LL).on hb)
          clear hb
          cases kv
          · go_wp2_with (first | go_skip | ((with_reducible apply load27); (case ho => rfl); (case hw => rfl); (case hx => rfl); (case hc => first | exact (unhide LL).one); simp only [Act.put, List.setIfInBounds_toArray, List.set_cons_succ, List.set_cons_zero]) | ((with_reducible apply load24v); (case ho => rfl); (case hw => rfl); (case hx => rfl); (case hc => first | exact (unhide LL).one); simp only [Act.put, List.setIfInBounds_toArray, List.set_cons_succ, List.set_cons_zero]) | ((with_reducible apply load24g); (case ho => rfl); (case hw => rfl); (case hx => rfl); (case hc => first | exact (unhide LL).one); simp only [Act.put, List.setIfInBounds_toArray, List.set_cons_succ, List.set_cons_zero]) | ((with_reducible apply load24s); (case ho => rfl); (case hw => rfl); (case hx => rfl); (case hc => first | exact (unhide LL).one); simp only [Act.put, List.setIfInBounds_toArray, List.set_cons_succ, List.set_cons_zero]) | ((with_reducible apply load25w); (case ho => rfl); (case hw => rfl); (case hx => rfl); (case hc => first | exact (unhide LL).one); simp only [Act.put, List.setIfInBounds_toArray, List.set_cons_succ, List.set_cons_zero]) | ((with_reducible apply load25e); (case ho => rfl); (case hw => rfl); (case hx => rfl); (case hc => first | exact (unhide LL).one); simp only [Act.put, List.setIfInBounds_toArray, List.set_cons_succ, List.set_cons_zero]) | ((with_reducible apply load25c); (case ho => rfl); (case hw => rfl); (case hx => rfl); (case hc => first | exact (unhide LL).one); simp only [Act.put, List.setIfInBounds_toArray, List.set_cons_succ, List.set_cons_zero]) | (go_at_call 97; refine (said_any _ _).mono ?_; rintro _ _ ⟨rfl, rfl⟩) | (go_at_call 117; refine (oneOfThree_any _ _).mono ?_; rintro _ _ ⟨rfl, rfl⟩) | (go_at_call 90; refine (refTri_any _ _).mono ?_; rintro _ _ ⟨rfl, rfl⟩))
            go_ret
            exact ⟨rfl, (unhide LL).below⟩
          · go_wp2_with (first | go_skip | ((with_reducible apply load27); (case ho => rfl); (case hw => rfl); (case hx => rfl); (case hc => first | exact (unhide LL).one); simp only [Act.put, List.setIfInBounds_toArray, List.set_cons_succ, List.set_cons_zero]) | ((with_reducible apply load24v); (case ho => rfl); (case hw => rfl); (case hx => rfl); (case hc => first | exact (unhide LL).one); simp only [Act.put, List.setIfInBounds_toArray, List.set_cons_succ, List.set_cons_zero]) | ((with_reducible apply load24g); (case ho => rfl); (case hw => rfl); (case hx => rfl); (case hc => first | exact (unhide LL).one); simp only [Act.put, List.setIfInBounds_toArray, List.set_cons_succ, List.set_cons_zero]) | ((with_reducible apply load24s); (case ho => rfl); (case hw => rfl); (case hx => rfl); (case hc => first | exact (unhide LL).one); simp only [Act.put, List.setIfInBounds_toArray, List.set_cons_succ, List.set_cons_zero]) | ((with_reducible apply load25w); (case ho => rfl); (case hw => rfl); (case hx => rfl); (case hc => first | exact (unhide LL).one); simp only [Act.put, List.setIfInBounds_toArray, List.set_cons_succ, List.set_cons_zero]) | ((with_reducible apply load25e); (case ho => rfl); (case hw => rfl); (case hx => rfl); (case hc => first | exact (unhide LL).one); simp only [Act.put, List.setIfInBounds_toArray, List.set_cons_succ, List.set_cons_zero]) | ((with_reducible apply load25c); (case ho => rfl); (case hw => rfl); (case hx => rfl); (case hc => first | exact (unhide LL).one); simp only [Act.put, List.setIfInBounds_toArray, List.set_cons_succ, List.set_cons_zero]) | (go_at_call 97; refine (said_any _ _).mono ?_; rintro _ _ ⟨rfl, rfl⟩) | (go_at_call 117; refine (oneOfThree_any _ _).mono ?_; rintro _ _ ⟨rfl, rfl⟩) | (go_at_call 90; refine (refTri_any _ _).mono ?_; rintro _ _ ⟨rfl, rfl⟩))
            go_ret
            exact ⟨rfl, (unhide LL).below⟩
        · go_wp2_with (first | go_skip | ((with_reducible apply load27); (case ho => rfl); (case hw => rfl); (case hx => rfl); (case hc => first | exact (unhide LL).one); simp only [Act.put, List.setIfInBounds_toArray, List.set_cons_succ, List.set_cons_zero]) | ((with_reducible apply load24v); (case ho => rfl); (case hw => rfl); (case hx => rfl); (case hc => first | exact (unhide LL).one); simp only [Act.put, List.setIfInBounds_toArray, List.set_cons_succ, List.set_cons_zero]) | ((with_reducible apply load24g); (case ho => rfl); (case hw => rfl); (case hx => rfl); (case hc => first | exact (unhide LL).one); simp only [Act.put, List.setIfInBounds_toArray, List.set_cons_succ, List.set_cons_zero]) | ((with_reducible apply load24s); (case ho => rfl); (case hw => rfl); (case hx => rfl); (case hc => first | exact (unhide LL).one); simp only [Act.put, List.setIfInBounds_toArray, List.set_cons_succ, List.set_cons_zero]) | ((with_reducible apply load25w); (case ho => rfl); (case hw => rfl); (case hx => rfl); (case hc => first | exact (unhide LL).one); simp only [Act.put, List.setIfInBounds_toArray, List.set_cons_succ, List.set_cons_zero]) | ((with_reducible apply load25e); (case ho => rfl); (case hw => rfl); (case hx => rfl); (case hc => first | exact (unhide LL).one); simp only [Act.put, List.setIfInBounds_toArray, List.set_cons_succ, List.set_cons_zero]) | ((with_reducible apply load25c); (case ho => rfl); (case hw => rfl); (case hx => rfl); (case hc => first | exact (unhide LL).one); simp only [Act.put, List.setIfInBounds_toArray, List.set_cons_succ, List.set_cons_zero]) | (go_at_call 97; refine (said_any _ _).mono ?_; rintro _ _ ⟨rfl, rfl⟩) | (go_at_call 117; refine (oneOfThree_any _ _).mono ?_; rintro _ _ ⟨rfl, rfl⟩) | (go_at_call 90; refine (refTri_any _ _).mono ?_; rintro _ _ ⟨rfl, rfl⟩))
          refine (unhide HKS _).mono ?_
          rintro _ w12 ⟨rfl, hb⟩
          replace LL := hide ((unhide LL).on hb)
          clear hb
          cases ks
          · go_wp2_with (first | go_skip | ((with_reducible apply load27); (case ho => rfl); (case hw => rfl); (case hx => rfl); (case hc => first | exact (unhide LL).one); simp only [Act.put, List.setIfInBounds_toArray, List.set_cons_succ, List.set_cons_zero]) | ((with_reducible apply load24v); (case ho => rfl); (case hw => rfl); (case hx => rfl); (case hc => first | exact (unhide LL).one); simp only [Act.put, List.setIfInBounds_toArray, List.set_cons_succ, List.set_cons_zero]) | ((with_reducible apply load24g); (case ho => rfl); (case hw => rfl); (case hx => rfl); (case hc => first | exact (unhide LL).one); simp only [Act.put, List.setIfInBounds_toArray, List.set_cons_succ, List.set_cons_zero]) | ((with_reducible apply load24s); (case ho => rfl); (case hw => rfl); (case hx => rfl); (case hc => first | exact (unhide LL).one); simp only [Act.put, List.setIfInBounds_toArray, List.set_cons_succ, List.set_cons_zero]) | ((with_reducible apply load25w); (case ho => rfl); (case hw => rfl); (case hx => rfl); (case hc => first | exact (unhide LL).one); simp only [Act.put, List.setIfInBounds_toArray, List.set_cons_succ, List.set_cons_zero]) | ((with_reducible apply load25e); (case ho => rfl); (case hw => rfl); (case hx => rfl); (case hc => first | exact (unhide LL).one); simp only [Act.put, List.setIfInBounds_toArray, List.set_cons_succ, List.set_cons_zero]) | ((with_reducible apply load25c); (case ho => rfl); (case hw => rfl); (case hx => rfl); (case hc => first | exact (unhide LL).one); simp only [Act.put, List.setIfInBounds_toArray, List.set_cons_succ, List.set_cons_zero]) | (go_at_call 97; refine (said_any _ _).mono ?_; rintro _ _ ⟨rfl, rfl⟩) | (go_at_call 117; refine (oneOfThree_any _ _).mono ?_; rintro _ _ ⟨rfl, rfl⟩) | (go_at_call 90; refine (refTri_any _ _).mono ?_; rintro _ _ ⟨rfl, rfl⟩))
            refine (unhide HKV _).mono ?_
            rintro _ w13 ⟨rfl, hb⟩
            replace LL := hide ((unhide LL).on hb)
            clear hb
            cases kv
            · go_wp2_with (first | go_skip | ((with_reducible apply load27); (case ho => rfl); (case hw => rfl); (case hx => rfl); (case hc => first | exact (unhide LL).one); simp only [Act.put, List.setIfInBounds_toArray, List.set_cons_succ, List.set_cons_zero]) | ((with_reducible apply load24v); (case ho => rfl); (case hw => rfl); (case hx => rfl); (case hc => first | exact (unhide LL).one); simp only [Act.put, List.setIfInBounds_toArray, List.set_cons_succ, List.set_cons_zero]) | ((with_reducible apply load24g); (case ho => rfl); (case hw => rfl); (case hx => rfl); (case hc => first | exact (unhide LL).one); simp only [Act.put, List.setIfInBounds_toArray, List.set_cons_succ, List.set_cons_zero]) | ((with_reducible apply load24s); (case ho => rfl); (case hw => rfl); (case hx => rfl); (case hc => first | exact (unhide LL).one); simp only [Act.put, List.setIfInBounds_toArray, List.set_cons_succ, List.set_cons_zero]) | ((with_reducible apply load25w); (case ho => rfl); (case hw => rfl); (case hx => rfl); (case hc => first | exact (unhide LL).one); simp only [Act.put, List.setIfInBounds_toArray, List.set_cons_succ, List.set_cons_zero]) | ((with_reducible apply load25e); (case ho => rfl); (case hw => rfl); (case hx => rfl); (case hc => first | exact (unhide LL).one); simp only [Act.put, List.setIfInBounds_toArray, List.set_cons_succ, List.set_cons_zero]) | ((with_reducible apply load25c); (case ho => rfl); (case hw => rfl); (case hx => rfl); (case hc => first | exact (unhide LL).one); simp only [Act.put, List.setIfInBounds_toArray, List.set_cons_succ, List.set_cons_zero]) | (go_at_call 97; refine (said_any _ _).mono ?_; rintro _ _ ⟨rfl, rfl⟩) | (go_at_call 117; refine (oneOfThree_any _ _).mono ?_; rintro _ _ ⟨rfl, rfl⟩) | (go_at_call 90; refine (refTri_any _ _).mono ?_; rintro _ _ ⟨rfl, rfl⟩))
              go_ret
              exact ⟨rfl, (unhide LL).below⟩
            · go_wp2_with (first | go_skip | ((with_reducible apply load27); (case ho => rfl); (case hw => rfl); (case hx => rfl); (case hc => first | exact (unhide LL).one); simp only [Act.put, List.setIfInBounds_toArray, List.set_cons_succ, List.set_cons_zero]) | ((with_reducible apply load24v); (case ho => rfl); (case hw => rfl); (case hx => rfl); (case hc => first | exact (unhide LL).one); simp only [Act.put, List.setIfInBounds_toArray, List.set_cons_succ, List.set_cons_zero]) | ((with_reducible apply load24g); (case ho => rfl); (case hw => rfl); (case hx => rfl); (case hc => first | exact (unhide LL).one); simp only [Act.put, List.setIfInBounds_toArray, List.set_cons_succ, List.set_cons_zero]) | ((with_reducible apply load24s); (case ho => rfl); (case hw => rfl); (case hx => rfl); (case hc => first | exact (unhide LL).one); simp only [Act.put, List.setIfInBounds_toArray, List.set_cons_succ, List.set_cons_zero]) | ((with_reducible apply load25w); (case ho => rfl); (case hw => rfl); (case hx => rfl); (case hc => first | exact (unhide LL).one); simp only [Act.put, List.setIfInBounds_toArray, List.set_cons_succ, List.set_cons_zero]) | ((with_reducible apply load25e); (case ho => rfl); (case hw => rfl); (case hx => rfl); (case hc => first | exact (unhide LL).one); simp only [Act.put, List.setIfInBounds_toArray, List.set_cons_succ, List.set_cons_zero]) | ((with_reducible apply load25c); (case ho => rfl); (case hw => rfl); (case hx => rfl); (case hc => first | exact (unhide LL).one); simp only [Act.put, List.setIfInBounds_toArray, List.set_cons_succ, List.set_cons_zero]) | (go_at_call 97; refine (said_any _ _).mono ?_; rintro _ _ ⟨rfl, rfl⟩) | (go_at_call 117; refine (oneOfThree_any _ _).mono ?_; rintro _ _ ⟨rfl, rfl⟩) | (go_at_call 90; refine (refTri_any _ _).mono ?_; rintro _ _ ⟨rfl, rfl⟩))
              go_ret
              exact ⟨rfl, (unhide LL).below⟩
          · go_wp2_with (first | go_skip | ((with_reducible apply load27); (case ho => rfl); (case hw => rfl); (case hx => rfl); (case hc => first | exact (unhide LL).one); simp only [Act.put, List.setIfInBounds_toArray, List.set_cons_succ, List.set_cons_zero]) | ((with_reducible apply load24v); (case ho => rfl); (case hw => rfl); (case hx => rfl); (case hc => first | exact (unhide LL).one); simp only [Act.put, List.setIfInBounds_toArray, List.set_cons_succ, List.set_cons_zero]) | ((with_reducible apply load24g); (case ho => rfl); (case hw => rfl); (case hx => rfl); (case hc => first | exact (unhide LL).one); simp only [Act.put, List.setIfInBounds_toArray, List.set_cons_succ, List.set_cons_zero]) | ((with_reducible apply load24s); (case ho => rfl); (case hw => rfl); (case hx => rfl); (case hc => first | exact (unhide LL).one); simp only [Act.put, List.setIfInBounds_toArray, List.set_cons_succ, List.set_cons_zero]) | ((with_reducible apply load25w); (case ho => rfl); (case hw => rfl); (case hx => rfl); (case hc => first | exact (unhide LL).one); simp only [Act.put, List.setIfInBounds_toArray, List.set_cons_succ, List.set_cons_zero]) | ((with_reducible apply load25e); (case ho => rfl); (case hw => rfl); (case hx => rfl); (case hc => first | exact (unhide LL).one); simp only [Act.put, List.setIfInBounds_toArray, List.set_cons_succ, List.set_cons_zero]) | ((with_reducible apply load25c); (case ho => rfl); (case hw => rfl); (case hx => rfl); (case hc => first | exact (unhide LL).one); simp only [Act.put, List.setIfInBounds_toArray, List.set_cons_succ, List.set_cons_zero]) | (go_at_call 97; refine (said_any _ _).mono ?_; rintro _ _ ⟨rfl, rfl⟩) | (go_at_call 117; refine (oneOfThree_any _ _).mono ?_; rintro _ _ ⟨rfl, rfl⟩) | (go_at_call 90; refine (refTri_any _ _).mono ?_; rintro _ _ ⟨rfl, rfl⟩))
            go_ret
            exact ⟨rfl, (unhide LL).below⟩
set_option maxHeartbeats 2000000 in
set_option maxRecDepth 100000 in
theorem refZero (d : DD) (hd : FD d) (w : World) : Calls Tryz.prog 61 #[d.agg] w fun e w' => e = .returned (.bool (rzeroV d)) ∧ Below w.heap.size w w' := by
  have HNV := hide (refNone_any d.v hd.1)
  have HNG := hide (refNone_any d.g hd.2.1)
  have HNS := hide (refNone_any d.s hd.2.2)
  clear hd
  have LL := hide (Lie.new1 w (.D d))
  unfold rzeroV
  generalize thV d.v = tv at *
  generalize thV d.g = tg at *
  generalize thV d.s = ts at *
  have ee : (d.e == 0) = !(d.e != 0) := (Bool.not_not _).symm
  have ec : (d.c == 0) = !(d.c != 0) := (Bool.not_not _).symm
  have ew : (d.w == 0) = !(d.w != 0) := (Bool.not_not _).symm
  rw [ee, ec, ew]
  generalize hqe : (d.e != 0) = qe at *
  generalize hqc : (d.c != 0) = qc at *
  generalize hqa : (d.w != 0) = qa at *
  have hq0 : d.agg = .agg #[.int .i64 d.v.k, .bool d.v.b, .float .f64 d.v.x, .string d.v.s, .int .i64 d.v.i, .int .i64 d.g.k, .bool d.g.b, .float .f64 d.g.x, .string d.g.s, .int .i64 d.g.i, .int .i64 d.s.k, .bool d.s.b, .float .f64 d.s.x, .string d.s.s, .int .i64 d.s.i, .int .i64 d.w, .int .i64 d.e, .int .i64 d.c] := rfl
  rw [hq0]
  clear hq0
  go_enter Tryz.func61, Tryz.ntmps61
  go_wp2_with (first | go_skip | ((with_reducible apply load27); (case ho => rfl); (case hw => rfl); (case hx => rfl); (case hc => first | exact (unhide LL).one); simp only [Act.put, List.setIfInBounds_toArray, List.set_cons_succ, List.set_cons_zero]) | ((with_reducible apply load24v); (case ho => rfl); (case hw => rfl); (case hx => rfl); (case hc => first | exact (unhide LL).one); simp only [Act.put, List.setIfInBounds_toArray, List.set_cons_succ, List.set_cons_zero]) | ((with_reducible apply load24g); (case ho => rfl); (case hw => rfl); (case hx => rfl); (case hc => first | exact (unhide LL).one); simp only [Act.put, List.setIfInBounds_toArray, List.set_cons_succ, List.set_cons_zero]) | ((with_reducible apply load24s); (case ho => rfl); (case hw => rfl); (case hx => rfl); (case hc => first | exact (unhide LL).one); simp only [Act.put, List.setIfInBounds_toArray, List.set_cons_succ, List.set_cons_zero]) | ((with_reducible apply load25w); (case ho => rfl); (case hw => rfl); (case hx => rfl); (case hc => first | exact (unhide LL).one); simp only [Act.put, List.setIfInBounds_toArray, List.set_cons_succ, List.set_cons_zero]) | ((with_reducible apply load25e); (case ho => rfl); (case hw => rfl); (case hx => rfl); (case hc => first | exact (unhide LL).one); simp only [Act.put, List.setIfInBounds_toArray, List.set_cons_succ, List.set_cons_zero]) | ((with_reducible apply load25c); (case ho => rfl); (case hw => rfl); (case hx => rfl); (case hc => first | exact (unhide LL).one); simp only [Act.put, List.setIfInBounds_toArray, List.set_cons_succ, List.set_cons_zero]) | (go_at_call 97; refine (said_any _ _).mono ?_; rintro _ _ ⟨rfl, rfl⟩) | (go_at_call 117; refine (oneOfThree_any _ _).mono ?_; rintro _ _ ⟨rfl, rfl⟩) | (go_at_call 90; refine (refTri_any _ _).mono ?_; rintro _ _ ⟨rfl, rfl⟩))
  refine (unhide HNV _).mono ?_
  rintro _ w14 ⟨rfl, hb⟩
  replace LL := hide ((unhide LL).on hb)
  clear hb
  cases tv
  · go_wp2_with (first | go_skip | ((with_reducible apply load27); (case ho => rfl); (case hw => rfl); (case hx => rfl); (case hc => first | exact (unhide LL).one); simp only [Act.put, List.setIfInBounds_toArray, List.set_cons_succ, List.set_cons_zero]) | ((with_reducible apply load24v); (case ho => rfl); (case hw => rfl); (case hx => rfl); (case hc => first | exact (unhide LL).one); simp only [Act.put, List.setIfInBounds_toArray, List.set_cons_succ, List.set_cons_zero]) | ((with_reducible apply load24g); (case ho => rfl); (case hw => rfl); (case hx => rfl); (case hc => first | exact (unhide LL).one); simp only [Act.put, List.setIfInBounds_toArray, List.set_cons_succ, List.set_cons_zero]) | ((with_reducible apply load24s); (case ho => rfl); (case hw => rfl); (case hx => rfl); (case hc => first | exact (unhide LL).one); simp only [Act.put, List.setIfInBounds_toArray, List.set_cons_succ, List.set_cons_zero]) | ((with_reducible apply load25w); (case ho => rfl); (case hw => rfl); (case hx => rfl); (case hc => first | exact (unhide LL).one); simp only [Act.put, List.setIfInBounds_toArray, List.set_cons_succ, List.set_cons_zero]) | ((with_reducible apply load25e); (case ho => rfl); (case hw => rfl); (case hx => rfl); (case hc => first | exact (unhide LL).one); simp only [Act.put, List.setIfInBounds_toArray, List.set_cons_succ, List.set_cons_zero]) | ((with_reducible apply load25c); (case ho => rfl); (case hw => rfl); (case hx => rfl); (case hc => first | exact (unhide LL).one); simp only [Act.put, List.setIfInBounds_toArray, List.set_cons_succ, List.set_cons_zero]) | (go_at_call 97; refine (said_any _ _).mono ?_; rintro _ _ ⟨rfl, rfl⟩) | (go_at_call 117; refine (oneOfThree_any _ _).mono ?_; rintro _ _ ⟨rfl, rfl⟩) | (go_at_call 90; refine (refTri_any _ _).mono ?_; rintro _ _ ⟨rfl, rfl⟩))
    refine (unhide HNG _).mono ?_
    rintro _ w15 ⟨rfl, hb⟩
    replace LL := hide ((unhide LL).on hb)
    clear hb
    cases tg
    · go_wp2_with (first | go_skip | ((with_reducible apply load27); (case ho => rfl); (case hw => rfl); (case hx => rfl); (case hc => first | exact (unhide LL).one); simp only [Act.put, List.setIfInBounds_toArray, List.set_cons_succ, List.set_cons_zero]) | ((with_reducible apply load24v); (case ho => rfl); (case hw => rfl); (case hx => rfl); (case hc => first | exact (unhide LL).one); simp only [Act.put, List.setIfInBounds_toArray, List.set_cons_succ, List.set_cons_zero]) | ((with_reducible apply load24g); (case ho => rfl); (case hw => rfl); (case hx => rfl); (case hc => first | exact (unhide LL).one); simp only [Act.put, List.setIfInBounds_toArray, List.set_cons_succ, List.set_cons_zero]) | ((with_reducible apply load24s); (case ho => rfl); (case hw => rfl); (case hx => rfl); (case hc => first | exact (unhide LL).one); simp only [Act.put, List.setIfInBounds_toArray, List.set_cons_succ, List.set_cons_zero]) | ((with_reducible apply load25w); (case ho => rfl); (case hw => rfl); (case hx => rfl); (case hc => first | exact (unhide LL).one); simp only [Act.put, List.setIfInBounds_toArray, List.set_cons_succ, List.set_cons_zero]) | ((with_reducible apply load25e); (case ho => rfl); (case hw => rfl); (case hx => rfl); (case hc => first | exact (unhide LL).one); simp only [Act.put, List.setIfInBounds_toArray, List.set_cons_succ, List.set_cons_zero]) | ((with_reducible apply load25c); (case ho => rfl); (case hw => rfl); (case hx => rfl); (case hc => first | exact (unhide LL).one); simp only [Act.put, List.setIfInBounds_toArray, List.set_cons_succ, List.set_cons_zero]) | (go_at_call 97; refine (said_any _ _).mono ?_; rintro _ _ ⟨rfl, rfl⟩) | (go_at_call 117; refine (oneOfThree_any _ _).mono ?_; rintro _ _ ⟨rfl, rfl⟩) | (go_at_call 90; refine (refTri_any _ _).mono ?_; rintro _ _ ⟨rfl, rfl⟩))
      refine (unhide HNS _).mono ?_
      rintro _ w16 ⟨rfl, hb⟩
      replace LL := hide ((unhide LL).on hb)
      clear hb
      cases ts
      · cases qa
        · cases qe
          · go_wp2_with (first | go_skip | ((with_reducible apply load27); (case ho => rfl); (case hw => rfl); (case hx => rfl); (case hc => first | exact (unhide LL).one); simp only [Act.put, List.setIfInBounds_toArray, List.set_cons_succ, List.set_cons_zero]) | ((with_reducible apply load24v); (case ho => rfl); (case hw => rfl); (case hx => rfl); (case hc => first | exact (unhide LL).one); simp only [Act.put, List.setIfInBounds_toArray, List.set_cons_succ, List.set_cons_zero]) | ((with_reducible apply load24g); (case ho => rfl); (case hw => rfl); (case hx => rfl); (case hc => first | exact (unhide LL).one); simp only [Act.put, List.setIfInBounds_toArray, List.set_cons_succ, List.set_cons_zero]) | ((with_reducible apply load24s); (case ho => rfl); (case hw => rfl); (case hx => rfl); (case hc => first | exact (unhide LL).one); simp only [Act.put, List.setIfInBounds_toArray, List.set_cons_succ, List.set_cons_zero]) | ((with_reducible apply load25w); (case ho => rfl); (case hw => rfl); (case hx => rfl); (case hc => first | exact (unhide LL).one); simp only [Act.put, List.setIfInBounds_toArray, List.set_cons_succ, List.set_cons_zero]) | ((with_reducible apply load25e); (case ho => rfl); (case hw => rfl); (case hx => rfl); (case hc => first | exact (unhide LL).one); simp only [Act.put, List.setIfInBounds_toArray, List.set_cons_succ, List.set_cons_zero]) | ((with_reducible apply load25c); (case ho => rfl); (case hw => rfl); (case hx => rfl); (case hc => first | exact (unhide LL).one); simp only [Act.put, List.setIfInBounds_toArray, List.set_cons_succ, List.set_cons_zero]) | (go_at_call 97; refine (said_any _ _).mono ?_; rintro _ _ ⟨rfl, rfl⟩) | (go_at_call 117; refine (oneOfThree_any _ _).mono ?_; rintro _ _ ⟨rfl, rfl⟩) | (go_at_call 90; refine (refTri_any _ _).mono ?_; rintro _ _ ⟨rfl, rfl⟩))
            go_ret
            exact ⟨rfl, (unhide LL).below⟩
          · go_wp2_with (first | go_skip | ((with_reducible apply load27); (case ho => rfl); (case hw => rfl); (case hx => rfl); (case hc => first | exact (unhide LL).one); simp only [Act.put, List.setIfInBounds_toArray, List.set_cons_succ, List.set_cons_zero]) | ((with_reducible apply load24v); (case ho => rfl); (case hw => rfl); (case hx => rfl); (case hc => first | exact (unhide LL).one); simp only [Act.put, List.setIfInBounds_toArray, List.set_cons_succ, List.set_cons_zero]) | ((with_reducible apply load24g); (case ho => rfl); (case hw => rfl); (case hx => rfl); (case hc => first | exact (unhide LL).one); simp only [Act.put, List.setIfInBounds_toArray, List.set_cons_succ, List.set_cons_zero]) | ((with_reducible apply load24s); (case ho => rfl); (case hw => rfl); (case hx => rfl); (case hc => first | exact (unhide LL).one); simp only [Act.put, List.setIfInBounds_toArray, List.set_cons_succ, List.set_cons_zero]) | ((with_reducible apply load25w); (case ho => rfl); (case hw => rfl); (case hx => rfl); (case hc => first | exact (unhide LL).one); simp only [Act.put, List.setIfInBounds_toArray, List.set_cons_succ, List.set_cons_zero]) | ((with_reducible apply load25e); (case ho => rfl); (case hw => rfl); (case hx => rfl); (case hc => first | exact (unhide LL).one); simp only [Act.put, List.setIfInBounds_toArray, List.set_cons_succ, List.set_cons_zero]) | ((with_reducible apply load25c); (case ho => rfl); (case hw => rfl); (case hx => rfl); (case hc => first | exact (unhide LL).one); simp only [Act.put, List.setIfInBounds_toArray, List.set_cons_succ, List.set_cons_zero]) | (go_at_call 97; refine (said_any _ _).mono ?_; rintro _ _ ⟨rfl, rfl⟩) | (go_at_call 117; refine (oneOfThree_any _ _).mono ?_; rintro _ _ ⟨rfl, rfl⟩) | (go_at_call 90; refine (refTri_any _ _).mono ?_; rintro _ _ ⟨rfl, rfl⟩))
            go_ret
            exact ⟨rfl, (unhide LL).below⟩
        · go_wp2_with (first | go_skip | ((with_reducible apply load27); (case ho => rfl); (case hw => rfl); (case hx => rfl); (case hc => first | exact (unhide LL).one); simp only [Act.put, List.setIfInBounds_toArray, List.set_cons_succ, List.set_cons_zero]) | ((with_reducible apply load24v); (case ho => rfl); (case hw => rfl); (case hx => rfl); (case hc => first | exact (unhide LL).one); simp only [Act.put, List.setIfInBounds_toArray, List.set_cons_succ, List.set_cons_zero]) | ((with_reducible apply load24g); (case ho => rfl); (case hw => rfl); (case hx => rfl); (case hc => first | exact (unhide LL).one); simp only [Act.put, List.setIfInBounds_toArray, List.set_cons_succ, List.set_cons_zero]) | ((with_reducible apply load24s); (case ho => rfl); (case hw => rfl); (case hx => rfl); (case hc => first | exact (unhide LL).one); simp only [Act.put, List.setIfInBounds_toArray, List.set_cons_succ, List.set_cons_zero]) | ((with_reducible apply load25w); (case ho => rfl); (case hw => rfl); (case hx => rfl); (case hc => first | exact (unhide LL).one); simp only [Act.put, List.setIfInBounds_toArray, List.set_cons_succ, List.set_cons_zero]) | ((with_reducible apply load25e); (case ho => rfl); (case hw => rfl); (case hx => rfl); (case hc => first | exact (unhide LL).one); simp only [Act.put, List.setIfInBounds_toArray, List.set_cons_succ, List.set_cons_zero]) | ((with_reducible apply load25c); (case ho => rfl); (case hw => rfl); (case hx => rfl); (case hc => first | exact (unhide LL).one); simp only [Act.put, List.setIfInBounds_toArray, List.set_cons_succ, List.set_cons_zero]) | (go_at_call 97; refine (said_any _ _).mono ?_; rintro _ _ ⟨rfl, rfl⟩) | (go_at_call 117; refine (oneOfThree_any _ _).mono ?_; rintro _ _ ⟨rfl, rfl⟩) | (go_at_call 90; refine (refTri_any _ _).mono ?_; rintro _ _ ⟨rfl, rfl⟩))
          go_ret
          exact ⟨rfl, (unhide LL).below⟩
      · go_wp2_with (first | go_skip | ((with_reducible apply load27); (case ho => rfl); (case hw => rfl); (case hx => rfl); (case hc => first | exact (unhide LL).one); simp only [Act.put, List.setIfInBounds_toArray, List.set_cons_succ, List.set_cons_zero]) | ((with_reducible apply load24v); (case ho => rfl); (case hw => rfl); (case hx => rfl); (case hc => first | exact (unhide LL).one); simp only [Act.put, List.setIfInBounds_toArray, List.set_cons_succ, List.set_cons_zero]) | ((with_reducible apply load24g); (case ho => rfl); (case hw => rfl); (case hx => rfl); (case hc => first | exact (unhide LL).one); simp only [Act.put, List.setIfInBounds_toArray, List.set_cons_succ, List.set_cons_zero]) | ((with_reducible apply load24s); (case ho => rfl); (case hw => rfl); (case hx => rfl); (case hc => first | exact (unhide LL).one); simp only [Act.put, List.setIfInBounds_toArray, List.set_cons_succ, List.set_cons_zero]) | ((with_reducible apply load25w); (case ho => rfl); (case hw => rfl); (case hx => rfl); (case hc => first | exact (unhide LL).one); simp only [Act.put, List.setIfInBounds_toArray, List.set_cons_succ, List.set_cons_zero]) | ((with_reducible apply load25e); (case ho => rfl); (case hw => rfl); (case hx => rfl); (case hc => first | exact (unhide LL).one); simp only [Act.put, List.setIfInBounds_toArray, List.set_cons_succ, List.set_cons_zero]) | ((with_reducible apply load25c); (case ho => rfl); (case hw => rfl); (case hx => rfl); (case hc => first | exact (unhide LL).one); simp only [Act.put, List.setIfInBounds_toArray, List.set_cons_succ, List.set_cons_zero]) | (go_at_call 97; refine (said_any _ _).mono ?_; rintro _ _ ⟨rfl, rfl⟩) | (go_at_call 117; refine (oneOfThree_any _ _).mono ?_; rintro _ _ ⟨rfl, rfl⟩) | (go_at_call 90; refine (refTri_any _ _).mono ?_; rintro _ _ ⟨rfl, rfl⟩))
        go_ret
        exact ⟨rfl, (unhide LL).below⟩
    · go_wp2_with (first | go_skip | ((with_reducible apply load27); (case ho => rfl); (case hw => rfl); (case hx => rfl); (case hc => first | exact (unhide LL).one); simp only [Act.put, List.setIfInBounds_toArray, List.set_cons_succ, List.set_cons_zero]) | ((with_reducible apply load24v); (case ho => rfl); (case hw => rfl); (case hx => rfl); (case hc => first | exact (unhide LL).one); simp only [Act.put, List.setIfInBounds_toArray, List.set_cons_succ, List.set_cons_zero]) | ((with_reducible apply load24g); (case ho => rfl); (case hw => rfl); (case hx => rfl); (case hc => first | exact (unhide LL).one); simp only [Act.put, List.setIfInBounds_toArray, List.set_cons_succ, List.set_cons_zero]) | ((with_reducible apply load24s); (case ho => rfl); (case hw => rfl); (case hx => rfl); (case hc => first | exact (unhide LL).one); simp only [Act.put, List.setIfInBounds_toArray, List.set_cons_succ, List.set_cons_zero]) | ((with_reducible apply load25w); (case ho => rfl); (case hw => rfl); (case hx => rfl); (case hc => first | exact (unhide LL).one); simp only [Act.put, List.setIfInBounds_toArray, List.set_cons_succ, List.set_cons_zero]) | ((with_reducible apply load25e); (case ho => rfl); (case hw => rfl); (case hx => rfl); (case hc => first | exact (unhide LL).one); simp only [Act.put, List.setIfInBounds_toArray, List.set_cons_succ, List.set_cons_zero]) | ((with_reducible apply load25c); (case ho => rfl); (case hw => rfl); (case hx => rfl); (case hc => first | exact (unhide LL).one); simp only [Act.put, List.setIfInBounds_toArray, List.set_cons_succ, List.set_cons_zero]) | (go_at_call 97; refine (said_any _ _).mono ?_; rintro _ _ ⟨rfl, rfl⟩) | (go_at_call 117; refine (oneOfThree_any _ _).mono ?_; rintro _ _ ⟨rfl, rfl⟩) | (go_at_call 90; refine (refTri_any _ _).mono ?_; rintro _ _ ⟨rfl, rfl⟩))
      go_ret
      exact ⟨rfl, (unhide LL).below⟩
  · go_wp2_with (first | go_skip | ((with_reducible apply load27); (case ho => rfl); (case hw => rfl); (case hx => rfl); (case hc => first | exact (unhide LL).one); simp only [Act.put, List.setIfInBounds_toArray, List.set_cons_succ, List.set_cons_zero]) | ((with_reducible apply load24v); (case ho => rfl); (case hw => rfl); (case hx => rfl); (case hc => first | exact (unhide LL).one); simp only [Act.put, List.setIfInBounds_toArray, List.set_cons_succ, List.set_cons_zero]) | ((with_reducible apply load24g); (case ho => rfl); (case hw => rfl); (case hx => rfl); (case hc => first | exact (unhide LL).one); simp only [Act.put, List.setIfInBounds_toArray, List.set_cons_succ, List.set_cons_zero]) | ((with_reducible apply load24s); (case ho => rfl); (case hw => rfl); (case hx => rfl); (case hc => first | exact (unhide LL).one); simp only [Act.put, List.setIfInBounds_toArray, List.set_cons_succ, List.set_cons_zero]) | ((with_reducible apply load25w); (case ho => rfl); (case hw => rfl); (case hx => rfl); (case hc => first | exact (unhide LL).one); simp only [Act.put, List.setIfInBounds_toArray, List.set_cons_succ, List.set_cons_zero]) | ((with_reducible apply load25e); (case ho => rfl); (case hw => rfl); (case hx => rfl); (case hc => first | exact (unhide LL).one); simp only [Act.put, List.setIfInBounds_toArray, List.set_cons_succ, List.set_cons_zero]) | ((with_reducible apply load25c); (case ho => rfl); (case hw => rfl); (case hx => rfl); (case hc => first | exact (unhide LL).one); simp only [Act.put, List.setIfInBounds_toArray, List.set_cons_succ, List.set_cons_zero]) | (go_at_call 97; refine (said_any _ _).mono ?_; rintro _ _ ⟨rfl, rfl⟩) | (go_at_call 117; refine (oneOfThree_any _ _).mono ?_; rintro _ _ ⟨rfl, rfl⟩) | (go_at_call 90; refine (refTri_any _ _).mono ?_; rintro _ _ ⟨rfl, rfl⟩))
    go_ret
    exact ⟨rfl, (unhide LL).below⟩
end Go.Proofs.YtcflglloopgieaaGreatDoor

/-! Dj -/
namespace Go.Proofs.YtcflglloopgieaaGreatDoor
open Go Go.Proofs Go.RowKit FM
set_option linter.unusedSimpArgs false
set_option linter.unusedVariables false
def orT (t a : Int) : Int := if t != 0 then t else a
/-- What filled makes of a descriptor. -/
def fillV (d : DD) : DD := if shapeV d == 3 then ⟨d.v, orV d.g undV, orV d.s undV, d.w, orT d.e 1, orT d.c 1⟩ else ⟨orV d.v undV, d.g, d.s, orT d.w 1, orT d.e 1, orT d.c 1⟩
def frzV (d : DD) : DD := if wholeV d then ⟨zeroV, zeroV, zeroV, if shapeV d == 2 then 1 else 0, 0, 1⟩ else zeroD
theorem Lie.putv {w W : World} {d : DD} {l : List PB} (h : Lie w W (.D d :: l)) (u : VV) : Lie w (W.setCells w.heap.size 0 u.cs) (.D { d with v := u } :: l) :=
  Lie.put (i := 0) (o := 0) (vs := u.cs) (p := .D { d with v := u }) (q := .D d) h rfl (fun hq => Lies.setv hq)
theorem Lie.putg {w W : World} {d : DD} {l : List PB} (h : Lie w W (.D d :: l)) (u : VV) : Lie w (W.setCells w.heap.size 5 u.cs) (.D { d with g := u } :: l) :=
  Lie.put (i := 0) (o := 5) (vs := u.cs) (p := .D { d with g := u }) (q := .D d) h rfl (fun hq => Lies.setg hq)
theorem Lie.puts {w W : World} {d : DD} {l : List PB} (h : Lie w W (.D d :: l)) (u : VV) : Lie w (W.setCells w.heap.size 10 u.cs) (.D { d with s := u } :: l) :=
  Lie.put (i := 0) (o := 10) (vs := u.cs) (p := .D { d with s := u }) (q := .D d) h rfl (fun hq => Lies.sets hq)
attribute [local go_sem] run_store_float
end Go.Proofs.YtcflglloopgieaaGreatDoor

/-! Dk -/
namespace Go.Proofs.YtcflglloopgieaaGreatDoor
open Go Go.Proofs Go.RowKit FM
set_option linter.unusedSimpArgs false
set_option linter.unusedVariables false
theorem good_str {v : VV} (h : v.good = true) : v.s.size ≤ 1048576 := by
  have e0 : ByteArray.empty.size ≤ 1048576 := by decide
  obtain ⟨k, b, x, s, i⟩ := v
  rcases good_cases h with ⟨_, _, _, rfl, _⟩ | ⟨_, _, _, rfl, _⟩ | ⟨_, _, rfl, _⟩ | ⟨_, _, rfl, _⟩ | ⟨_, _, _, _, hf⟩ | ⟨_, _, _, rfl, _⟩ | ⟨_, _, _, rfl, _⟩
  · exact e0
  · exact e0
  · exact e0
  · exact e0
  · unfold fitV at hf
    simp at hf
    exact hf.1
  · exact e0
  · exact e0
theorem none_str {v : VV} (h : thV v = false) : v.s.size ≤ 1048576 := by
  unfold thV at h
  simp only [Bool.not_eq_false', Bool.and_eq_true] at h
  rw [empty_of h.1.2]
  decide
theorem sound_str {d : DD} (h : soundV d = true) : d.v.s.size ≤ 1048576 := by
  unfold soundV at h
  simp only [Bool.and_eq_true, Bool.or_eq_true, Bool.not_eq_true'] at h
  rcases h.1.1.1.1.1 with h | h
  · exact none_str h
  · exact good_str h
theorem kind_sound {d : DD} (h : ¬ kindV d = 0) : soundV d = true := by
  unfold kindV at h
  cases hs : soundV d
  · rw [hs] at h
    exact absurd rfl h
  · rfl
theorem or_str {v : VV} (h : v.s.size ≤ 1048576) : (orV v undV).s.size ≤ 1048576 := by
  unfold orV
  cases thV v
  · show undV.s.size ≤ 1048576
    decide
  · exact h
theorem fill_str {d : DD} (h : d.v.s.size ≤ 1048576) : (fillV d).v.s.size ≤ 1048576 := by
  unfold fillV
  cases shapeV d == 3
  · exact or_str h
  · exact h
def cmpV (d : DD) : DD := if kindV d == 0 then zeroD else fillV d
def rfillV (d : DD) : DD := if raccV d then ⟨d.v, rorV d.g, rorV d.s, d.w, orT d.e 1, orT d.c 1⟩ else ⟨rorV d.v, d.g, d.s, orT d.w 1, orT d.e 1, orT d.c 1⟩
def rfrzV (d : DD) : DD := if rwhoV d then ⟨zeroV, zeroV, zeroV, if rdatV d then 1 else 0, 0, 1⟩ else zeroD
def eqD (a b : DD) : Bool := eqB a.v b.v && eqB a.g b.g && eqB a.s b.s && a.w == b.w && a.e == b.e && a.c == b.c
end Go.Proofs.YtcflglloopgieaaGreatDoor

/-! Dp -/
namespace Go.Proofs.YtcflglloopgieaaGreatDoor
open Go Go.Proofs Go.RowKit FM
set_option linter.unusedSimpArgs false
set_option linter.unusedVariables false
/-- Blocks that are ours hold what they held, and what was there ahead is as it was. -/
structure Kp (w X : World) (l : List (Nat × PB)) : Prop where
  below : Below w.heap.size w X
  all : ∀ q ∈ l, w.heap.size ≤ q.1 ∧ q.1 < X.heap.size ∧ q.2.lies X q.1
  nd : (l.map (·.1)).Nodup
theorem Kp.of1 {w X : World} {p : PB} (h : Lie w X [p]) : Kp w X [(w.heap.size, p)] :=
  ⟨h.below, fun q hq => by
    obtain rfl : q = (w.heap.size, p) := by simpa using hq
    exact ⟨Nat.le_refl _, by have := h.size; simp at this; omega, h.holds.1⟩, by simp⟩
theorem Kp.of2 {w X : World} {p p2 : PB} (h : Lie w X [p, p2]) : Kp w X [(w.heap.size, p), (w.heap.size + 1, p2)] :=
  ⟨h.below, fun q hq => by
    have hs := h.size
    simp at hs hq
    rcases hq with rfl | rfl
    · exact ⟨Nat.le_refl _, by show w.heap.size < X.heap.size; omega, h.holds.1⟩
    · exact ⟨Nat.le_succ _, by show w.heap.size + 1 < X.heap.size; omega, h.holds.2.1⟩, by simp⟩
theorem Kp.on {w X X1 : World} {l : List (Nat × PB)} (h : Kp w X l) (hb : Below X.heap.size X X1) : Kp w X1 l :=
  ⟨h.below.trans (hb.mono h.below.size), fun q hq => ⟨(h.all q hq).1, Nat.lt_of_lt_of_le (h.all q hq).2.1 hb.size, PB.on (h.all q hq).2.2 (h.all q hq).2.1 hb⟩, h.nd⟩
theorem Kp.drew {w X : World} {l : List (Nat × PB)} (h : Kp w X l) : Kp w X.drew l := ⟨h.below.drew, fun q hq => ⟨(h.all q hq).1, (h.all q hq).2.1, PB.drew (h.all q hq).2.2⟩, h.nd⟩
theorem Kp.get {w X : World} {l : List (Nat × PB)} (h : Kp w X l) (i : Nat) {b : Nat} {p : PB} (hi : l[i]? = some (b, p)) : p.lies X b := (h.all _ (List.mem_of_getElem? hi)).2.2
theorem Kp.new {w X : World} {l : List (Nat × PB)} (h : Kp w X l) (p : PB) : Kp w (X.alloc p.obj) (l ++ [(X.heap.size, p)]) := by
  have hb : Below X.heap.size X (X.alloc p.obj) := (Below.refl _ _).alloc (Nat.le_refl _) _
  refine ⟨(h.on hb).below, fun q hq => ?_, ?_⟩
  · rcases List.mem_append.1 hq with hq | hq
    · exact (h.on hb).all q hq
    · obtain rfl : q = (X.heap.size, p) := by simpa using hq
      exact ⟨h.below.size, by simp, PB.new X _ rfl p⟩
  · rw [List.map_append, List.nodup_append]
    refine ⟨h.nd, by simp, ?_⟩
    intro a ha b hb
    obtain ⟨q, hq, rfl⟩ := List.mem_map.1 ha
    obtain rfl : b = X.heap.size := by simpa using hb
    exact Nat.ne_of_lt (h.all q hq).2.1
theorem Kp.put {w X : World} {l : List (Nat × PB)} (h : Kp w X l) (i : Nat) {b : Nat} {d u : DD} (hi : l[i]? = some (b, .D d)) : Kp w (X.setCells b 0 u.cs) (l.set i (b, .D u)) := by
  have hb := h.all _ (List.mem_of_getElem? hi)
  have hlt := (List.getElem?_eq_some_iff.1 hi).1
  refine ⟨below_setCells (W := X) hb.1 _ _ _ h.below, fun q hq => ?_, ?_⟩
  · rw [size_setCells]
    obtain ⟨j, hj, rfl⟩ := List.mem_iff_getElem.1 hq
    by_cases hij : i = j
    · subst hij
      rw [List.getElem_set_self]
      exact ⟨hb.1, hb.2.1, Lies.setD hb.2.2⟩
    · rw [List.getElem_set_ne hij]
      have hj' : j < l.length := by simpa using hj
      have ha := h.all _ (List.getElem_mem hj')
      refine ⟨ha.1, ha.2.1, PB.far ha.2.2 ?_⟩
      intro e
      have hn := List.pairwise_iff_getElem.1 h.nd
      have hie : l[i].1 = b := by
        have := (List.getElem?_eq_some_iff.1 hi).2
        rw [this]
      rcases Nat.lt_or_gt_of_ne hij with hlt2 | hlt2
      · exact hn i j (by simpa using hlt) (by simpa using hj') hlt2 (by simp [hie, e])
      · exact hn j i (by simpa using hj') (by simpa using hlt) hlt2 (by simp [hie, e])
  · rw [List.map_set]
    have : (l.map (·.1)).set i b = l.map (·.1) := by
      refine List.ext_getElem? fun j => ?_
      by_cases hij : i = j
      · subst hij
        have := (List.getElem?_eq_some_iff.1 hi).2
        simp [hlt, this]
      · rw [List.getElem?_set_ne hij]
    rw [this]
    exact h.nd

theorem kload27 {ops : Array Oper} {rest : List Oper} {o : Oper} {a : Act} {w w0 : World} {Q : Exit → Act → World → Prop} {l : List (Nat × PB)} {x : Operand} {b : Nat} {d : DD} (hw : Region.wanted o (yielded ops a.tmps) = true) (ho : o.op = .load 59 x)
    (hx : a.eval x = .pointer (some ⟨b, 0, none⟩)) (hL : Kp w0 w l) (hc : Lies w b d) (h : wpList Tryz.prog ops Q rest (a.put o.dst d.agg) w) : wpList Tryz.prog ops Q (o :: rest) a w := load27 hw ho hx hc h
theorem kstore27 {ops : Array Oper} {rest : List Oper} {o : Oper} {a : Act} {w w0 : World} {Q : Exit → Act → World → Prop} {l : List (Nat × PB)} {x y : Operand} (i : Nat) {b : Nat} {d u : DD} (hw : Region.wanted o (yielded ops a.tmps) = true) (ho : o.op = .store 59 x y) (hL : Kp w0 w l)
    (hx : a.eval x = .pointer (some ⟨b, 0, none⟩)) (hy : a.eval y = u.agg) (hi : l[i]? = some (b, .D d)) (h : ∀ X, Kp w0 X (l.set i (b, .D u)) → wpList Tryz.prog ops Q rest (a.put o.dst undef) X) : wpList Tryz.prog ops Q (o :: rest) a w := by
  refine BigFrame.wpList_want hw fun K hK => ?_
  exact wp_store_mid 59 x y ho _ 0 u.cs.toArray hx hy (Lies.there (hL.get i hi)) info59 (by simp [DD.cs, Value.oneCell']) (hK _ _ (h _ (hL.put i hi)))
theorem kalloc27 {ops : Array Oper} {rest : List Oper} {o : Oper} {a : Act} {w w0 : World} {Q : Exit → Act → World → Prop} {l : List (Nat × PB)} (hw : Region.wanted o (yielded ops a.tmps) = true) (ho : o.op = .alloc 59) (hL : Kp w0 w l)
    (h : ∀ X, Kp w0 X (l ++ [(w.heap.size, .D zeroD)]) → wpList Tryz.prog ops Q rest (a.put o.dst (.pointer (some ⟨w.heap.size, 0, none⟩))) X) : wpList Tryz.prog ops Q (o :: rest) a w := by
  refine BigFrame.wpList_want hw fun K hK => ?_
  have hP := hK _ _ (h _ (hL.new (.D zeroD)))
  unfold Oper.wp execOp
  simp only [ho]
  simp [go_sem, Tryz.zeroValue59]
  exact hP

/-! Regions that draw their order, under Kp. -/
section
variable {md : Region.Mode} {ops : Array Oper} {Q : Exit → Act → World → Prop} {w0 w : World} {l : List (Nat × PB)} {fuel : Nat} {listed : Array Bool} {a : Act} {o : Oper}
theorem hload27 (i j : Nat) (dst : Option Tmp) {x : Operand} {b : Nat} {d : DD} (hi : ops[i]? = some o) (hs : Region.noSelect ops = true) (hf : Region.free md ops listed i = true) (hr : (Region.ready md ops listed).contains i = true)
    (hQ : ∀ c a w, Q (.panic c) (a.put dst d.agg) w → Q (.panic c) a w) (hd : o.dst = dst) (hw : Region.wanted o (yielded ops a.tmps) = true) (ho : o.op = .load 59 x) (hx : a.eval x = .pointer (some ⟨b, 0, none⟩)) (hl : l[j]? = some (b, .D d))
    (hS : Kp w0 w l) (h : wpAnyH Tryz.prog md ops Q (fun X => Kp w0 X l) fuel (listed.setIfInBounds i true) (a.put dst d.agg) w) : wpAnyH Tryz.prog md ops Q (fun X => Kp w0 X l) (fuel + 1) listed a w := by
  subst hd
  obtain ⟨t, hu, hd⟩ := isrow27
  exact wpAnyH_take hi hs hf hr hQ (yieldsIf_load_mid hw 59 x ho b 0 hx d.cs t (fun X hX => Lies.range (hX.get j hl)) hu hd info59) hS h
theorem hpure (i : Nat) (dst : Option Tmp) (v : Value) (hi : ops[i]? = some o) (hs : Region.noSelect ops = true) (hf : Region.free md ops listed i = true) (hr : (Region.ready md ops listed).contains i = true)
    (hQ : ∀ c a w, Q (.panic c) (a.put dst v) w → Q (.panic c) a w) (hd : o.dst = dst) (hw : Region.wanted o (yielded ops a.tmps) = true) (hy : ∀ w, (execOp a.eval o).run Tryz.prog w = .ok (.value v) w)
    (hS : Kp w0 w l) (h : wpAnyH Tryz.prog md ops Q (fun X => Kp w0 X l) fuel (listed.setIfInBounds i true) (a.put dst v) w) : wpAnyH Tryz.prog md ops Q (fun X => Kp w0 X l) (fuel + 1) listed a w := by
  subst hd
  exact wpAnyH_take hi hs hf hr hQ (Or.inl ⟨hw, fun X _ => hy X⟩) hS h
theorem hskip (i : Nat) (dst : Option Tmp) (hi : ops[i]? = some o) (hs : Region.noSelect ops = true) (hf : Region.free md ops listed i = true) (hr : (Region.ready md ops listed).contains i = true)
    (hQ : ∀ c a w, Q (.panic c) (a.put dst undef) w → Q (.panic c) a w) (hd : o.dst = dst) (hw : Region.wanted o (yielded ops a.tmps) = false)
    (hS : Kp w0 w l) (h : wpAnyH Tryz.prog md ops Q (fun X => Kp w0 X l) fuel (listed.setIfInBounds i true) (a.put dst undef) w) : wpAnyH Tryz.prog md ops Q (fun X => Kp w0 X l) (fuel + 1) listed a w := by
  subst hd
  exact wpAnyH_take hi hs hf hr hQ (Or.inr ⟨hw, rfl⟩) hS h
theorem hcall (i : Nat) (dst : Option Tmp) {f : FuncId} {args : Array Value} {V : Value} (hi : ops[i]? = some o) (hr : Region.ready md ops listed = [i]) (hd : o.dst = dst) (hw : Region.wanted o (yielded ops a.tmps) = true)
    (he : (execOp a.eval o).run Tryz.prog w = .ok (.enter f args) w) (hC : Calls Tryz.prog f args w fun e w' => e = .returned V ∧ Below w.heap.size w w') (hS : Kp w0 w l)
    (h : ∀ X, Kp w0 X l → wpAnyH Tryz.prog md ops Q (fun X => Kp w0 X l) fuel (listed.setIfInBounds i true) (a.put dst V) X) : wpAnyH Tryz.prog md ops Q (fun X => Kp w0 X l) (fuel + 1) listed a w := by
  subst hd
  refine wpAnyH_ready hr (by simp) (AllReadyH.cons hi (fun K hK => ?_) AllReadyH.nil)
  rw [if_pos hw]
  unfold Oper.wp
  rw [he, Oper.upon_enter]
  refine hC.mono ?_
  rintro _ X ⟨rfl, hb⟩
  exact hK.out _ _ (hS.on hb) (fun hX => h X hX)
end
end Go.Proofs.YtcflglloopgieaaGreatDoor

/-! Dq -/
namespace Go.Proofs.YtcflglloopgieaaGreatDoor
open Go Go.Proofs Go.RowKit FM
set_option linter.unusedSimpArgs false
set_option linter.unusedVariables false
theorem th_of_good {v : VV} (h : v.good = true) : thV v = true ∧ (v.k != 0) = true := by
  have hk : (v.k != 0) = true := by
    obtain ⟨k, b, x, s, i⟩ := v
    rcases good_cases h with ⟨rfl, _⟩ | ⟨rfl, _⟩ | ⟨rfl, _⟩ | ⟨rfl, _⟩ | ⟨rfl, _⟩ | ⟨rfl, _⟩ | ⟨rfl, _⟩ <;> rfl
  refine ⟨?_, hk⟩
  unfold thV
  have : (v.k == 0) = false := by simpa using hk
  rw [this]
  rfl
theorem k_of_none {v : VV} (h : thV v = false) : (v.k != 0) = false := by
  unfold thV at h
  simp only [Bool.not_eq_false', Bool.and_eq_true] at h
  have := h.1.1.1.1
  simpa using this
theorem th_of_k {v : VV} (h : (v.k != 0) = true) : thV v = true := by
  cases ht : thV v
  · rw [k_of_none ht] at h
    exact absurd h (by decide)
  · rfl
/-- A value's field: well formed, or absent. -/
theorem fieldV (v : VV) (h : (!thV v || v.good) = true) : (v.k != 0) = thV v := by
  cases ht : thV v
  · exact k_of_none ht
  · rw [ht] at h
    exact (th_of_good (by simpa using h)).2
theorem fieldG (v : VV) : callV v = (!thV v || slotV v) ∧ (callV v = true → (v.k != 0) = thV v) := by
  unfold callV slotV
  by_cases h17 : (v.k == 1 || v.k == 7) = true
  · rw [if_pos h17, h17, Bool.and_true]
    have hk : (v.k != 0) = true := by
      simp at h17 ⊢
      omega
    rw [th_of_k hk]
    exact ⟨rfl, fun _ => hk⟩
  · rw [if_neg h17]
    have h17' : (v.k == 1 || v.k == 7) = false := by simpa using h17
    rw [h17', Bool.and_false, Bool.or_false]
    refine ⟨rfl, fun h => ?_⟩
    have ht : thV v = false := by simpa using h
    rw [ht]
    exact k_of_none ht
/-- What the reference holds for well formed. -/
theorem rgood_sound (d : DD) : rgoodV d = (soundV d && !((thV d.v || d.w != 0) && (thV d.g || thV d.s))) := by
  unfold rgoodV soundV
  obtain ⟨g1, g2⟩ := fieldG d.g
  obtain ⟨s1, s2⟩ := fieldG d.s
  have hv := fieldV d.v
  have eg : (thV d.g && !slotV d.g) = !callV d.g := by rw [g1]; cases thV d.g <;> cases slotV d.g <;> rfl
  have es : (thV d.s && !slotV d.s) = !callV d.s := by rw [s1]; cases thV d.s <;> cases slotV d.s <;> rfl
  have ev : (thV d.v && !d.v.good) = !(!thV d.v || d.v.good) := by cases thV d.v <;> cases d.v.good <;> rfl
  rw [eg, es, ev]
  generalize (!thV d.v || d.v.good) = hh at *
  generalize callV d.g = cg at *
  generalize callV d.s = cs at *
  clear g1 s1 eg es ev
  cases hh
  · simp
  · cases cg
    · simp
    · cases cs
      · simp
      · rw [hv rfl, g2 rfl, s2 rfl]
        generalize triV d.w = ta
        generalize triV d.e = te
        generalize triV d.c = tc
        cases ta <;> cases te <;> cases tc <;> simp
theorem sound_keys {d : DD} (h : soundV d = true) : (d.v.k != 0) = thV d.v ∧ (d.g.k != 0) = thV d.g ∧ (d.s.k != 0) = thV d.s := by
  unfold soundV at h
  simp only [Bool.and_eq_true] at h
  exact ⟨fieldV d.v h.1.1.1.1.1, (fieldG d.g).2 h.1.1.1.1.2, (fieldG d.s).2 h.1.1.1.2⟩
theorem four (d : DD) : (rgoodV d = (kindV d != 0) ∧ raccV d = (kindV d == 3) ∧ rdatV d = (kindV d == 2) ∧ rgenV d = (kindV d == 1)) ∧ rwhoV d = wholeV d := by
  have hg := rgood_sound d
  unfold rgenV raccV rdatV rwhoV wholeV kindV shapeV
  rw [hg]
  cases hs : soundV d
  · simp
  · obtain ⟨e1, e2, e3⟩ := sound_keys hs
    rw [e1, e2, e3]
    have ee : (d.e == 0) = !(d.e != 0) := (Bool.not_not _).symm
    have ec : (d.c == 0) = !(d.c != 0) := (Bool.not_not _).symm
    rw [ee, ec]
    generalize thV d.v = tv
    generalize thV d.g = tg
    generalize thV d.s = ts
    generalize (d.w != 0) = qa
    generalize (d.e != 0) = qe
    generalize (d.c != 0) = qc
    cases tv <;> cases qa <;> cases tg <;> cases ts <;> cases qe <;> cases qc <;> decide
theorem kind_cases (d : DD) : kindV d = 0 ∨ kindV d = 1 ∨ kindV d = 2 ∨ kindV d = 3 := by
  unfold kindV shapeV
  split
  · split
    · exact Or.inl rfl
    · split
      · exact Or.inr (Or.inr (Or.inl rfl))
      · split
        · exact Or.inr (Or.inr (Or.inr rfl))
        · exact Or.inr (Or.inl rfl)
  · exact Or.inl rfl
theorem kind_shape {d : DD} (h : ¬ kindV d = 0) : shapeV d = kindV d := by
  have hs := kind_sound h
  unfold kindV
  rw [hs]
  rfl
theorem kind_keys {d : DD} (h : ¬ kindV d = 0) : (d.v.k != 0) = thV d.v ∧ (d.g.k != 0) = thV d.g ∧ (d.s.k != 0) = thV d.s := sound_keys (kind_sound h)
theorem ror_or {v : VV} (h : (v.k != 0) = thV v) : rorV v = orV v undV := by
  unfold rorV orV
  rw [h]
theorem fill_same {d : DD} (h : ¬ kindV d = 0) : rfillV d = fillV d := by
  obtain ⟨e1, e2, e3⟩ := kind_keys h
  unfold rfillV fillV
  rw [(four d).1.2.1, kind_shape h, ror_or e1, ror_or e2, ror_or e3]
theorem whole_kind {d : DD} (h : wholeV d = true) : ¬ kindV d = 0 := by
  intro hk
  unfold wholeV at h
  rw [hk] at h
  simp at h
theorem frz_same (d : DD) : rfrzV d = frzV d := by
  unfold rfrzV frzV
  rw [(four d).2]
  cases hw : wholeV d
  · rfl
  · rw [(four d).1.2.2.1, kind_shape (whole_kind hw)]
theorem eqB_self (v : VV) : eqB v v = true := by
  unfold eqB
  simp
theorem eqD_self (d : DD) : eqD d d = true := by
  unfold eqD
  rw [eqB_self, eqB_self, eqB_self]
  simp
end Go.Proofs.YtcflglloopgieaaGreatDoor

/-! Eb -/
namespace Go.Proofs.YtcflglloopgieaaGreatDoor
open Go Go.Proofs Go.RowKit FM
set_option linter.unusedSimpArgs false
set_option linter.unusedVariables false
def turnV (n d : DD) : Bool := shapeV d != 1 && shapeV d != shapeV n
def forbV (n d : DD) : Bool := if d.c == 2 || d.e != 0 && d.e != n.e || turnV n d then true else if shapeV n == 3 then difV n.g d.g || difV n.s d.s else n.w == 1 && (d.w == 2 || difV n.v d.v)
theorem shape_cases (d : DD) : shapeV d = 0 ∨ shapeV d = 1 ∨ shapeV d = 2 ∨ shapeV d = 3 := by
  unfold shapeV
  split
  · exact Or.inl rfl
  · split
    · exact Or.inr (Or.inr (Or.inl rfl))
    · split
      · exact Or.inr (Or.inr (Or.inr rfl))
      · exact Or.inr (Or.inl rfl)
end Go.Proofs.YtcflglloopgieaaGreatDoor
