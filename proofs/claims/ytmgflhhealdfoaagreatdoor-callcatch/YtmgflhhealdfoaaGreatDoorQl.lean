import Derived.Test.YtmgflhhealdfoaaGreatDoorQk
set_option linter.all false
namespace Go.Proofs.YtmgflhhealdfoaaGreatDoor
section
open Go Go.Proofs Go.RowKit FM
def soundV (d : DD) : Bool := (!thV d.v || d.v.good) && callV d.g && callV d.s && triV d.w && triV d.e && triV d.c
def kindV (d : DD) : Int := if soundV d then shapeV d else 0
def wholeV (d : DD) : Bool := if kindV d == 3 then (d.e != 0 && d.c != 0) && thV d.g && thV d.s else if kindV d == 2 then (d.e != 0 && d.c != 0) && thV d.v && d.w != 0 else false
set_option maxHeartbeats 2000000 in
set_option maxRecDepth 100000 in
theorem shape_any (d : DD) (hd : FD d) (w : World) : Calls Tryz.prog 83 #[d.agg] w fun e w' => e = .returned (.int .i64 (shapeV d)) ∧ Below w.heap.size w w' := by
  have HV := hide (there_any d.v hd.1)
  have HG := hide (there_any d.g hd.2.1)
  have HS := hide (there_any d.s hd.2.2)
  clear hd
  have L0 := Lie.new1 w (.D d)
  obtain ⟨v, g, s, a, e, c⟩ := d
  unfold shapeV
  unfold DD.agg
  unfold PB.obj DD.obj at L0
  unfold VV.agg at *
  dsimp only at *
  have LL := hide L0
  clear L0
  generalize thV v = tv at *
  generalize thV g = tg at *
  generalize thV s = ts at *
  generalize hq : (a != 0) = q at *
  go_enter Tryz.func83, Tryz.ntmps83
  go_wp2_with (first | (go_at_call 93; refine (said_any _ _).mono ?_; rintro _ _ ⟨rfl, rfl⟩) | (go_at_call 92; refine (oneOfThree_any _ _).mono ?_; rintro _ _ ⟨rfl, rfl⟩))
  refine (unhide HV _).mono ?_
  rintro _ w1 ⟨rfl, hb⟩
  replace LL := hide ((unhide LL).on hb)
  clear hb
  obtain ⟨f0, c0_0, c0_1, c0_2, c0_3, c0_4, c0_5, c0_6, c0_7, c0_8, c0_9, c0_10, c0_11, c0_12, c0_13, c0_14, c0_15, c0_16, c0_17⟩ := (unhide LL).one
  dsimp only at f0 c0_0 c0_1 c0_2 c0_3 c0_4 c0_5 c0_6 c0_7 c0_8 c0_9 c0_10 c0_11 c0_12 c0_13 c0_14 c0_15 c0_16 c0_17
  cases tv
  · cases q
    · go_wp2_with (first | (go_at_call 93; refine (said_any _ _).mono ?_; rintro _ _ ⟨rfl, rfl⟩) | (go_at_call 92; refine (oneOfThree_any _ _).mono ?_; rintro _ _ ⟨rfl, rfl⟩))
      refine (unhide HG _).mono ?_
      rintro _ w2 ⟨rfl, hb⟩
      clear f0 c0_0 c0_1 c0_2 c0_3 c0_4 c0_5 c0_6 c0_7 c0_8 c0_9 c0_10 c0_11 c0_12 c0_13 c0_14 c0_15 c0_16 c0_17
      replace LL := hide ((unhide LL).on hb)
      clear hb
      obtain ⟨f0, c0_0, c0_1, c0_2, c0_3, c0_4, c0_5, c0_6, c0_7, c0_8, c0_9, c0_10, c0_11, c0_12, c0_13, c0_14, c0_15, c0_16, c0_17⟩ := (unhide LL).one
      dsimp only at f0 c0_0 c0_1 c0_2 c0_3 c0_4 c0_5 c0_6 c0_7 c0_8 c0_9 c0_10 c0_11 c0_12 c0_13 c0_14 c0_15 c0_16 c0_17
      cases tg
      · go_wp2_with (first | (go_at_call 93; refine (said_any _ _).mono ?_; rintro _ _ ⟨rfl, rfl⟩) | (go_at_call 92; refine (oneOfThree_any _ _).mono ?_; rintro _ _ ⟨rfl, rfl⟩))
        refine (unhide HS _).mono ?_
        rintro _ w3 ⟨rfl, hb⟩
        clear f0 c0_0 c0_1 c0_2 c0_3 c0_4 c0_5 c0_6 c0_7 c0_8 c0_9 c0_10 c0_11 c0_12 c0_13 c0_14 c0_15 c0_16 c0_17
        replace LL := hide ((unhide LL).on hb)
        clear hb
        obtain ⟨f0, c0_0, c0_1, c0_2, c0_3, c0_4, c0_5, c0_6, c0_7, c0_8, c0_9, c0_10, c0_11, c0_12, c0_13, c0_14, c0_15, c0_16, c0_17⟩ := (unhide LL).one
        dsimp only at f0 c0_0 c0_1 c0_2 c0_3 c0_4 c0_5 c0_6 c0_7 c0_8 c0_9 c0_10 c0_11 c0_12 c0_13 c0_14 c0_15 c0_16 c0_17
        cases ts
        · go_wp2_with (first | (go_at_call 93; refine (said_any _ _).mono ?_; rintro _ _ ⟨rfl, rfl⟩) | (go_at_call 92; refine (oneOfThree_any _ _).mono ?_; rintro _ _ ⟨rfl, rfl⟩))
          go_ret
          exact ⟨rfl, (unhide LL).below⟩
        · go_wp2_with (first | (go_at_call 93; refine (said_any _ _).mono ?_; rintro _ _ ⟨rfl, rfl⟩) | (go_at_call 92; refine (oneOfThree_any _ _).mono ?_; rintro _ _ ⟨rfl, rfl⟩))
          go_ret
          exact ⟨rfl, (unhide LL).below⟩
      · go_wp2_with (first | (go_at_call 93; refine (said_any _ _).mono ?_; rintro _ _ ⟨rfl, rfl⟩) | (go_at_call 92; refine (oneOfThree_any _ _).mono ?_; rintro _ _ ⟨rfl, rfl⟩))
        go_ret
        exact ⟨rfl, (unhide LL).below⟩
    · go_wp2_with (first | (go_at_call 93; refine (said_any _ _).mono ?_; rintro _ _ ⟨rfl, rfl⟩) | (go_at_call 92; refine (oneOfThree_any _ _).mono ?_; rintro _ _ ⟨rfl, rfl⟩))
      refine (unhide HG _).mono ?_
      rintro _ w4 ⟨rfl, hb⟩
      clear f0 c0_0 c0_1 c0_2 c0_3 c0_4 c0_5 c0_6 c0_7 c0_8 c0_9 c0_10 c0_11 c0_12 c0_13 c0_14 c0_15 c0_16 c0_17
      replace LL := hide ((unhide LL).on hb)
      clear hb
      obtain ⟨f0, c0_0, c0_1, c0_2, c0_3, c0_4, c0_5, c0_6, c0_7, c0_8, c0_9, c0_10, c0_11, c0_12, c0_13, c0_14, c0_15, c0_16, c0_17⟩ := (unhide LL).one
      dsimp only at f0 c0_0 c0_1 c0_2 c0_3 c0_4 c0_5 c0_6 c0_7 c0_8 c0_9 c0_10 c0_11 c0_12 c0_13 c0_14 c0_15 c0_16 c0_17
      cases tg
      · go_wp2_with (first | (go_at_call 93; refine (said_any _ _).mono ?_; rintro _ _ ⟨rfl, rfl⟩) | (go_at_call 92; refine (oneOfThree_any _ _).mono ?_; rintro _ _ ⟨rfl, rfl⟩))
        refine (unhide HS _).mono ?_
        rintro _ w5 ⟨rfl, hb⟩
        clear f0 c0_0 c0_1 c0_2 c0_3 c0_4 c0_5 c0_6 c0_7 c0_8 c0_9 c0_10 c0_11 c0_12 c0_13 c0_14 c0_15 c0_16 c0_17
        replace LL := hide ((unhide LL).on hb)
        clear hb
        obtain ⟨f0, c0_0, c0_1, c0_2, c0_3, c0_4, c0_5, c0_6, c0_7, c0_8, c0_9, c0_10, c0_11, c0_12, c0_13, c0_14, c0_15, c0_16, c0_17⟩ := (unhide LL).one
        dsimp only at f0 c0_0 c0_1 c0_2 c0_3 c0_4 c0_5 c0_6 c0_7 c0_8 c0_9 c0_10 c0_11 c0_12 c0_13 c0_14 c0_15 c0_16 c0_17
        cases ts
        · go_wp2_with (first | (go_at_call 93; refine (said_any _ _).mono ?_; rintro _ _ ⟨rfl, rfl⟩) | (go_at_call 92; refine (oneOfThree_any _ _).mono ?_; rintro _ _ ⟨rfl, rfl⟩))
          go_ret
          exact ⟨rfl, (unhide LL).below⟩
        · go_wp2_with (first | (go_at_call 93; refine (said_any _ _).mono ?_; rintro _ _ ⟨rfl, rfl⟩) | (go_at_call 92; refine (oneOfThree_any _ _).mono ?_; rintro _ _ ⟨rfl, rfl⟩))
          go_ret
          exact ⟨rfl, (unhide LL).below⟩
      · go_wp2_with (first | (go_at_call 93; refine (said_any _ _).mono ?_; rintro _ _ ⟨rfl, rfl⟩) | (go_at_call 92; refine (oneOfThree_any _ _).mono ?_; rintro _ _ ⟨rfl, rfl⟩))
        go_ret
        exact ⟨rfl, (unhide LL).below⟩
  · go_wp2_with (first | (go_at_call 93; refine (said_any _ _).mono ?_; rintro _ _ ⟨rfl, rfl⟩) | (go_at_call 92; refine (oneOfThree_any _ _).mono ?_; rintro _ _ ⟨rfl, rfl⟩))
    refine (unhide HG _).mono ?_
    rintro _ w6 ⟨rfl, hb⟩
    clear f0 c0_0 c0_1 c0_2 c0_3 c0_4 c0_5 c0_6 c0_7 c0_8 c0_9 c0_10 c0_11 c0_12 c0_13 c0_14 c0_15 c0_16 c0_17
    replace LL := hide ((unhide LL).on hb)
    clear hb
    obtain ⟨f0, c0_0, c0_1, c0_2, c0_3, c0_4, c0_5, c0_6, c0_7, c0_8, c0_9, c0_10, c0_11, c0_12, c0_13, c0_14, c0_15, c0_16, c0_17⟩ := (unhide LL).one
    dsimp only at f0 c0_0 c0_1 c0_2 c0_3 c0_4 c0_5 c0_6 c0_7 c0_8 c0_9 c0_10 c0_11 c0_12 c0_13 c0_14 c0_15 c0_16 c0_17
    cases tg
    · go_wp2_with (first | (go_at_call 93; refine (said_any _ _).mono ?_; rintro _ _ ⟨rfl, rfl⟩) | (go_at_call 92; refine (oneOfThree_any _ _).mono ?_; rintro _ _ ⟨rfl, rfl⟩))
      refine (unhide HS _).mono ?_
      rintro _ w7 ⟨rfl, hb⟩
      clear f0 c0_0 c0_1 c0_2 c0_3 c0_4 c0_5 c0_6 c0_7 c0_8 c0_9 c0_10 c0_11 c0_12 c0_13 c0_14 c0_15 c0_16 c0_17
      replace LL := hide ((unhide LL).on hb)
      clear hb
      obtain ⟨f0, c0_0, c0_1, c0_2, c0_3, c0_4, c0_5, c0_6, c0_7, c0_8, c0_9, c0_10, c0_11, c0_12, c0_13, c0_14, c0_15, c0_16, c0_17⟩ := (unhide LL).one
      dsimp only at f0 c0_0 c0_1 c0_2 c0_3 c0_4 c0_5 c0_6 c0_7 c0_8 c0_9 c0_10 c0_11 c0_12 c0_13 c0_14 c0_15 c0_16 c0_17
      cases ts
      · go_wp2_with (first | (go_at_call 93; refine (said_any _ _).mono ?_; rintro _ _ ⟨rfl, rfl⟩) | (go_at_call 92; refine (oneOfThree_any _ _).mono ?_; rintro _ _ ⟨rfl, rfl⟩))
        go_ret
        exact ⟨rfl, (unhide LL).below⟩
      · go_wp2_with (first | (go_at_call 93; refine (said_any _ _).mono ?_; rintro _ _ ⟨rfl, rfl⟩) | (go_at_call 92; refine (oneOfThree_any _ _).mono ?_; rintro _ _ ⟨rfl, rfl⟩))
        go_ret
        exact ⟨rfl, (unhide LL).below⟩
    · go_wp2_with (first | (go_at_call 93; refine (said_any _ _).mono ?_; rintro _ _ ⟨rfl, rfl⟩) | (go_at_call 92; refine (oneOfThree_any _ _).mono ?_; rintro _ _ ⟨rfl, rfl⟩))
      go_ret
      exact ⟨rfl, (unhide LL).below⟩
set_option maxHeartbeats 2000000 in
set_option maxRecDepth 100000 in
theorem sound_any (d : DD) (hd : FD d) (w : World) (hT : Lib.Utf8Tabs 1 2 w) : Calls Tryz.prog 82 #[d.agg] w fun e w' => e = .returned (.bool (soundV d)) ∧ Below w.heap.size w w' := by
  have HV := hide (there_any d.v hd.1)
  have HC := hide (fun w hT => check_any d.v w hT)
  have HG := hide (fun w hT => callable_any d.g hd.2.1 w hT)
  have HS := hide (fun w hT => callable_any d.s hd.2.2 w hT)
  have HT := hide hT
  clear hd hT
  have L0 := Lie.new1 w (.D d)
  obtain ⟨v, g, s, a, e, c⟩ := d
  unfold soundV
  unfold DD.agg
  unfold PB.obj DD.obj at L0
  unfold VV.agg at *
  dsimp only at *
  have LL := hide L0
  clear L0
  unfold errB at HC
  generalize thV v = tv at *
  generalize VV.good v = gv at *
  generalize callV g = cg at *
  generalize callV s = cs at *
  generalize hta : triV a = ta at *
  generalize hte : triV e = te at *
  generalize htc : triV c = tc at *
  go_enter Tryz.func82, Tryz.ntmps82
  go_wp2_with (first | (go_at_call 93; refine (said_any _ _).mono ?_; rintro _ _ ⟨rfl, rfl⟩) | (go_at_call 92; refine (oneOfThree_any _ _).mono ?_; rintro _ _ ⟨rfl, rfl⟩))
  refine (unhide HV _).mono ?_
  rintro _ w1 ⟨rfl, hb⟩
  replace LL := hide ((unhide LL).on hb)
  clear hb
  obtain ⟨f0, c0_0, c0_1, c0_2, c0_3, c0_4, c0_5, c0_6, c0_7, c0_8, c0_9, c0_10, c0_11, c0_12, c0_13, c0_14, c0_15, c0_16, c0_17⟩ := (unhide LL).one
  dsimp only at f0 c0_0 c0_1 c0_2 c0_3 c0_4 c0_5 c0_6 c0_7 c0_8 c0_9 c0_10 c0_11 c0_12 c0_13 c0_14 c0_15 c0_16 c0_17
  cases tv
  · go_wp2_with (first | (go_at_call 93; refine (said_any _ _).mono ?_; rintro _ _ ⟨rfl, rfl⟩) | (go_at_call 92; refine (oneOfThree_any _ _).mono ?_; rintro _ _ ⟨rfl, rfl⟩))
    refine (unhide HG _ (tabs_below (unhide HT) (unhide LL).below)).mono ?_
    rintro _ w2 ⟨rfl, hb⟩
    clear f0 c0_0 c0_1 c0_2 c0_3 c0_4 c0_5 c0_6 c0_7 c0_8 c0_9 c0_10 c0_11 c0_12 c0_13 c0_14 c0_15 c0_16 c0_17
    replace LL := hide ((unhide LL).on hb)
    clear hb
    obtain ⟨f0, c0_0, c0_1, c0_2, c0_3, c0_4, c0_5, c0_6, c0_7, c0_8, c0_9, c0_10, c0_11, c0_12, c0_13, c0_14, c0_15, c0_16, c0_17⟩ := (unhide LL).one
    dsimp only at f0 c0_0 c0_1 c0_2 c0_3 c0_4 c0_5 c0_6 c0_7 c0_8 c0_9 c0_10 c0_11 c0_12 c0_13 c0_14 c0_15 c0_16 c0_17
    cases cg
    · go_wp2_with (first | (go_at_call 93; refine (said_any _ _).mono ?_; rintro _ _ ⟨rfl, rfl⟩) | (go_at_call 92; refine (oneOfThree_any _ _).mono ?_; rintro _ _ ⟨rfl, rfl⟩))
      go_ret
      exact ⟨rfl, (unhide LL).below⟩
    · go_wp2_with (first | (go_at_call 93; refine (said_any _ _).mono ?_; rintro _ _ ⟨rfl, rfl⟩) | (go_at_call 92; refine (oneOfThree_any _ _).mono ?_; rintro _ _ ⟨rfl, rfl⟩))
      refine (unhide HS _ (tabs_below (unhide HT) (unhide LL).below)).mono ?_
      rintro _ w3 ⟨rfl, hb⟩
      clear f0 c0_0 c0_1 c0_2 c0_3 c0_4 c0_5 c0_6 c0_7 c0_8 c0_9 c0_10 c0_11 c0_12 c0_13 c0_14 c0_15 c0_16 c0_17
      replace LL := hide ((unhide LL).on hb)
      clear hb
      obtain ⟨f0, c0_0, c0_1, c0_2, c0_3, c0_4, c0_5, c0_6, c0_7, c0_8, c0_9, c0_10, c0_11, c0_12, c0_13, c0_14, c0_15, c0_16, c0_17⟩ := (unhide LL).one
      dsimp only at f0 c0_0 c0_1 c0_2 c0_3 c0_4 c0_5 c0_6 c0_7 c0_8 c0_9 c0_10 c0_11 c0_12 c0_13 c0_14 c0_15 c0_16 c0_17
      cases cs
      · go_wp2_with (first | (go_at_call 93; refine (said_any _ _).mono ?_; rintro _ _ ⟨rfl, rfl⟩) | (go_at_call 92; refine (oneOfThree_any _ _).mono ?_; rintro _ _ ⟨rfl, rfl⟩))
        go_ret
        exact ⟨rfl, (unhide LL).below⟩
      · cases ta
        · go_wp2_with (first | (go_at_call 93; refine (said_any _ _).mono ?_; rintro _ _ ⟨rfl, rfl⟩) | (go_at_call 92; refine (oneOfThree_any _ _).mono ?_; rintro _ _ ⟨rfl, rfl⟩))
          go_ret
          exact ⟨rfl, (unhide LL).below⟩
        · cases te
          · go_wp2_with (first | (go_at_call 93; refine (said_any _ _).mono ?_; rintro _ _ ⟨rfl, rfl⟩) | (go_at_call 92; refine (oneOfThree_any _ _).mono ?_; rintro _ _ ⟨rfl, rfl⟩))
            go_ret
            exact ⟨rfl, (unhide LL).below⟩
          · go_wp2_with (first | (go_at_call 93; refine (said_any _ _).mono ?_; rintro _ _ ⟨rfl, rfl⟩) | (go_at_call 92; refine (oneOfThree_any _ _).mono ?_; rintro _ _ ⟨rfl, rfl⟩))
            go_ret
            exact ⟨rfl, (unhide LL).below⟩
  · go_wp2_with (first | (go_at_call 93; refine (said_any _ _).mono ?_; rintro _ _ ⟨rfl, rfl⟩) | (go_at_call 92; refine (oneOfThree_any _ _).mono ?_; rintro _ _ ⟨rfl, rfl⟩))
    refine (unhide HC _ (tabs_below (unhide HT) (unhide LL).below)).mono ?_
    rintro _ w4 ⟨rfl, hb⟩
    clear f0 c0_0 c0_1 c0_2 c0_3 c0_4 c0_5 c0_6 c0_7 c0_8 c0_9 c0_10 c0_11 c0_12 c0_13 c0_14 c0_15 c0_16 c0_17
    replace LL := hide ((unhide LL).on hb)
    clear hb
    obtain ⟨f0, c0_0, c0_1, c0_2, c0_3, c0_4, c0_5, c0_6, c0_7, c0_8, c0_9, c0_10, c0_11, c0_12, c0_13, c0_14, c0_15, c0_16, c0_17⟩ := (unhide LL).one
    dsimp only at f0 c0_0 c0_1 c0_2 c0_3 c0_4 c0_5 c0_6 c0_7 c0_8 c0_9 c0_10 c0_11 c0_12 c0_13 c0_14 c0_15 c0_16 c0_17
    cases gv
    · go_wp2_with (first | (go_at_call 93; refine (said_any _ _).mono ?_; rintro _ _ ⟨rfl, rfl⟩) | (go_at_call 92; refine (oneOfThree_any _ _).mono ?_; rintro _ _ ⟨rfl, rfl⟩))
      go_ret
      exact ⟨rfl, (unhide LL).below⟩
    · go_wp2_with (first | (go_at_call 93; refine (said_any _ _).mono ?_; rintro _ _ ⟨rfl, rfl⟩) | (go_at_call 92; refine (oneOfThree_any _ _).mono ?_; rintro _ _ ⟨rfl, rfl⟩))
      refine (unhide HG _ (tabs_below (unhide HT) (unhide LL).below)).mono ?_
      rintro _ w5 ⟨rfl, hb⟩
      clear f0 c0_0 c0_1 c0_2 c0_3 c0_4 c0_5 c0_6 c0_7 c0_8 c0_9 c0_10 c0_11 c0_12 c0_13 c0_14 c0_15 c0_16 c0_17
      replace LL := hide ((unhide LL).on hb)
      clear hb
      obtain ⟨f0, c0_0, c0_1, c0_2, c0_3, c0_4, c0_5, c0_6, c0_7, c0_8, c0_9, c0_10, c0_11, c0_12, c0_13, c0_14, c0_15, c0_16, c0_17⟩ := (unhide LL).one
      dsimp only at f0 c0_0 c0_1 c0_2 c0_3 c0_4 c0_5 c0_6 c0_7 c0_8 c0_9 c0_10 c0_11 c0_12 c0_13 c0_14 c0_15 c0_16 c0_17
      cases cg
      · go_wp2_with (first | (go_at_call 93; refine (said_any _ _).mono ?_; rintro _ _ ⟨rfl, rfl⟩) | (go_at_call 92; refine (oneOfThree_any _ _).mono ?_; rintro _ _ ⟨rfl, rfl⟩))
        go_ret
        exact ⟨rfl, (unhide LL).below⟩
      · go_wp2_with (first | (go_at_call 93; refine (said_any _ _).mono ?_; rintro _ _ ⟨rfl, rfl⟩) | (go_at_call 92; refine (oneOfThree_any _ _).mono ?_; rintro _ _ ⟨rfl, rfl⟩))
        refine (unhide HS _ (tabs_below (unhide HT) (unhide LL).below)).mono ?_
        rintro _ w6 ⟨rfl, hb⟩
        clear f0 c0_0 c0_1 c0_2 c0_3 c0_4 c0_5 c0_6 c0_7 c0_8 c0_9 c0_10 c0_11 c0_12 c0_13 c0_14 c0_15 c0_16 c0_17
        replace LL := hide ((unhide LL).on hb)
        clear hb
        obtain ⟨f0, c0_0, c0_1, c0_2, c0_3, c0_4, c0_5, c0_6, c0_7, c0_8, c0_9, c0_10, c0_11, c0_12, c0_13, c0_14, c0_15, c0_16, c0_17⟩ := (unhide LL).one
        dsimp only at f0 c0_0 c0_1 c0_2 c0_3 c0_4 c0_5 c0_6 c0_7 c0_8 c0_9 c0_10 c0_11 c0_12 c0_13 c0_14 c0_15 c0_16 c0_17
        cases cs
        · go_wp2_with (first | (go_at_call 93; refine (said_any _ _).mono ?_; rintro _ _ ⟨rfl, rfl⟩) | (go_at_call 92; refine (oneOfThree_any _ _).mono ?_; rintro _ _ ⟨rfl, rfl⟩))
          go_ret
          exact ⟨rfl, (unhide LL).below⟩
        · cases ta
          · go_wp2_with (first | (go_at_call 93; refine (said_any _ _).mono ?_; rintro _ _ ⟨rfl, rfl⟩) | (go_at_call 92; refine (oneOfThree_any _ _).mono ?_; rintro _ _ ⟨rfl, rfl⟩))
            go_ret
            exact ⟨rfl, (unhide LL).below⟩
          · cases te
            · go_wp2_with (first | (go_at_call 93; refine (said_any _ _).mono ?_; rintro _ _ ⟨rfl, rfl⟩) | (go_at_call 92; refine (oneOfThree_any _ _).mono ?_; rintro _ _ ⟨rfl, rfl⟩))
              go_ret
              exact ⟨rfl, (unhide LL).below⟩
            · go_wp2_with (first | (go_at_call 93; refine (said_any _ _).mono ?_; rintro _ _ ⟨rfl, rfl⟩) | (go_at_call 92; refine (oneOfThree_any _ _).mono ?_; rintro _ _ ⟨rfl, rfl⟩))
              go_ret
              exact ⟨rfl, (unhide LL).below⟩
