import Derived.Test.YteohiamifoonkaaDoorDg
namespace Go.Proofs.YteohiamifoonkaaDoor
open Go Go.Proofs Go.RowKit FM
set_option linter.unusedSimpArgs false
set_option linter.unusedVariables false
def rgoodV (d : DD) : Bool := if (thV d.v && !d.v.good) || (thV d.g && !slotV d.g) || (thV d.s && !slotV d.s) || !triV d.w || !triV d.e || !triV d.c then false else !((d.v.k != 0 || d.w != 0) && (d.g.k != 0 || d.s.k != 0))
def raccV (d : DD) : Bool := rgoodV d && (d.g.k != 0 || d.s.k != 0)
def rdatV (d : DD) : Bool := rgoodV d && (d.v.k != 0 || d.w != 0)
def rgenV (d : DD) : Bool := rgoodV d && !raccV d && !rdatV d
def rwhoV (d : DD) : Bool := if !rgoodV d || d.e == 0 || d.c == 0 then false else d.g.k != 0 && d.s.k != 0 || d.v.k != 0 && d.w != 0
def rzeroV (d : DD) : Bool := !thV d.v && !thV d.g && !thV d.s && d.w == 0 && d.e == 0 && d.c == 0
set_option maxHeartbeats 20000000 in
set_option maxRecDepth 100000 in
theorem refGoodD (d : DD) (hd : FD d) (w : World) : Calls Tryd.prog 27 #[d.agg] w fun e w' => e = .returned (.bool (rgoodV d)) ∧ Below w.heap.size w w' := by
  have HNV := hide (refNone_any d.v hd.1)
  have HNG := hide (refNone_any d.g hd.2.1)
  have HNS := hide (refNone_any d.s hd.2.2)
  have HKV := hide (refThere_any d.v)
  have HKG := hide (refThere_any d.g)
  have HKS := hide (refThere_any d.s)
  have HGV := hide (refGood_any d.v hd.1)
  have HSG := hide (refSlot_any d.g hd.2.1)
  have HSS := hide (refSlot_any d.s hd.2.2)
  clear hd
  have L0 := Lie.new1 w (.D d)
  unfold rgoodV
  generalize thV d.v = tv at *
  generalize thV d.g = tg at *
  generalize thV d.s = ts at *
  generalize VV.good d.v = gv at *
  generalize slotV d.g = sg at *
  generalize slotV d.s = ss at *
  generalize hta : triV d.w = ta at *
  generalize hte : triV d.e = te at *
  generalize htc : triV d.c = tc at *
  generalize hkv : (d.v.k != 0) = kv at *
  generalize hkg : (d.g.k != 0) = kg at *
  generalize hks : (d.s.k != 0) = ks at *
  generalize hqa : (d.w != 0) = qa at *
  clear hkv hkg hks
  unfold PB.obj DD.obj at L0
  unfold DD.agg at *
  unfold VV.agg at *
  have LL := hide L0
  clear L0
  go_enter Tryd.func27, Tryd.ntmps27
  go_wp2_with (first | (go_at_call 59; refine (said_any _ _).mono ?_; rintro _ _ ⟨rfl, rfl⟩) | (go_at_call 58; refine (oneOfThree_any _ _).mono ?_; rintro _ _ ⟨rfl, rfl⟩) | (go_at_call 39; refine (refTri_any _ _).mono ?_; rintro _ _ ⟨rfl, rfl⟩))
  refine (unhide HNV _).mono ?_
  rintro _ w1 ⟨rfl, hb⟩
  replace LL := hide ((unhide LL).on hb)
  clear hb
  obtain ⟨f0, c0_0, c0_1, c0_2, c0_3, c0_4, c0_5, c0_6, c0_7, c0_8, c0_9, c0_10, c0_11, c0_12, c0_13, c0_14, c0_15, c0_16, c0_17⟩ := (unhide LL).one
  try dsimp only at f0 c0_0 c0_1 c0_2 c0_3 c0_4 c0_5 c0_6 c0_7 c0_8 c0_9 c0_10 c0_11 c0_12 c0_13 c0_14 c0_15 c0_16 c0_17
  cases tv
  · go_wp2_with (first | (go_at_call 59; refine (said_any _ _).mono ?_; rintro _ _ ⟨rfl, rfl⟩) | (go_at_call 58; refine (oneOfThree_any _ _).mono ?_; rintro _ _ ⟨rfl, rfl⟩) | (go_at_call 39; refine (refTri_any _ _).mono ?_; rintro _ _ ⟨rfl, rfl⟩))
    refine (unhide HNG _).mono ?_
    rintro _ w2 ⟨rfl, hb⟩
    clear f0 c0_0 c0_1 c0_2 c0_3 c0_4 c0_5 c0_6 c0_7 c0_8 c0_9 c0_10 c0_11 c0_12 c0_13 c0_14 c0_15 c0_16 c0_17
    replace LL := hide ((unhide LL).on hb)
    clear hb
    obtain ⟨f0, c0_0, c0_1, c0_2, c0_3, c0_4, c0_5, c0_6, c0_7, c0_8, c0_9, c0_10, c0_11, c0_12, c0_13, c0_14, c0_15, c0_16, c0_17⟩ := (unhide LL).one
    try dsimp only at f0 c0_0 c0_1 c0_2 c0_3 c0_4 c0_5 c0_6 c0_7 c0_8 c0_9 c0_10 c0_11 c0_12 c0_13 c0_14 c0_15 c0_16 c0_17
    cases tg
    · go_wp2_with (first | (go_at_call 59; refine (said_any _ _).mono ?_; rintro _ _ ⟨rfl, rfl⟩) | (go_at_call 58; refine (oneOfThree_any _ _).mono ?_; rintro _ _ ⟨rfl, rfl⟩) | (go_at_call 39; refine (refTri_any _ _).mono ?_; rintro _ _ ⟨rfl, rfl⟩))
      refine (unhide HNS _).mono ?_
      rintro _ w3 ⟨rfl, hb⟩
      clear f0 c0_0 c0_1 c0_2 c0_3 c0_4 c0_5 c0_6 c0_7 c0_8 c0_9 c0_10 c0_11 c0_12 c0_13 c0_14 c0_15 c0_16 c0_17
      replace LL := hide ((unhide LL).on hb)
      clear hb
      obtain ⟨f0, c0_0, c0_1, c0_2, c0_3, c0_4, c0_5, c0_6, c0_7, c0_8, c0_9, c0_10, c0_11, c0_12, c0_13, c0_14, c0_15, c0_16, c0_17⟩ := (unhide LL).one
      try dsimp only at f0 c0_0 c0_1 c0_2 c0_3 c0_4 c0_5 c0_6 c0_7 c0_8 c0_9 c0_10 c0_11 c0_12 c0_13 c0_14 c0_15 c0_16 c0_17
      cases ts
      · cases ta
        · go_wp2_with (first | (go_at_call 59; refine (said_any _ _).mono ?_; rintro _ _ ⟨rfl, rfl⟩) | (go_at_call 58; refine (oneOfThree_any _ _).mono ?_; rintro _ _ ⟨rfl, rfl⟩) | (go_at_call 39; refine (refTri_any _ _).mono ?_; rintro _ _ ⟨rfl, rfl⟩))
          go_ret
          exact ⟨rfl, (unhide LL).below⟩
        · cases te
          · go_wp2_with (first | (go_at_call 59; refine (said_any _ _).mono ?_; rintro _ _ ⟨rfl, rfl⟩) | (go_at_call 58; refine (oneOfThree_any _ _).mono ?_; rintro _ _ ⟨rfl, rfl⟩) | (go_at_call 39; refine (refTri_any _ _).mono ?_; rintro _ _ ⟨rfl, rfl⟩))
            go_ret
            exact ⟨rfl, (unhide LL).below⟩
          · cases tc
            · go_wp2_with (first | (go_at_call 59; refine (said_any _ _).mono ?_; rintro _ _ ⟨rfl, rfl⟩) | (go_at_call 58; refine (oneOfThree_any _ _).mono ?_; rintro _ _ ⟨rfl, rfl⟩) | (go_at_call 39; refine (refTri_any _ _).mono ?_; rintro _ _ ⟨rfl, rfl⟩))
              go_ret
              exact ⟨rfl, (unhide LL).below⟩
            · go_wp2_with (first | (go_at_call 59; refine (said_any _ _).mono ?_; rintro _ _ ⟨rfl, rfl⟩) | (go_at_call 58; refine (oneOfThree_any _ _).mono ?_; rintro _ _ ⟨rfl, rfl⟩) | (go_at_call 39; refine (refTri_any _ _).mono ?_; rintro _ _ ⟨rfl, rfl⟩))
              refine (unhide HKV _).mono ?_
              rintro _ w4 ⟨rfl, hb⟩
              clear f0 c0_0 c0_1 c0_2 c0_3 c0_4 c0_5 c0_6 c0_7 c0_8 c0_9 c0_10 c0_11 c0_12 c0_13 c0_14 c0_15 c0_16 c0_17
              replace LL := hide ((unhide LL).on hb)
              clear hb
              obtain ⟨f0, c0_0, c0_1, c0_2, c0_3, c0_4, c0_5, c0_6, c0_7, c0_8, c0_9, c0_10, c0_11, c0_12, c0_13, c0_14, c0_15, c0_16, c0_17⟩ := (unhide LL).one
              try dsimp only at f0 c0_0 c0_1 c0_2 c0_3 c0_4 c0_5 c0_6 c0_7 c0_8 c0_9 c0_10 c0_11 c0_12 c0_13 c0_14 c0_15 c0_16 c0_17
              cases kv
              · cases qa
                · go_wp2_with (first | (go_at_call 59; refine (said_any _ _).mono ?_; rintro _ _ ⟨rfl, rfl⟩) | (go_at_call 58; refine (oneOfThree_any _ _).mono ?_; rintro _ _ ⟨rfl, rfl⟩) | (go_at_call 39; refine (refTri_any _ _).mono ?_; rintro _ _ ⟨rfl, rfl⟩))
                  go_ret
                  exact ⟨rfl, (unhide LL).below⟩
                · go_wp2_with (first | (go_at_call 59; refine (said_any _ _).mono ?_; rintro _ _ ⟨rfl, rfl⟩) | (go_at_call 58; refine (oneOfThree_any _ _).mono ?_; rintro _ _ ⟨rfl, rfl⟩) | (go_at_call 39; refine (refTri_any _ _).mono ?_; rintro _ _ ⟨rfl, rfl⟩))
                  refine (unhide HKG _).mono ?_
                  rintro _ w5 ⟨rfl, hb⟩
                  clear f0 c0_0 c0_1 c0_2 c0_3 c0_4 c0_5 c0_6 c0_7 c0_8 c0_9 c0_10 c0_11 c0_12 c0_13 c0_14 c0_15 c0_16 c0_17
                  replace LL := hide ((unhide LL).on hb)
                  clear hb
                  obtain ⟨f0, c0_0, c0_1, c0_2, c0_3, c0_4, c0_5, c0_6, c0_7, c0_8, c0_9, c0_10, c0_11, c0_12, c0_13, c0_14, c0_15, c0_16, c0_17⟩ := (unhide LL).one
                  try dsimp only at f0 c0_0 c0_1 c0_2 c0_3 c0_4 c0_5 c0_6 c0_7 c0_8 c0_9 c0_10 c0_11 c0_12 c0_13 c0_14 c0_15 c0_16 c0_17
                  cases kg
                  · go_wp2_with (first | (go_at_call 59; refine (said_any _ _).mono ?_; rintro _ _ ⟨rfl, rfl⟩) | (go_at_call 58; refine (oneOfThree_any _ _).mono ?_; rintro _ _ ⟨rfl, rfl⟩) | (go_at_call 39; refine (refTri_any _ _).mono ?_; rintro _ _ ⟨rfl, rfl⟩))
                    refine (unhide HKS _).mono ?_
                    rintro _ w6 ⟨rfl, hb⟩
                    clear f0 c0_0 c0_1 c0_2 c0_3 c0_4 c0_5 c0_6 c0_7 c0_8 c0_9 c0_10 c0_11 c0_12 c0_13 c0_14 c0_15 c0_16 c0_17
                    replace LL := hide ((unhide LL).on hb)
                    clear hb
                    obtain ⟨f0, c0_0, c0_1, c0_2, c0_3, c0_4, c0_5, c0_6, c0_7, c0_8, c0_9, c0_10, c0_11, c0_12, c0_13, c0_14, c0_15, c0_16, c0_17⟩ := (unhide LL).one
                    try dsimp only at f0 c0_0 c0_1 c0_2 c0_3 c0_4 c0_5 c0_6 c0_7 c0_8 c0_9 c0_10 c0_11 c0_12 c0_13 c0_14 c0_15 c0_16 c0_17
                    cases ks
                    · go_wp2_with (first | (go_at_call 59; refine (said_any _ _).mono ?_; rintro _ _ ⟨rfl, rfl⟩) | (go_at_call 58; refine (oneOfThree_any _ _).mono ?_; rintro _ _ ⟨rfl, rfl⟩) | (go_at_call 39; refine (refTri_any _ _).mono ?_; rintro _ _ ⟨rfl, rfl⟩))
                      go_ret
                      exact ⟨rfl, (unhide LL).below⟩
                    · go_wp2_with (first | (go_at_call 59; refine (said_any _ _).mono ?_; rintro _ _ ⟨rfl, rfl⟩) | (go_at_call 58; refine (oneOfThree_any _ _).mono ?_; rintro _ _ ⟨rfl, rfl⟩) | (go_at_call 39; refine (refTri_any _ _).mono ?_; rintro _ _ ⟨rfl, rfl⟩))
                      go_ret
                      exact ⟨rfl, (unhide LL).below⟩
                  · go_wp2_with (first | (go_at_call 59; refine (said_any _ _).mono ?_; rintro _ _ ⟨rfl, rfl⟩) | (go_at_call 58; refine (oneOfThree_any _ _).mono ?_; rintro _ _ ⟨rfl, rfl⟩) | (go_at_call 39; refine (refTri_any _ _).mono ?_; rintro _ _ ⟨rfl, rfl⟩))
                    go_ret
                    exact ⟨rfl, (unhide LL).below⟩
              · go_wp2_with (first | (go_at_call 59; refine (said_any _ _).mono ?_; rintro _ _ ⟨rfl, rfl⟩) | (go_at_call 58; refine (oneOfThree_any _ _).mono ?_; rintro _ _ ⟨rfl, rfl⟩) | (go_at_call 39; refine (refTri_any _ _).mono ?_; rintro _ _ ⟨rfl, rfl⟩))
                refine (unhide HKG _).mono ?_
                rintro _ w7 ⟨rfl, hb⟩
                clear f0 c0_0 c0_1 c0_2 c0_3 c0_4 c0_5 c0_6 c0_7 c0_8 c0_9 c0_10 c0_11 c0_12 c0_13 c0_14 c0_15 c0_16 c0_17
                replace LL := hide ((unhide LL).on hb)
                clear hb
                obtain ⟨f0, c0_0, c0_1, c0_2, c0_3, c0_4, c0_5, c0_6, c0_7, c0_8, c0_9, c0_10, c0_11, c0_12, c0_13, c0_14, c0_15, c0_16, c0_17⟩ := (unhide LL).one
                try dsimp only at f0 c0_0 c0_1 c0_2 c0_3 c0_4 c0_5 c0_6 c0_7 c0_8 c0_9 c0_10 c0_11 c0_12 c0_13 c0_14 c0_15 c0_16 c0_17
                cases kg
                · go_wp2_with (first | (go_at_call 59; refine (said_any _ _).mono ?_; rintro _ _ ⟨rfl, rfl⟩) | (go_at_call 58; refine (oneOfThree_any _ _).mono ?_; rintro _ _ ⟨rfl, rfl⟩) | (go_at_call 39; refine (refTri_any _ _).mono ?_; rintro _ _ ⟨rfl, rfl⟩))
                  refine (unhide HKS _).mono ?_
                  rintro _ w8 ⟨rfl, hb⟩
                  clear f0 c0_0 c0_1 c0_2 c0_3 c0_4 c0_5 c0_6 c0_7 c0_8 c0_9 c0_10 c0_11 c0_12 c0_13 c0_14 c0_15 c0_16 c0_17
                  replace LL := hide ((unhide LL).on hb)
                  clear hb
                  obtain ⟨f0, c0_0, c0_1, c0_2, c0_3, c0_4, c0_5, c0_6, c0_7, c0_8, c0_9, c0_10, c0_11, c0_12, c0_13, c0_14, c0_15, c0_16, c0_17⟩ := (unhide LL).one
                  try dsimp only at f0 c0_0 c0_1 c0_2 c0_3 c0_4 c0_5 c0_6 c0_7 c0_8 c0_9 c0_10 c0_11 c0_12 c0_13 c0_14 c0_15 c0_16 c0_17
                  cases ks
                  · go_wp2_with (first | (go_at_call 59; refine (said_any _ _).mono ?_; rintro _ _ ⟨rfl, rfl⟩) | (go_at_call 58; refine (oneOfThree_any _ _).mono ?_; rintro _ _ ⟨rfl, rfl⟩) | (go_at_call 39; refine (refTri_any _ _).mono ?_; rintro _ _ ⟨rfl, rfl⟩))
                    go_ret
                    exact ⟨rfl, (unhide LL).below⟩
                  · go_wp2_with (first | (go_at_call 59; refine (said_any _ _).mono ?_; rintro _ _ ⟨rfl, rfl⟩) | (go_at_call 58; refine (oneOfThree_any _ _).mono ?_; rintro _ _ ⟨rfl, rfl⟩) | (go_at_call 39; refine (refTri_any _ _).mono ?_; rintro _ _ ⟨rfl, rfl⟩))
                    go_ret
                    exact ⟨rfl, (unhide LL).below⟩
                · go_wp2_with (first | (go_at_call 59; refine (said_any _ _).mono ?_; rintro _ _ ⟨rfl, rfl⟩) | (go_at_call 58; refine (oneOfThree_any _ _).mono ?_; rintro _ _ ⟨rfl, rfl⟩) | (go_at_call 39; refine (refTri_any _ _).mono ?_; rintro _ _ ⟨rfl, rfl⟩))
                  go_ret
                  exact ⟨rfl, (unhide LL).below⟩
      · go_wp2_with (first | (go_at_call 59; refine (said_any _ _).mono ?_; rintro _ _ ⟨rfl, rfl⟩) | (go_at_call 58; refine (oneOfThree_any _ _).mono ?_; rintro _ _ ⟨rfl, rfl⟩) | (go_at_call 39; refine (refTri_any _ _).mono ?_; rintro _ _ ⟨rfl, rfl⟩))
        refine (unhide HSS _).mono ?_
        rintro _ w9 ⟨rfl, hb⟩
        clear f0 c0_0 c0_1 c0_2 c0_3 c0_4 c0_5 c0_6 c0_7 c0_8 c0_9 c0_10 c0_11 c0_12 c0_13 c0_14 c0_15 c0_16 c0_17
        replace LL := hide ((unhide LL).on hb)
        clear hb
        obtain ⟨f0, c0_0, c0_1, c0_2, c0_3, c0_4, c0_5, c0_6, c0_7, c0_8, c0_9, c0_10, c0_11, c0_12, c0_13, c0_14, c0_15, c0_16, c0_17⟩ := (unhide LL).one
        try dsimp only at f0 c0_0 c0_1 c0_2 c0_3 c0_4 c0_5 c0_6 c0_7 c0_8 c0_9 c0_10 c0_11 c0_12 c0_13 c0_14 c0_15 c0_16 c0_17
        cases ss
        · go_wp2_with (first | (go_at_call 59; refine (said_any _ _).mono ?_; rintro _ _ ⟨rfl, rfl⟩) | (go_at_call 58; refine (oneOfThree_any _ _).mono ?_; rintro _ _ ⟨rfl, rfl⟩) | (go_at_call 39; refine (refTri_any _ _).mono ?_; rintro _ _ ⟨rfl, rfl⟩))
          go_ret
          exact ⟨rfl, (unhide LL).below⟩
        · cases ta
          · go_wp2_with (first | (go_at_call 59; refine (said_any _ _).mono ?_; rintro _ _ ⟨rfl, rfl⟩) | (go_at_call 58; refine (oneOfThree_any _ _).mono ?_; rintro _ _ ⟨rfl, rfl⟩) | (go_at_call 39; refine (refTri_any _ _).mono ?_; rintro _ _ ⟨rfl, rfl⟩))
            go_ret
            exact ⟨rfl, (unhide LL).below⟩
          · cases te
            · go_wp2_with (first | (go_at_call 59; refine (said_any _ _).mono ?_; rintro _ _ ⟨rfl, rfl⟩) | (go_at_call 58; refine (oneOfThree_any _ _).mono ?_; rintro _ _ ⟨rfl, rfl⟩) | (go_at_call 39; refine (refTri_any _ _).mono ?_; rintro _ _ ⟨rfl, rfl⟩))
              go_ret
              exact ⟨rfl, (unhide LL).below⟩
            · cases tc
              · go_wp2_with (first | (go_at_call 59; refine (said_any _ _).mono ?_; rintro _ _ ⟨rfl, rfl⟩) | (go_at_call 58; refine (oneOfThree_any _ _).mono ?_; rintro _ _ ⟨rfl, rfl⟩) | (go_at_call 39; refine (refTri_any _ _).mono ?_; rintro _ _ ⟨rfl, rfl⟩))
                go_ret
                exact ⟨rfl, (unhide LL).below⟩
              · go_wp2_with (first | (go_at_call 59; refine (said_any _ _).mono ?_; rintro _ _ ⟨rfl, rfl⟩) | (go_at_call 58; refine (oneOfThree_any _ _).mono ?_; rintro _ _ ⟨rfl, rfl⟩) | (go_at_call 39; refine (refTri_any _ _).mono ?_; rintro _ _ ⟨rfl, rfl⟩))
                refine (unhide HKV _).mono ?_
                rintro _ w10 ⟨rfl, hb⟩
                clear f0 c0_0 c0_1 c0_2 c0_3 c0_4 c0_5 c0_6 c0_7 c0_8 c0_9 c0_10 c0_11 c0_12 c0_13 c0_14 c0_15 c0_16 c0_17
                replace LL := hide ((unhide LL).on hb)
                clear hb
                obtain ⟨f0, c0_0, c0_1, c0_2, c0_3, c0_4, c0_5, c0_6, c0_7, c0_8, c0_9, c0_10, c0_11, c0_12, c0_13, c0_14, c0_15, c0_16, c0_17⟩ := (unhide LL).one
                try dsimp only at f0 c0_0 c0_1 c0_2 c0_3 c0_4 c0_5 c0_6 c0_7 c0_8 c0_9 c0_10 c0_11 c0_12 c0_13 c0_14 c0_15 c0_16 c0_17
                cases kv
                · cases qa
                  · go_wp2_with (first | (go_at_call 59; refine (said_any _ _).mono ?_; rintro _ _ ⟨rfl, rfl⟩) | (go_at_call 58; refine (oneOfThree_any _ _).mono ?_; rintro _ _ ⟨rfl, rfl⟩) | (go_at_call 39; refine (refTri_any _ _).mono ?_; rintro _ _ ⟨rfl, rfl⟩))
                    go_ret
                    exact ⟨rfl, (unhide LL).below⟩
                  · go_wp2_with (first | (go_at_call 59; refine (said_any _ _).mono ?_; rintro _ _ ⟨rfl, rfl⟩) | (go_at_call 58; refine (oneOfThree_any _ _).mono ?_; rintro _ _ ⟨rfl, rfl⟩) | (go_at_call 39; refine (refTri_any _ _).mono ?_; rintro _ _ ⟨rfl, rfl⟩))
                    refine (unhide HKG _).mono ?_
                    rintro _ w11 ⟨rfl, hb⟩
                    clear f0 c0_0 c0_1 c0_2 c0_3 c0_4 c0_5 c0_6 c0_7 c0_8 c0_9 c0_10 c0_11 c0_12 c0_13 c0_14 c0_15 c0_16 c0_17
                    replace LL := hide ((unhide LL).on hb)
                    clear hb
                    obtain ⟨f0, c0_0, c0_1, c0_2, c0_3, c0_4, c0_5, c0_6, c0_7, c0_8, c0_9, c0_10, c0_11, c0_12, c0_13, c0_14, c0_15, c0_16, c0_17⟩ := (unhide LL).one
                    try dsimp only at f0 c0_0 c0_1 c0_2 c0_3 c0_4 c0_5 c0_6 c0_7 c0_8 c0_9 c0_10 c0_11 c0_12 c0_13 c0_14 c0_15 c0_16 c0_17
                    cases kg
                    · go_wp2_with (first | (go_at_call 59; refine (said_any _ _).mono ?_; rintro _ _ ⟨rfl, rfl⟩) | (go_at_call 58; refine (oneOfThree_any _ _).mono ?_; rintro _ _ ⟨rfl, rfl⟩) | (go_at_call 39; refine (refTri_any _ _).mono ?_; rintro _ _ ⟨rfl, rfl⟩))
                      refine (unhide HKS _).mono ?_
                      rintro _ w12 ⟨rfl, hb⟩
                      clear f0 c0_0 c0_1 c0_2 c0_3 c0_4 c0_5 c0_6 c0_7 c0_8 c0_9 c0_10 c0_11 c0_12 c0_13 c0_14 c0_15 c0_16 c0_17
                      replace LL := hide ((unhide LL).on hb)
                      clear hb
                      obtain ⟨f0, c0_0, c0_1, c0_2, c0_3, c0_4, c0_5, c0_6, c0_7, c0_8, c0_9, c0_10, c0_11, c0_12, c0_13, c0_14, c0_15, c0_16, c0_17⟩ := (unhide LL).one
                      try dsimp only at f0 c0_0 c0_1 c0_2 c0_3 c0_4 c0_5 c0_6 c0_7 c0_8 c0_9 c0_10 c0_11 c0_12 c0_13 c0_14 c0_15 c0_16 c0_17
                      cases ks
                      · go_wp2_with (first | (go_at_call 59; refine (said_any _ _).mono ?_; rintro _ _ ⟨rfl, rfl⟩) | (go_at_call 58; refine (oneOfThree_any _ _).mono ?_; rintro _ _ ⟨rfl, rfl⟩) | (go_at_call 39; refine (refTri_any _ _).mono ?_; rintro _ _ ⟨rfl, rfl⟩))
                        go_ret
                        exact ⟨rfl, (unhide LL).below⟩
                      · go_wp2_with (first | (go_at_call 59; refine (said_any _ _).mono ?_; rintro _ _ ⟨rfl, rfl⟩) | (go_at_call 58; refine (oneOfThree_any _ _).mono ?_; rintro _ _ ⟨rfl, rfl⟩) | (go_at_call 39; refine (refTri_any _ _).mono ?_; rintro _ _ ⟨rfl, rfl⟩))
                        go_ret
                        exact ⟨rfl, (unhide LL).below⟩
                    · go_wp2_with (first | (go_at_call 59; refine (said_any _ _).mono ?_; rintro _ _ ⟨rfl, rfl⟩) | (go_at_call 58; refine (oneOfThree_any _ _).mono ?_; rintro _ _ ⟨rfl, rfl⟩) | (go_at_call 39; refine (refTri_any _ _).mono ?_; rintro _ _ ⟨rfl, rfl⟩))
                      go_ret
                      exact ⟨rfl, (unhide LL).below⟩
                · go_wp2_with (first | (go_at_call 59; refine (said_any _ _).mono ?_; rintro _ _ ⟨rfl, rfl⟩) | (go_at_call 58; refine (oneOfThree_any _ _).mono ?_; rintro _ _ ⟨rfl, rfl⟩) | (go_at_call 39; refine (refTri_any _ _).mono ?_; rintro _ _ ⟨rfl, rfl⟩))
                  refine (unhide HKG _).mono ?_
                  rintro _ w13 ⟨rfl, hb⟩
                  clear f0 c0_0 c0_1 c0_2 c0_3 c0_4 c0_5 c0_6 c0_7 c0_8 c0_9 c0_10 c0_11 c0_12 c0_13 c0_14 c0_15 c0_16 c0_17
                  replace LL := hide ((unhide LL).on hb)
                  clear hb
                  obtain ⟨f0, c0_0, c0_1, c0_2, c0_3, c0_4, c0_5, c0_6, c0_7, c0_8, c0_9, c0_10, c0_11, c0_12, c0_13, c0_14, c0_15, c0_16, c0_17⟩ := (unhide LL).one
                  try dsimp only at f0 c0_0 c0_1 c0_2 c0_3 c0_4 c0_5 c0_6 c0_7 c0_8 c0_9 c0_10 c0_11 c0_12 c0_13 c0_14 c0_15 c0_16 c0_17
                  cases kg
                  · go_wp2_with (first | (go_at_call 59; refine (said_any _ _).mono ?_; rintro _ _ ⟨rfl, rfl⟩) | (go_at_call 58; refine (oneOfThree_any _ _).mono ?_; rintro _ _ ⟨rfl, rfl⟩) | (go_at_call 39; refine (refTri_any _ _).mono ?_; rintro _ _ ⟨rfl, rfl⟩))
                    refine (unhide HKS _).mono ?_
                    rintro _ w14 ⟨rfl, hb⟩
                    clear f0 c0_0 c0_1 c0_2 c0_3 c0_4 c0_5 c0_6 c0_7 c0_8 c0_9 c0_10 c0_11 c0_12 c0_13 c0_14 c0_15 c0_16 c0_17
                    replace LL := hide ((unhide LL).on hb)
                    clear hb
                    obtain ⟨f0, c0_0, c0_1, c0_2, c0_3, c0_4, c0_5, c0_6, c0_7, c0_8, c0_9, c0_10, c0_11, c0_12, c0_13, c0_14, c0_15, c0_16, c0_17⟩ := (unhide LL).one
                    try dsimp only at f0 c0_0 c0_1 c0_2 c0_3 c0_4 c0_5 c0_6 c0_7 c0_8 c0_9 c0_10 c0_11 c0_12 c0_13 c0_14 c0_15 c0_16 c0_17
                    cases ks
                    · go_wp2_with (first | (go_at_call 59; refine (said_any _ _).mono ?_; rintro _ _ ⟨rfl, rfl⟩) | (go_at_call 58; refine (oneOfThree_any _ _).mono ?_; rintro _ _ ⟨rfl, rfl⟩) | (go_at_call 39; refine (refTri_any _ _).mono ?_; rintro _ _ ⟨rfl, rfl⟩))
                      go_ret
                      exact ⟨rfl, (unhide LL).below⟩
                    · go_wp2_with (first | (go_at_call 59; refine (said_any _ _).mono ?_; rintro _ _ ⟨rfl, rfl⟩) | (go_at_call 58; refine (oneOfThree_any _ _).mono ?_; rintro _ _ ⟨rfl, rfl⟩) | (go_at_call 39; refine (refTri_any _ _).mono ?_; rintro _ _ ⟨rfl, rfl⟩))
                      go_ret
                      exact ⟨rfl, (unhide LL).below⟩
                  · go_wp2_with (first | (go_at_call 59; refine (said_any _ _).mono ?_; rintro _ _ ⟨rfl, rfl⟩) | (go_at_call 58; refine (oneOfThree_any _ _).mono ?_; rintro _ _ ⟨rfl, rfl⟩) | (go_at_call 39; refine (refTri_any _ _).mono ?_; rintro _ _ ⟨rfl, rfl⟩))
                    go_ret
                    exact ⟨rfl, (unhide LL).below⟩
    · go_wp2_with (first | (go_at_call 59; refine (said_any _ _).mono ?_; rintro _ _ ⟨rfl, rfl⟩) | (go_at_call 58; refine (oneOfThree_any _ _).mono ?_; rintro _ _ ⟨rfl, rfl⟩) | (go_at_call 39; refine (refTri_any _ _).mono ?_; rintro _ _ ⟨rfl, rfl⟩))
      refine (unhide HSG _).mono ?_
      rintro _ w15 ⟨rfl, hb⟩
      clear f0 c0_0 c0_1 c0_2 c0_3 c0_4 c0_5 c0_6 c0_7 c0_8 c0_9 c0_10 c0_11 c0_12 c0_13 c0_14 c0_15 c0_16 c0_17
      replace LL := hide ((unhide LL).on hb)
      clear hb
      obtain ⟨f0, c0_0, c0_1, c0_2, c0_3, c0_4, c0_5, c0_6, c0_7, c0_8, c0_9, c0_10, c0_11, c0_12, c0_13, c0_14, c0_15, c0_16, c0_17⟩ := (unhide LL).one
      try dsimp only at f0 c0_0 c0_1 c0_2 c0_3 c0_4 c0_5 c0_6 c0_7 c0_8 c0_9 c0_10 c0_11 c0_12 c0_13 c0_14 c0_15 c0_16 c0_17
      cases sg
      · go_wp2_with (first | (go_at_call 59; refine (said_any _ _).mono ?_; rintro _ _ ⟨rfl, rfl⟩) | (go_at_call 58; refine (oneOfThree_any _ _).mono ?_; rintro _ _ ⟨rfl, rfl⟩) | (go_at_call 39; refine (refTri_any _ _).mono ?_; rintro _ _ ⟨rfl, rfl⟩))
        go_ret
        exact ⟨rfl, (unhide LL).below⟩
      · go_wp2_with (first | (go_at_call 59; refine (said_any _ _).mono ?_; rintro _ _ ⟨rfl, rfl⟩) | (go_at_call 58; refine (oneOfThree_any _ _).mono ?_; rintro _ _ ⟨rfl, rfl⟩) | (go_at_call 39; refine (refTri_any _ _).mono ?_; rintro _ _ ⟨rfl, rfl⟩))
        refine (unhide HNS _).mono ?_
        rintro _ w16 ⟨rfl, hb⟩
        clear f0 c0_0 c0_1 c0_2 c0_3 c0_4 c0_5 c0_6 c0_7 c0_8 c0_9 c0_10 c0_11 c0_12 c0_13 c0_14 c0_15 c0_16 c0_17
        replace LL := hide ((unhide LL).on hb)
        clear hb
        obtain ⟨f0, c0_0, c0_1, c0_2, c0_3, c0_4, c0_5, c0_6, c0_7, c0_8, c0_9, c0_10, c0_11, c0_12, c0_13, c0_14, c0_15, c0_16, c0_17⟩ := (unhide LL).one
        try dsimp only at f0 c0_0 c0_1 c0_2 c0_3 c0_4 c0_5 c0_6 c0_7 c0_8 c0_9 c0_10 c0_11 c0_12 c0_13 c0_14 c0_15 c0_16 c0_17
        cases ts
        · cases ta
          · go_wp2_with (first | (go_at_call 59; refine (said_any _ _).mono ?_; rintro _ _ ⟨rfl, rfl⟩) | (go_at_call 58; refine (oneOfThree_any _ _).mono ?_; rintro _ _ ⟨rfl, rfl⟩) | (go_at_call 39; refine (refTri_any _ _).mono ?_; rintro _ _ ⟨rfl, rfl⟩))
            go_ret
            exact ⟨rfl, (unhide LL).below⟩
          · cases te
            · go_wp2_with (first | (go_at_call 59; refine (said_any _ _).mono ?_; rintro _ _ ⟨rfl, rfl⟩) | (go_at_call 58; refine (oneOfThree_any _ _).mono ?_; rintro _ _ ⟨rfl, rfl⟩) | (go_at_call 39; refine (refTri_any _ _).mono ?_; rintro _ _ ⟨rfl, rfl⟩))
              go_ret
              exact ⟨rfl, (unhide LL).below⟩
            · cases tc
              · go_wp2_with (first | (go_at_call 59; refine (said_any _ _).mono ?_; rintro _ _ ⟨rfl, rfl⟩) | (go_at_call 58; refine (oneOfThree_any _ _).mono ?_; rintro _ _ ⟨rfl, rfl⟩) | (go_at_call 39; refine (refTri_any _ _).mono ?_; rintro _ _ ⟨rfl, rfl⟩))
                go_ret
                exact ⟨rfl, (unhide LL).below⟩
              · go_wp2_with (first | (go_at_call 59; refine (said_any _ _).mono ?_; rintro _ _ ⟨rfl, rfl⟩) | (go_at_call 58; refine (oneOfThree_any _ _).mono ?_; rintro _ _ ⟨rfl, rfl⟩) | (go_at_call 39; refine (refTri_any _ _).mono ?_; rintro _ _ ⟨rfl, rfl⟩))
                refine (unhide HKV _).mono ?_
                rintro _ w17 ⟨rfl, hb⟩
                clear f0 c0_0 c0_1 c0_2 c0_3 c0_4 c0_5 c0_6 c0_7 c0_8 c0_9 c0_10 c0_11 c0_12 c0_13 c0_14 c0_15 c0_16 c0_17
                replace LL := hide ((unhide LL).on hb)
                clear hb
                obtain ⟨f0, c0_0, c0_1, c0_2, c0_3, c0_4, c0_5, c0_6, c0_7, c0_8, c0_9, c0_10, c0_11, c0_12, c0_13, c0_14, c0_15, c0_16, c0_17⟩ := (unhide LL).one
                try dsimp only at f0 c0_0 c0_1 c0_2 c0_3 c0_4 c0_5 c0_6 c0_7 c0_8 c0_9 c0_10 c0_11 c0_12 c0_13 c0_14 c0_15 c0_16 c0_17
                cases kv
                · cases qa
                  · go_wp2_with (first | (go_at_call 59; refine (said_any _ _).mono ?_; rintro _ _ ⟨rfl, rfl⟩) | (go_at_call 58; refine (oneOfThree_any _ _).mono ?_; rintro _ _ ⟨rfl, rfl⟩) | (go_at_call 39; refine (refTri_any _ _).mono ?_; rintro _ _ ⟨rfl, rfl⟩))
                    go_ret
                    exact ⟨rfl, (unhide LL).below⟩
                  · go_wp2_with (first | (go_at_call 59; refine (said_any _ _).mono ?_; rintro _ _ ⟨rfl, rfl⟩) | (go_at_call 58; refine (oneOfThree_any _ _).mono ?_; rintro _ _ ⟨rfl, rfl⟩) | (go_at_call 39; refine (refTri_any _ _).mono ?_; rintro _ _ ⟨rfl, rfl⟩))
                    refine (unhide HKG _).mono ?_
                    rintro _ w18 ⟨rfl, hb⟩
                    clear f0 c0_0 c0_1 c0_2 c0_3 c0_4 c0_5 c0_6 c0_7 c0_8 c0_9 c0_10 c0_11 c0_12 c0_13 c0_14 c0_15 c0_16 c0_17
                    replace LL := hide ((unhide LL).on hb)
                    clear hb
                    obtain ⟨f0, c0_0, c0_1, c0_2, c0_3, c0_4, c0_5, c0_6, c0_7, c0_8, c0_9, c0_10, c0_11, c0_12, c0_13, c0_14, c0_15, c0_16, c0_17⟩ := (unhide LL).one
                    try dsimp only at f0 c0_0 c0_1 c0_2 c0_3 c0_4 c0_5 c0_6 c0_7 c0_8 c0_9 c0_10 c0_11 c0_12 c0_13 c0_14 c0_15 c0_16 c0_17
                    cases kg
                    · go_wp2_with (first | (go_at_call 59; refine (said_any _ _).mono ?_; rintro _ _ ⟨rfl, rfl⟩) | (go_at_call 58; refine (oneOfThree_any _ _).mono ?_; rintro _ _ ⟨rfl, rfl⟩) | (go_at_call 39; refine (refTri_any _ _).mono ?_; rintro _ _ ⟨rfl, rfl⟩))
                      refine (unhide HKS _).mono ?_
                      rintro _ w19 ⟨rfl, hb⟩
                      clear f0 c0_0 c0_1 c0_2 c0_3 c0_4 c0_5 c0_6 c0_7 c0_8 c0_9 c0_10 c0_11 c0_12 c0_13 c0_14 c0_15 c0_16 c0_17
                      replace LL := hide ((unhide LL).on hb)
                      clear hb
                      obtain ⟨f0, c0_0, c0_1, c0_2, c0_3, c0_4, c0_5, c0_6, c0_7, c0_8, c0_9, c0_10, c0_11, c0_12, c0_13, c0_14, c0_15, c0_16, c0_17⟩ := (unhide LL).one
                      try dsimp only at f0 c0_0 c0_1 c0_2 c0_3 c0_4 c0_5 c0_6 c0_7 c0_8 c0_9 c0_10 c0_11 c0_12 c0_13 c0_14 c0_15 c0_16 c0_17
                      cases ks
                      · go_wp2_with (first | (go_at_call 59; refine (said_any _ _).mono ?_; rintro _ _ ⟨rfl, rfl⟩) | (go_at_call 58; refine (oneOfThree_any _ _).mono ?_; rintro _ _ ⟨rfl, rfl⟩) | (go_at_call 39; refine (refTri_any _ _).mono ?_; rintro _ _ ⟨rfl, rfl⟩))
                        go_ret
                        exact ⟨rfl, (unhide LL).below⟩
                      · go_wp2_with (first | (go_at_call 59; refine (said_any _ _).mono ?_; rintro _ _ ⟨rfl, rfl⟩) | (go_at_call 58; refine (oneOfThree_any _ _).mono ?_; rintro _ _ ⟨rfl, rfl⟩) | (go_at_call 39; refine (refTri_any _ _).mono ?_; rintro _ _ ⟨rfl, rfl⟩))
                        go_ret
                        exact ⟨rfl, (unhide LL).below⟩
                    · go_wp2_with (first | (go_at_call 59; refine (said_any _ _).mono ?_; rintro _ _ ⟨rfl, rfl⟩) | (go_at_call 58; refine (oneOfThree_any _ _).mono ?_; rintro _ _ ⟨rfl, rfl⟩) | (go_at_call 39; refine (refTri_any _ _).mono ?_; rintro _ _ ⟨rfl, rfl⟩))
                      go_ret
                      exact ⟨rfl, (unhide LL).below⟩
                · go_wp2_with (first | (go_at_call 59; refine (said_any _ _).mono ?_; rintro _ _ ⟨rfl, rfl⟩) | (go_at_call 58; refine (oneOfThree_any _ _).mono ?_; rintro _ _ ⟨rfl, rfl⟩) | (go_at_call 39; refine (refTri_any _ _).mono ?_; rintro _ _ ⟨rfl, rfl⟩))
                  refine (unhide HKG _).mono ?_
                  rintro _ w20 ⟨rfl, hb⟩
                  clear f0 c0_0 c0_1 c0_2 c0_3 c0_4 c0_5 c0_6 c0_7 c0_8 c0_9 c0_10 c0_11 c0_12 c0_13 c0_14 c0_15 c0_16 c0_17
                  replace LL := hide ((unhide LL).on hb)
                  clear hb
                  obtain ⟨f0, c0_0, c0_1, c0_2, c0_3, c0_4, c0_5, c0_6, c0_7, c0_8, c0_9, c0_10, c0_11, c0_12, c0_13, c0_14, c0_15, c0_16, c0_17⟩ := (unhide LL).one
                  try dsimp only at f0 c0_0 c0_1 c0_2 c0_3 c0_4 c0_5 c0_6 c0_7 c0_8 c0_9 c0_10 c0_11 c0_12 c0_13 c0_14 c0_15 c0_16 c0_17
                  cases kg
                  · go_wp2_with (first | (go_at_call 59; refine (said_any _ _).mono ?_; rintro _ _ ⟨rfl, rfl⟩) | (go_at_call 58; refine (oneOfThree_any _ _).mono ?_; rintro _ _ ⟨rfl, rfl⟩) | (go_at_call 39; refine (refTri_any _ _).mono ?_; rintro _ _ ⟨rfl, rfl⟩))
                    refine (unhide HKS _).mono ?_
                    rintro _ w21 ⟨rfl, hb⟩
                    clear f0 c0_0 c0_1 c0_2 c0_3 c0_4 c0_5 c0_6 c0_7 c0_8 c0_9 c0_10 c0_11 c0_12 c0_13 c0_14 c0_15 c0_16 c0_17
                    replace LL := hide ((unhide LL).on hb)
                    clear hb
                    obtain ⟨f0, c0_0, c0_1, c0_2, c0_3, c0_4, c0_5, c0_6, c0_7, c0_8, c0_9, c0_10, c0_11, c0_12, c0_13, c0_14, c0_15, c0_16, c0_17⟩ := (unhide LL).one
                    try dsimp only at f0 c0_0 c0_1 c0_2 c0_3 c0_4 c0_5 c0_6 c0_7 c0_8 c0_9 c0_10 c0_11 c0_12 c0_13 c0_14 c0_15 c0_16 c0_17
                    cases ks
                    · go_wp2_with (first | (go_at_call 59; refine (said_any _ _).mono ?_; rintro _ _ ⟨rfl, rfl⟩) | (go_at_call 58; refine (oneOfThree_any _ _).mono ?_; rintro _ _ ⟨rfl, rfl⟩) | (go_at_call 39; refine (refTri_any _ _).mono ?_; rintro _ _ ⟨rfl, rfl⟩))
                      go_ret
                      exact ⟨rfl, (unhide LL).below⟩
                    · go_wp2_with (first | (go_at_call 59; refine (said_any _ _).mono ?_; rintro _ _ ⟨rfl, rfl⟩) | (go_at_call 58; refine (oneOfThree_any _ _).mono ?_; rintro _ _ ⟨rfl, rfl⟩) | (go_at_call 39; refine (refTri_any _ _).mono ?_; rintro _ _ ⟨rfl, rfl⟩))
                      go_ret
                      exact ⟨rfl, (unhide LL).below⟩
                  · go_wp2_with (first | (go_at_call 59; refine (said_any _ _).mono ?_; rintro _ _ ⟨rfl, rfl⟩) | (go_at_call 58; refine (oneOfThree_any _ _).mono ?_; rintro _ _ ⟨rfl, rfl⟩) | (go_at_call 39; refine (refTri_any _ _).mono ?_; rintro _ _ ⟨rfl, rfl⟩))
                    go_ret
                    exact ⟨rfl, (unhide LL).below⟩
        · go_wp2_with (first | (go_at_call 59; refine (said_any _ _).mono ?_; rintro _ _ ⟨rfl, rfl⟩) | (go_at_call 58; refine (oneOfThree_any _ _).mono ?_; rintro _ _ ⟨rfl, rfl⟩) | (go_at_call 39; refine (refTri_any _ _).mono ?_; rintro _ _ ⟨rfl, rfl⟩))
          refine (unhide HSS _).mono ?_
          rintro _ w22 ⟨rfl, hb⟩
          clear f0 c0_0 c0_1 c0_2 c0_3 c0_4 c0_5 c0_6 c0_7 c0_8 c0_9 c0_10 c0_11 c0_12 c0_13 c0_14 c0_15 c0_16 c0_17
          replace LL := hide ((unhide LL).on hb)
          clear hb
          obtain ⟨f0, c0_0, c0_1, c0_2, c0_3, c0_4, c0_5, c0_6, c0_7, c0_8, c0_9, c0_10, c0_11, c0_12, c0_13, c0_14, c0_15, c0_16, c0_17⟩ := (unhide LL).one
          try dsimp only at f0 c0_0 c0_1 c0_2 c0_3 c0_4 c0_5 c0_6 c0_7 c0_8 c0_9 c0_10 c0_11 c0_12 c0_13 c0_14 c0_15 c0_16 c0_17
          cases ss
          · go_wp2_with (first | (go_at_call 59; refine (said_any _ _).mono ?_; rintro _ _ ⟨rfl, rfl⟩) | (go_at_call 58; refine (oneOfThree_any _ _).mono ?_; rintro _ _ ⟨rfl, rfl⟩) | (go_at_call 39; refine (refTri_any _ _).mono ?_; rintro _ _ ⟨rfl, rfl⟩))
            go_ret
            exact ⟨rfl, (unhide LL).below⟩
          · cases ta
            · go_wp2_with (first | (go_at_call 59; refine (said_any _ _).mono ?_; rintro _ _ ⟨rfl, rfl⟩) | (go_at_call 58; refine (oneOfThree_any _ _).mono ?_; rintro _ _ ⟨rfl, rfl⟩) | (go_at_call 39; refine (refTri_any _ _).mono ?_; rintro _ _ ⟨rfl, rfl⟩))
              go_ret
              exact ⟨rfl, (unhide LL).below⟩
            · cases te
              · go_wp2_with (first | (go_at_call 59; refine (said_any _ _).mono ?_; rintro _ _ ⟨rfl, rfl⟩) | (go_at_call 58; refine (oneOfThree_any _ _).mono ?_; rintro _ _ ⟨rfl, rfl⟩) | (go_at_call 39; refine (refTri_any _ _).mono ?_; rintro _ _ ⟨rfl, rfl⟩))
                go_ret
                exact ⟨rfl, (unhide LL).below⟩
              · cases tc
                · go_wp2_with (first | (go_at_call 59; refine (said_any _ _).mono ?_; rintro _ _ ⟨rfl, rfl⟩) | (go_at_call 58; refine (oneOfThree_any _ _).mono ?_; rintro _ _ ⟨rfl, rfl⟩) | (go_at_call 39; refine (refTri_any _ _).mono ?_; rintro _ _ ⟨rfl, rfl⟩))
                  go_ret
                  exact ⟨rfl, (unhide LL).below⟩
                · go_wp2_with (first | (go_at_call 59; refine (said_any _ _).mono ?_; rintro _ _ ⟨rfl, rfl⟩) | (go_at_call 58; refine (oneOfThree_any _ _).mono ?_; rintro _ _ ⟨rfl, rfl⟩) | (go_at_call 39; refine (refTri_any _ _).mono ?_; rintro _ _ ⟨rfl, rfl⟩))
                  refine (unhide HKV _).mono ?_
                  rintro _ w23 ⟨rfl, hb⟩
                  clear f0 c0_0 c0_1 c0_2 c0_3 c0_4 c0_5 c0_6 c0_7 c0_8 c0_9 c0_10 c0_11 c0_12 c0_13 c0_14 c0_15 c0_16 c0_17
                  replace LL := hide ((unhide LL).on hb)
                  clear hb
                  obtain ⟨f0, c0_0, c0_1, c0_2, c0_3, c0_4, c0_5, c0_6, c0_7, c0_8, c0_9, c0_10, c0_11, c0_12, c0_13, c0_14, c0_15, c0_16, c0_17⟩ := (unhide LL).one
                  try dsimp only at f0 c0_0 c0_1 c0_2 c0_3 c0_4 c0_5 c0_6 c0_7 c0_8 c0_9 c0_10 c0_11 c0_12 c0_13 c0_14 c0_15 c0_16 c0_17
                  cases kv
                  · cases qa
                    · go_wp2_with (first | (go_at_call 59; refine (said_any _ _).mono ?_; rintro _ _ ⟨rfl, rfl⟩) | (go_at_call 58; refine (oneOfThree_any _ _).mono ?_; rintro _ _ ⟨rfl, rfl⟩) | (go_at_call 39; refine (refTri_any _ _).mono ?_; rintro _ _ ⟨rfl, rfl⟩))
                      go_ret
                      exact ⟨rfl, (unhide LL).below⟩
                    · go_wp2_with (first | (go_at_call 59; refine (said_any _ _).mono ?_; rintro _ _ ⟨rfl, rfl⟩) | (go_at_call 58; refine (oneOfThree_any _ _).mono ?_; rintro _ _ ⟨rfl, rfl⟩) | (go_at_call 39; refine (refTri_any _ _).mono ?_; rintro _ _ ⟨rfl, rfl⟩))
                      refine (unhide HKG _).mono ?_
                      rintro _ w24 ⟨rfl, hb⟩
                      clear f0 c0_0 c0_1 c0_2 c0_3 c0_4 c0_5 c0_6 c0_7 c0_8 c0_9 c0_10 c0_11 c0_12 c0_13 c0_14 c0_15 c0_16 c0_17
                      replace LL := hide ((unhide LL).on hb)
                      clear hb
                      obtain ⟨f0, c0_0, c0_1, c0_2, c0_3, c0_4, c0_5, c0_6, c0_7, c0_8, c0_9, c0_10, c0_11, c0_12, c0_13, c0_14, c0_15, c0_16, c0_17⟩ := (unhide LL).one
                      try dsimp only at f0 c0_0 c0_1 c0_2 c0_3 c0_4 c0_5 c0_6 c0_7 c0_8 c0_9 c0_10 c0_11 c0_12 c0_13 c0_14 c0_15 c0_16 c0_17
                      cases kg
                      · go_wp2_with (first | (go_at_call 59; refine (said_any _ _).mono ?_; rintro _ _ ⟨rfl, rfl⟩) | (go_at_call 58; refine (oneOfThree_any _ _).mono ?_; rintro _ _ ⟨rfl, rfl⟩) | (go_at_call 39; refine (refTri_any _ _).mono ?_; rintro _ _ ⟨rfl, rfl⟩))
                        refine (unhide HKS _).mono ?_
                        rintro _ w25 ⟨rfl, hb⟩
                        clear f0 c0_0 c0_1 c0_2 c0_3 c0_4 c0_5 c0_6 c0_7 c0_8 c0_9 c0_10 c0_11 c0_12 c0_13 c0_14 c0_15 c0_16 c0_17
                        replace LL := hide ((unhide LL).on hb)
                        clear hb
                        obtain ⟨f0, c0_0, c0_1, c0_2, c0_3, c0_4, c0_5, c0_6, c0_7, c0_8, c0_9, c0_10, c0_11, c0_12, c0_13, c0_14, c0_15, c0_16, c0_17⟩ := (unhide LL).one
                        try dsimp only at f0 c0_0 c0_1 c0_2 c0_3 c0_4 c0_5 c0_6 c0_7 c0_8 c0_9 c0_10 c0_11 c0_12 c0_13 c0_14 c0_15 c0_16 c0_17
                        cases ks
                        · go_wp2_with (first | (go_at_call 59; refine (said_any _ _).mono ?_; rintro _ _ ⟨rfl, rfl⟩) | (go_at_call 58; refine (oneOfThree_any _ _).mono ?_; rintro _ _ ⟨rfl, rfl⟩) | (go_at_call 39; refine (refTri_any _ _).mono ?_; rintro _ _ ⟨rfl, rfl⟩))
                          go_ret
                          exact ⟨rfl, (unhide LL).below⟩
                        · go_wp2_with (first | (go_at_call 59; refine (said_any _ _).mono ?_; rintro _ _ ⟨rfl, rfl⟩) | (go_at_call 58; refine (oneOfThree_any _ _).mono ?_; rintro _ _ ⟨rfl, rfl⟩) | (go_at_call 39; refine (refTri_any _ _).mono ?_; rintro _ _ ⟨rfl, rfl⟩))
                          go_ret
                          exact ⟨rfl, (unhide LL).below⟩
                      · go_wp2_with (first | (go_at_call 59; refine (said_any _ _).mono ?_; rintro _ _ ⟨rfl, rfl⟩) | (go_at_call 58; refine (oneOfThree_any _ _).mono ?_; rintro _ _ ⟨rfl, rfl⟩) | (go_at_call 39; refine (refTri_any _ _).mono ?_; rintro _ _ ⟨rfl, rfl⟩))
                        go_ret
                        exact ⟨rfl, (unhide LL).below⟩
                  · go_wp2_with (first | (go_at_call 59; refine (said_any _ _).mono ?_; rintro _ _ ⟨rfl, rfl⟩) | (go_at_call 58; refine (oneOfThree_any _ _).mono ?_; rintro _ _ ⟨rfl, rfl⟩) | (go_at_call 39; refine (refTri_any _ _).mono ?_; rintro _ _ ⟨rfl, rfl⟩))
                    refine (unhide HKG _).mono ?_
                    rintro _ w26 ⟨rfl, hb⟩
                    clear f0 c0_0 c0_1 c0_2 c0_3 c0_4 c0_5 c0_6 c0_7 c0_8 c0_9 c0_10 c0_11 c0_12 c0_13 c0_14 c0_15 c0_16 c0_17
                    replace LL := hide ((unhide LL).on hb)
                    clear hb
                    obtain ⟨f0, c0_0, c0_1, c0_2, c0_3, c0_4, c0_5, c0_6, c0_7, c0_8, c0_9, c0_10, c0_11, c0_12, c0_13, c0_14, c0_15, c0_16, c0_17⟩ := (unhide LL).one
                    try dsimp only at f0 c0_0 c0_1 c0_2 c0_3 c0_4 c0_5 c0_6 c0_7 c0_8 c0_9 c0_10 c0_11 c0_12 c0_13 c0_14 c0_15 c0_16 c0_17
                    cases kg
                    · go_wp2_with (first | (go_at_call 59; refine (said_any _ _).mono ?_; rintro _ _ ⟨rfl, rfl⟩) | (go_at_call 58; refine (oneOfThree_any _ _).mono ?_; rintro _ _ ⟨rfl, rfl⟩) | (go_at_call 39; refine (refTri_any _ _).mono ?_; rintro _ _ ⟨rfl, rfl⟩))
                      refine (unhide HKS _).mono ?_
                      rintro _ w27 ⟨rfl, hb⟩
                      clear f0 c0_0 c0_1 c0_2 c0_3 c0_4 c0_5 c0_6 c0_7 c0_8 c0_9 c0_10 c0_11 c0_12 c0_13 c0_14 c0_15 c0_16 c0_17
                      replace LL := hide ((unhide LL).on hb)
                      clear hb
                      obtain ⟨f0, c0_0, c0_1, c0_2, c0_3, c0_4, c0_5, c0_6, c0_7, c0_8, c0_9, c0_10, c0_11, c0_12, c0_13, c0_14, c0_15, c0_16, c0_17⟩ := (unhide LL).one
                      try dsimp only at f0 c0_0 c0_1 c0_2 c0_3 c0_4 c0_5 c0_6 c0_7 c0_8 c0_9 c0_10 c0_11 c0_12 c0_13 c0_14 c0_15 c0_16 c0_17
                      cases ks
                      · go_wp2_with (first | (go_at_call 59; refine (said_any _ _).mono ?_; rintro _ _ ⟨rfl, rfl⟩) | (go_at_call 58; refine (oneOfThree_any _ _).mono ?_; rintro _ _ ⟨rfl, rfl⟩) | (go_at_call 39; refine (refTri_any _ _).mono ?_; rintro _ _ ⟨rfl, rfl⟩))
                        go_ret
                        exact ⟨rfl, (unhide LL).below⟩
                      · go_wp2_with (first | (go_at_call 59; refine (said_any _ _).mono ?_; rintro _ _ ⟨rfl, rfl⟩) | (go_at_call 58; refine (oneOfThree_any _ _).mono ?_; rintro _ _ ⟨rfl, rfl⟩) | (go_at_call 39; refine (refTri_any _ _).mono ?_; rintro _ _ ⟨rfl, rfl⟩))
                        go_ret
                        exact ⟨rfl, (unhide LL).below⟩
                    · go_wp2_with (first | (go_at_call 59; refine (said_any _ _).mono ?_; rintro _ _ ⟨rfl, rfl⟩) | (go_at_call 58; refine (oneOfThree_any _ _).mono ?_; rintro _ _ ⟨rfl, rfl⟩) | (go_at_call 39; refine (refTri_any _ _).mono ?_; rintro _ _ ⟨rfl, rfl⟩))
                      go_ret
                      exact ⟨rfl, (unhide LL).below⟩
  · go_wp2_with (first | (go_at_call 59; refine (said_any _ _).mono ?_; rintro _ _ ⟨rfl, rfl⟩) | (go_at_call 58; refine (oneOfThree_any _ _).mono ?_; rintro _ _ ⟨rfl, rfl⟩) | (go_at_call 39; refine (refTri_any _ _).mono ?_; rintro _ _ ⟨rfl, rfl⟩))
    refine (unhide HGV _).mono ?_
    rintro _ w28 ⟨rfl, hb⟩
    clear f0 c0_0 c0_1 c0_2 c0_3 c0_4 c0_5 c0_6 c0_7 c0_8 c0_9 c0_10 c0_11 c0_12 c0_13 c0_14 c0_15 c0_16 c0_17
    replace LL := hide ((unhide LL).on hb)
    clear hb
    obtain ⟨f0, c0_0, c0_1, c0_2, c0_3, c0_4, c0_5, c0_6, c0_7, c0_8, c0_9, c0_10, c0_11, c0_12, c0_13, c0_14, c0_15, c0_16, c0_17⟩ := (unhide LL).one
    try dsimp only at f0 c0_0 c0_1 c0_2 c0_3 c0_4 c0_5 c0_6 c0_7 c0_8 c0_9 c0_10 c0_11 c0_12 c0_13 c0_14 c0_15 c0_16 c0_17
    cases gv
    · go_wp2_with (first | (go_at_call 59; refine (said_any _ _).mono ?_; rintro _ _ ⟨rfl, rfl⟩) | (go_at_call 58; refine (oneOfThree_any _ _).mono ?_; rintro _ _ ⟨rfl, rfl⟩) | (go_at_call 39; refine (refTri_any _ _).mono ?_; rintro _ _ ⟨rfl, rfl⟩))
      go_ret
      exact ⟨rfl, (unhide LL).below⟩
    · go_wp2_with (first | (go_at_call 59; refine (said_any _ _).mono ?_; rintro _ _ ⟨rfl, rfl⟩) | (go_at_call 58; refine (oneOfThree_any _ _).mono ?_; rintro _ _ ⟨rfl, rfl⟩) | (go_at_call 39; refine (refTri_any _ _).mono ?_; rintro _ _ ⟨rfl, rfl⟩))
      refine (unhide HNG _).mono ?_
      rintro _ w29 ⟨rfl, hb⟩
      clear f0 c0_0 c0_1 c0_2 c0_3 c0_4 c0_5 c0_6 c0_7 c0_8 c0_9 c0_10 c0_11 c0_12 c0_13 c0_14 c0_15 c0_16 c0_17
      replace LL := hide ((unhide LL).on hb)
      clear hb
      obtain ⟨f0, c0_0, c0_1, c0_2, c0_3, c0_4, c0_5, c0_6, c0_7, c0_8, c0_9, c0_10, c0_11, c0_12, c0_13, c0_14, c0_15, c0_16, c0_17⟩ := (unhide LL).one
      try dsimp only at f0 c0_0 c0_1 c0_2 c0_3 c0_4 c0_5 c0_6 c0_7 c0_8 c0_9 c0_10 c0_11 c0_12 c0_13 c0_14 c0_15 c0_16 c0_17
      cases tg
      · go_wp2_with (first | (go_at_call 59; refine (said_any _ _).mono ?_; rintro _ _ ⟨rfl, rfl⟩) | (go_at_call 58; refine (oneOfThree_any _ _).mono ?_; rintro _ _ ⟨rfl, rfl⟩) | (go_at_call 39; refine (refTri_any _ _).mono ?_; rintro _ _ ⟨rfl, rfl⟩))
        refine (unhide HNS _).mono ?_
        rintro _ w30 ⟨rfl, hb⟩
        clear f0 c0_0 c0_1 c0_2 c0_3 c0_4 c0_5 c0_6 c0_7 c0_8 c0_9 c0_10 c0_11 c0_12 c0_13 c0_14 c0_15 c0_16 c0_17
        replace LL := hide ((unhide LL).on hb)
        clear hb
        obtain ⟨f0, c0_0, c0_1, c0_2, c0_3, c0_4, c0_5, c0_6, c0_7, c0_8, c0_9, c0_10, c0_11, c0_12, c0_13, c0_14, c0_15, c0_16, c0_17⟩ := (unhide LL).one
        try dsimp only at f0 c0_0 c0_1 c0_2 c0_3 c0_4 c0_5 c0_6 c0_7 c0_8 c0_9 c0_10 c0_11 c0_12 c0_13 c0_14 c0_15 c0_16 c0_17
        cases ts
        · cases ta
          · go_wp2_with (first | (go_at_call 59; refine (said_any _ _).mono ?_; rintro _ _ ⟨rfl, rfl⟩) | (go_at_call 58; refine (oneOfThree_any _ _).mono ?_; rintro _ _ ⟨rfl, rfl⟩) | (go_at_call 39; refine (refTri_any _ _).mono ?_; rintro _ _ ⟨rfl, rfl⟩))
            go_ret
            exact ⟨rfl, (unhide LL).below⟩
          · cases te
            · go_wp2_with (first | (go_at_call 59; refine (said_any _ _).mono ?_; rintro _ _ ⟨rfl, rfl⟩) | (go_at_call 58; refine (oneOfThree_any _ _).mono ?_; rintro _ _ ⟨rfl, rfl⟩) | (go_at_call 39; refine (refTri_any _ _).mono ?_; rintro _ _ ⟨rfl, rfl⟩))
              go_ret
              exact ⟨rfl, (unhide LL).below⟩
            · cases tc
              · go_wp2_with (first | (go_at_call 59; refine (said_any _ _).mono ?_; rintro _ _ ⟨rfl, rfl⟩) | (go_at_call 58; refine (oneOfThree_any _ _).mono ?_; rintro _ _ ⟨rfl, rfl⟩) | (go_at_call 39; refine (refTri_any _ _).mono ?_; rintro _ _ ⟨rfl, rfl⟩))
                go_ret
                exact ⟨rfl, (unhide LL).below⟩
              · go_wp2_with (first | (go_at_call 59; refine (said_any _ _).mono ?_; rintro _ _ ⟨rfl, rfl⟩) | (go_at_call 58; refine (oneOfThree_any _ _).mono ?_; rintro _ _ ⟨rfl, rfl⟩) | (go_at_call 39; refine (refTri_any _ _).mono ?_; rintro _ _ ⟨rfl, rfl⟩))
                refine (unhide HKV _).mono ?_
                rintro _ w31 ⟨rfl, hb⟩
                clear f0 c0_0 c0_1 c0_2 c0_3 c0_4 c0_5 c0_6 c0_7 c0_8 c0_9 c0_10 c0_11 c0_12 c0_13 c0_14 c0_15 c0_16 c0_17
                replace LL := hide ((unhide LL).on hb)
                clear hb
                obtain ⟨f0, c0_0, c0_1, c0_2, c0_3, c0_4, c0_5, c0_6, c0_7, c0_8, c0_9, c0_10, c0_11, c0_12, c0_13, c0_14, c0_15, c0_16, c0_17⟩ := (unhide LL).one
                try dsimp only at f0 c0_0 c0_1 c0_2 c0_3 c0_4 c0_5 c0_6 c0_7 c0_8 c0_9 c0_10 c0_11 c0_12 c0_13 c0_14 c0_15 c0_16 c0_17
                cases kv
                · cases qa
                  · go_wp2_with (first | (go_at_call 59; refine (said_any _ _).mono ?_; rintro _ _ ⟨rfl, rfl⟩) | (go_at_call 58; refine (oneOfThree_any _ _).mono ?_; rintro _ _ ⟨rfl, rfl⟩) | (go_at_call 39; refine (refTri_any _ _).mono ?_; rintro _ _ ⟨rfl, rfl⟩))
                    go_ret
                    exact ⟨rfl, (unhide LL).below⟩
                  · go_wp2_with (first | (go_at_call 59; refine (said_any _ _).mono ?_; rintro _ _ ⟨rfl, rfl⟩) | (go_at_call 58; refine (oneOfThree_any _ _).mono ?_; rintro _ _ ⟨rfl, rfl⟩) | (go_at_call 39; refine (refTri_any _ _).mono ?_; rintro _ _ ⟨rfl, rfl⟩))
                    refine (unhide HKG _).mono ?_
                    rintro _ w32 ⟨rfl, hb⟩
                    clear f0 c0_0 c0_1 c0_2 c0_3 c0_4 c0_5 c0_6 c0_7 c0_8 c0_9 c0_10 c0_11 c0_12 c0_13 c0_14 c0_15 c0_16 c0_17
                    replace LL := hide ((unhide LL).on hb)
                    clear hb
                    obtain ⟨f0, c0_0, c0_1, c0_2, c0_3, c0_4, c0_5, c0_6, c0_7, c0_8, c0_9, c0_10, c0_11, c0_12, c0_13, c0_14, c0_15, c0_16, c0_17⟩ := (unhide LL).one
                    try dsimp only at f0 c0_0 c0_1 c0_2 c0_3 c0_4 c0_5 c0_6 c0_7 c0_8 c0_9 c0_10 c0_11 c0_12 c0_13 c0_14 c0_15 c0_16 c0_17
                    cases kg
                    · go_wp2_with (first | (go_at_call 59; refine (said_any _ _).mono ?_; rintro _ _ ⟨rfl, rfl⟩) | (go_at_call 58; refine (oneOfThree_any _ _).mono ?_; rintro _ _ ⟨rfl, rfl⟩) | (go_at_call 39; refine (refTri_any _ _).mono ?_; rintro _ _ ⟨rfl, rfl⟩))
                      refine (unhide HKS _).mono ?_
                      rintro _ w33 ⟨rfl, hb⟩
                      clear f0 c0_0 c0_1 c0_2 c0_3 c0_4 c0_5 c0_6 c0_7 c0_8 c0_9 c0_10 c0_11 c0_12 c0_13 c0_14 c0_15 c0_16 c0_17
                      replace LL := hide ((unhide LL).on hb)
                      clear hb
                      obtain ⟨f0, c0_0, c0_1, c0_2, c0_3, c0_4, c0_5, c0_6, c0_7, c0_8, c0_9, c0_10, c0_11, c0_12, c0_13, c0_14, c0_15, c0_16, c0_17⟩ := (unhide LL).one
                      try dsimp only at f0 c0_0 c0_1 c0_2 c0_3 c0_4 c0_5 c0_6 c0_7 c0_8 c0_9 c0_10 c0_11 c0_12 c0_13 c0_14 c0_15 c0_16 c0_17
                      cases ks
                      · go_wp2_with (first | (go_at_call 59; refine (said_any _ _).mono ?_; rintro _ _ ⟨rfl, rfl⟩) | (go_at_call 58; refine (oneOfThree_any _ _).mono ?_; rintro _ _ ⟨rfl, rfl⟩) | (go_at_call 39; refine (refTri_any _ _).mono ?_; rintro _ _ ⟨rfl, rfl⟩))
                        go_ret
                        exact ⟨rfl, (unhide LL).below⟩
                      · go_wp2_with (first | (go_at_call 59; refine (said_any _ _).mono ?_; rintro _ _ ⟨rfl, rfl⟩) | (go_at_call 58; refine (oneOfThree_any _ _).mono ?_; rintro _ _ ⟨rfl, rfl⟩) | (go_at_call 39; refine (refTri_any _ _).mono ?_; rintro _ _ ⟨rfl, rfl⟩))
                        go_ret
                        exact ⟨rfl, (unhide LL).below⟩
                    · go_wp2_with (first | (go_at_call 59; refine (said_any _ _).mono ?_; rintro _ _ ⟨rfl, rfl⟩) | (go_at_call 58; refine (oneOfThree_any _ _).mono ?_; rintro _ _ ⟨rfl, rfl⟩) | (go_at_call 39; refine (refTri_any _ _).mono ?_; rintro _ _ ⟨rfl, rfl⟩))
                      go_ret
                      exact ⟨rfl, (unhide LL).below⟩
                · go_wp2_with (first | (go_at_call 59; refine (said_any _ _).mono ?_; rintro _ _ ⟨rfl, rfl⟩) | (go_at_call 58; refine (oneOfThree_any _ _).mono ?_; rintro _ _ ⟨rfl, rfl⟩) | (go_at_call 39; refine (refTri_any _ _).mono ?_; rintro _ _ ⟨rfl, rfl⟩))
                  refine (unhide HKG _).mono ?_
                  rintro _ w34 ⟨rfl, hb⟩
                  clear f0 c0_0 c0_1 c0_2 c0_3 c0_4 c0_5 c0_6 c0_7 c0_8 c0_9 c0_10 c0_11 c0_12 c0_13 c0_14 c0_15 c0_16 c0_17
                  replace LL := hide ((unhide LL).on hb)
                  clear hb
                  obtain ⟨f0, c0_0, c0_1, c0_2, c0_3, c0_4, c0_5, c0_6, c0_7, c0_8, c0_9, c0_10, c0_11, c0_12, c0_13, c0_14, c0_15, c0_16, c0_17⟩ := (unhide LL).one
                  try dsimp only at f0 c0_0 c0_1 c0_2 c0_3 c0_4 c0_5 c0_6 c0_7 c0_8 c0_9 c0_10 c0_11 c0_12 c0_13 c0_14 c0_15 c0_16 c0_17
                  cases kg
                  · go_wp2_with (first | (go_at_call 59; refine (said_any _ _).mono ?_; rintro _ _ ⟨rfl, rfl⟩) | (go_at_call 58; refine (oneOfThree_any _ _).mono ?_; rintro _ _ ⟨rfl, rfl⟩) | (go_at_call 39; refine (refTri_any _ _).mono ?_; rintro _ _ ⟨rfl, rfl⟩))
                    refine (unhide HKS _).mono ?_
                    rintro _ w35 ⟨rfl, hb⟩
                    clear f0 c0_0 c0_1 c0_2 c0_3 c0_4 c0_5 c0_6 c0_7 c0_8 c0_9 c0_10 c0_11 c0_12 c0_13 c0_14 c0_15 c0_16 c0_17
                    replace LL := hide ((unhide LL).on hb)
                    clear hb
                    obtain ⟨f0, c0_0, c0_1, c0_2, c0_3, c0_4, c0_5, c0_6, c0_7, c0_8, c0_9, c0_10, c0_11, c0_12, c0_13, c0_14, c0_15, c0_16, c0_17⟩ := (unhide LL).one
                    try dsimp only at f0 c0_0 c0_1 c0_2 c0_3 c0_4 c0_5 c0_6 c0_7 c0_8 c0_9 c0_10 c0_11 c0_12 c0_13 c0_14 c0_15 c0_16 c0_17
                    cases ks
                    · go_wp2_with (first | (go_at_call 59; refine (said_any _ _).mono ?_; rintro _ _ ⟨rfl, rfl⟩) | (go_at_call 58; refine (oneOfThree_any _ _).mono ?_; rintro _ _ ⟨rfl, rfl⟩) | (go_at_call 39; refine (refTri_any _ _).mono ?_; rintro _ _ ⟨rfl, rfl⟩))
                      go_ret
                      exact ⟨rfl, (unhide LL).below⟩
                    · go_wp2_with (first | (go_at_call 59; refine (said_any _ _).mono ?_; rintro _ _ ⟨rfl, rfl⟩) | (go_at_call 58; refine (oneOfThree_any _ _).mono ?_; rintro _ _ ⟨rfl, rfl⟩) | (go_at_call 39; refine (refTri_any _ _).mono ?_; rintro _ _ ⟨rfl, rfl⟩))
                      go_ret
                      exact ⟨rfl, (unhide LL).below⟩
                  · go_wp2_with (first | (go_at_call 59; refine (said_any _ _).mono ?_; rintro _ _ ⟨rfl, rfl⟩) | (go_at_call 58; refine (oneOfThree_any _ _).mono ?_; rintro _ _ ⟨rfl, rfl⟩) | (go_at_call 39; refine (refTri_any _ _).mono ?_; rintro _ _ ⟨rfl, rfl⟩))
                    go_ret
                    exact ⟨rfl, (unhide LL).below⟩
        · go_wp2_with (first | (go_at_call 59; refine (said_any _ _).mono ?_; rintro _ _ ⟨rfl, rfl⟩) | (go_at_call 58; refine (oneOfThree_any _ _).mono ?_; rintro _ _ ⟨rfl, rfl⟩) | (go_at_call 39; refine (refTri_any _ _).mono ?_; rintro _ _ ⟨rfl, rfl⟩))
          refine (unhide HSS _).mono ?_
          rintro _ w36 ⟨rfl, hb⟩
          clear f0 c0_0 c0_1 c0_2 c0_3 c0_4 c0_5 c0_6 c0_7 c0_8 c0_9 c0_10 c0_11 c0_12 c0_13 c0_14 c0_15 c0_16 c0_17
          replace LL := hide ((unhide LL).on hb)
          clear hb
          obtain ⟨f0, c0_0, c0_1, c0_2, c0_3, c0_4, c0_5, c0_6, c0_7, c0_8, c0_9, c0_10, c0_11, c0_12, c0_13, c0_14, c0_15, c0_16, c0_17⟩ := (unhide LL).one
          try dsimp only at f0 c0_0 c0_1 c0_2 c0_3 c0_4 c0_5 c0_6 c0_7 c0_8 c0_9 c0_10 c0_11 c0_12 c0_13 c0_14 c0_15 c0_16 c0_17
          cases ss
          · go_wp2_with (first | (go_at_call 59; refine (said_any _ _).mono ?_; rintro _ _ ⟨rfl, rfl⟩) | (go_at_call 58; refine (oneOfThree_any _ _).mono ?_; rintro _ _ ⟨rfl, rfl⟩) | (go_at_call 39; refine (refTri_any _ _).mono ?_; rintro _ _ ⟨rfl, rfl⟩))
            go_ret
            exact ⟨rfl, (unhide LL).below⟩
          · cases ta
            · go_wp2_with (first | (go_at_call 59; refine (said_any _ _).mono ?_; rintro _ _ ⟨rfl, rfl⟩) | (go_at_call 58; refine (oneOfThree_any _ _).mono ?_; rintro _ _ ⟨rfl, rfl⟩) | (go_at_call 39; refine (refTri_any _ _).mono ?_; rintro _ _ ⟨rfl, rfl⟩))
              go_ret
              exact ⟨rfl, (unhide LL).below⟩
            · cases te
              · go_wp2_with (first | (go_at_call 59; refine (said_any _ _).mono ?_; rintro _ _ ⟨rfl, rfl⟩) | (go_at_call 58; refine (oneOfThree_any _ _).mono ?_; rintro _ _ ⟨rfl, rfl⟩) | (go_at_call 39; refine (refTri_any _ _).mono ?_; rintro _ _ ⟨rfl, rfl⟩))
                go_ret
                exact ⟨rfl, (unhide LL).below⟩
              · cases tc
                · go_wp2_with (first | (go_at_call 59; refine (said_any _ _).mono ?_; rintro _ _ ⟨rfl, rfl⟩) | (go_at_call 58; refine (oneOfThree_any _ _).mono ?_; rintro _ _ ⟨rfl, rfl⟩) | (go_at_call 39; refine (refTri_any _ _).mono ?_; rintro _ _ ⟨rfl, rfl⟩))
                  go_ret
                  exact ⟨rfl, (unhide LL).below⟩
                · go_wp2_with (first | (go_at_call 59; refine (said_any _ _).mono ?_; rintro _ _ ⟨rfl, rfl⟩) | (go_at_call 58; refine (oneOfThree_any _ _).mono ?_; rintro _ _ ⟨rfl, rfl⟩) | (go_at_call 39; refine (refTri_any _ _).mono ?_; rintro _ _ ⟨rfl, rfl⟩))
                  refine (unhide HKV _).mono ?_
                  rintro _ w37 ⟨rfl, hb⟩
                  clear f0 c0_0 c0_1 c0_2 c0_3 c0_4 c0_5 c0_6 c0_7 c0_8 c0_9 c0_10 c0_11 c0_12 c0_13 c0_14 c0_15 c0_16 c0_17
                  replace LL := hide ((unhide LL).on hb)
                  clear hb
                  obtain ⟨f0, c0_0, c0_1, c0_2, c0_3, c0_4, c0_5, c0_6, c0_7, c0_8, c0_9, c0_10, c0_11, c0_12, c0_13, c0_14, c0_15, c0_16, c0_17⟩ := (unhide LL).one
                  try dsimp only at f0 c0_0 c0_1 c0_2 c0_3 c0_4 c0_5 c0_6 c0_7 c0_8 c0_9 c0_10 c0_11 c0_12 c0_13 c0_14 c0_15 c0_16 c0_17
                  cases kv
                  · cases qa
                    · go_wp2_with (first | (go_at_call 59; refine (said_any _ _).mono ?_; rintro _ _ ⟨rfl, rfl⟩) | (go_at_call 58; refine (oneOfThree_any _ _).mono ?_; rintro _ _ ⟨rfl, rfl⟩) | (go_at_call 39; refine (refTri_any _ _).mono ?_; rintro _ _ ⟨rfl, rfl⟩))
                      go_ret
                      exact ⟨rfl, (unhide LL).below⟩
                    · go_wp2_with (first | (go_at_call 59; refine (said_any _ _).mono ?_; rintro _ _ ⟨rfl, rfl⟩) | (go_at_call 58; refine (oneOfThree_any _ _).mono ?_; rintro _ _ ⟨rfl, rfl⟩) | (go_at_call 39; refine (refTri_any _ _).mono ?_; rintro _ _ ⟨rfl, rfl⟩))
                      refine (unhide HKG _).mono ?_
                      rintro _ w38 ⟨rfl, hb⟩
                      clear f0 c0_0 c0_1 c0_2 c0_3 c0_4 c0_5 c0_6 c0_7 c0_8 c0_9 c0_10 c0_11 c0_12 c0_13 c0_14 c0_15 c0_16 c0_17
                      replace LL := hide ((unhide LL).on hb)
                      clear hb
                      obtain ⟨f0, c0_0, c0_1, c0_2, c0_3, c0_4, c0_5, c0_6, c0_7, c0_8, c0_9, c0_10, c0_11, c0_12, c0_13, c0_14, c0_15, c0_16, c0_17⟩ := (unhide LL).one
                      try dsimp only at f0 c0_0 c0_1 c0_2 c0_3 c0_4 c0_5 c0_6 c0_7 c0_8 c0_9 c0_10 c0_11 c0_12 c0_13 c0_14 c0_15 c0_16 c0_17
                      cases kg
                      · go_wp2_with (first | (go_at_call 59; refine (said_any _ _).mono ?_; rintro _ _ ⟨rfl, rfl⟩) | (go_at_call 58; refine (oneOfThree_any _ _).mono ?_; rintro _ _ ⟨rfl, rfl⟩) | (go_at_call 39; refine (refTri_any _ _).mono ?_; rintro _ _ ⟨rfl, rfl⟩))
                        refine (unhide HKS _).mono ?_
                        rintro _ w39 ⟨rfl, hb⟩
                        clear f0 c0_0 c0_1 c0_2 c0_3 c0_4 c0_5 c0_6 c0_7 c0_8 c0_9 c0_10 c0_11 c0_12 c0_13 c0_14 c0_15 c0_16 c0_17
                        replace LL := hide ((unhide LL).on hb)
                        clear hb
                        obtain ⟨f0, c0_0, c0_1, c0_2, c0_3, c0_4, c0_5, c0_6, c0_7, c0_8, c0_9, c0_10, c0_11, c0_12, c0_13, c0_14, c0_15, c0_16, c0_17⟩ := (unhide LL).one
                        try dsimp only at f0 c0_0 c0_1 c0_2 c0_3 c0_4 c0_5 c0_6 c0_7 c0_8 c0_9 c0_10 c0_11 c0_12 c0_13 c0_14 c0_15 c0_16 c0_17
                        cases ks
                        · go_wp2_with (first | (go_at_call 59; refine (said_any _ _).mono ?_; rintro _ _ ⟨rfl, rfl⟩) | (go_at_call 58; refine (oneOfThree_any _ _).mono ?_; rintro _ _ ⟨rfl, rfl⟩) | (go_at_call 39; refine (refTri_any _ _).mono ?_; rintro _ _ ⟨rfl, rfl⟩))
                          go_ret
                          exact ⟨rfl, (unhide LL).below⟩
                        · go_wp2_with (first | (go_at_call 59; refine (said_any _ _).mono ?_; rintro _ _ ⟨rfl, rfl⟩) | (go_at_call 58; refine (oneOfThree_any _ _).mono ?_; rintro _ _ ⟨rfl, rfl⟩) | (go_at_call 39; refine (refTri_any _ _).mono ?_; rintro _ _ ⟨rfl, rfl⟩))
                          go_ret
                          exact ⟨rfl, (unhide LL).below⟩
                      · go_wp2_with (first | (go_at_call 59; refine (said_any _ _).mono ?_; rintro _ _ ⟨rfl, rfl⟩) | (go_at_call 58; refine (oneOfThree_any _ _).mono ?_; rintro _ _ ⟨rfl, rfl⟩) | (go_at_call 39; refine (refTri_any _ _).mono ?_; rintro _ _ ⟨rfl, rfl⟩))
                        go_ret
                        exact ⟨rfl, (unhide LL).below⟩
                  · go_wp2_with (first | (go_at_call 59; refine (said_any _ _).mono ?_; rintro _ _ ⟨rfl, rfl⟩) | (go_at_call 58; refine (oneOfThree_any _ _).mono ?_; rintro _ _ ⟨rfl, rfl⟩) | (go_at_call 39; refine (refTri_any _ _).mono ?_; rintro _ _ ⟨rfl, rfl⟩))
                    refine (unhide HKG _).mono ?_
                    rintro _ w40 ⟨rfl, hb⟩
                    clear f0 c0_0 c0_1 c0_2 c0_3 c0_4 c0_5 c0_6 c0_7 c0_8 c0_9 c0_10 c0_11 c0_12 c0_13 c0_14 c0_15 c0_16 c0_17
                    replace LL := hide ((unhide LL).on hb)
                    clear hb
                    obtain ⟨f0, c0_0, c0_1, c0_2, c0_3, c0_4, c0_5, c0_6, c0_7, c0_8, c0_9, c0_10, c0_11, c0_12, c0_13, c0_14, c0_15, c0_16, c0_17⟩ := (unhide LL).one
                    try dsimp only at f0 c0_0 c0_1 c0_2 c0_3 c0_4 c0_5 c0_6 c0_7 c0_8 c0_9 c0_10 c0_11 c0_12 c0_13 c0_14 c0_15 c0_16 c0_17
                    cases kg
                    · go_wp2_with (first | (go_at_call 59; refine (said_any _ _).mono ?_; rintro _ _ ⟨rfl, rfl⟩) | (go_at_call 58; refine (oneOfThree_any _ _).mono ?_; rintro _ _ ⟨rfl, rfl⟩) | (go_at_call 39; refine (refTri_any _ _).mono ?_; rintro _ _ ⟨rfl, rfl⟩))
                      refine (unhide HKS _).mono ?_
                      rintro _ w41 ⟨rfl, hb⟩
                      clear f0 c0_0 c0_1 c0_2 c0_3 c0_4 c0_5 c0_6 c0_7 c0_8 c0_9 c0_10 c0_11 c0_12 c0_13 c0_14 c0_15 c0_16 c0_17
                      replace LL := hide ((unhide LL).on hb)
                      clear hb
                      obtain ⟨f0, c0_0, c0_1, c0_2, c0_3, c0_4, c0_5, c0_6, c0_7, c0_8, c0_9, c0_10, c0_11, c0_12, c0_13, c0_14, c0_15, c0_16, c0_17⟩ := (unhide LL).one
                      try dsimp only at f0 c0_0 c0_1 c0_2 c0_3 c0_4 c0_5 c0_6 c0_7 c0_8 c0_9 c0_10 c0_11 c0_12 c0_13 c0_14 c0_15 c0_16 c0_17
                      cases ks
                      · go_wp2_with (first | (go_at_call 59; refine (said_any _ _).mono ?_; rintro _ _ ⟨rfl, rfl⟩) | (go_at_call 58; refine (oneOfThree_any _ _).mono ?_; rintro _ _ ⟨rfl, rfl⟩) | (go_at_call 39; refine (refTri_any _ _).mono ?_; rintro _ _ ⟨rfl, rfl⟩))
                        go_ret
                        exact ⟨rfl, (unhide LL).below⟩
                      · go_wp2_with (first | (go_at_call 59; refine (said_any _ _).mono ?_; rintro _ _ ⟨rfl, rfl⟩) | (go_at_call 58; refine (oneOfThree_any _ _).mono ?_; rintro _ _ ⟨rfl, rfl⟩) | (go_at_call 39; refine (refTri_any _ _).mono ?_; rintro _ _ ⟨rfl, rfl⟩))
                        go_ret
                        exact ⟨rfl, (unhide LL).below⟩
                    · go_wp2_with (first | (go_at_call 59; refine (said_any _ _).mono ?_; rintro _ _ ⟨rfl, rfl⟩) | (go_at_call 58; refine (oneOfThree_any _ _).mono ?_; rintro _ _ ⟨rfl, rfl⟩) | (go_at_call 39; refine (refTri_any _ _).mono ?_; rintro _ _ ⟨rfl, rfl⟩))
                      go_ret
                      exact ⟨rfl, (unhide LL).below⟩
      · go_wp2_with (first | (go_at_call 59; refine (said_any _ _).mono ?_; rintro _ _ ⟨rfl, rfl⟩) | (go_at_call 58; refine (oneOfThree_any _ _).mono ?_; rintro _ _ ⟨rfl, rfl⟩) | (go_at_call 39; refine (refTri_any _ _).mono ?_; rintro _ _ ⟨rfl, rfl⟩))
        refine (unhide HSG _).mono ?_
        rintro _ w42 ⟨rfl, hb⟩
        clear f0 c0_0 c0_1 c0_2 c0_3 c0_4 c0_5 c0_6 c0_7 c0_8 c0_9 c0_10 c0_11 c0_12 c0_13 c0_14 c0_15 c0_16 c0_17
        replace LL := hide ((unhide LL).on hb)
        clear hb
        obtain ⟨f0, c0_0, c0_1, c0_2, c0_3, c0_4, c0_5, c0_6, c0_7, c0_8, c0_9, c0_10, c0_11, c0_12, c0_13, c0_14, c0_15, c0_16, c0_17⟩ := (unhide LL).one
        try dsimp only at f0 c0_0 c0_1 c0_2 c0_3 c0_4 c0_5 c0_6 c0_7 c0_8 c0_9 c0_10 c0_11 c0_12 c0_13 c0_14 c0_15 c0_16 c0_17
        cases sg
        · go_wp2_with (first | (go_at_call 59; refine (said_any _ _).mono ?_; rintro _ _ ⟨rfl, rfl⟩) | (go_at_call 58; refine (oneOfThree_any _ _).mono ?_; rintro _ _ ⟨rfl, rfl⟩) | (go_at_call 39; refine (refTri_any _ _).mono ?_; rintro _ _ ⟨rfl, rfl⟩))
          go_ret
          exact ⟨rfl, (unhide LL).below⟩
        · go_wp2_with (first | (go_at_call 59; refine (said_any _ _).mono ?_; rintro _ _ ⟨rfl, rfl⟩) | (go_at_call 58; refine (oneOfThree_any _ _).mono ?_; rintro _ _ ⟨rfl, rfl⟩) | (go_at_call 39; refine (refTri_any _ _).mono ?_; rintro _ _ ⟨rfl, rfl⟩))
          refine (unhide HNS _).mono ?_
          rintro _ w43 ⟨rfl, hb⟩
          clear f0 c0_0 c0_1 c0_2 c0_3 c0_4 c0_5 c0_6 c0_7 c0_8 c0_9 c0_10 c0_11 c0_12 c0_13 c0_14 c0_15 c0_16 c0_17
          replace LL := hide ((unhide LL).on hb)
          clear hb
          obtain ⟨f0, c0_0, c0_1, c0_2, c0_3, c0_4, c0_5, c0_6, c0_7, c0_8, c0_9, c0_10, c0_11, c0_12, c0_13, c0_14, c0_15, c0_16, c0_17⟩ := (unhide LL).one
          try dsimp only at f0 c0_0 c0_1 c0_2 c0_3 c0_4 c0_5 c0_6 c0_7 c0_8 c0_9 c0_10 c0_11 c0_12 c0_13 c0_14 c0_15 c0_16 c0_17
          cases ts
          · cases ta
            · go_wp2_with (first | (go_at_call 59; refine (said_any _ _).mono ?_; rintro _ _ ⟨rfl, rfl⟩) | (go_at_call 58; refine (oneOfThree_any _ _).mono ?_; rintro _ _ ⟨rfl, rfl⟩) | (go_at_call 39; refine (refTri_any _ _).mono ?_; rintro _ _ ⟨rfl, rfl⟩))
              go_ret
              exact ⟨rfl, (unhide LL).below⟩
            · cases te
              · go_wp2_with (first | (go_at_call 59; refine (said_any _ _).mono ?_; rintro _ _ ⟨rfl, rfl⟩) | (go_at_call 58; refine (oneOfThree_any _ _).mono ?_; rintro _ _ ⟨rfl, rfl⟩) | (go_at_call 39; refine (refTri_any _ _).mono ?_; rintro _ _ ⟨rfl, rfl⟩))
                go_ret
                exact ⟨rfl, (unhide LL).below⟩
              · cases tc
                · go_wp2_with (first | (go_at_call 59; refine (said_any _ _).mono ?_; rintro _ _ ⟨rfl, rfl⟩) | (go_at_call 58; refine (oneOfThree_any _ _).mono ?_; rintro _ _ ⟨rfl, rfl⟩) | (go_at_call 39; refine (refTri_any _ _).mono ?_; rintro _ _ ⟨rfl, rfl⟩))
                  go_ret
                  exact ⟨rfl, (unhide LL).below⟩
                · go_wp2_with (first | (go_at_call 59; refine (said_any _ _).mono ?_; rintro _ _ ⟨rfl, rfl⟩) | (go_at_call 58; refine (oneOfThree_any _ _).mono ?_; rintro _ _ ⟨rfl, rfl⟩) | (go_at_call 39; refine (refTri_any _ _).mono ?_; rintro _ _ ⟨rfl, rfl⟩))
                  refine (unhide HKV _).mono ?_
                  rintro _ w44 ⟨rfl, hb⟩
                  clear f0 c0_0 c0_1 c0_2 c0_3 c0_4 c0_5 c0_6 c0_7 c0_8 c0_9 c0_10 c0_11 c0_12 c0_13 c0_14 c0_15 c0_16 c0_17
                  replace LL := hide ((unhide LL).on hb)
                  clear hb
                  obtain ⟨f0, c0_0, c0_1, c0_2, c0_3, c0_4, c0_5, c0_6, c0_7, c0_8, c0_9, c0_10, c0_11, c0_12, c0_13, c0_14, c0_15, c0_16, c0_17⟩ := (unhide LL).one
                  try dsimp only at f0 c0_0 c0_1 c0_2 c0_3 c0_4 c0_5 c0_6 c0_7 c0_8 c0_9 c0_10 c0_11 c0_12 c0_13 c0_14 c0_15 c0_16 c0_17
                  cases kv
                  · cases qa
                    · go_wp2_with (first | (go_at_call 59; refine (said_any _ _).mono ?_; rintro _ _ ⟨rfl, rfl⟩) | (go_at_call 58; refine (oneOfThree_any _ _).mono ?_; rintro _ _ ⟨rfl, rfl⟩) | (go_at_call 39; refine (refTri_any _ _).mono ?_; rintro _ _ ⟨rfl, rfl⟩))
                      go_ret
                      exact ⟨rfl, (unhide LL).below⟩
                    · go_wp2_with (first | (go_at_call 59; refine (said_any _ _).mono ?_; rintro _ _ ⟨rfl, rfl⟩) | (go_at_call 58; refine (oneOfThree_any _ _).mono ?_; rintro _ _ ⟨rfl, rfl⟩) | (go_at_call 39; refine (refTri_any _ _).mono ?_; rintro _ _ ⟨rfl, rfl⟩))
                      refine (unhide HKG _).mono ?_
                      rintro _ w45 ⟨rfl, hb⟩
                      clear f0 c0_0 c0_1 c0_2 c0_3 c0_4 c0_5 c0_6 c0_7 c0_8 c0_9 c0_10 c0_11 c0_12 c0_13 c0_14 c0_15 c0_16 c0_17
                      replace LL := hide ((unhide LL).on hb)
                      clear hb
                      obtain ⟨f0, c0_0, c0_1, c0_2, c0_3, c0_4, c0_5, c0_6, c0_7, c0_8, c0_9, c0_10, c0_11, c0_12, c0_13, c0_14, c0_15, c0_16, c0_17⟩ := (unhide LL).one
                      try dsimp only at f0 c0_0 c0_1 c0_2 c0_3 c0_4 c0_5 c0_6 c0_7 c0_8 c0_9 c0_10 c0_11 c0_12 c0_13 c0_14 c0_15 c0_16 c0_17
                      cases kg
                      · go_wp2_with (first | (go_at_call 59; refine (said_any _ _).mono ?_; rintro _ _ ⟨rfl, rfl⟩) | (go_at_call 58; refine (oneOfThree_any _ _).mono ?_; rintro _ _ ⟨rfl, rfl⟩) | (go_at_call 39; refine (refTri_any _ _).mono ?_; rintro _ _ ⟨rfl, rfl⟩))
                        refine (unhide HKS _).mono ?_
                        rintro _ w46 ⟨rfl, hb⟩
                        clear f0 c0_0 c0_1 c0_2 c0_3 c0_4 c0_5 c0_6 c0_7 c0_8 c0_9 c0_10 c0_11 c0_12 c0_13 c0_14 c0_15 c0_16 c0_17
                        replace LL := hide ((unhide LL).on hb)
                        clear hb
                        obtain ⟨f0, c0_0, c0_1, c0_2, c0_3, c0_4, c0_5, c0_6, c0_7, c0_8, c0_9, c0_10, c0_11, c0_12, c0_13, c0_14, c0_15, c0_16, c0_17⟩ := (unhide LL).one
                        try dsimp only at f0 c0_0 c0_1 c0_2 c0_3 c0_4 c0_5 c0_6 c0_7 c0_8 c0_9 c0_10 c0_11 c0_12 c0_13 c0_14 c0_15 c0_16 c0_17
                        cases ks
                        · go_wp2_with (first | (go_at_call 59; refine (said_any _ _).mono ?_; rintro _ _ ⟨rfl, rfl⟩) | (go_at_call 58; refine (oneOfThree_any _ _).mono ?_; rintro _ _ ⟨rfl, rfl⟩) | (go_at_call 39; refine (refTri_any _ _).mono ?_; rintro _ _ ⟨rfl, rfl⟩))
                          go_ret
                          exact ⟨rfl, (unhide LL).below⟩
                        · go_wp2_with (first | (go_at_call 59; refine (said_any _ _).mono ?_; rintro _ _ ⟨rfl, rfl⟩) | (go_at_call 58; refine (oneOfThree_any _ _).mono ?_; rintro _ _ ⟨rfl, rfl⟩) | (go_at_call 39; refine (refTri_any _ _).mono ?_; rintro _ _ ⟨rfl, rfl⟩))
                          go_ret
                          exact ⟨rfl, (unhide LL).below⟩
                      · go_wp2_with (first | (go_at_call 59; refine (said_any _ _).mono ?_; rintro _ _ ⟨rfl, rfl⟩) | (go_at_call 58; refine (oneOfThree_any _ _).mono ?_; rintro _ _ ⟨rfl, rfl⟩) | (go_at_call 39; refine (refTri_any _ _).mono ?_; rintro _ _ ⟨rfl, rfl⟩))
                        go_ret
                        exact ⟨rfl, (unhide LL).below⟩
                  · go_wp2_with (first | (go_at_call 59; refine (said_any _ _).mono ?_; rintro _ _ ⟨rfl, rfl⟩) | (go_at_call 58; refine (oneOfThree_any _ _).mono ?_; rintro _ _ ⟨rfl, rfl⟩) | (go_at_call 39; refine (refTri_any _ _).mono ?_; rintro _ _ ⟨rfl, rfl⟩))
                    refine (unhide HKG _).mono ?_
                    rintro _ w47 ⟨rfl, hb⟩
                    clear f0 c0_0 c0_1 c0_2 c0_3 c0_4 c0_5 c0_6 c0_7 c0_8 c0_9 c0_10 c0_11 c0_12 c0_13 c0_14 c0_15 c0_16 c0_17
                    replace LL := hide ((unhide LL).on hb)
                    clear hb
                    obtain ⟨f0, c0_0, c0_1, c0_2, c0_3, c0_4, c0_5, c0_6, c0_7, c0_8, c0_9, c0_10, c0_11, c0_12, c0_13, c0_14, c0_15, c0_16, c0_17⟩ := (unhide LL).one
                    try dsimp only at f0 c0_0 c0_1 c0_2 c0_3 c0_4 c0_5 c0_6 c0_7 c0_8 c0_9 c0_10 c0_11 c0_12 c0_13 c0_14 c0_15 c0_16 c0_17
                    cases kg
                    · go_wp2_with (first | (go_at_call 59; refine (said_any _ _).mono ?_; rintro _ _ ⟨rfl, rfl⟩) | (go_at_call 58; refine (oneOfThree_any _ _).mono ?_; rintro _ _ ⟨rfl, rfl⟩) | (go_at_call 39; refine (refTri_any _ _).mono ?_; rintro _ _ ⟨rfl, rfl⟩))
                      refine (unhide HKS _).mono ?_
                      rintro _ w48 ⟨rfl, hb⟩
                      clear f0 c0_0 c0_1 c0_2 c0_3 c0_4 c0_5 c0_6 c0_7 c0_8 c0_9 c0_10 c0_11 c0_12 c0_13 c0_14 c0_15 c0_16 c0_17
                      replace LL := hide ((unhide LL).on hb)
                      clear hb
                      obtain ⟨f0, c0_0, c0_1, c0_2, c0_3, c0_4, c0_5, c0_6, c0_7, c0_8, c0_9, c0_10, c0_11, c0_12, c0_13, c0_14, c0_15, c0_16, c0_17⟩ := (unhide LL).one
                      try dsimp only at f0 c0_0 c0_1 c0_2 c0_3 c0_4 c0_5 c0_6 c0_7 c0_8 c0_9 c0_10 c0_11 c0_12 c0_13 c0_14 c0_15 c0_16 c0_17
                      cases ks
                      · go_wp2_with (first | (go_at_call 59; refine (said_any _ _).mono ?_; rintro _ _ ⟨rfl, rfl⟩) | (go_at_call 58; refine (oneOfThree_any _ _).mono ?_; rintro _ _ ⟨rfl, rfl⟩) | (go_at_call 39; refine (refTri_any _ _).mono ?_; rintro _ _ ⟨rfl, rfl⟩))
                        go_ret
                        exact ⟨rfl, (unhide LL).below⟩
                      · go_wp2_with (first | (go_at_call 59; refine (said_any _ _).mono ?_; rintro _ _ ⟨rfl, rfl⟩) | (go_at_call 58; refine (oneOfThree_any _ _).mono ?_; rintro _ _ ⟨rfl, rfl⟩) | (go_at_call 39; refine (refTri_any _ _).mono ?_; rintro _ _ ⟨rfl, rfl⟩))
                        go_ret
                        exact ⟨rfl, (unhide LL).below⟩
                    · go_wp2_with (first | (go_at_call 59; refine (said_any _ _).mono ?_; rintro _ _ ⟨rfl, rfl⟩) | (go_at_call 58; refine (oneOfThree_any _ _).mono ?_; rintro _ _ ⟨rfl, rfl⟩) | (go_at_call 39; refine (refTri_any _ _).mono ?_; rintro _ _ ⟨rfl, rfl⟩))
                      go_ret
                      exact ⟨rfl, (unhide LL).below⟩
          · go_wp2_with (first | (go_at_call 59; refine (said_any _ _).mono ?_; rintro _ _ ⟨rfl, rfl⟩) | (go_at_call 58; refine (oneOfThree_any _ _).mono ?_; rintro _ _ ⟨rfl, rfl⟩) | (go_at_call 39; refine (refTri_any _ _).mono ?_; rintro _ _ ⟨rfl, rfl⟩))
            refine (unhide HSS _).mono ?_
            rintro _ w49 ⟨rfl, hb⟩
            clear f0 c0_0 c0_1 c0_2 c0_3 c0_4 c0_5 c0_6 c0_7 c0_8 c0_9 c0_10 c0_11 c0_12 c0_13 c0_14 c0_15 c0_16 c0_17
            replace LL := hide ((unhide LL).on hb)
            clear hb
            obtain ⟨f0, c0_0, c0_1, c0_2, c0_3, c0_4, c0_5, c0_6, c0_7, c0_8, c0_9, c0_10, c0_11, c0_12, c0_13, c0_14, c0_15, c0_16, c0_17⟩ := (unhide LL).one
            try dsimp only at f0 c0_0 c0_1 c0_2 c0_3 c0_4 c0_5 c0_6 c0_7 c0_8 c0_9 c0_10 c0_11 c0_12 c0_13 c0_14 c0_15 c0_16 c0_17
            cases ss
            · go_wp2_with (first | (go_at_call 59; refine (said_any _ _).mono ?_; rintro _ _ ⟨rfl, rfl⟩) | (go_at_call 58; refine (oneOfThree_any _ _).mono ?_; rintro _ _ ⟨rfl, rfl⟩) | (go_at_call 39; refine (refTri_any _ _).mono ?_; rintro _ _ ⟨rfl, rfl⟩))
              go_ret
              exact ⟨rfl, (unhide LL).below⟩
            · cases ta
              · go_wp2_with (first | (go_at_call 59; refine (said_any _ _).mono ?_; rintro _ _ ⟨rfl, rfl⟩) | (go_at_call 58; refine (oneOfThree_any _ _).mono ?_; rintro _ _ ⟨rfl, rfl⟩) | (go_at_call 39; refine (refTri_any _ _).mono ?_; rintro _ _ ⟨rfl, rfl⟩))
                go_ret
                exact ⟨rfl, (unhide LL).below⟩
              · cases te
                · go_wp2_with (first | (go_at_call 59; refine (said_any _ _).mono ?_; rintro _ _ ⟨rfl, rfl⟩) | (go_at_call 58; refine (oneOfThree_any _ _).mono ?_; rintro _ _ ⟨rfl, rfl⟩) | (go_at_call 39; refine (refTri_any _ _).mono ?_; rintro _ _ ⟨rfl, rfl⟩))
                  go_ret
                  exact ⟨rfl, (unhide LL).below⟩
                · cases tc
                  · go_wp2_with (first | (go_at_call 59; refine (said_any _ _).mono ?_; rintro _ _ ⟨rfl, rfl⟩) | (go_at_call 58; refine (oneOfThree_any _ _).mono ?_; rintro _ _ ⟨rfl, rfl⟩) | (go_at_call 39; refine (refTri_any _ _).mono ?_; rintro _ _ ⟨rfl, rfl⟩))
                    go_ret
                    exact ⟨rfl, (unhide LL).below⟩
                  · go_wp2_with (first | (go_at_call 59; refine (said_any _ _).mono ?_; rintro _ _ ⟨rfl, rfl⟩) | (go_at_call 58; refine (oneOfThree_any _ _).mono ?_; rintro _ _ ⟨rfl, rfl⟩) | (go_at_call 39; refine (refTri_any _ _).mono ?_; rintro _ _ ⟨rfl, rfl⟩))
                    refine (unhide HKV _).mono ?_
                    rintro _ w50 ⟨rfl, hb⟩
                    clear f0 c0_0 c0_1 c0_2 c0_3 c0_4 c0_5 c0_6 c0_7 c0_8 c0_9 c0_10 c0_11 c0_12 c0_13 c0_14 c0_15 c0_16 c0_17
                    replace LL := hide ((unhide LL).on hb)
                    clear hb
                    obtain ⟨f0, c0_0, c0_1, c0_2, c0_3, c0_4, c0_5, c0_6, c0_7, c0_8, c0_9, c0_10, c0_11, c0_12, c0_13, c0_14, c0_15, c0_16, c0_17⟩ := (unhide LL).one
                    try dsimp only at f0 c0_0 c0_1 c0_2 c0_3 c0_4 c0_5 c0_6 c0_7 c0_8 c0_9 c0_10 c0_11 c0_12 c0_13 c0_14 c0_15 c0_16 c0_17
                    cases kv
                    · cases qa
                      · go_wp2_with (first | (go_at_call 59; refine (said_any _ _).mono ?_; rintro _ _ ⟨rfl, rfl⟩) | (go_at_call 58; refine (oneOfThree_any _ _).mono ?_; rintro _ _ ⟨rfl, rfl⟩) | (go_at_call 39; refine (refTri_any _ _).mono ?_; rintro _ _ ⟨rfl, rfl⟩))
                        go_ret
                        exact ⟨rfl, (unhide LL).below⟩
                      · go_wp2_with (first | (go_at_call 59; refine (said_any _ _).mono ?_; rintro _ _ ⟨rfl, rfl⟩) | (go_at_call 58; refine (oneOfThree_any _ _).mono ?_; rintro _ _ ⟨rfl, rfl⟩) | (go_at_call 39; refine (refTri_any _ _).mono ?_; rintro _ _ ⟨rfl, rfl⟩))
                        refine (unhide HKG _).mono ?_
                        rintro _ w51 ⟨rfl, hb⟩
                        clear f0 c0_0 c0_1 c0_2 c0_3 c0_4 c0_5 c0_6 c0_7 c0_8 c0_9 c0_10 c0_11 c0_12 c0_13 c0_14 c0_15 c0_16 c0_17
                        replace LL := hide ((unhide LL).on hb)
                        clear hb
                        obtain ⟨f0, c0_0, c0_1, c0_2, c0_3, c0_4, c0_5, c0_6, c0_7, c0_8, c0_9, c0_10, c0_11, c0_12, c0_13, c0_14, c0_15, c0_16, c0_17⟩ := (unhide LL).one
                        try dsimp only at f0 c0_0 c0_1 c0_2 c0_3 c0_4 c0_5 c0_6 c0_7 c0_8 c0_9 c0_10 c0_11 c0_12 c0_13 c0_14 c0_15 c0_16 c0_17
                        cases kg
                        · go_wp2_with (first | (go_at_call 59; refine (said_any _ _).mono ?_; rintro _ _ ⟨rfl, rfl⟩) | (go_at_call 58; refine (oneOfThree_any _ _).mono ?_; rintro _ _ ⟨rfl, rfl⟩) | (go_at_call 39; refine (refTri_any _ _).mono ?_; rintro _ _ ⟨rfl, rfl⟩))
                          refine (unhide HKS _).mono ?_
                          rintro _ w52 ⟨rfl, hb⟩
                          clear f0 c0_0 c0_1 c0_2 c0_3 c0_4 c0_5 c0_6 c0_7 c0_8 c0_9 c0_10 c0_11 c0_12 c0_13 c0_14 c0_15 c0_16 c0_17
                          replace LL := hide ((unhide LL).on hb)
                          clear hb
                          obtain ⟨f0, c0_0, c0_1, c0_2, c0_3, c0_4, c0_5, c0_6, c0_7, c0_8, c0_9, c0_10, c0_11, c0_12, c0_13, c0_14, c0_15, c0_16, c0_17⟩ := (unhide LL).one
                          try dsimp only at f0 c0_0 c0_1 c0_2 c0_3 c0_4 c0_5 c0_6 c0_7 c0_8 c0_9 c0_10 c0_11 c0_12 c0_13 c0_14 c0_15 c0_16 c0_17
                          cases ks
                          · go_wp2_with (first | (go_at_call 59; refine (said_any _ _).mono ?_; rintro _ _ ⟨rfl, rfl⟩) | (go_at_call 58; refine (oneOfThree_any _ _).mono ?_; rintro _ _ ⟨rfl, rfl⟩) | (go_at_call 39; refine (refTri_any _ _).mono ?_; rintro _ _ ⟨rfl, rfl⟩))
                            go_ret
                            exact ⟨rfl, (unhide LL).below⟩
                          · go_wp2_with (first | (go_at_call 59; refine (said_any _ _).mono ?_; rintro _ _ ⟨rfl, rfl⟩) | (go_at_call 58; refine (oneOfThree_any _ _).mono ?_; rintro _ _ ⟨rfl, rfl⟩) | (go_at_call 39; refine (refTri_any _ _).mono ?_; rintro _ _ ⟨rfl, rfl⟩))
                            go_ret
                            exact ⟨rfl, (unhide LL).below⟩
                        · go_wp2_with (first | (go_at_call 59; refine (said_any _ _).mono ?_; rintro _ _ ⟨rfl, rfl⟩) | (go_at_call 58; refine (oneOfThree_any _ _).mono ?_; rintro _ _ ⟨rfl, rfl⟩) | (go_at_call 39; refine (refTri_any _ _).mono ?_; rintro _ _ ⟨rfl, rfl⟩))
                          go_ret
                          exact ⟨rfl, (unhide LL).below⟩
                    · go_wp2_with (first | (go_at_call 59; refine (said_any _ _).mono ?_; rintro _ _ ⟨rfl, rfl⟩) | (go_at_call 58; refine (oneOfThree_any _ _).mono ?_; rintro _ _ ⟨rfl, rfl⟩) | (go_at_call 39; refine (refTri_any _ _).mono ?_; rintro _ _ ⟨rfl, rfl⟩))
                      refine (unhide HKG _).mono ?_
                      rintro _ w53 ⟨rfl, hb⟩
                      clear f0 c0_0 c0_1 c0_2 c0_3 c0_4 c0_5 c0_6 c0_7 c0_8 c0_9 c0_10 c0_11 c0_12 c0_13 c0_14 c0_15 c0_16 c0_17
                      replace LL := hide ((unhide LL).on hb)
                      clear hb
                      obtain ⟨f0, c0_0, c0_1, c0_2, c0_3, c0_4, c0_5, c0_6, c0_7, c0_8, c0_9, c0_10, c0_11, c0_12, c0_13, c0_14, c0_15, c0_16, c0_17⟩ := (unhide LL).one
                      try dsimp only at f0 c0_0 c0_1 c0_2 c0_3 c0_4 c0_5 c0_6 c0_7 c0_8 c0_9 c0_10 c0_11 c0_12 c0_13 c0_14 c0_15 c0_16 c0_17
                      cases kg
                      · go_wp2_with (first | (go_at_call 59; refine (said_any _ _).mono ?_; rintro _ _ ⟨rfl, rfl⟩) | (go_at_call 58; refine (oneOfThree_any _ _).mono ?_; rintro _ _ ⟨rfl, rfl⟩) | (go_at_call 39; refine (refTri_any _ _).mono ?_; rintro _ _ ⟨rfl, rfl⟩))
                        refine (unhide HKS _).mono ?_
                        rintro _ w54 ⟨rfl, hb⟩
                        clear f0 c0_0 c0_1 c0_2 c0_3 c0_4 c0_5 c0_6 c0_7 c0_8 c0_9 c0_10 c0_11 c0_12 c0_13 c0_14 c0_15 c0_16 c0_17
                        replace LL := hide ((unhide LL).on hb)
                        clear hb
                        obtain ⟨f0, c0_0, c0_1, c0_2, c0_3, c0_4, c0_5, c0_6, c0_7, c0_8, c0_9, c0_10, c0_11, c0_12, c0_13, c0_14, c0_15, c0_16, c0_17⟩ := (unhide LL).one
                        try dsimp only at f0 c0_0 c0_1 c0_2 c0_3 c0_4 c0_5 c0_6 c0_7 c0_8 c0_9 c0_10 c0_11 c0_12 c0_13 c0_14 c0_15 c0_16 c0_17
                        cases ks
                        · go_wp2_with (first | (go_at_call 59; refine (said_any _ _).mono ?_; rintro _ _ ⟨rfl, rfl⟩) | (go_at_call 58; refine (oneOfThree_any _ _).mono ?_; rintro _ _ ⟨rfl, rfl⟩) | (go_at_call 39; refine (refTri_any _ _).mono ?_; rintro _ _ ⟨rfl, rfl⟩))
                          go_ret
                          exact ⟨rfl, (unhide LL).below⟩
                        · go_wp2_with (first | (go_at_call 59; refine (said_any _ _).mono ?_; rintro _ _ ⟨rfl, rfl⟩) | (go_at_call 58; refine (oneOfThree_any _ _).mono ?_; rintro _ _ ⟨rfl, rfl⟩) | (go_at_call 39; refine (refTri_any _ _).mono ?_; rintro _ _ ⟨rfl, rfl⟩))
                          go_ret
                          exact ⟨rfl, (unhide LL).below⟩
                      · go_wp2_with (first | (go_at_call 59; refine (said_any _ _).mono ?_; rintro _ _ ⟨rfl, rfl⟩) | (go_at_call 58; refine (oneOfThree_any _ _).mono ?_; rintro _ _ ⟨rfl, rfl⟩) | (go_at_call 39; refine (refTri_any _ _).mono ?_; rintro _ _ ⟨rfl, rfl⟩))
                        go_ret
                        exact ⟨rfl, (unhide LL).below⟩
end Go.Proofs.YteohiamifoonkaaDoor
