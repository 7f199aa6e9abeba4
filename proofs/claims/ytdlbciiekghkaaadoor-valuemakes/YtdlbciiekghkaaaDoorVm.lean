import Derived.Test.YtdlbciiekghkaaaDoorVl
namespace Go.Proofs.YtdlbciiekghkaaaDoor
open Go.RowKit FM
attribute [local go_sem] bits_run run_store_float
theorem bt {w w1 w2 : World} (h : Below w.heap.size w w1) (k : Below w1.heap.size w1 w2) : Below w.heap.size w w2 := h.trans (k.mono h.size)
set_option maxHeartbeats 4000000 in
set_option maxRecDepth 100000 in
theorem law_holds (a b : VV) (hx : a.x < 2 ^ 64) (hy : b.x < 2 ^ 64) (w : World) (hT : Lib.Utf8Tabs 1 2 w) :
    Calls Tryd.prog 4 #[a.agg, b.agg] w fun e w' => e = .returned (.bool true) ∧ Below w.heap.size w w' := by
  have HT := hide hT
  have H1 := hide (valueSame_any a b)
  have H2 := hide (valueSameZero_any a b hx hy)
  have H3 := hide (valueStrict_any a b hx hy)
  have H4 := hide (truth_any a hx)
  have H5 := hide (refGood_any a hx)
  have H6 := hide (refGood_any b hy)
  have H7 := hide (refIs_any a b hx hy)
  have H8 := hide (refZero_any a b hx hy)
  have H9 := hide (refEqual_any a b hx hy)
  have HK : a.good = true → 1 ≤ a.k := fun h => by
    rcases good_cases h with ⟨h, -⟩ | ⟨h, -⟩ | ⟨h, -⟩ | ⟨h, -⟩ | ⟨h, -⟩ | ⟨h, -⟩ | ⟨h, -⟩ <;> omega
  have H10 := hide (fun h => refTruth_any a hx (HK h))
  clear hT hx hy HK
  unfold okE at *
  generalize alikeV sameV a b = r1 at *
  generalize alikeV same0V a b = r2 at *
  generalize alikeV equalV a b = r3 at *
  generalize truV a = r4 at *
  generalize a.good = ga at *
  generalize b.good = gb at *
  obtain ⟨k, c, x, s, i⟩ := a
  obtain ⟨k', c', x', s', i'⟩ := b
  unfold VV.agg at *
  dsimp only at *
  have e0 : errB true = 0 := rfl
  have e5 : errB false = 5 := rfl
  cases ga
  · clear H6 H7 H8 H9 H10
    simp only [Bool.false_and, e5] at H1 H2 H3 H4
    clear e0 e5
    go_enter Tryd.func4, Tryd.ntmps4
    go_wp2_with fail
    refine (unhide H1 _ (tabs_below (unhide HT) (below2 w _ _))).mono ?_
    rintro e w1 ⟨rfl, hb⟩
    have hB1 := (below2 w _ _).trans (hb.mono (by simp; omega))
    have F1 := five_below (five_new _ (w.heap.size + 1) _ _ _ _ _ _ (by simp)) hb
    have G1 := five_below (five_alloc (five_new w _ _ _ _ _ _ _ rfl) _) hb
    clear hb H1
    have F := F1
    have G := G1
    obtain ⟨f0, f1, f2, f3, f4, ff, fl⟩ := F
    obtain ⟨g0, g1, g2, g3, g4, gf, gl⟩ := G
    go_wp2_with fail
    refine (unhide H2 _ (tabs_below (unhide HT) hB1)).mono ?_
    rintro e w2 ⟨rfl, hb⟩
    have hB2 := bt hB1 hb
    have F2 := five_below F1 hb
    have G2 := five_below G1 hb
    clear hb H2 F1 G1 hB1 f0 f1 f2 f3 f4 ff fl g0 g1 g2 g3 g4 gf gl w1
    have F := F2
    have G := G2
    obtain ⟨f0, f1, f2, f3, f4, ff, fl⟩ := F
    obtain ⟨g0, g1, g2, g3, g4, gf, gl⟩ := G
    go_wp2_with fail
    refine (unhide H3 _ (tabs_below (unhide HT) hB2)).mono ?_
    rintro e w3 ⟨rfl, hb⟩
    have hB3 := bt hB2 hb
    have F3 := five_below F2 hb
    have G3 := five_below G2 hb
    clear hb H3 F2 G2 hB2 f0 f1 f2 f3 f4 ff fl g0 g1 g2 g3 g4 gf gl w2
    have F := F3
    have G := G3
    obtain ⟨f0, f1, f2, f3, f4, ff, fl⟩ := F
    obtain ⟨g0, g1, g2, g3, g4, gf, gl⟩ := G
    go_wp2_with fail
    refine (unhide H4 _ (tabs_below (unhide HT) hB3)).mono ?_
    rintro e w4 ⟨rfl, hb⟩
    have hB4 := bt hB3 hb
    have F4 := five_below F3 hb
    have G4 := five_below G3 hb
    clear hb H4 F3 G3 hB3 f0 f1 f2 f3 f4 ff fl g0 g1 g2 g3 g4 gf gl w3
    have F := F4
    have G := G4
    obtain ⟨f0, f1, f2, f3, f4, ff, fl⟩ := F
    obtain ⟨g0, g1, g2, g3, g4, gf, gl⟩ := G
    go_wp2_with fail
    refine (unhide H5 _).mono ?_
    rintro e w5 ⟨rfl, hb⟩
    have hB5 := bt hB4 hb
    have F5 := five_below F4 hb
    have G5 := five_below G4 hb
    clear hb H5 F4 G4 hB4 f0 f1 f2 f3 f4 ff fl g0 g1 g2 g3 g4 gf gl w4
    go_wp2
    go_ret
    exact ⟨rfl, hB5⟩
  · have H10' := hide (unhide H10 rfl)
    clear H10
    cases gb
    · clear H7 H8 H9
      simp only [Bool.and_false, Bool.false_and, Bool.true_and, e0, e5] at H1 H2 H3 H4
      clear e0 e5
      cases r4
      all_goals
        go_enter Tryd.func4, Tryd.ntmps4
        go_wp2_with fail
        refine (unhide H1 _ (tabs_below (unhide HT) (below2 w _ _))).mono ?_
        rintro e w1 ⟨rfl, hb⟩
        have hB1 := (below2 w _ _).trans (hb.mono (by simp; omega))
        have F1 := five_below (five_new _ (w.heap.size + 1) _ _ _ _ _ _ (by simp)) hb
        have G1 := five_below (five_alloc (five_new w _ _ _ _ _ _ _ rfl) _) hb
        clear hb H1
        have F := F1
        have G := G1
        obtain ⟨f0, f1, f2, f3, f4, ff, fl⟩ := F
        obtain ⟨g0, g1, g2, g3, g4, gf, gl⟩ := G
        go_wp2_with fail
        refine (unhide H2 _ (tabs_below (unhide HT) hB1)).mono ?_
        rintro e w2 ⟨rfl, hb⟩
        have hB2 := bt hB1 hb
        have F2 := five_below F1 hb
        have G2 := five_below G1 hb
        clear hb H2 F1 G1 hB1 f0 f1 f2 f3 f4 ff fl g0 g1 g2 g3 g4 gf gl w1
        have F := F2
        have G := G2
        obtain ⟨f0, f1, f2, f3, f4, ff, fl⟩ := F
        obtain ⟨g0, g1, g2, g3, g4, gf, gl⟩ := G
        go_wp2_with fail
        refine (unhide H3 _ (tabs_below (unhide HT) hB2)).mono ?_
        rintro e w3 ⟨rfl, hb⟩
        have hB3 := bt hB2 hb
        have F3 := five_below F2 hb
        have G3 := five_below G2 hb
        clear hb H3 F2 G2 hB2 f0 f1 f2 f3 f4 ff fl g0 g1 g2 g3 g4 gf gl w2
        have F := F3
        have G := G3
        obtain ⟨f0, f1, f2, f3, f4, ff, fl⟩ := F
        obtain ⟨g0, g1, g2, g3, g4, gf, gl⟩ := G
        go_wp2_with fail
        refine (unhide H4 _ (tabs_below (unhide HT) hB3)).mono ?_
        rintro e w4 ⟨rfl, hb⟩
        have hB4 := bt hB3 hb
        have F4 := five_below F3 hb
        have G4 := five_below G3 hb
        clear hb H4 F3 G3 hB3 f0 f1 f2 f3 f4 ff fl g0 g1 g2 g3 g4 gf gl w3
        have F := F4
        have G := G4
        obtain ⟨f0, f1, f2, f3, f4, ff, fl⟩ := F
        obtain ⟨g0, g1, g2, g3, g4, gf, gl⟩ := G
        go_wp2_with fail
        refine (unhide H5 _).mono ?_
        rintro e w5 ⟨rfl, hb⟩
        have hB5 := bt hB4 hb
        have F5 := five_below F4 hb
        have G5 := five_below G4 hb
        clear hb H5 F4 G4 hB4 f0 f1 f2 f3 f4 ff fl g0 g1 g2 g3 g4 gf gl w4
        have F := F5
        have G := G5
        obtain ⟨f0, f1, f2, f3, f4, ff, fl⟩ := F
        obtain ⟨g0, g1, g2, g3, g4, gf, gl⟩ := G
        go_wp2_with fail
        refine (unhide H10' _).mono ?_
        rintro e w6 ⟨rfl, hb⟩
        have hB6 := bt hB5 hb
        have F6 := five_below F5 hb
        have G6 := five_below G5 hb
        clear hb H10' F5 G5 hB5 f0 f1 f2 f3 f4 ff fl g0 g1 g2 g3 g4 gf gl w5
        have F := F6
        have G := G6
        obtain ⟨f0, f1, f2, f3, f4, ff, fl⟩ := F
        obtain ⟨g0, g1, g2, g3, g4, gf, gl⟩ := G
        go_wp2_with fail
        refine (unhide H6 _).mono ?_
        rintro e w7 ⟨rfl, hb⟩
        have hB7 := bt hB6 hb
        have F7 := five_below F6 hb
        have G7 := five_below G6 hb
        clear hb H6 F6 G6 hB6 f0 f1 f2 f3 f4 ff fl g0 g1 g2 g3 g4 gf gl w6
        go_wp2
        go_ret
        exact ⟨rfl, hB7⟩
    · simp only [Bool.true_and, e0] at H1 H2 H3 H4
      clear e0 e5
      cases r4
      all_goals
        go_enter Tryd.func4, Tryd.ntmps4
        go_wp2_with fail
        refine (unhide H1 _ (tabs_below (unhide HT) (below2 w _ _))).mono ?_
        rintro e w1 ⟨rfl, hb⟩
        have hB1 := (below2 w _ _).trans (hb.mono (by simp; omega))
        have F1 := five_below (five_new _ (w.heap.size + 1) _ _ _ _ _ _ (by simp)) hb
        have G1 := five_below (five_alloc (five_new w _ _ _ _ _ _ _ rfl) _) hb
        clear hb H1
        have F := F1
        have G := G1
        obtain ⟨f0, f1, f2, f3, f4, ff, fl⟩ := F
        obtain ⟨g0, g1, g2, g3, g4, gf, gl⟩ := G
        go_wp2_with fail
        refine (unhide H2 _ (tabs_below (unhide HT) hB1)).mono ?_
        rintro e w2 ⟨rfl, hb⟩
        have hB2 := bt hB1 hb
        have F2 := five_below F1 hb
        have G2 := five_below G1 hb
        clear hb H2 F1 G1 hB1 f0 f1 f2 f3 f4 ff fl g0 g1 g2 g3 g4 gf gl w1
        have F := F2
        have G := G2
        obtain ⟨f0, f1, f2, f3, f4, ff, fl⟩ := F
        obtain ⟨g0, g1, g2, g3, g4, gf, gl⟩ := G
        go_wp2_with fail
        refine (unhide H3 _ (tabs_below (unhide HT) hB2)).mono ?_
        rintro e w3 ⟨rfl, hb⟩
        have hB3 := bt hB2 hb
        have F3 := five_below F2 hb
        have G3 := five_below G2 hb
        clear hb H3 F2 G2 hB2 f0 f1 f2 f3 f4 ff fl g0 g1 g2 g3 g4 gf gl w2
        have F := F3
        have G := G3
        obtain ⟨f0, f1, f2, f3, f4, ff, fl⟩ := F
        obtain ⟨g0, g1, g2, g3, g4, gf, gl⟩ := G
        go_wp2_with fail
        refine (unhide H4 _ (tabs_below (unhide HT) hB3)).mono ?_
        rintro e w4 ⟨rfl, hb⟩
        have hB4 := bt hB3 hb
        have F4 := five_below F3 hb
        have G4 := five_below G3 hb
        clear hb H4 F3 G3 hB3 f0 f1 f2 f3 f4 ff fl g0 g1 g2 g3 g4 gf gl w3
        have F := F4
        have G := G4
        obtain ⟨f0, f1, f2, f3, f4, ff, fl⟩ := F
        obtain ⟨g0, g1, g2, g3, g4, gf, gl⟩ := G
        go_wp2_with fail
        refine (unhide H5 _).mono ?_
        rintro e w5 ⟨rfl, hb⟩
        have hB5 := bt hB4 hb
        have F5 := five_below F4 hb
        have G5 := five_below G4 hb
        clear hb H5 F4 G4 hB4 f0 f1 f2 f3 f4 ff fl g0 g1 g2 g3 g4 gf gl w4
        have F := F5
        have G := G5
        obtain ⟨f0, f1, f2, f3, f4, ff, fl⟩ := F
        obtain ⟨g0, g1, g2, g3, g4, gf, gl⟩ := G
        go_wp2_with fail
        refine (unhide H10' _).mono ?_
        rintro e w6 ⟨rfl, hb⟩
        have hB6 := bt hB5 hb
        have F6 := five_below F5 hb
        have G6 := five_below G5 hb
        clear hb H10' F5 G5 hB5 f0 f1 f2 f3 f4 ff fl g0 g1 g2 g3 g4 gf gl w5
        have F := F6
        have G := G6
        obtain ⟨f0, f1, f2, f3, f4, ff, fl⟩ := F
        obtain ⟨g0, g1, g2, g3, g4, gf, gl⟩ := G
        go_wp2_with fail
        refine (unhide H6 _).mono ?_
        rintro e w7 ⟨rfl, hb⟩
        have hB7 := bt hB6 hb
        have F7 := five_below F6 hb
        have G7 := five_below G6 hb
        clear hb H6 F6 G6 hB6 f0 f1 f2 f3 f4 ff fl g0 g1 g2 g3 g4 gf gl w6
        have F := F7
        have G := G7
        obtain ⟨f0, f1, f2, f3, f4, ff, fl⟩ := F
        obtain ⟨g0, g1, g2, g3, g4, gf, gl⟩ := G
        go_wp2_with fail
        refine (unhide H7 _).mono ?_
        rintro e w8 ⟨rfl, hb⟩
        have hB8 := bt hB7 hb
        have F8 := five_below F7 hb
        have G8 := five_below G7 hb
        clear hb H7 F7 G7 hB7 f0 f1 f2 f3 f4 ff fl g0 g1 g2 g3 g4 gf gl w7
        have F := F8
        have G := G8
        obtain ⟨f0, f1, f2, f3, f4, ff, fl⟩ := F
        obtain ⟨g0, g1, g2, g3, g4, gf, gl⟩ := G
        go_wp2_with fail
        refine (unhide H8 _).mono ?_
        rintro e w9 ⟨rfl, hb⟩
        have hB9 := bt hB8 hb
        have F9 := five_below F8 hb
        have G9 := five_below G8 hb
        clear hb H8 F8 G8 hB8 f0 f1 f2 f3 f4 ff fl g0 g1 g2 g3 g4 gf gl w8
        have F := F9
        have G := G9
        obtain ⟨f0, f1, f2, f3, f4, ff, fl⟩ := F
        obtain ⟨g0, g1, g2, g3, g4, gf, gl⟩ := G
        go_wp2_with fail
        refine (unhide H9 _).mono ?_
        rintro e w10 ⟨rfl, hb⟩
        have hB10 := bt hB9 hb
        have F10 := five_below F9 hb
        have G10 := five_below G9 hb
        clear hb H9 F9 G9 hB9 f0 f1 f2 f3 f4 ff fl g0 g1 g2 g3 g4 gf gl w9
        go_wp2
        go_ret
        exact ⟨by simp, hB10⟩
end Go.Proofs.YtdlbciiekghkaaaDoor
