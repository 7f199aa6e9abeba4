import Derived.Test.YtdlbciiekghkaaaDoorVq
namespace Go.Proofs.YtdlbciiekghkaaaDoor
open Go.RowKit FM
attribute [local go_sem] run_store_float
set_option maxRecDepth 100000 in
theorem law_must_ok (v : VV) (hg : v.good = true) (hx : v.x < 2 ^ 64) (w : World) (hT : Lib.Utf8Tabs 1 2 w) :
    Calls Tryd.prog 5 #[.int .i64 v.k, v.agg] w fun e w' => e = .returned (.bool true) ∧ Below w.heap.size w w' := by
  have HM := hide (try_ok v hg)
  have HG := hide (refGood_any v hx)
  have HE := hide (eq_any v v)
  have he : eqB v v = true := by unfold eqB; simp
  rw [he] at HE
  rw [hg] at HG
  have hk : v.k ≠ 0 := by
    rcases good_cases hg with ⟨h, -⟩ | ⟨h, -⟩ | ⟨h, -⟩ | ⟨h, -⟩ | ⟨h, -⟩ | ⟨h, -⟩ | ⟨h, -⟩ <;> omega
  have HT := hide hT
  clear hg hT hx he
  obtain ⟨k', b, x, s, i⟩ := v
  unfold VV.agg at *
  dsimp only at *
  go_enter Tryd.func5, Tryd.ntmps5
  go_wp2_with fail
  refine (unhide HM _ (tabs_below (unhide HT) ((Below.refl _ _).alloc (Nat.le_refl _) _))).mono ?_
  rintro e w1 ⟨rfl, hb⟩
  have hB1 := ((Below.refl w.heap.size w).alloc (Nat.le_refl _) _).trans (hb.mono (by simp))
  have F1 := five_below (five_new w _ _ _ _ _ _ _ rfl) hb
  have F1' := F1
  obtain ⟨f0, f1, f2, f3, f4, ff, fl⟩ := F1'
  clear hb HM HT
  have hk1 : (k' == 0) = false := by rw [beq_eq_false_iff_ne]; exact hk
  have hk2 : (k' != 0) = true := by rw [bne, hk1]; rfl
  clear hk
  go_wp2_with fail
  refine (unhide HG _).mono ?_
  rintro e w2 ⟨rfl, hb⟩
  have hB2 := (hB1.alloc hB1.size _).trans (hb.mono (by simp; have := hB1.size; omega))
  obtain ⟨g0, g1, g2, g3, g4, gf, gl⟩ := five_below (five_new w1 _ _ _ _ _ _ _ rfl) hb
  have F2 := five_below (five_alloc F1 _) hb
  clear f0 f1 f2 f3 f4 ff fl F1 hb HG
  obtain ⟨f0, f1, f2, f3, f4, ff, fl⟩ := F2
  go_wp2_with fail
  refine (unhide HE _).mono ?_
  rintro e w3 ⟨rfl, hb⟩
  go_wp2
  go_ret
  exact ⟨rfl, hB2.trans (hb.mono hB2.size)⟩
set_option maxRecDepth 100000 in
theorem law_must_bad (k : Int) (v : VV) (hg : v.good = false) (hx : v.x < 2 ^ 64) (w : World) (hT : Lib.Utf8Tabs 1 2 w) :
    Calls Tryd.prog 5 #[.int .i64 k, v.agg] w fun e w' => e = .returned (.bool true) ∧ Below w.heap.size w w' := by
  have HM := hide (try_panic k v 0 (hide (must_bad v hg k)))
  have HG := hide (refGood_any v hx)
  rw [hg] at HG
  have HT := hide hT
  clear hg hT hx
  obtain ⟨k', b, x, s, i⟩ := v
  unfold Told VV.agg at *
  dsimp only at *
  go_enter Tryd.func5, Tryd.ntmps5
  go_wp2_with fail
  refine (unhide HM _ (tabs_below (unhide HT) ((Below.refl _ _).alloc (Nat.le_refl _) _))).mono ?_
  rintro e w1 ⟨B, ⟨rfl, cw, cg⟩, hBl, hb⟩
  have hB1 := ((Below.refl w.heap.size w).alloc (Nat.le_refl _) _).trans (hb.mono (by simp))
  have F1 := five_below (five_new w _ _ _ _ _ _ _ rfl) hb
  obtain ⟨f0, f1, f2, f3, f4, ff, fl⟩ := F1
  clear hb HM HT
  go_wp2_with fail
  refine (unhide HG _).mono ?_
  rintro e w2 ⟨rfl, hb⟩
  have hB2 := (hB1.alloc hB1.size _).trans (hb.mono (by simp; have := hB1.size; omega))
  have hBw := ((Below.refl w1.heap.size w1).alloc (Nat.le_refl _) _).trans (hb.mono (by simp))
  have cw2 := (hBw.cell (p := ⟨B, 0, none⟩) hBl).trans cw
  have cg2 := (hBw.cell (p := ⟨B, 1, none⟩) hBl).trans cg
  clear f0 f1 f2 f3 f4 ff fl hb HG hBw cw cg hB1
  go_wp2
  go_ret
  exact ⟨rfl, hB2⟩
set_option maxRecDepth 100000 in
theorem law_must_kind (k : Int) (v : VV) (hg : v.good = true) (hkk : k ≠ v.k) (hx : v.x < 2 ^ 64) (w : World) (hT : Lib.Utf8Tabs 1 2 w) :
    Calls Tryd.prog 5 #[.int .i64 k, v.agg] w fun e w' => e = .returned (.bool true) ∧ Below w.heap.size w w' := by
  have HM := hide (try_panic k v v.k (hide (must_kind v hg k hkk)))
  have HG := hide (refGood_any v hx)
  have hk : v.k ≠ 0 := by
    rcases good_cases hg with ⟨h, -⟩ | ⟨h, -⟩ | ⟨h, -⟩ | ⟨h, -⟩ | ⟨h, -⟩ | ⟨h, -⟩ | ⟨h, -⟩ <;> omega
  rw [hg] at HG
  have HT := hide hT
  clear hg hT hx
  obtain ⟨k', b, x, s, i⟩ := v
  unfold Told VV.agg at *
  dsimp only at *
  have hk1 : (k' == 0) = false := by rw [beq_eq_false_iff_ne]; exact hk
  have hk2 : (k' != 0) = true := by rw [bne, hk1]; rfl
  have hk3 : (k' == k) = false := by rw [beq_eq_false_iff_ne]; exact fun e => hkk e.symm
  clear hk hkk
  go_enter Tryd.func5, Tryd.ntmps5
  go_wp2_with fail
  refine (unhide HM _ (tabs_below (unhide HT) ((Below.refl _ _).alloc (Nat.le_refl _) _))).mono ?_
  rintro e w1 ⟨B, ⟨rfl, cw, cg⟩, hBl, hb⟩
  have hB1 := ((Below.refl w.heap.size w).alloc (Nat.le_refl _) _).trans (hb.mono (by simp))
  have F1 := five_below (five_new w _ _ _ _ _ _ _ rfl) hb
  have F1' := F1
  obtain ⟨f0, f1, f2, f3, f4, ff, fl⟩ := F1'
  clear hb HM HT
  go_wp2_with fail
  refine (unhide HG _).mono ?_
  rintro e w2 ⟨rfl, hb⟩
  have hB2 := (hB1.alloc hB1.size _).trans (hb.mono (by simp; have := hB1.size; omega))
  have hBw := ((Below.refl w1.heap.size w1).alloc (Nat.le_refl _) _).trans (hb.mono (by simp))
  have F2 := five_below (five_alloc F1 _) hb
  have cw2 := (hBw.cell (p := ⟨B, 0, none⟩) hBl).trans cw
  have cg2 := (hBw.cell (p := ⟨B, 1, none⟩) hBl).trans cg
  clear f0 f1 f2 f3 f4 ff fl hb HG hBw cw cg hB1 F1
  obtain ⟨f0, f1, f2, f3, f4, ff, fl⟩ := F2
  go_wp2
  go_ret
  exact ⟨rfl, hB2⟩
theorem law_must (k : Int) (v : VV) (hx : v.x < 2 ^ 64) (w : World) (hT : Lib.Utf8Tabs 1 2 w) :
    Calls Tryd.prog 5 #[.int .i64 k, v.agg] w fun e w' => e = .returned (.bool true) ∧ Below w.heap.size w w' := by
  cases hg : v.good
  · exact law_must_bad k v hg hx w hT
  · by_cases hk : k = v.k
    · subst hk
      exact law_must_ok v hg hx w hT
    · exact law_must_kind k v hg hk hx w hT
end Go.Proofs.YtdlbciiekghkaaaDoor
