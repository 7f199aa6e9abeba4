import Derived.Test.YtdlbciiekghkaaaDoorVi
namespace Go.Proofs.YtdlbciiekghkaaaDoor
open Go.RowKit FM
attribute [local go_sem] bits_run run_store_float
theorem truthy_good (v : VV) (h : v.good = true) (hx : v.x < 2 ^ 64) (w : World) : Calls Tryd.prog 39 #[v.ifc] w fun e w' => e = .returned (.bool (truV v)) ∧ Below w.heap.size w w' := by
  obtain ⟨k, b, x, s, i⟩ := v
  rcases good_cases h with ⟨rfl, rfl, rfl, rfl, rfl⟩ | ⟨rfl, rfl, rfl, rfl, rfl⟩ | ⟨rfl, rfl, rfl, rfl⟩ | ⟨rfl, rfl, rfl, rfl⟩ | ⟨rfl, rfl, rfl, rfl, hs⟩ | ⟨rfl, rfl, rfl, rfl, -, -⟩ | ⟨rfl, rfl, rfl, rfl, -, -⟩
  · exact t1 w
  · exact t2 w
  · exact t3 b w
  · exact t4 x hx w
  · exact t5 s w
  · exact t67 81 _ (by simp) (by simp) (by simp) (by simp) (by simp) w
  · exact t67 82 _ (by simp) (by simp) (by simp) (by simp) (by simp) w
def okE (g : Bool) (r : Bool) : Value := .tuple #[.bool (g && r), .int .i64 (errB g)]
theorem truth_any (v : VV) (hx : v.x < 2 ^ 64) (w : World) (hT : Lib.Utf8Tabs 1 2 w) : Calls Tryd.prog 21 #[v.agg] w fun e w' => e = .returned (okE v.good (truV v)) ∧ Below w.heap.size w w' := by
  have HT := hide hT
  clear hT
  cases hg : v.good
  · have HI := hide (fun w hT => inside_bad v hg w hT)
    clear hg
    generalize truV v = r
    obtain ⟨k, b, x, s, i⟩ := v
    unfold VV.agg at *
    dsimp only at *
    go_enter Tryd.func21, Tryd.ntmps21
    go_wp2_with fail
    refine (unhide HI _ (tabs_below (unhide HT) ((Below.refl _ _).alloc (Nat.le_refl _) _))).mono ?_
    rintro e w1 ⟨rfl, hb⟩
    go_wp2
    go_ret2
    exact ⟨rfl, ((Below.refl _ _).alloc (Nat.le_refl _) _).trans (hb.mono (by simp))⟩
  · have HI := hide (fun w hT => inside_good v hg w hT)
    have HO := hide (fun w => truthy_good v hg hx w)
    clear hg hx
    generalize truV v = r at *
    generalize v.ifc = f at *
    obtain ⟨k, b, x, s, i⟩ := v
    unfold VV.agg at *
    dsimp only at *
    go_enter Tryd.func21, Tryd.ntmps21
    go_wp2_with fail
    refine (unhide HI _ (tabs_below (unhide HT) ((Below.refl _ _).alloc (Nat.le_refl _) _))).mono ?_
    rintro e w1 ⟨rfl, hb⟩
    have hB := ((Below.refl w.heap.size w).alloc (Nat.le_refl _) _).trans (hb.mono (by simp))
    clear hb
    go_wp2_with fail
    refine (unhide HO _).mono ?_
    rintro e w2 ⟨rfl, hb⟩
    go_wp2
    go_ret2
    exact ⟨by simp [okE, errB], hB.trans (hb.mono hB.size)⟩
/-- hold, for each of the three ways: what alike answers, where both are well formed. -/
theorem hold_any (f : FuncId) (cmp : Nat → Nat → Bool) (a b : VV)
    (hn : ∀ w, Calls Tryd.prog 52 #[.iface 59 (.float .f64 a.x), .iface 59 (.float .f64 b.x), .func (.func f) #[] #[]] w fun e w' => e = .returned (.bool (cmp a.x b.x)) ∧ Below w.heap.size w w') (w : World) (hT : Lib.Utf8Tabs 1 2 w) :
    Calls Tryd.prog 35 #[a.agg, b.agg, .func (.func f) #[] #[]] w fun e w' => e = .returned (okE (a.good && b.good) (alikeV cmp a b)) ∧ Below w.heap.size w w' := by
  have HT := hide hT
  clear hT
  have HI := hide (inside_any a.k a.b a.x a.s a.i)
  have HJ := hide (inside_any b.k b.b b.x b.s b.i)
  have HA := hide (fun ha hb => alike_good f cmp a b ha hb hn)
  clear hn
  have e1 : goodV a.k a.b a.x a.s a.i = a.good := rfl
  have e2 : goodV b.k b.b b.x b.s b.i = b.good := rfl
  rw [e1] at HI
  rw [e2] at HJ
  cases hg : a.good
  · rw [hg] at HI
    generalize ifcV ⟨a.k, a.b, a.x, a.s, a.i⟩ = fa at *
    generalize ifcV ⟨b.k, b.b, b.x, b.s, b.i⟩ = fb at *
    generalize b.good = gb at *
    clear HA e1 e2 hg
    generalize alikeV cmp a b = r
    obtain ⟨k, c, x, s, i⟩ := a
    obtain ⟨k', c', x', s', i'⟩ := b
    unfold VV.agg at *
    dsimp only at *
    cases gb
    all_goals
      go_enter Tryd.func35, Tryd.ntmps35
      go_wp2_with fail
      refine (unhide HI _ (tabs_below (unhide HT) (below2 w _ _))).mono ?_
      rintro e w1 ⟨rfl, hb⟩
      have hB := (below2 w _ _).trans (hb.mono (by simp; omega))
      obtain ⟨r0, r1, r2, r3, r4, rf, rl⟩ := five_below (five_new _ (w.heap.size + 1) _ _ _ _ _ _ (by simp)) hb
      clear hb
      go_wp2_with fail
      refine (unhide HJ _ (tabs_below (unhide HT) hB)).mono ?_
      rintro e w2 ⟨rfl, hb⟩
      go_wp2
      go_ret2
      exact ⟨by simp [okE, errB], hB.trans (hb.mono hB.size)⟩
  · rw [hg, ifcV_good (v := ⟨a.k, a.b, a.x, a.s, a.i⟩) hg] at HI
    have e3 : VV.ifc ⟨a.k, a.b, a.x, a.s, a.i⟩ = a.ifc := rfl
    rw [e3] at HI
    cases hh : b.good
    · rw [hh] at HJ
      generalize ifcV ⟨b.k, b.b, b.x, b.s, b.i⟩ = fb at *
      clear HA e1 e2 e3 hg hh
      generalize alikeV cmp a b = r
      generalize a.ifc = fa at *
      obtain ⟨k, c, x, s, i⟩ := a
      obtain ⟨k', c', x', s', i'⟩ := b
      unfold VV.agg at *
      dsimp only at *
      go_enter Tryd.func35, Tryd.ntmps35
      go_wp2_with fail
      refine (unhide HI _ (tabs_below (unhide HT) (below2 w _ _))).mono ?_
      rintro e w1 ⟨rfl, hb⟩
      have hB := (below2 w _ _).trans (hb.mono (by simp; omega))
      obtain ⟨r0, r1, r2, r3, r4, rf, rl⟩ := five_below (five_new _ (w.heap.size + 1) _ _ _ _ _ _ (by simp)) hb
      clear hb
      go_wp2_with fail
      refine (unhide HJ _ (tabs_below (unhide HT) hB)).mono ?_
      rintro e w2 ⟨rfl, hb⟩
      go_wp2
      go_ret2
      exact ⟨by simp [okE, errB], hB.trans (hb.mono hB.size)⟩
    · rw [hh, ifcV_good (v := ⟨b.k, b.b, b.x, b.s, b.i⟩) hh] at HJ
      have e4 : VV.ifc ⟨b.k, b.b, b.x, b.s, b.i⟩ = b.ifc := rfl
      rw [e4] at HJ
      have HA' := hide (unhide HA hg hh)
      clear HA e1 e2 e3 e4 hg hh
      generalize alikeV cmp a b = r at *
      generalize a.ifc = fa at *
      generalize b.ifc = fb at *
      obtain ⟨k, c, x, s, i⟩ := a
      obtain ⟨k', c', x', s', i'⟩ := b
      unfold VV.agg at *
      dsimp only at *
      go_enter Tryd.func35, Tryd.ntmps35
      go_wp2_with fail
      refine (unhide HI _ (tabs_below (unhide HT) (below2 w _ _))).mono ?_
      rintro e w1 ⟨rfl, hb⟩
      have hB := (below2 w _ _).trans (hb.mono (by simp; omega))
      obtain ⟨r0, r1, r2, r3, r4, rf, rl⟩ := five_below (five_new _ (w.heap.size + 1) _ _ _ _ _ _ (by simp)) hb
      clear hb
      go_wp2_with fail
      refine (unhide HJ _ (tabs_below (unhide HT) hB)).mono ?_
      rintro e w2 ⟨rfl, hb⟩
      have hB2 := hB.trans (hb.mono hB.size)
      clear hb r0 r1 r2 r3 r4 rf rl
      go_wp2_with fail
      refine (unhide HA' _).mono ?_
      rintro e w3 ⟨rfl, hb⟩
      go_wp2
      go_ret2
      exact ⟨by simp [okE, errB], hB2.trans (hb.mono hB2.size)⟩
theorem valueSame_any (a b : VV) (w : World) (hT : Lib.Utf8Tabs 1 2 w) :
    Calls Tryd.prog 18 #[a.agg, b.agg] w fun e w' => e = .returned (okE (a.good && b.good) (alikeV sameV a b)) ∧ Below w.heap.size w w' := by
  have HT := hide hT
  have HH := hide (hold_any 36 sameV a b (alike_num_same a.x b.x))
  clear hT
  unfold okE at *
  generalize (a.good && b.good) = g at *
  generalize alikeV sameV a b = r at *
  obtain ⟨k, c, x, s, i⟩ := a
  obtain ⟨k', c', x', s', i'⟩ := b
  unfold VV.agg at *
  dsimp only at *
  go_enter Tryd.func18, Tryd.ntmps18
  go_wp2_with fail
  refine (unhide HH _ (tabs_below (unhide HT) (below2 w _ _))).mono ?_
  rintro e w1 ⟨rfl, hb⟩
  go_wp2
  go_ret2
  exact ⟨rfl, (below2 w _ _).trans (hb.mono (by simp; omega))⟩
theorem valueSameZero_any (a b : VV) (hx : a.x < 2 ^ 64) (hy : b.x < 2 ^ 64) (w : World) (hT : Lib.Utf8Tabs 1 2 w) :
    Calls Tryd.prog 19 #[a.agg, b.agg] w fun e w' => e = .returned (okE (a.good && b.good) (alikeV same0V a b)) ∧ Below w.heap.size w w' := by
  have HT := hide hT
  have HH := hide (hold_any 37 same0V a b (alike_num_same0 a.x b.x hx hy))
  clear hT
  unfold okE at *
  generalize (a.good && b.good) = g at *
  generalize alikeV same0V a b = r at *
  obtain ⟨k, c, x, s, i⟩ := a
  obtain ⟨k', c', x', s', i'⟩ := b
  unfold VV.agg at *
  dsimp only at *
  go_enter Tryd.func19, Tryd.ntmps19
  go_wp2_with fail
  refine (unhide HH _ (tabs_below (unhide HT) (below2 w _ _))).mono ?_
  rintro e w1 ⟨rfl, hb⟩
  go_wp2
  go_ret2
  exact ⟨rfl, (below2 w _ _).trans (hb.mono (by simp; omega))⟩
theorem valueStrict_any (a b : VV) (hx : a.x < 2 ^ 64) (hy : b.x < 2 ^ 64) (w : World) (hT : Lib.Utf8Tabs 1 2 w) :
    Calls Tryd.prog 20 #[a.agg, b.agg] w fun e w' => e = .returned (okE (a.good && b.good) (alikeV equalV a b)) ∧ Below w.heap.size w w' := by
  have HT := hide hT
  have HH := hide (hold_any 38 equalV a b (alike_num_equal a.x b.x hx hy))
  clear hT
  unfold okE at *
  generalize (a.good && b.good) = g at *
  generalize alikeV equalV a b = r at *
  obtain ⟨k, c, x, s, i⟩ := a
  obtain ⟨k', c', x', s', i'⟩ := b
  unfold VV.agg at *
  dsimp only at *
  go_enter Tryd.func20, Tryd.ntmps20
  go_wp2_with fail
  refine (unhide HH _ (tabs_below (unhide HT) (below2 w _ _))).mono ?_
  rintro e w1 ⟨rfl, hb⟩
  go_wp2
  go_ret2
  exact ⟨rfl, (below2 w _ _).trans (hb.mono (by simp; omega))⟩
end Go.Proofs.YtdlbciiekghkaaaDoor
