import Derived.Test.YtmgflhhealdfoaaGreatDoorQi
import Derived.Test.YtmgflhhealdfoaaGreatDoorQh
set_option linter.all false
namespace Go.Proofs.YtmgflhhealdfoaaGreatDoor
section
open Go.RowKit FM
attribute [local go_sem] bits_run run_store_floatD
def okE (g : Bool) (r : Bool) : Value := .tuple #[.bool (g && r), .int .i64 (errB g)]
/-- hold, for each of the three ways: what alike answers, where both are well formed. -/
theorem hold_any (f : FuncId) (cmp : Nat → Nat → Bool) (a b : VV)
    (hn : ∀ w, Calls Tryz.prog 152 #[.iface 162 (.float .f64 a.x), .iface 162 (.float .f64 b.x), .func (.func f) #[] #[]] w fun e w' => e = .returned (.bool (cmp a.x b.x)) ∧ Below w.heap.size w w') (w : World) (hT : Lib.Utf8Tabs 1 2 w) :
    Calls Tryz.prog 150 #[a.agg, b.agg, .func (.func f) #[] #[]] w fun e w' => e = .returned (okE (a.good && b.good) (alikeV cmp a b)) ∧ Below w.heap.size w w' := by
  have HT := hide hT
  clear hT
  have HI := hide (inside_any a.k a.b a.x a.s a.i)
  have HJ := hide (inside_any b.k b.b b.x b.s b.i)
  have HA := hide (fun ha hb => alike_good f cmp a b ha hb hn)
  clear hn
  have e1 : goodV a.k a.b a.x a.s a.i = a.good := rfl
  have e2 : goodV b.k b.b b.x b.s b.i = b.good := rfl
  rw [e1] at HI
  rw [e2] at HJ
  cases hg : a.good
  · rw [hg] at HI
    generalize ifcV ⟨a.k, a.b, a.x, a.s, a.i⟩ = fa at *
    generalize ifcV ⟨b.k, b.b, b.x, b.s, b.i⟩ = fb at *
    generalize b.good = gb at *
    clear HA e1 e2 hg
    generalize alikeV cmp a b = r
    obtain ⟨k, c, x, s, i⟩ := a
    obtain ⟨k', c', x', s', i'⟩ := b
    unfold VV.agg at *
    dsimp only at *
    cases gb
    all_goals
      go_enter Tryz.func150, Tryz.ntmps150
      go_wp2_with fail
      refine (unhide HI _ (tabs_below (unhide HT) (below2 w _ _))).mono ?_
      rintro e w1 ⟨rfl, hb⟩
      have hB := (below2 w _ _).trans (hb.mono (by simp; omega))
      obtain ⟨r0, r1, r2, r3, r4, rf, rl⟩ := five_below (five_new _ (w.heap.size + 1) _ _ _ _ _ _ (by simp)) hb
      clear hb
      go_wp2_with fail
      refine (unhide HJ _ (tabs_below (unhide HT) hB)).mono ?_
      rintro e w2 ⟨rfl, hb⟩
      go_wp2
      go_ret2
      exact ⟨by simp [okE, errB], hB.trans (hb.mono hB.size)⟩
  · rw [hg, ifcV_good (v := ⟨a.k, a.b, a.x, a.s, a.i⟩) hg] at HI
    have e3 : VV.ifc ⟨a.k, a.b, a.x, a.s, a.i⟩ = a.ifc := rfl
    rw [e3] at HI
    cases hh : b.good
    · rw [hh] at HJ
      generalize ifcV ⟨b.k, b.b, b.x, b.s, b.i⟩ = fb at *
      clear HA e1 e2 e3 hg hh
      generalize alikeV cmp a b = r
      generalize a.ifc = fa at *
      obtain ⟨k, c, x, s, i⟩ := a
      obtain ⟨k', c', x', s', i'⟩ := b
      unfold VV.agg at *
      dsimp only at *
      go_enter Tryz.func150, Tryz.ntmps150
      go_wp2_with fail
      refine (unhide HI _ (tabs_below (unhide HT) (below2 w _ _))).mono ?_
      rintro e w1 ⟨rfl, hb⟩
      have hB := (below2 w _ _).trans (hb.mono (by simp; omega))
      obtain ⟨r0, r1, r2, r3, r4, rf, rl⟩ := five_below (five_new _ (w.heap.size + 1) _ _ _ _ _ _ (by simp)) hb
      clear hb
      go_wp2_with fail
      refine (unhide HJ _ (tabs_below (unhide HT) hB)).mono ?_
      rintro e w2 ⟨rfl, hb⟩
      go_wp2
      go_ret2
      exact ⟨by simp [okE, errB], hB.trans (hb.mono hB.size)⟩
    · rw [hh, ifcV_good (v := ⟨b.k, b.b, b.x, b.s, b.i⟩) hh] at HJ
      have e4 : VV.ifc ⟨b.k, b.b, b.x, b.s, b.i⟩ = b.ifc := rfl
      rw [e4] at HJ
      have HA' := hide (unhide HA hg hh)
      clear HA e1 e2 e3 e4 hg hh
      generalize alikeV cmp a b = r at *
      generalize a.ifc = fa at *
      generalize b.ifc = fb at *
      obtain ⟨k, c, x, s, i⟩ := a
      obtain ⟨k', c', x', s', i'⟩ := b
      unfold VV.agg at *
      dsimp only at *
      go_enter Tryz.func150, Tryz.ntmps150
      go_wp2_with fail
      refine (unhide HI _ (tabs_below (unhide HT) (below2 w _ _))).mono ?_
      rintro e w1 ⟨rfl, hb⟩
      have hB := (below2 w _ _).trans (hb.mono (by simp; omega))
      obtain ⟨r0, r1, r2, r3, r4, rf, rl⟩ := five_below (five_new _ (w.heap.size + 1) _ _ _ _ _ _ (by simp)) hb
      clear hb
      go_wp2_with fail
      refine (unhide HJ _ (tabs_below (unhide HT) hB)).mono ?_
      rintro e w2 ⟨rfl, hb⟩
      have hB2 := hB.trans (hb.mono hB.size)
      clear hb r0 r1 r2 r3 r4 rf rl
      go_wp2_with fail
      refine (unhide HA' _).mono ?_
      rintro e w3 ⟨rfl, hb⟩
      go_wp2
      go_ret2
      exact ⟨by simp [okE, errB], hB2.trans (hb.mono hB2.size)⟩
theorem valueSame_any (a b : VV) (w : World) (hT : Lib.Utf8Tabs 1 2 w) :
    Calls Tryz.prog 149 #[a.agg, b.agg] w fun e w' => e = .returned (okE (a.good && b.good) (alikeV sameV a b)) ∧ Below w.heap.size w w' := by
  have HT := hide hT
  have HH := hide (hold_any 151 sameV a b (alike_num_same a.x b.x))
  clear hT
  unfold okE at *
  generalize (a.good && b.good) = g at *
  generalize alikeV sameV a b = r at *
  obtain ⟨k, c, x, s, i⟩ := a
  obtain ⟨k', c', x', s', i'⟩ := b
  unfold VV.agg at *
  dsimp only at *
  go_enter Tryz.func149, Tryz.ntmps149
  go_wp2_with fail
  refine (unhide HH _ (tabs_below (unhide HT) (below2 w _ _))).mono ?_
  rintro e w1 ⟨rfl, hb⟩
  go_wp2
  go_ret2
  exact ⟨rfl, (below2 w _ _).trans (hb.mono (by simp; omega))⟩
end
section
open Go Go.Proofs Go.RowKit FM
attribute [local go_sem] run_store_floatD
/-- What callable tells of a field. -/
def callV (v : VV) : Bool := if v.k == 1 || v.k == 7 then v.good else !thV v
def slotV (v : VV) : Bool := v.good && (v.k == 1 || v.k == 7)
/-- What same tells of two fields. -/
def samV (a b : VV) : Bool := if !thV a || !thV b then thV a == thV b else a.good && b.good && alikeV sameV a b
def difV (n f : VV) : Bool := thV f && !samV n f
def orV (v a : VV) : VV := if thV v then v else a
def undV : VV := ⟨1, false, 0, ByteArray.empty, 0⟩
set_option maxHeartbeats 2000000 in
set_option maxRecDepth 100000 in
theorem callable_any (v : VV) (hx : v.x < 2 ^ 64) (w : World) (hT : Lib.Utf8Tabs 1 2 w) : Calls Tryz.prog 91 #[v.agg] w fun e w' => e = .returned (.bool (callV v)) ∧ Below w.heap.size w w' := by
  have HC := hide (fun w hT => check_any v w hT)
  have HV := hide (there_any v hx)
  have HT := hide hT
  clear hT
  unfold callV
  have L0 := Lie.new1 w (.V v)
  obtain ⟨k, b, x, s, i⟩ := v
  unfold PB.obj VV.obj at L0
  unfold VV.agg errB at *
  dsimp only at *
  have LL := hide L0
  clear L0 hx
  generalize VV.good ⟨k, b, x, s, i⟩ = g at *
  generalize thV ⟨k, b, x, s, i⟩ = t at *
  by_cases hk : k = 1
  · subst hk
    cases g
    · go_enter Tryz.func91, Tryz.ntmps91
      go_wp2_with (fail)
      refine (unhide HC _ (tabs_below (unhide HT) (unhide LL).below)).mono ?_
      rintro _ w1 ⟨rfl, hb⟩
      replace LL := hide ((unhide LL).on hb)
      clear hb
      obtain ⟨f0, c0_0, c0_1, c0_2, c0_3, c0_4⟩ := (unhide LL).one
      dsimp only at f0 c0_0 c0_1 c0_2 c0_3 c0_4
      go_wp2_with (fail)
      go_ret
      exact ⟨rfl, (unhide LL).below⟩
    · go_enter Tryz.func91, Tryz.ntmps91
      go_wp2_with (fail)
      refine (unhide HC _ (tabs_below (unhide HT) (unhide LL).below)).mono ?_
      rintro _ w1 ⟨rfl, hb⟩
      replace LL := hide ((unhide LL).on hb)
      clear hb
      obtain ⟨f0, c0_0, c0_1, c0_2, c0_3, c0_4⟩ := (unhide LL).one
      dsimp only at f0 c0_0 c0_1 c0_2 c0_3 c0_4
      go_wp2_with (fail)
      go_ret
      exact ⟨rfl, (unhide LL).below⟩
  · by_cases hk7 : k = 7
    · subst hk7
      cases g
      · go_enter Tryz.func91, Tryz.ntmps91
        go_wp2_with (fail)
        refine (unhide HC _ (tabs_below (unhide HT) (unhide LL).below)).mono ?_
        rintro _ w1 ⟨rfl, hb⟩
        replace LL := hide ((unhide LL).on hb)
        clear hb
        obtain ⟨f0, c0_0, c0_1, c0_2, c0_3, c0_4⟩ := (unhide LL).one
        dsimp only at f0 c0_0 c0_1 c0_2 c0_3 c0_4
        go_wp2_with (fail)
        go_ret
        exact ⟨rfl, (unhide LL).below⟩
      · go_enter Tryz.func91, Tryz.ntmps91
        go_wp2_with (fail)
        refine (unhide HC _ (tabs_below (unhide HT) (unhide LL).below)).mono ?_
        rintro _ w1 ⟨rfl, hb⟩
        replace LL := hide ((unhide LL).on hb)
        clear hb
        obtain ⟨f0, c0_0, c0_1, c0_2, c0_3, c0_4⟩ := (unhide LL).one
        dsimp only at f0 c0_0 c0_1 c0_2 c0_3 c0_4
        go_wp2_with (fail)
        go_ret
        exact ⟨rfl, (unhide LL).below⟩
    · have e1 : (k == 1) = false := by simp [hk]
      have e7 : (k == 7) = false := by simp [hk7]
      rw [e1, e7]
      go_enter Tryz.func91, Tryz.ntmps91
      go_wp2_with (fail)
      refine (unhide HV _).mono ?_
      rintro _ w1 ⟨rfl, hb⟩
      replace LL := hide ((unhide LL).on hb)
      clear hb
      obtain ⟨f0, c0_0, c0_1, c0_2, c0_3, c0_4⟩ := (unhide LL).one
      dsimp only at f0 c0_0 c0_1 c0_2 c0_3 c0_4
      go_wp2_with (fail)
      go_ret
      exact ⟨rfl, (unhide LL).below⟩
set_option maxHeartbeats 2000000 in
set_option maxRecDepth 100000 in
theorem valueOr_any (v a : VV) (hx : v.x < 2 ^ 64) (w : World) : Calls Tryz.prog 143 #[v.agg, a.agg] w fun e w' => e = .returned (orV v a).agg ∧ Below w.heap.size w w' := by
  have HV := hide (there_any v hx)
  unfold orV
  have L0 := Lie.new3 w (.V v) (.V a) (.V zeroV)
  obtain ⟨k, b, x, s, i⟩ := v
  obtain ⟨k2, b2, x2, s2, i2⟩ := a
  unfold PB.obj VV.obj at L0
  unfold VV.agg at *
  dsimp only at *
  have LL := hide L0
  clear L0 hx
  generalize thV ⟨k, b, x, s, i⟩ = t at *
  cases t
  · go_enter Tryz.func143, Tryz.ntmps143
    go_wp2_with (fail)
    refine (unhide HV _).mono ?_
    rintro _ w1 ⟨rfl, hb⟩
    replace LL := hide ((unhide LL).on hb)
    clear hb
    obtain ⟨f0, c0_0, c0_1, c0_2, c0_3, c0_4⟩ := (unhide LL).one
    obtain ⟨f1, c1_0, c1_1, c1_2, c1_3, c1_4⟩ := (unhide LL).two
    obtain ⟨f2, c2_0, c2_1, c2_2, c2_3, c2_4⟩ := (unhide LL).three
    dsimp only at f0 c0_0 c0_1 c0_2 c0_3 c0_4 f1 c1_0 c1_1 c1_2 c1_3 c1_4 f2 c2_0 c2_1 c2_2 c2_3 c2_4
    go_wp2_with (fail)
    simp [bodyPost, results, Tryz.results143, go_sem, c2_0, c2_1, c2_2, c2_3, c2_4]
    exact set5 (unhide LL).below (by omega)
  · go_enter Tryz.func143, Tryz.ntmps143
    go_wp2_with (fail)
    refine (unhide HV _).mono ?_
    rintro _ w1 ⟨rfl, hb⟩
    replace LL := hide ((unhide LL).on hb)
    clear hb
    obtain ⟨f0, c0_0, c0_1, c0_2, c0_3, c0_4⟩ := (unhide LL).one
    obtain ⟨f1, c1_0, c1_1, c1_2, c1_3, c1_4⟩ := (unhide LL).two
    obtain ⟨f2, c2_0, c2_1, c2_2, c2_3, c2_4⟩ := (unhide LL).three
    dsimp only at f0 c0_0 c0_1 c0_2 c0_3 c0_4 f1 c1_0 c1_1 c1_2 c1_3 c1_4 f2 c2_0 c2_1 c2_2 c2_3 c2_4
    go_wp2_with (fail)
    simp [bodyPost, results, Tryz.results143, go_sem, c2_0, c2_1, c2_2, c2_3, c2_4]
    exact set5 (unhide LL).below (by omega)
