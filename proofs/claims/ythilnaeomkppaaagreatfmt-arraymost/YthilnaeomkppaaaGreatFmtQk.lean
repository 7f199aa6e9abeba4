import Derived.Test.YthilnaeomkppaaaGreatFmtQj
import Derived.Stop.Asserts
set_option linter.all false
namespace Go.Proofs.YthilnaeomkppaaaGreatFmt
section
open Go.RowKit FM
theorem q56 (w : World) : (binOp .eql 98 (.iface 129 (.agg #[])) (.iface 129 (.agg #[]))).run Tryz.prog w = .ok (.bool true) w := by kernel_rfl
theorem q57 (w : World) : (binOp .eql 98 (.iface 130 (.agg #[])) (.iface 130 (.agg #[]))).run Tryz.prog w = .ok (.bool true) w := by kernel_rfl
theorem q58 (a b : Bool) (w : World) : (binOp .eql 98 (.iface 131 (.bool a)) (.iface 131 (.bool b))).run Tryz.prog w = .ok (.bool (a == b)) w := by kernel_rfl
theorem q79 (a b : ByteArray) (w : World) : (binOp .eql 98 (.iface 133 (.string a)) (.iface 133 (.string b))).run Tryz.prog w = .ok (.bool (a.toList == b.toList)) w := by
  rw [← beq_toListBytes]; kernel_rfl
theorem q81 (a b : Int) (w : World) : (binOp .eql 98 (.iface 134 (.int .i64 a)) (.iface 134 (.int .i64 b))).run Tryz.prog w = .ok (.bool (a == b)) w := by kernel_rfl
theorem q82 (a b : Int) (w : World) : (binOp .eql 98 (.iface 135 (.int .i64 a)) (.iface 135 (.int .i64 b))).run Tryz.prog w = .ok (.bool (a == b)) w := by kernel_rfl
theorem qne (t u : TypeId) (a b : Value) (w : World) (h : t ≠ u) : (binOp .eql 98 (.iface t a) (.iface u b)).run Tryz.prog w = .ok (.bool false) w := run_eql_iface_types t u a b Tryz.underlying98 h w
attribute [local go_sem] bits_run run_store_floatD ta56 ta57 ta58 ta59 ta79 ta81 ta82 q56 q57 q58 q79 q81 q82
/-- The type behind a value of a kind. -/
def tyK (k : Int) : TypeId := if k = 1 then 129 else if k = 2 then 130 else if k = 3 then 131 else if k = 4 then 104 else if k = 5 then 133 else if k = 6 then 134 else 135
def inK (v : VV) : Value := if v.k = 1 then .agg #[] else if v.k = 2 then .agg #[] else if v.k = 3 then .bool v.b else if v.k = 4 then .float .f64 v.x else if v.k = 5 then .string v.s else .int .i64 v.i
theorem ifc_eq (v : VV) : v.ifc = .iface (tyK v.k) (inK v) := by
  unfold VV.ifc tyK inK
  repeat' split
  all_goals rfl
def alikeV (cmp : Nat → Nat → Bool) (a b : VV) : Bool := a.k == b.k && (if a.k = 4 then cmp a.x b.x else a.b == b.b && a.s.toList == b.s.toList && a.i == b.i)
set_option maxRecDepth 100000 in
theorem alike_num_same (x y : Nat) (w : World) :
    Calls Tryz.prog 105 #[.iface 104 (.float .f64 x), .iface 104 (.float .f64 y), .func (.func 104) #[] #[]] w fun e w' => e = .returned (.bool (sameV x y)) ∧ Below w.heap.size w w' := by
  go_enter Tryz.func105, Tryz.ntmps105
  go_wp2_with fail
  refine (same_any x y _).mono ?_
  rintro e w' ⟨rfl, rfl⟩
  go_wp2
  go_ret
  exact ⟨rfl, Below.refl _ _⟩
set_option maxRecDepth 100000 in
theorem alike_none (t : TypeId) (x : Nat) (b g : Value) (ht : (t = 104) = False) (w : World) :
    Calls Tryz.prog 105 #[.iface 104 (.float .f64 x), .iface t b, g] w fun e w' => e = .returned (.bool false) ∧ Below w.heap.size w w' := by
  go_enter Tryz.func105, Tryz.ntmps105
  go_wp2
  go_ret
  exact ⟨rfl, Below.refl _ _⟩
theorem alike_same (t u : TypeId) (a b : Value) (r : Bool) (g : Value) (ht : (t = 104) = False) (hr : ∀ w, (binOp .eql 98 (.iface t a) (.iface u b)).run Tryz.prog w = .ok (.bool r) w) (w : World) :
    Calls Tryz.prog 105 #[.iface t a, .iface u b, g] w fun e w' => e = .returned (.bool r) ∧ Below w.heap.size w w' := by
  go_enter Tryz.func105, Tryz.ntmps105
  go_wp2
  go_ret
  exact ⟨rfl, Below.refl _ _⟩
theorem qq {r r' : Bool} {w : World} {c : Sem Value} (h : c.run Tryz.prog w = .ok (.bool r) w) (e : r = r') : c.run Tryz.prog w = .ok (.bool r') w := by rw [h, e]
theorem eql_good (cmp : Nat → Nat → Bool) (a b : VV) (ha : a.good = true) (hb : b.good = true) (h4 : a.k ≠ 4) (w : World) : (binOp .eql 98 a.ifc b.ifc).run Tryz.prog w = .ok (.bool (alikeV cmp a b)) w := by
  obtain ⟨k, c, x, s, i⟩ := a
  obtain ⟨k', c', x', s', i'⟩ := b
  by_cases hk : k = k'
  · subst hk
    rcases good_cases ha with ⟨rfl, rfl, rfl, rfl, rfl⟩ | ⟨rfl, rfl, rfl, rfl, rfl⟩ | ⟨rfl, rfl, rfl, rfl⟩ | ⟨rfl, rfl, rfl, rfl⟩ | ⟨rfl, rfl, rfl, rfl, -⟩ | ⟨rfl, rfl, rfl, rfl, -, -⟩ | ⟨rfl, rfl, rfl, rfl, -, -⟩
    · rcases good_cases hb with ⟨-, rfl, rfl, rfl, rfl⟩ | ⟨h, -⟩ | ⟨h, -⟩ | ⟨h, -⟩ | ⟨h, -⟩ | ⟨h, -⟩ | ⟨h, -⟩ <;> first | (exfalso; dsimp only at h; omega) | exact qq (q56 w) (by simp [alikeV])
    · rcases good_cases hb with ⟨h, -⟩ | ⟨-, rfl, rfl, rfl, rfl⟩ | ⟨h, -⟩ | ⟨h, -⟩ | ⟨h, -⟩ | ⟨h, -⟩ | ⟨h, -⟩ <;> first | (exfalso; dsimp only at h; omega) | exact qq (q57 w) (by simp [alikeV])
    · rcases good_cases hb with ⟨h, -⟩ | ⟨h, -⟩ | ⟨-, rfl, rfl, rfl⟩ | ⟨h, -⟩ | ⟨h, -⟩ | ⟨h, -⟩ | ⟨h, -⟩ <;> first | (exfalso; dsimp only at h; omega) | exact qq (q58 c c' w) (by simp [alikeV])
    · exact absurd rfl h4
    · rcases good_cases hb with ⟨h, -⟩ | ⟨h, -⟩ | ⟨h, -⟩ | ⟨h, -⟩ | ⟨-, rfl, rfl, rfl, -⟩ | ⟨h, -⟩ | ⟨h, -⟩ <;> first | (exfalso; dsimp only at h; omega) | exact qq (q79 s s' w) (by simp [alikeV])
    · rcases good_cases hb with ⟨h, -⟩ | ⟨h, -⟩ | ⟨h, -⟩ | ⟨h, -⟩ | ⟨h, -⟩ | ⟨-, rfl, rfl, rfl, -, -⟩ | ⟨h, -⟩ <;> first | (exfalso; dsimp only at h; omega) | exact qq (q81 i i' w) (by simp [alikeV])
    · rcases good_cases hb with ⟨h, -⟩ | ⟨h, -⟩ | ⟨h, -⟩ | ⟨h, -⟩ | ⟨h, -⟩ | ⟨h, -⟩ | ⟨-, rfl, rfl, rfl, -, -⟩ <;> first | (exfalso; dsimp only at h; omega) | exact qq (q82 i i' w) (by simp [alikeV])
  · rw [ifc_eq, ifc_eq]
    refine qq (qne _ _ _ _ w ?_) ?_
    · have e1 : k = 1 ∨ k = 2 ∨ k = 3 ∨ k = 4 ∨ k = 5 ∨ k = 6 ∨ k = 7 := by
        rcases good_cases ha with ⟨h, -⟩ | ⟨h, -⟩ | ⟨h, -⟩ | ⟨h, -⟩ | ⟨h, -⟩ | ⟨h, -⟩ | ⟨h, -⟩ <;> (dsimp only at h; omega)
      have e2 : k' = 1 ∨ k' = 2 ∨ k' = 3 ∨ k' = 4 ∨ k' = 5 ∨ k' = 6 ∨ k' = 7 := by
        rcases good_cases hb with ⟨h, -⟩ | ⟨h, -⟩ | ⟨h, -⟩ | ⟨h, -⟩ | ⟨h, -⟩ | ⟨h, -⟩ | ⟨h, -⟩ <;> (dsimp only at h; omega)
      dsimp only
      rcases e1 with rfl | rfl | rfl | rfl | rfl | rfl | rfl <;> rcases e2 with rfl | rfl | rfl | rfl | rfl | rfl | rfl <;> first | exact absurd rfl hk | decide
    · unfold alikeV
      have : (k == k') = false := by rw [beq_eq_false_iff_ne]; exact hk
      simp [this]
theorem tyK_ne {k : Int} (h : k ≠ 4) : (tyK k = 104) = False := by
  unfold tyK
  repeat' split
  all_goals first | contradiction | simp
/-- What alike answers, of two values that are well formed. -/
theorem alike_good (f : FuncId) (cmp : Nat → Nat → Bool) (a b : VV) (ha : a.good = true) (hb : b.good = true)
    (hn : ∀ w, Calls Tryz.prog 105 #[.iface 104 (.float .f64 a.x), .iface 104 (.float .f64 b.x), .func (.func f) #[] #[]] w fun e w' => e = .returned (.bool (cmp a.x b.x)) ∧ Below w.heap.size w w') (w : World) :
    Calls Tryz.prog 105 #[a.ifc, b.ifc, .func (.func f) #[] #[]] w fun e w' => e = .returned (.bool (alikeV cmp a b)) ∧ Below w.heap.size w w' := by
  by_cases h4 : a.k = 4
  · by_cases k4 : b.k = 4
    · have e1 : a.ifc = .iface 104 (.float .f64 a.x) := by unfold VV.ifc; rw [h4]; rfl
      have e2 : b.ifc = .iface 104 (.float .f64 b.x) := by unfold VV.ifc; rw [k4]; rfl
      have e3 : alikeV cmp a b = cmp a.x b.x := by unfold alikeV; simp [h4, k4]
      rw [e1, e2, e3]
      exact hn w
    · have e1 : a.ifc = .iface 104 (.float .f64 a.x) := by unfold VV.ifc; rw [h4]; rfl
      have e3 : alikeV cmp a b = false := by
        unfold alikeV
        have : (a.k == b.k) = false := by rw [beq_eq_false_iff_ne, h4]; exact fun e => k4 e.symm
        rw [this]; rfl
      rw [e1, ifc_eq b, e3]
      exact alike_none _ _ _ _ (tyK_ne k4) w
  · have he := eql_good cmp a b ha hb h4
    rw [ifc_eq a, ifc_eq b] at *
    exact alike_same _ _ _ _ _ _ (tyK_ne h4) he w
theorem zero_sz (x : Nat) (hx : x < 2 ^ 64) : (FloatKind.f64.format.order x 0 == some .eq) = decide (sz x = 0) := by
  rw [zero_order x hx, Bool.eq_iff_iff]
  unfold sz
  simp
  omega
end
section
open Go.RowKit FM
attribute [local go_sem] bits_run run_store_floatD
def okE (g : Bool) (r : Bool) : Value := .tuple #[.bool (g && r), .int .i64 (errB g)]
/-- hold, for each of the three ways: what alike answers, where both are well formed. -/
theorem hold_any (f : FuncId) (cmp : Nat → Nat → Bool) (a b : VV)
    (hn : ∀ w, Calls Tryz.prog 105 #[.iface 104 (.float .f64 a.x), .iface 104 (.float .f64 b.x), .func (.func f) #[] #[]] w fun e w' => e = .returned (.bool (cmp a.x b.x)) ∧ Below w.heap.size w w') (w : World) (hT : Lib.Utf8Tabs 4 5 w) :
    Calls Tryz.prog 103 #[a.agg, b.agg, .func (.func f) #[] #[]] w fun e w' => e = .returned (okE (a.good && b.good) (alikeV cmp a b)) ∧ Below w.heap.size w w' := by
  have HT := hide hT
  clear hT
  have HI := hide (inside_any a.k a.b a.x a.s a.i)
  have HJ := hide (inside_any b.k b.b b.x b.s b.i)
  have HA := hide (fun ha hb => alike_good f cmp a b ha hb hn)
  clear hn
  have e1 : goodV a.k a.b a.x a.s a.i = a.good := rfl
  have e2 : goodV b.k b.b b.x b.s b.i = b.good := rfl
  rw [e1] at HI
  rw [e2] at HJ
  cases hg : a.good
  · rw [hg] at HI
    generalize ifcV ⟨a.k, a.b, a.x, a.s, a.i⟩ = fa at *
    generalize ifcV ⟨b.k, b.b, b.x, b.s, b.i⟩ = fb at *
    generalize b.good = gb at *
    clear HA e1 e2 hg
    generalize alikeV cmp a b = r
    obtain ⟨k, c, x, s, i⟩ := a
    obtain ⟨k', c', x', s', i'⟩ := b
    unfold VV.agg at *
    dsimp only at *
    cases gb
    all_goals
      go_enter Tryz.func103, Tryz.ntmps103
      go_wp2_with fail
      refine (unhide HI _ (tabs_below (unhide HT) (below2 w _ _))).mono ?_
      rintro e w1 ⟨rfl, hb⟩
      have hB := (below2 w _ _).trans (hb.mono (by simp; omega))
      obtain ⟨r0, r1, r2, r3, r4, rf, rl⟩ := five_below (five_new _ (w.heap.size + 1) _ _ _ _ _ _ (by simp)) hb
      clear hb
      go_wp2_with fail
      refine (unhide HJ _ (tabs_below (unhide HT) hB)).mono ?_
      rintro e w2 ⟨rfl, hb⟩
      go_wp2
      go_ret2
      exact ⟨by simp [okE, errB], hB.trans (hb.mono hB.size)⟩
  · rw [hg, ifcV_good (v := ⟨a.k, a.b, a.x, a.s, a.i⟩) hg] at HI
    have e3 : VV.ifc ⟨a.k, a.b, a.x, a.s, a.i⟩ = a.ifc := rfl
    rw [e3] at HI
    cases hh : b.good
    · rw [hh] at HJ
      generalize ifcV ⟨b.k, b.b, b.x, b.s, b.i⟩ = fb at *
      clear HA e1 e2 e3 hg hh
      generalize alikeV cmp a b = r
      generalize a.ifc = fa at *
      obtain ⟨k, c, x, s, i⟩ := a
      obtain ⟨k', c', x', s', i'⟩ := b
      unfold VV.agg at *
      dsimp only at *
      go_enter Tryz.func103, Tryz.ntmps103
      go_wp2_with fail
      refine (unhide HI _ (tabs_below (unhide HT) (below2 w _ _))).mono ?_
      rintro e w1 ⟨rfl, hb⟩
      have hB := (below2 w _ _).trans (hb.mono (by simp; omega))
      obtain ⟨r0, r1, r2, r3, r4, rf, rl⟩ := five_below (five_new _ (w.heap.size + 1) _ _ _ _ _ _ (by simp)) hb
      clear hb
      go_wp2_with fail
      refine (unhide HJ _ (tabs_below (unhide HT) hB)).mono ?_
      rintro e w2 ⟨rfl, hb⟩
      go_wp2
      go_ret2
      exact ⟨by simp [okE, errB], hB.trans (hb.mono hB.size)⟩
    · rw [hh, ifcV_good (v := ⟨b.k, b.b, b.x, b.s, b.i⟩) hh] at HJ
      have e4 : VV.ifc ⟨b.k, b.b, b.x, b.s, b.i⟩ = b.ifc := rfl
      rw [e4] at HJ
      have HA' := hide (unhide HA hg hh)
      clear HA e1 e2 e3 e4 hg hh
      generalize alikeV cmp a b = r at *
      generalize a.ifc = fa at *
      generalize b.ifc = fb at *
      obtain ⟨k, c, x, s, i⟩ := a
      obtain ⟨k', c', x', s', i'⟩ := b
      unfold VV.agg at *
      dsimp only at *
      go_enter Tryz.func103, Tryz.ntmps103
      go_wp2_with fail
      refine (unhide HI _ (tabs_below (unhide HT) (below2 w _ _))).mono ?_
      rintro e w1 ⟨rfl, hb⟩
      have hB := (below2 w _ _).trans (hb.mono (by simp; omega))
      obtain ⟨r0, r1, r2, r3, r4, rf, rl⟩ := five_below (five_new _ (w.heap.size + 1) _ _ _ _ _ _ (by simp)) hb
      clear hb
      go_wp2_with fail
      refine (unhide HJ _ (tabs_below (unhide HT) hB)).mono ?_
      rintro e w2 ⟨rfl, hb⟩
      have hB2 := hB.trans (hb.mono hB.size)
      clear hb r0 r1 r2 r3 r4 rf rl
      go_wp2_with fail
      refine (unhide HA' _).mono ?_
      rintro e w3 ⟨rfl, hb⟩
      go_wp2
      go_ret2
      exact ⟨by simp [okE, errB], hB2.trans (hb.mono hB2.size)⟩
theorem valueSame_any (a b : VV) (w : World) (hT : Lib.Utf8Tabs 4 5 w) :
    Calls Tryz.prog 101 #[a.agg, b.agg] w fun e w' => e = .returned (okE (a.good && b.good) (alikeV sameV a b)) ∧ Below w.heap.size w w' := by
  have HT := hide hT
  have HH := hide (hold_any 104 sameV a b (alike_num_same a.x b.x))
  clear hT
  unfold okE at *
  generalize (a.good && b.good) = g at *
  generalize alikeV sameV a b = r at *
  obtain ⟨k, c, x, s, i⟩ := a
  obtain ⟨k', c', x', s', i'⟩ := b
  unfold VV.agg at *
  dsimp only at *
  go_enter Tryz.func101, Tryz.ntmps101
  go_wp2_with fail
  refine (unhide HH _ (tabs_below (unhide HT) (below2 w _ _))).mono ?_
  rintro e w1 ⟨rfl, hb⟩
  go_wp2
  go_ret2
  exact ⟨rfl, (below2 w _ _).trans (hb.mono (by simp; omega))⟩

end
section
open Go Go.Proofs Go.RowKit FM
attribute [local go_sem] run_store_floatD
/-- What callable tells of a field. -/
def callV (v : VV) : Bool := if v.k == 1 || v.k == 7 then v.good else !thV v
def slotV (v : VV) : Bool := v.good && (v.k == 1 || v.k == 7)
/-- What same tells of two fields. -/
def samV (a b : VV) : Bool := if !thV a || !thV b then thV a == thV b else a.good && b.good && alikeV sameV a b
def difV (n f : VV) : Bool := thV f && !samV n f
def rsamV (a b : VV) : Bool := if a.k == 0 || b.k == 0 then (a.k != 0) == (b.k != 0) else alikeV sameV a b
def orV (v a : VV) : VV := if thV v then v else a
def undV : VV := ⟨1, false, 0, ByteArray.empty, 0⟩
def rorV (v : VV) : VV := if v.k != 0 then v else undV
set_option maxHeartbeats 2000000 in
set_option maxRecDepth 100000 in
theorem callable_any (v : VV) (hx : v.x < 2 ^ 64) (w : World) (hT : Lib.Utf8Tabs 4 5 w) : Calls Tryz.prog 77 #[v.agg] w fun e w' => e = .returned (.bool (callV v)) ∧ Below w.heap.size w w' := by
  have HC := hide (fun w hT => check_any v w hT)
  have HV := hide (there_any v hx)
  have HT := hide hT
  clear hT
  unfold callV
  have L0 := Lie.new1 w (.V v)
  obtain ⟨k, b, x, s, i⟩ := v
  unfold PB.obj VV.obj at L0
  unfold VV.agg errB at *
  dsimp only at *
  have LL := hide L0
  clear L0 hx
  generalize VV.good ⟨k, b, x, s, i⟩ = g at *
  generalize thV ⟨k, b, x, s, i⟩ = t at *
  by_cases hk : k = 1
  · subst hk
    cases g
    · go_enter Tryz.func77, Tryz.ntmps77
      go_wp2_with (fail)
      refine (unhide HC _ (tabs_below (unhide HT) (unhide LL).below)).mono ?_
      rintro _ w1 ⟨rfl, hb⟩
      replace LL := hide ((unhide LL).on hb)
      clear hb
      obtain ⟨f0, c0_0, c0_1, c0_2, c0_3, c0_4⟩ := (unhide LL).one
      dsimp only at f0 c0_0 c0_1 c0_2 c0_3 c0_4
      go_wp2_with (fail)
      go_ret
      exact ⟨rfl, (unhide LL).below⟩
    · go_enter Tryz.func77, Tryz.ntmps77
      go_wp2_with (fail)
      refine (unhide HC _ (tabs_below (unhide HT) (unhide LL).below)).mono ?_
      rintro _ w1 ⟨rfl, hb⟩
      replace LL := hide ((unhide LL).on hb)
      clear hb
      obtain ⟨f0, c0_0, c0_1, c0_2, c0_3, c0_4⟩ := (unhide LL).one
      dsimp only at f0 c0_0 c0_1 c0_2 c0_3 c0_4
      go_wp2_with (fail)
      go_ret
      exact ⟨rfl, (unhide LL).below⟩
  · by_cases hk7 : k = 7
    · subst hk7
      cases g
      · go_enter Tryz.func77, Tryz.ntmps77
        go_wp2_with (fail)
        refine (unhide HC _ (tabs_below (unhide HT) (unhide LL).below)).mono ?_
        rintro _ w1 ⟨rfl, hb⟩
        replace LL := hide ((unhide LL).on hb)
        clear hb
        obtain ⟨f0, c0_0, c0_1, c0_2, c0_3, c0_4⟩ := (unhide LL).one
        dsimp only at f0 c0_0 c0_1 c0_2 c0_3 c0_4
        go_wp2_with (fail)
        go_ret
        exact ⟨rfl, (unhide LL).below⟩
      · go_enter Tryz.func77, Tryz.ntmps77
        go_wp2_with (fail)
        refine (unhide HC _ (tabs_below (unhide HT) (unhide LL).below)).mono ?_
        rintro _ w1 ⟨rfl, hb⟩
        replace LL := hide ((unhide LL).on hb)
        clear hb
        obtain ⟨f0, c0_0, c0_1, c0_2, c0_3, c0_4⟩ := (unhide LL).one
        dsimp only at f0 c0_0 c0_1 c0_2 c0_3 c0_4
        go_wp2_with (fail)
        go_ret
        exact ⟨rfl, (unhide LL).below⟩
    · have e1 : (k == 1) = false := by simp [hk]
      have e7 : (k == 7) = false := by simp [hk7]
      rw [e1, e7]
      go_enter Tryz.func77, Tryz.ntmps77
      go_wp2_with (fail)
      refine (unhide HV _).mono ?_
      rintro _ w1 ⟨rfl, hb⟩
      replace LL := hide ((unhide LL).on hb)
      clear hb
      obtain ⟨f0, c0_0, c0_1, c0_2, c0_3, c0_4⟩ := (unhide LL).one
      dsimp only at f0 c0_0 c0_1 c0_2 c0_3 c0_4
      go_wp2_with (fail)
      go_ret
      exact ⟨rfl, (unhide LL).below⟩
set_option maxHeartbeats 2000000 in
set_option maxRecDepth 100000 in
theorem valueOr_any (v a : VV) (hx : v.x < 2 ^ 64) (w : World) : Calls Tryz.prog 82 #[v.agg, a.agg] w fun e w' => e = .returned (orV v a).agg ∧ Below w.heap.size w w' := by
  have HV := hide (there_any v hx)
  unfold orV
  have L0 := Lie.new3 w (.V v) (.V a) (.V zeroV)
  obtain ⟨k, b, x, s, i⟩ := v
  obtain ⟨k2, b2, x2, s2, i2⟩ := a
  unfold PB.obj VV.obj at L0
  unfold VV.agg at *
  dsimp only at *
  have LL := hide L0
  clear L0 hx
  generalize thV ⟨k, b, x, s, i⟩ = t at *
  cases t
  · go_enter Tryz.func82, Tryz.ntmps82
    go_wp2_with (fail)
    refine (unhide HV _).mono ?_
    rintro _ w1 ⟨rfl, hb⟩
    replace LL := hide ((unhide LL).on hb)
    clear hb
    obtain ⟨f0, c0_0, c0_1, c0_2, c0_3, c0_4⟩ := (unhide LL).one
    obtain ⟨f1, c1_0, c1_1, c1_2, c1_3, c1_4⟩ := (unhide LL).two
    obtain ⟨f2, c2_0, c2_1, c2_2, c2_3, c2_4⟩ := (unhide LL).three
    dsimp only at f0 c0_0 c0_1 c0_2 c0_3 c0_4 f1 c1_0 c1_1 c1_2 c1_3 c1_4 f2 c2_0 c2_1 c2_2 c2_3 c2_4
    go_wp2_with (fail)
    simp [bodyPost, results, Tryz.results82, go_sem, c2_0, c2_1, c2_2, c2_3, c2_4]
    exact set5 (unhide LL).below (by omega)
  · go_enter Tryz.func82, Tryz.ntmps82
    go_wp2_with (fail)
    refine (unhide HV _).mono ?_
    rintro _ w1 ⟨rfl, hb⟩
    replace LL := hide ((unhide LL).on hb)
    clear hb
    obtain ⟨f0, c0_0, c0_1, c0_2, c0_3, c0_4⟩ := (unhide LL).one
    obtain ⟨f1, c1_0, c1_1, c1_2, c1_3, c1_4⟩ := (unhide LL).two
    obtain ⟨f2, c2_0, c2_1, c2_2, c2_3, c2_4⟩ := (unhide LL).three
    dsimp only at f0 c0_0 c0_1 c0_2 c0_3 c0_4 f1 c1_0 c1_1 c1_2 c1_3 c1_4 f2 c2_0 c2_1 c2_2 c2_3 c2_4
    go_wp2_with (fail)
    simp [bodyPost, results, Tryz.results82, go_sem, c2_0, c2_1, c2_2, c2_3, c2_4]
    exact set5 (unhide LL).below (by omega)
end
section
open Go Go.Proofs Go.RowKit FM
theorem vv10 {w X : World} {k : Int} {b1 : Bool} {x : Nat} {s : ByteArray} {i : Int} {k2 : Int} {b2 : Bool} {x2 : Nat} {s2 : ByteArray} {i2 : Int} (h : Lie w X [.V ⟨k, b1, x, s, i⟩, .V ⟨k2, b2, x2, s2, i2⟩]) :
    X.cell? ⟨w.heap.size, 0, none⟩ = some (.int .i64 k) ∧ X.cell? ⟨w.heap.size, 1, none⟩ = some (.bool b1) ∧ X.cell? ⟨w.heap.size, 2, none⟩ = some (.float .f64 x) ∧ X.cell? ⟨w.heap.size, 3, none⟩ = some (.string s) ∧ X.cell? ⟨w.heap.size, 4, none⟩ = some (.int .i64 i) ∧ X.cell? ⟨w.heap.size + 1, 0, none⟩ = some (.int .i64 k2) ∧ X.cell? ⟨w.heap.size + 1, 1, none⟩ = some (.bool b2) ∧ X.cell? ⟨w.heap.size + 1, 2, none⟩ = some (.float .f64 x2) ∧ X.cell? ⟨w.heap.size + 1, 3, none⟩ = some (.string s2) ∧ X.cell? ⟨w.heap.size + 1, 4, none⟩ = some (.int .i64 i2) := by
  obtain ⟨-, a0, a1, a2, a3, a4⟩ := h.one
  obtain ⟨-, b0, b1, b2, b3, b4⟩ := h.two
  exact ⟨a0, a1, a2, a3, a4, b0, b1, b2, b3, b4⟩
set_option maxHeartbeats 2000000 in
set_option maxRecDepth 100000 in
theorem same51 (a b : VV) (ha : a.x < 2 ^ 64) (hb : b.x < 2 ^ 64) (w : World) (hT : Lib.Utf8Tabs 4 5 w) : Calls Tryz.prog 96 #[a.agg, b.agg] w fun e w' => e = .returned (.bool (samV a b)) ∧ Below w.heap.size w w' := by
  have HA := hide (there_any a ha)
  have HB := hide (there_any b hb)
  have HS := hide (fun w hT => valueSame_any a b w hT)
  have HT := hide hT
  clear hT
  unfold samV
  have L0 := Lie.new2 w (.V a) (.V b)
  obtain ⟨k, b1, x, s, i⟩ := a
  obtain ⟨k2, b2, x2, s2, i2⟩ := b
  unfold PB.obj VV.obj at L0
  unfold VV.agg okE at *
  dsimp only at *
  have LL := hide L0
  clear L0 ha hb
  generalize thV ⟨k, b1, x, s, i⟩ = ta at *
  generalize thV ⟨k2, b2, x2, s2, i2⟩ = tb at *
  generalize (VV.good ⟨k, b1, x, s, i⟩ && VV.good ⟨k2, b2, x2, s2, i2⟩) = g at *
  generalize alikeV sameV ⟨k, b1, x, s, i⟩ ⟨k2, b2, x2, s2, i2⟩ = al at *
  cases ta
  · go_enter Tryz.func96, Tryz.ntmps96
    go_wp2_with (fail)
    refine (unhide HA _).mono ?_
    rintro _ w1 ⟨rfl, hb⟩
    replace LL := hide ((unhide LL).on hb)
    clear hb
    obtain ⟨f0, c0_0, c0_1, c0_2, c0_3, c0_4⟩ := (unhide LL).one
    obtain ⟨f1, c1_0, c1_1, c1_2, c1_3, c1_4⟩ := (unhide LL).two
    dsimp only at f0 c0_0 c0_1 c0_2 c0_3 c0_4 f1 c1_0 c1_1 c1_2 c1_3 c1_4
    go_wp2_with (fail)
    go_region_held3 (fun X => X.cell? ⟨w.heap.size, 0, none⟩ = some (.int .i64 k) ∧ X.cell? ⟨w.heap.size, 1, none⟩ = some (.bool b1) ∧ X.cell? ⟨w.heap.size, 2, none⟩ = some (.float .f64 x) ∧ X.cell? ⟨w.heap.size, 3, none⟩ = some (.string s) ∧ X.cell? ⟨w.heap.size, 4, none⟩ = some (.int .i64 i) ∧ X.cell? ⟨w.heap.size + 1, 0, none⟩ = some (.int .i64 k2) ∧ X.cell? ⟨w.heap.size + 1, 1, none⟩ = some (.bool b2) ∧ X.cell? ⟨w.heap.size + 1, 2, none⟩ = some (.float .f64 x2) ∧ X.cell? ⟨w.heap.size + 1, 3, none⟩ = some (.string s2) ∧ X.cell? ⟨w.heap.size + 1, 4, none⟩ = some (.int .i64 i2)) (first | exact vv10 k2 | exact vv10 k1 | exact vv10 (unhide LL).drew) ((first | (go_at_call_of 76 (Value.string s); refine (unhide HA _).mono ?_; rintro _ w8 ⟨rfl, hb1⟩; have k1 := ((unhide LL).drew).on hb1) | (go_at_call_of 76 (Value.string s2); refine (unhide HB _).mono ?_; rintro _ w9 ⟨rfl, hb2⟩; have k2 := k1.on hb2)))
    replace LL := hide k2
    clear k1 k2 hb1 hb2
    go_wp2_with (fail)
    go_ret
    exact ⟨rfl, (unhide LL).below⟩
  · cases tb
    · go_enter Tryz.func96, Tryz.ntmps96
      go_wp2_with (fail)
      refine (unhide HA _).mono ?_
      rintro _ w2 ⟨rfl, hb⟩
      replace LL := hide ((unhide LL).on hb)
      clear hb
      obtain ⟨f0, c0_0, c0_1, c0_2, c0_3, c0_4⟩ := (unhide LL).one
      obtain ⟨f1, c1_0, c1_1, c1_2, c1_3, c1_4⟩ := (unhide LL).two
      dsimp only at f0 c0_0 c0_1 c0_2 c0_3 c0_4 f1 c1_0 c1_1 c1_2 c1_3 c1_4
      go_wp2_with (fail)
      refine (unhide HB _).mono ?_
      rintro _ w3 ⟨rfl, hb⟩
      clear f0 c0_0 c0_1 c0_2 c0_3 c0_4 f1 c1_0 c1_1 c1_2 c1_3 c1_4
      replace LL := hide ((unhide LL).on hb)
      clear hb
      obtain ⟨f0, c0_0, c0_1, c0_2, c0_3, c0_4⟩ := (unhide LL).one
      obtain ⟨f1, c1_0, c1_1, c1_2, c1_3, c1_4⟩ := (unhide LL).two
      dsimp only at f0 c0_0 c0_1 c0_2 c0_3 c0_4 f1 c1_0 c1_1 c1_2 c1_3 c1_4
      go_wp2_with (fail)
      go_region_held3 (fun X => X.cell? ⟨w.heap.size, 0, none⟩ = some (.int .i64 k) ∧ X.cell? ⟨w.heap.size, 1, none⟩ = some (.bool b1) ∧ X.cell? ⟨w.heap.size, 2, none⟩ = some (.float .f64 x) ∧ X.cell? ⟨w.heap.size, 3, none⟩ = some (.string s) ∧ X.cell? ⟨w.heap.size, 4, none⟩ = some (.int .i64 i) ∧ X.cell? ⟨w.heap.size + 1, 0, none⟩ = some (.int .i64 k2) ∧ X.cell? ⟨w.heap.size + 1, 1, none⟩ = some (.bool b2) ∧ X.cell? ⟨w.heap.size + 1, 2, none⟩ = some (.float .f64 x2) ∧ X.cell? ⟨w.heap.size + 1, 3, none⟩ = some (.string s2) ∧ X.cell? ⟨w.heap.size + 1, 4, none⟩ = some (.int .i64 i2)) (first | exact vv10 k2 | exact vv10 k1 | exact vv10 (unhide LL).drew) ((first | (go_at_call_of 76 (Value.string s); refine (unhide HA _).mono ?_; rintro _ w8 ⟨rfl, hb1⟩; have k1 := ((unhide LL).drew).on hb1) | (go_at_call_of 76 (Value.string s2); refine (unhide HB _).mono ?_; rintro _ w9 ⟨rfl, hb2⟩; have k2 := k1.on hb2)))
      replace LL := hide k2
      clear k1 k2 hb1 hb2
      go_wp2_with (fail)
      go_ret
      exact ⟨rfl, (unhide LL).below⟩
    · go_enter Tryz.func96, Tryz.ntmps96
      go_wp2_with (fail)
      refine (unhide HA _).mono ?_
      rintro _ w2 ⟨rfl, hb⟩
      replace LL := hide ((unhide LL).on hb)
      clear hb
      obtain ⟨f0, c0_0, c0_1, c0_2, c0_3, c0_4⟩ := (unhide LL).one
      obtain ⟨f1, c1_0, c1_1, c1_2, c1_3, c1_4⟩ := (unhide LL).two
      dsimp only at f0 c0_0 c0_1 c0_2 c0_3 c0_4 f1 c1_0 c1_1 c1_2 c1_3 c1_4
      go_wp2_with (fail)
      refine (unhide HB _).mono ?_
      rintro _ w3 ⟨rfl, hb⟩
      clear f0 c0_0 c0_1 c0_2 c0_3 c0_4 f1 c1_0 c1_1 c1_2 c1_3 c1_4
      replace LL := hide ((unhide LL).on hb)
      clear hb
      obtain ⟨f0, c0_0, c0_1, c0_2, c0_3, c0_4⟩ := (unhide LL).one
      obtain ⟨f1, c1_0, c1_1, c1_2, c1_3, c1_4⟩ := (unhide LL).two
      dsimp only at f0 c0_0 c0_1 c0_2 c0_3 c0_4 f1 c1_0 c1_1 c1_2 c1_3 c1_4
      go_wp2_with (fail)
      refine (unhide HS _ (tabs_below (unhide HT) (unhide LL).below)).mono ?_
      rintro _ w4 ⟨rfl, hb⟩
      clear f0 c0_0 c0_1 c0_2 c0_3 c0_4 f1 c1_0 c1_1 c1_2 c1_3 c1_4
      replace LL := hide ((unhide LL).on hb)
      clear hb
      obtain ⟨f0, c0_0, c0_1, c0_2, c0_3, c0_4⟩ := (unhide LL).one
      obtain ⟨f1, c1_0, c1_1, c1_2, c1_3, c1_4⟩ := (unhide LL).two
      dsimp only at f0 c0_0 c0_1 c0_2 c0_3 c0_4 f1 c1_0 c1_1 c1_2 c1_3 c1_4
      go_wp2_with (fail)
      go_ret
      exact ⟨rfl, (unhide LL).below⟩
set_option maxHeartbeats 2000000 in
set_option maxRecDepth 100000 in
theorem differs_any (a b : VV) (ha : a.x < 2 ^ 64) (hb : b.x < 2 ^ 64) (w : World) (hT : Lib.Utf8Tabs 4 5 w) : Calls Tryz.prog 86 #[a.agg, b.agg] w fun e w' => e = .returned (.bool (difV a b)) ∧ Below w.heap.size w w' := by
  have HB := hide (there_any b hb)
  have HS := hide (fun w hT => same51 a b ha hb w hT)
  have HT := hide hT
  clear hT
  unfold difV
  have L0 := Lie.new2 w (.V a) (.V b)
  obtain ⟨k, b1, x, s, i⟩ := a
  obtain ⟨k2, b2, x2, s2, i2⟩ := b
  unfold PB.obj VV.obj at L0
  unfold VV.agg at *
  dsimp only at *
  have LL := hide L0
  clear L0 ha hb
  generalize thV ⟨k2, b2, x2, s2, i2⟩ = tb at *
  generalize samV ⟨k, b1, x, s, i⟩ ⟨k2, b2, x2, s2, i2⟩ = sm at *
  cases tb
  · go_enter Tryz.func86, Tryz.ntmps86
    go_wp2_with (fail)
    refine (unhide HB _).mono ?_
    rintro _ w1 ⟨rfl, hb⟩
    replace LL := hide ((unhide LL).on hb)
    clear hb
    obtain ⟨f0, c0_0, c0_1, c0_2, c0_3, c0_4⟩ := (unhide LL).one
    obtain ⟨f1, c1_0, c1_1, c1_2, c1_3, c1_4⟩ := (unhide LL).two
    dsimp only at f0 c0_0 c0_1 c0_2 c0_3 c0_4 f1 c1_0 c1_1 c1_2 c1_3 c1_4
    go_wp2_with (fail)
    go_ret
    exact ⟨rfl, (unhide LL).below⟩
  · go_enter Tryz.func86, Tryz.ntmps86
    go_wp2_with (fail)
    refine (unhide HB _).mono ?_
    rintro _ w1 ⟨rfl, hb⟩
    replace LL := hide ((unhide LL).on hb)
    clear hb
    obtain ⟨f0, c0_0, c0_1, c0_2, c0_3, c0_4⟩ := (unhide LL).one
    obtain ⟨f1, c1_0, c1_1, c1_2, c1_3, c1_4⟩ := (unhide LL).two
    dsimp only at f0 c0_0 c0_1 c0_2 c0_3 c0_4 f1 c1_0 c1_1 c1_2 c1_3 c1_4
    go_wp2_with (fail)
    refine (unhide HS _ (tabs_below (unhide HT) (unhide LL).below)).mono ?_
    rintro _ w2 ⟨rfl, hb⟩
    clear f0 c0_0 c0_1 c0_2 c0_3 c0_4 f1 c1_0 c1_1 c1_2 c1_3 c1_4
    replace LL := hide ((unhide LL).on hb)
    clear hb
    obtain ⟨f0, c0_0, c0_1, c0_2, c0_3, c0_4⟩ := (unhide LL).one
    obtain ⟨f1, c1_0, c1_1, c1_2, c1_3, c1_4⟩ := (unhide LL).two
    dsimp only at f0 c0_0 c0_1 c0_2 c0_3 c0_4 f1 c1_0 c1_1 c1_2 c1_3 c1_4
    go_wp2_with (fail)
    go_ret
    exact ⟨rfl, (unhide LL).below⟩
