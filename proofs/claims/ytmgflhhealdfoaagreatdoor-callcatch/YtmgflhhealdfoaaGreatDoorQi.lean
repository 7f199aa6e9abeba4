import Derived.Test.YtmgflhhealdfoaaGreatDoorQg
import Derived.Stop.Asserts
set_option linter.all false
namespace Go.Proofs.YtmgflhhealdfoaaGreatDoor
section
open Go.RowKit FM
attribute [local go_sem] bits_run run_store_floatD
set_option maxRecDepth 100000 in
theorem undefined_any (w : World) : Calls Tryz.prog 131 #[] w fun e w' => e = .returned (VV.agg ⟨1, false, 0, ByteArray.empty, 0⟩) ∧ Below w.heap.size w w' := by
  have HO := hide (outside1)
  unfold VV.agg at *
  dsimp only at *
  go_enter Tryz.func131, Tryz.ntmps131
  go_wp2_with fail
  refine (unhide HO _).mono ?_
  rintro e w1 ⟨rfl, hb⟩
  have hB := ((Below.refl w.heap.size w).alloc (Nat.le_refl _) _).trans (hb.mono (by simp))
  obtain ⟨r0, r1, r2, r3, r4, rf, rl⟩ := five_below (five_new _ w.heap.size _ _ _ _ _ _ rfl) hb
  clear hb HO
  go_wp2
  simp [bodyPost, results, Tryz.results131, go_sem, r0, r1, r2, r3, r4]
  exact set5 hB (by omega)
def eqB (a b : VV) : Bool := (decide (a.x = b.x) || isN a.x && isN b.x) && a.k == b.k && a.b == b.b && decide (a.s.toList = b.s.toList) && a.i == b.i
set_option maxHeartbeats 2000000 in
theorem eq_any (a b : VV) (w : World) : Calls Tryz.prog 12 #[a.agg, b.agg] w fun e w' => e = .returned (.bool (eqB a b)) ∧ Below w.heap.size w w' := by
  have ha := nanF a.x
  have hb := nanF b.x
  obtain ⟨k, b, x, s, i⟩ := a
  rename_i b'
  obtain ⟨k', c, x', s', i'⟩ := b'
  unfold VV.agg
  dsimp only at *
  rw [← fo] at ha hb
  have hg : eqB ⟨k, b, x, s, i⟩ ⟨k', c, x', s', i'⟩ = ((decide (x = x') || isN x && isN x') && k == k' && b == c && decide (s.toList = s'.toList) && i == i') := rfl
  rw [hg]
  clear hg
  generalize isN x = nx at *
  generalize isN x' = nx' at *
  cases nx
  · by_cases hx : x = x'
    · subst hx
      go_enter Tryz.func12, Tryz.ntmps12
      go_wp2
      go_quiet (fail)
      go_wp2
      all_goals
        go_ret
        refine ⟨?_, (below2 w _ _).trans (below_drewN' _ _ _)⟩
        simp [*]
    · have hxi : ((x : Int) == (x' : Int)) = false := by rw [beq_eq_false_iff_ne]; omega
      go_enter Tryz.func12, Tryz.ntmps12
      go_wp2
      go_quiet (fail)
      go_wp2
      all_goals
        go_ret
        refine ⟨?_, (below2 w _ _).trans (below_drewN' _ _ _)⟩
        simp [*]
  · by_cases hx : x = x'
    · subst hx
      go_enter Tryz.func12, Tryz.ntmps12
      go_wp2
      go_quiet (fail)
      go_wp2
      all_goals
        go_ret
        refine ⟨?_, (below2 w _ _).trans (below_drewN' _ _ _)⟩
        simp [*]
    · have hxi : ((x : Int) == (x' : Int)) = false := by rw [beq_eq_false_iff_ne]; omega
      cases nx'
      all_goals
        go_enter Tryz.func12, Tryz.ntmps12
        go_wp2
        go_quiet (fail)
        go_wp2
        all_goals
          go_ret
          refine ⟨?_, (below2 w _ _).trans (below_drewN' _ _ _)⟩
          simp [*]
end
section
open Go.RowKit FM
theorem q56 (w : World) : (binOp .eql 132 (.iface 159 (.agg #[])) (.iface 159 (.agg #[]))).run Tryz.prog w = .ok (.bool true) w := by kernel_rfl
theorem q57 (w : World) : (binOp .eql 132 (.iface 160 (.agg #[])) (.iface 160 (.agg #[]))).run Tryz.prog w = .ok (.bool true) w := by kernel_rfl
theorem q58 (a b : Bool) (w : World) : (binOp .eql 132 (.iface 161 (.bool a)) (.iface 161 (.bool b))).run Tryz.prog w = .ok (.bool (a == b)) w := by kernel_rfl
theorem q79 (a b : ByteArray) (w : World) : (binOp .eql 132 (.iface 163 (.string a)) (.iface 163 (.string b))).run Tryz.prog w = .ok (.bool (a.toList == b.toList)) w := by
  rw [← beq_toListBytes]; kernel_rfl
theorem q81 (a b : Int) (w : World) : (binOp .eql 132 (.iface 164 (.int .i64 a)) (.iface 164 (.int .i64 b))).run Tryz.prog w = .ok (.bool (a == b)) w := by kernel_rfl
theorem q82 (a b : Int) (w : World) : (binOp .eql 132 (.iface 165 (.int .i64 a)) (.iface 165 (.int .i64 b))).run Tryz.prog w = .ok (.bool (a == b)) w := by kernel_rfl
theorem qne (t u : TypeId) (a b : Value) (w : World) (h : t ≠ u) : (binOp .eql 132 (.iface t a) (.iface u b)).run Tryz.prog w = .ok (.bool false) w := run_eql_iface_types t u a b Tryz.underlying132 h w
attribute [local go_sem] bits_run run_store_floatD ta56 ta57 ta58 ta59 ta79 ta81 ta82 q56 q57 q58 q79 q81 q82
/-- The type behind a value of a kind. -/
def tyK (k : Int) : TypeId := if k = 1 then 159 else if k = 2 then 160 else if k = 3 then 161 else if k = 4 then 162 else if k = 5 then 163 else if k = 6 then 164 else 165
def inK (v : VV) : Value := if v.k = 1 then .agg #[] else if v.k = 2 then .agg #[] else if v.k = 3 then .bool v.b else if v.k = 4 then .float .f64 v.x else if v.k = 5 then .string v.s else .int .i64 v.i
theorem ifc_eq (v : VV) : v.ifc = .iface (tyK v.k) (inK v) := by
  unfold VV.ifc tyK inK
  repeat' split
  all_goals rfl
def alikeV (cmp : Nat → Nat → Bool) (a b : VV) : Bool := a.k == b.k && (if a.k = 4 then cmp a.x b.x else a.b == b.b && a.s.toList == b.s.toList && a.i == b.i)
set_option maxRecDepth 100000 in
theorem alike_num_same (x y : Nat) (w : World) :
    Calls Tryz.prog 152 #[.iface 162 (.float .f64 x), .iface 162 (.float .f64 y), .func (.func 151) #[] #[]] w fun e w' => e = .returned (.bool (sameV x y)) ∧ Below w.heap.size w w' := by
  go_enter Tryz.func152, Tryz.ntmps152
  go_wp2_with fail
  refine (same_any x y _).mono ?_
  rintro e w' ⟨rfl, rfl⟩
  go_wp2
  go_ret
  exact ⟨rfl, Below.refl _ _⟩
set_option maxRecDepth 100000 in
theorem alike_none (t : TypeId) (x : Nat) (b g : Value) (ht : (t = 162) = False) (w : World) :
    Calls Tryz.prog 152 #[.iface 162 (.float .f64 x), .iface t b, g] w fun e w' => e = .returned (.bool false) ∧ Below w.heap.size w w' := by
  go_enter Tryz.func152, Tryz.ntmps152
  go_wp2
  go_ret
  exact ⟨rfl, Below.refl _ _⟩
theorem alike_same (t u : TypeId) (a b : Value) (r : Bool) (g : Value) (ht : (t = 162) = False) (hr : ∀ w, (binOp .eql 132 (.iface t a) (.iface u b)).run Tryz.prog w = .ok (.bool r) w) (w : World) :
    Calls Tryz.prog 152 #[.iface t a, .iface u b, g] w fun e w' => e = .returned (.bool r) ∧ Below w.heap.size w w' := by
  go_enter Tryz.func152, Tryz.ntmps152
  go_wp2
  go_ret
  exact ⟨rfl, Below.refl _ _⟩
theorem qq {r r' : Bool} {w : World} {c : Sem Value} (h : c.run Tryz.prog w = .ok (.bool r) w) (e : r = r') : c.run Tryz.prog w = .ok (.bool r') w := by rw [h, e]
theorem eql_good (cmp : Nat → Nat → Bool) (a b : VV) (ha : a.good = true) (hb : b.good = true) (h4 : a.k ≠ 4) (w : World) : (binOp .eql 132 a.ifc b.ifc).run Tryz.prog w = .ok (.bool (alikeV cmp a b)) w := by
  obtain ⟨k, c, x, s, i⟩ := a
  obtain ⟨k', c', x', s', i'⟩ := b
  by_cases hk : k = k'
  · subst hk
    rcases good_cases ha with ⟨rfl, rfl, rfl, rfl, rfl⟩ | ⟨rfl, rfl, rfl, rfl, rfl⟩ | ⟨rfl, rfl, rfl, rfl⟩ | ⟨rfl, rfl, rfl, rfl⟩ | ⟨rfl, rfl, rfl, rfl, -⟩ | ⟨rfl, rfl, rfl, rfl, -, -⟩ | ⟨rfl, rfl, rfl, rfl, -, -⟩
    · rcases good_cases hb with ⟨-, rfl, rfl, rfl, rfl⟩ | ⟨h, -⟩ | ⟨h, -⟩ | ⟨h, -⟩ | ⟨h, -⟩ | ⟨h, -⟩ | ⟨h, -⟩ <;> first | (exfalso; dsimp only at h; omega) | exact qq (q56 w) (by simp [alikeV])
    · rcases good_cases hb with ⟨h, -⟩ | ⟨-, rfl, rfl, rfl, rfl⟩ | ⟨h, -⟩ | ⟨h, -⟩ | ⟨h, -⟩ | ⟨h, -⟩ | ⟨h, -⟩ <;> first | (exfalso; dsimp only at h; omega) | exact qq (q57 w) (by simp [alikeV])
    · rcases good_cases hb with ⟨h, -⟩ | ⟨h, -⟩ | ⟨-, rfl, rfl, rfl⟩ | ⟨h, -⟩ | ⟨h, -⟩ | ⟨h, -⟩ | ⟨h, -⟩ <;> first | (exfalso; dsimp only at h; omega) | exact qq (q58 c c' w) (by simp [alikeV])
    · exact absurd rfl h4
    · rcases good_cases hb with ⟨h, -⟩ | ⟨h, -⟩ | ⟨h, -⟩ | ⟨h, -⟩ | ⟨-, rfl, rfl, rfl, -⟩ | ⟨h, -⟩ | ⟨h, -⟩ <;> first | (exfalso; dsimp only at h; omega) | exact qq (q79 s s' w) (by simp [alikeV])
    · rcases good_cases hb with ⟨h, -⟩ | ⟨h, -⟩ | ⟨h, -⟩ | ⟨h, -⟩ | ⟨h, -⟩ | ⟨-, rfl, rfl, rfl, -, -⟩ | ⟨h, -⟩ <;> first | (exfalso; dsimp only at h; omega) | exact qq (q81 i i' w) (by simp [alikeV])
    · rcases good_cases hb with ⟨h, -⟩ | ⟨h, -⟩ | ⟨h, -⟩ | ⟨h, -⟩ | ⟨h, -⟩ | ⟨h, -⟩ | ⟨-, rfl, rfl, rfl, -, -⟩ <;> first | (exfalso; dsimp only at h; omega) | exact qq (q82 i i' w) (by simp [alikeV])
  · rw [ifc_eq, ifc_eq]
    refine qq (qne _ _ _ _ w ?_) ?_
    · have e1 : k = 1 ∨ k = 2 ∨ k = 3 ∨ k = 4 ∨ k = 5 ∨ k = 6 ∨ k = 7 := by
        rcases good_cases ha with ⟨h, -⟩ | ⟨h, -⟩ | ⟨h, -⟩ | ⟨h, -⟩ | ⟨h, -⟩ | ⟨h, -⟩ | ⟨h, -⟩ <;> (dsimp only at h; omega)
      have e2 : k' = 1 ∨ k' = 2 ∨ k' = 3 ∨ k' = 4 ∨ k' = 5 ∨ k' = 6 ∨ k' = 7 := by
        rcases good_cases hb with ⟨h, -⟩ | ⟨h, -⟩ | ⟨h, -⟩ | ⟨h, -⟩ | ⟨h, -⟩ | ⟨h, -⟩ | ⟨h, -⟩ <;> (dsimp only at h; omega)
      dsimp only
      rcases e1 with rfl | rfl | rfl | rfl | rfl | rfl | rfl <;> rcases e2 with rfl | rfl | rfl | rfl | rfl | rfl | rfl <;> first | exact absurd rfl hk | decide
    · unfold alikeV
      have : (k == k') = false := by rw [beq_eq_false_iff_ne]; exact hk
      simp [this]
theorem tyK_ne {k : Int} (h : k ≠ 4) : (tyK k = 162) = False := by
  unfold tyK
  repeat' split
  all_goals first | contradiction | simp
/-- What alike answers, of two values that are well formed. -/
theorem alike_good (f : FuncId) (cmp : Nat → Nat → Bool) (a b : VV) (ha : a.good = true) (hb : b.good = true)
    (hn : ∀ w, Calls Tryz.prog 152 #[.iface 162 (.float .f64 a.x), .iface 162 (.float .f64 b.x), .func (.func f) #[] #[]] w fun e w' => e = .returned (.bool (cmp a.x b.x)) ∧ Below w.heap.size w w') (w : World) :
    Calls Tryz.prog 152 #[a.ifc, b.ifc, .func (.func f) #[] #[]] w fun e w' => e = .returned (.bool (alikeV cmp a b)) ∧ Below w.heap.size w w' := by
  by_cases h4 : a.k = 4
  · by_cases k4 : b.k = 4
    · have e1 : a.ifc = .iface 162 (.float .f64 a.x) := by unfold VV.ifc; rw [h4]; rfl
      have e2 : b.ifc = .iface 162 (.float .f64 b.x) := by unfold VV.ifc; rw [k4]; rfl
      have e3 : alikeV cmp a b = cmp a.x b.x := by unfold alikeV; simp [h4, k4]
      rw [e1, e2, e3]
      exact hn w
    · have e1 : a.ifc = .iface 162 (.float .f64 a.x) := by unfold VV.ifc; rw [h4]; rfl
      have e3 : alikeV cmp a b = false := by
        unfold alikeV
        have : (a.k == b.k) = false := by rw [beq_eq_false_iff_ne, h4]; exact fun e => k4 e.symm
        rw [this]; rfl
      rw [e1, ifc_eq b, e3]
      exact alike_none _ _ _ _ (tyK_ne k4) w
  · have he := eql_good cmp a b ha hb h4
    rw [ifc_eq a, ifc_eq b] at *
    exact alike_same _ _ _ _ _ _ (tyK_ne h4) he w
