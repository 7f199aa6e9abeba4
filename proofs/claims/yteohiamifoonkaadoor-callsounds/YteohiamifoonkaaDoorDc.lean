import Derived.Test.YteohiamifoonkaaDoorDb
namespace Go.Proofs.YteohiamifoonkaaDoor
open Go Go.Proofs Go.RowKit FM
set_option linter.unusedSimpArgs false
set_option linter.unusedVariables false
def shapeV (d : DD) : Int := if (thV d.v || d.w != 0) && (thV d.g || thV d.s) then 0 else if thV d.v || d.w != 0 then 2 else if thV d.g || thV d.s then 3 else 1
def triV (t : Int) : Bool := t == 0 || t == 1 || t == 2
theorem said_any (t : Int) (w : World) : Calls Tryd.prog 59 #[.int .i64 t] w fun e w' => e = .returned (.bool (t != 0)) ∧ w' = w := by
  go_enter Tryd.func59, Tryd.ntmps59
  go_wp2
  go_ret
  exact ⟨rfl, rfl⟩
theorem oneOfThree_any (t : Int) (w : World) : Calls Tryd.prog 58 #[.int .i64 t] w fun e w' => e = .returned (.bool (triV t)) ∧ w' = w := by
  unfold triV
  by_cases h0 : t = 0
  · subst h0
    go_enter Tryd.func58, Tryd.ntmps58
    go_wp2
    go_ret
    exact ⟨rfl, rfl⟩
  · have h0' : (t == 0) = false := by simp [h0]
    by_cases h1 : t = 1
    · subst h1
      go_enter Tryd.func58, Tryd.ntmps58
      go_wp2
      go_ret
      exact ⟨rfl, rfl⟩
    · have h1' : (t == 1) = false := by simp [h1]
      rw [h0', h1']
      go_enter Tryd.func58, Tryd.ntmps58
      go_wp2
      go_ret
      exact ⟨rfl, rfl⟩
theorem refTri_any (t : Int) (w : World) : Calls Tryd.prog 39 #[.int .i64 t] w fun e w' => e = .returned (.bool (triV t)) ∧ w' = w := by
  unfold triV
  by_cases h0 : t = 0
  · subst h0
    go_enter Tryd.func39, Tryd.ntmps39
    go_wp2
    go_ret
    exact ⟨rfl, rfl⟩
  · have h0' : (t == 0) = false := by simp [h0]
    by_cases h1 : t = 1
    · subst h1
      go_enter Tryd.func39, Tryd.ntmps39
      go_wp2
      go_ret
      exact ⟨rfl, rfl⟩
    · have h1' : (t == 1) = false := by simp [h1]
      rw [h0', h1']
      go_enter Tryd.func39, Tryd.ntmps39
      go_wp2
      go_ret
      exact ⟨rfl, rfl⟩
/-- The floats of a descriptor are floats. -/
def FD (d : DD) : Prop := d.v.x < 2 ^ 64 ∧ d.g.x < 2 ^ 64 ∧ d.s.x < 2 ^ 64
theorem refThere_any (v : VV) (w : World) : Calls Tryd.prog 28 #[v.agg] w fun e w' => e = .returned (.bool (v.k != 0)) ∧ Below w.heap.size w w' := by
  obtain ⟨k, b, x, s, i⟩ := v
  unfold VV.agg
  dsimp only
  go_enter Tryd.func28, Tryd.ntmps28
  go_wp2
  go_ret
  exact ⟨rfl, (Below.refl w.heap.size w).alloc (Nat.le_refl _) _⟩

theorem o_ig : (FloatKind.f64.format.order 9218868437227405312 0 == some .gt) = true := by decide +kernel
theorem o_ng : (FloatKind.f64.format.order 18442240474082181120 0 == some .gt) = false := by decide +kernel
section
attribute [local go_sem] quo_pos quo_neg
set_option maxHeartbeats 1000000 in
set_option maxRecDepth 100000 in
theorem refNone_any (v : VV) (hx : v.x < 2 ^ 64) (w : World) : Calls Tryd.prog 37 #[v.agg] w fun e w' => e = .returned (.bool (!thV v)) ∧ Below w.heap.size w w' := by
  have hz := zero_order v.x hx
  have h1 := o_00
  have h2 := o_m0
  have h3 := o_ig
  have h4 := o_ng
  obtain ⟨k, b, x, s, i⟩ := v
  unfold VV.agg thV
  dsimp only at *
  by_cases hk : k = 0
  · subst hk
    cases b
    · generalize hq : (FloatKind.f64.format.order x 0 == some .eq) = q at *
      cases q
      · have hx0 : (x == 0) = false := by
          simp at hz
          simp [hz]
        rw [hx0]
        have hq2 : ¬ FloatKind.f64.format.order x 0 = some .eq := by simpa using hq
        clear hz hq hx hx0 h1 h2 h3 h4
        go_enter Tryd.func37, Tryd.ntmps37
        go_wp2
        go_ret
        exact ⟨rfl, (Below.refl w.heap.size w).alloc (Nat.le_refl _) _⟩
      · have hx0 : x = 0 ∨ x = 9223372036854775808 := by
          simp at hz
          omega
        clear hz
        rcases hx0 with rfl | rfl
        · by_cases hs : s.toList.isEmpty = true
          · have hs2 := empty_of hs
            subst hs2
            by_cases hi : i = 0
            · subst hi
              rw [hs]
              clear hx hs
              go_enter Tryd.func37, Tryd.ntmps37
              go_wp2
              go_ret
              exact ⟨rfl, (Below.refl w.heap.size w).alloc (Nat.le_refl _) _⟩
            · have hi2 : (i == 0) = false := by simp [hi]
              rw [hi2, Bool.and_false]
              clear hx hs
              go_enter Tryd.func37, Tryd.ntmps37
              go_wp2
              go_ret
              exact ⟨rfl, (Below.refl w.heap.size w).alloc (Nat.le_refl _) _⟩
          · have hs1 : s.toList.isEmpty = false := by simpa using hs
            have hs2 : ¬ s.toList = [] := by simpa using hs1
            rw [hs1, Bool.and_false, Bool.false_and]
            clear hx hs hs1
            go_enter Tryd.func37, Tryd.ntmps37
            go_wp2
            go_ret
            exact ⟨rfl, (Below.refl w.heap.size w).alloc (Nat.le_refl _) _⟩
        · clear hx
          go_enter Tryd.func37, Tryd.ntmps37
          go_wp2
          go_ret
          exact ⟨rfl, (Below.refl w.heap.size w).alloc (Nat.le_refl _) _⟩
    · clear hz hx h1 h2 h3 h4
      go_enter Tryd.func37, Tryd.ntmps37
      go_wp2
      go_ret
      exact ⟨rfl, (Below.refl w.heap.size w).alloc (Nat.le_refl _) _⟩
  · clear hz hx h1 h2 h3 h4
    have hk2 : (k == 0) = false := by simp [hk]
    rw [hk2]
    go_enter Tryd.func37, Tryd.ntmps37
    go_wp2
    go_ret
    exact ⟨rfl, (Below.refl w.heap.size w).alloc (Nat.le_refl _) _⟩
end
end Go.Proofs.YteohiamifoonkaaDoor
