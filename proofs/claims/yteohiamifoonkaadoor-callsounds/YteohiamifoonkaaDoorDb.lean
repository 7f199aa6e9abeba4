import Derived.Test.YteohiamifoonkaaDoorDa
import Derived.Test.YteohiamifoonkaaDoorVd
namespace Go.Proofs.YteohiamifoonkaaDoor
open Go Go.Proofs Go.RowKit FM
set_option linter.unusedSimpArgs false
set_option linter.unusedVariables false
theorem run_equalIn_float {P : Program} (d : Nat) (t : TypeId) (a b : Nat) (w : World) (h : P.underlying t = some (.float .f64)) : (Op.equalIn (d + 1) t (.float .f64 a) (.float .f64 b)).run P w = .ok (FloatKind.f64.format.order a b == some .eq) w := by
  simp [Op.equalIn, run_underlying h]
  rfl
section
attribute [local go_sem] bits_run
theorem signbit_any (x : Nat) (hx : x < 2 ^ 64) (w : World) : Calls Tryd.prog 64 #[.float .f64 x] w fun e w' => e = .returned (.bool (decide (2 ^ 63 ≤ x))) ∧ w' = w := by
  have h : (wrap64 (x : Int) < 0) = (2 ^ 63 ≤ x) := by
    unfold wrap64
    rw [eq_iff_iff]
    omega
  go_enter Tryd.func64, Tryd.ntmps64
  go_wp2
  go_ret
  exact ⟨by simp, rfl⟩
end
def thV (v : VV) : Bool := !(v.k == 0 && !v.b && v.x == 0 && v.s.toList.isEmpty && v.i == 0)
attribute [local go_sem] run_equalIn_float
set_option maxHeartbeats 1000000 in
set_option maxRecDepth 100000 in
theorem there_any (v : VV) (hx : v.x < 2 ^ 64) (w : World) : Calls Tryd.prog 56 #[v.agg] w fun e w' => e = .returned (.bool (thV v)) ∧ Below w.heap.size w w' := by
  have hz := zero_order v.x hx
  have HS := hide (signbit_any v.x hx)
  obtain ⟨k, b, x, s, i⟩ := v
  unfold VV.agg thV
  dsimp only at *
  by_cases hk : k = 0
  · subst hk
    cases b
    · generalize hq : (FloatKind.f64.format.order x 0 == some .eq) = q at *
      cases q
      · have hx0 : (x == 0) = false := by
          simp at hz
          simp [hz]
        rw [hx0]
        have hq2 : ¬ FloatKind.f64.format.order x 0 = some .eq := by simpa using hq
        clear hz hq HS hx hx0
        go_enter Tryd.func56, Tryd.ntmps56
        go_wp2
        go_ret
        exact ⟨rfl, (Below.refl w.heap.size w).alloc (Nat.le_refl _) _⟩
      · have hx0 : x = 0 ∨ x = 2 ^ 63 := by
          simp at hz
          omega
        have hq2 : FloatKind.f64.format.order x 0 = some .eq := by simpa using hq
        by_cases hs : s.toList.isEmpty = true
        · have hs2 := empty_of hs
          subst hs2
          by_cases hi : i = 0
          · subst hi
            have hr : (!((0 : Int) == 0 && !false && x == 0 && ByteArray.empty.toList.isEmpty && (0 : Int) == 0)) = decide (2 ^ 63 ≤ x) := by
              rw [hs]
              rcases hx0 with rfl | rfl <;> rfl
            rw [hr]
            generalize decide (2 ^ 63 ≤ x) = r at *
            clear hz hq hx hx0 hr hs
            go_enter Tryd.func56, Tryd.ntmps56
            go_wp2_with fail
            refine (unhide HS _).mono ?_
            rintro e w1 ⟨rfl, rfl⟩
            go_wp2
            go_ret
            exact ⟨rfl, (Below.refl w.heap.size w).alloc (Nat.le_refl _) _⟩
          · have hi2 : (i == 0) = false := by simp [hi]
            rw [hi2, Bool.and_false]
            clear hz hq hx hx0 hs HS
            go_enter Tryd.func56, Tryd.ntmps56
            go_wp2
            go_ret
            exact ⟨rfl, (Below.refl w.heap.size w).alloc (Nat.le_refl _) _⟩
        · have hs1 : s.toList.isEmpty = false := by simpa using hs
          have hs2 : ¬ s.toList = [] := by simpa using hs1
          rw [hs1, Bool.and_false, Bool.false_and]
          clear hz hq hx hx0 hs HS hs1
          go_enter Tryd.func56, Tryd.ntmps56
          go_wp2
          go_ret
          exact ⟨rfl, (Below.refl w.heap.size w).alloc (Nat.le_refl _) _⟩
    · clear hz HS hx
      go_enter Tryd.func56, Tryd.ntmps56
      go_wp2
      go_ret
      exact ⟨rfl, (Below.refl w.heap.size w).alloc (Nat.le_refl _) _⟩
  · clear hz HS hx
    have hk2 : (k == 0) = false := by simp [hk]
    rw [hk2]
    go_enter Tryd.func56, Tryd.ntmps56
    go_wp2
    go_ret
    exact ⟨rfl, (Below.refl w.heap.size w).alloc (Nat.le_refl _) _⟩
end Go.Proofs.YteohiamifoonkaaDoor
