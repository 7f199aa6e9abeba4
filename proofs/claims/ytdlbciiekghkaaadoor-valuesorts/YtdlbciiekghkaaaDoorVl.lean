import Derived.Test.YtdlbciiekghkaaaDoorVk
namespace Go.Proofs.YtdlbciiekghkaaaDoor
open Go.RowKit FM
attribute [local go_sem] bits_run run_store_float
set_option maxHeartbeats 2000000 in
theorem refZero_any (a b : VV) (hx : a.x < 2 ^ 64) (hy : b.x < 2 ^ 64) (w : World) : Calls Tryd.prog 25 #[a.agg, b.agg] w fun e w' => e = .returned (.bool (alikeV same0V a b)) ∧ Below w.heap.size w w' := by
  have HI := hide (refIs_any a b hx hy)
  have hX := zero_sz a.x hx
  have hY := zero_sz b.x hy
  have hr : alikeV same0V a b = (alikeV sameV a b || (a.k == 4 && b.k == 4 && decide (sz a.x = 0) && decide (sz b.x = 0))) := by
    unfold alikeV same0V
    by_cases hk : a.k = b.k
    · by_cases h4 : b.k = 4
      · rw [hk, h4]; simp
      · simp [hk, h4]
    · have e1 : (a.k == b.k) = false := by rw [beq_eq_false_iff_ne]; exact hk
      rw [e1]
      by_cases h4 : a.k = 4
      · have : (b.k == 4) = false := by rw [beq_eq_false_iff_ne]; exact fun e => hk (by rw [h4, e])
        simp [this]
      · simp [h4]
  rw [hr]
  clear hr hx hy
  generalize alikeV sameV a b = r at *
  obtain ⟨k, c, x, s, i⟩ := a
  obtain ⟨k', c', x', s', i'⟩ := b
  unfold VV.agg at *
  dsimp only at *
  generalize decide (sz x = 0) = zx at *
  generalize decide (sz x' = 0) = zy at *
  cases r
  · go_enter Tryd.func25, Tryd.ntmps25
    go_wp2_with fail
    refine (unhide HI _).mono ?_
    rintro e w1 ⟨rfl, hb⟩
    have hB := (below2 w _ _).trans (hb.mono (by simp; omega))
    obtain ⟨r0, r1, r2, r3, r4, rf, rl⟩ := five_below (five_new _ (w.heap.size + 1) _ _ _ _ _ _ (by simp)) hb
    obtain ⟨p0, p1, p2, p3, p4, pf, pl⟩ := five_below (five_alloc (five_new w _ _ _ _ _ _ _ rfl) _) hb
    clear hb HI
    go_wp2
    all_goals
      go_ret
      refine ⟨?_, hB⟩
      simp [*]
  · go_enter Tryd.func25, Tryd.ntmps25
    go_wp2_with fail
    refine (unhide HI _).mono ?_
    rintro e w1 ⟨rfl, hb⟩
    have hB := (below2 w _ _).trans (hb.mono (by simp; omega))
    clear hb HI
    go_wp2
    go_ret
    exact ⟨by simp, hB⟩
theorem isN_bne (x : Nat) : (FloatKind.f64.format.order x x != some .eq) = isN x := by rw [fo]; exact nanF x
set_option maxHeartbeats 2000000 in
theorem refEqual_any (a b : VV) (hx : a.x < 2 ^ 64) (hy : b.x < 2 ^ 64) (w : World) : Calls Tryd.prog 26 #[a.agg, b.agg] w fun e w' => e = .returned (.bool (alikeV equalV a b)) ∧ Below w.heap.size w w' := by
  have HI := hide (refZero_any a b hx hy)
  have hN := isN_bne a.x
  have hr : alikeV equalV a b = (alikeV same0V a b && !(a.k == 4 && isN a.x)) := by
    unfold alikeV
    by_cases h4 : a.k = 4
    · simp only [h4, if_true]
      unfold equalV
      cases h1 : isN a.x
      · cases h2 : isN b.x
        · simp
        · have e1 : same0V a.x b.x = false := by
            have hne : a.x ≠ b.x := fun e => by rw [e, h2] at h1; cases h1
            have : ¬ sz b.x = 0 := fun e => by rw [sz0_nan e] at h2; cases h2
            simp [same0V, sameV, h1, hne, this]
          simp [e1]
      · simp
    · simp [h4]
  rw [hr]
  clear hr hx hy
  generalize alikeV same0V a b = r at *
  obtain ⟨k, c, x, s, i⟩ := a
  obtain ⟨k', c', x', s', i'⟩ := b
  unfold VV.agg at *
  dsimp only at *
  generalize isN x = nx at *
  cases r
  · go_enter Tryd.func26, Tryd.ntmps26
    go_wp2_with fail
    refine (unhide HI _).mono ?_
    rintro e w1 ⟨rfl, hb⟩
    have hB := (below2 w _ _).trans (hb.mono (by simp; omega))
    clear hb HI
    go_wp2
    go_ret
    exact ⟨by simp, hB⟩
  · go_enter Tryd.func26, Tryd.ntmps26
    go_wp2_with fail
    refine (unhide HI _).mono ?_
    rintro e w1 ⟨rfl, hb⟩
    have hB := (below2 w _ _).trans (hb.mono (by simp; omega))
    obtain ⟨p0, p1, p2, p3, p4, pf, pl⟩ := five_below (five_alloc (five_new w _ _ _ _ _ _ _ rfl) _) hb
    clear hb HI
    go_wp2
    all_goals
      go_ret
      refine ⟨?_, hB⟩
      simp [*]
set_option maxHeartbeats 2000000 in
theorem refTruth_any (v : VV) (hx : v.x < 2 ^ 64) (hk : 1 ≤ v.k) (w : World) : Calls Tryd.prog 23 #[v.agg] w fun e w' => e = .returned (.bool (truV v)) ∧ Below w.heap.size w w' := by
  have hN := isN_bne v.x
  have hZ := zero_sz v.x hx
  obtain ⟨k, b, x, s, i⟩ := v
  unfold VV.agg truV at *
  dsimp only at *
  clear hx
  have hk' : k = 1 ∨ k = 2 ∨ k = 3 ∨ k = 4 ∨ k = 5 ∨ (k == 1) = false ∧ (k == 2) = false ∧ (k == 3) = false ∧ (k == 4) = false ∧ (k == 5) = false := by
    simp only [beq_eq_false_iff_ne]
    omega
  clear hk
  rcases hk' with rfl | rfl | rfl | rfl | rfl | ⟨e1, e2, e3, e4, e5⟩
  · clear hN hZ
    go_enter Tryd.func23, Tryd.ntmps23
    go_wp2
    go_ret
    exact ⟨rfl, (Below.refl _ _).alloc (Nat.le_refl _) _⟩
  · clear hN hZ
    go_enter Tryd.func23, Tryd.ntmps23
    go_wp2
    go_ret
    exact ⟨rfl, (Below.refl _ _).alloc (Nat.le_refl _) _⟩
  · clear hN hZ
    go_enter Tryd.func23, Tryd.ntmps23
    go_wp2
    go_ret
    exact ⟨rfl, (Below.refl _ _).alloc (Nat.le_refl _) _⟩
  · have hp : (if (4 : Int) = 1 then false else if (4 : Int) = 2 then false else if (4 : Int) = 3 then b else if (4 : Int) = 4 then !isN x && !decide (sz x = 0) else if (4 : Int) = 5 then !s.toList.isEmpty else true) = (!isN x && !decide (sz x = 0)) := rfl
    rw [hp]
    clear hp
    generalize isN x = nx at *
    generalize decide (sz x = 0) = zx at *
    have hN2 : (FloatKind.f64.format.order x x == some .eq) = !nx := by rw [← hN, bne, Bool.not_not]
    have hZ2 : (FloatKind.f64.format.order x 0 != some .eq) = !zx := by rw [← hZ]; rfl
    cases nx <;> cases zx
    all_goals
      simp only [Bool.not_true, Bool.not_false] at hN2 hZ2
      go_enter Tryd.func23, Tryd.ntmps23
      go_wp2
      go_ret
      exact ⟨rfl, (Below.refl _ _).alloc (Nat.le_refl _) _⟩
  · clear hN hZ
    have hp : (if (5 : Int) = 1 then false else if (5 : Int) = 2 then false else if (5 : Int) = 3 then b else if (5 : Int) = 4 then !isN x && !decide (sz x = 0) else if (5 : Int) = 5 then !s.toList.isEmpty else true) = !s.toList.isEmpty := rfl
    rw [hp]
    clear hp
    go_enter Tryd.func23, Tryd.ntmps23
    go_wp2
    go_ret
    exact ⟨by simp, (Below.refl _ _).alloc (Nat.le_refl _) _⟩
  · clear hN hZ
    have hp : (if k = 1 then false else if k = 2 then false else if k = 3 then b else if k = 4 then !isN x && !decide (sz x = 0) else if k = 5 then !s.toList.isEmpty else true) = true := by
      simp only [beq_eq_false_iff_ne] at *
      simp [*]
    rw [hp]
    clear hp
    go_enter Tryd.func23, Tryd.ntmps23
    go_wp2
    go_ret
    exact ⟨rfl, (Below.refl _ _).alloc (Nat.le_refl _) _⟩
end Go.Proofs.YtdlbciiekghkaaaDoor
