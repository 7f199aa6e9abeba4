import Derived.Test.YtdlbciiekghkaaaDoorSd
import Derived.Test.YtdlbciiekghkaaaDoorVl
namespace Go.Proofs.YtdlbciiekghkaaaDoor
open Go.RowKit FM
attribute [local go_sem] bits_run run_store_float
theorem cmpI_lt (a b : Int) : (cmpI a b < 0) = (a < b) := by
  unfold cmpI
  repeat' split
  all_goals simp
  all_goals omega
theorem fit_size {s : ByteArray} (h : fitV s = true) : s.size ≤ 1048576 ∧ vS s = true := by
  unfold fitV at h
  rw [Bool.and_eq_true] at h
  exact ⟨of_decide_eq_true h.1, h.2⟩
theorem lt_order (x y : Nat) : (FloatKind.f64.format.order x y == some .lt) = (!isN x && !isN y && decide (pl x < pl y)) := by rw [fo]; exact ltF x y
/-- Below of two numbers. -/
def blN (x y : Nat) : Bool := if isN x || isN y then !isN x else decide (pl x < pl y) || (mnV x && decide (sz y = 0) && !mnV y)
theorem mn_sz (x : Nat) (hx : x < 2 ^ 64) : mnV x = (decide (sz x = 0) && ng x) := by
  unfold mnV sz ng
  rw [Bool.eq_iff_iff]
  simp
  omega
theorem blN_eq (x y : Nat) (hx : x < 2 ^ 64) (hy : y < 2 ^ 64) : blN x y = decide (cmpN x y < 0) := by
  rw [cmpN_key x y hx hy]
  simp only [cmpI_lt]
  unfold blN nkey
  rw [mn_sz x hx, mn_sz y hy]
  have s1 := sz_lt x
  have s2 := sz_lt y
  unfold pl
  cases h1 : isN x <;> cases h2 : isN y <;> cases h3 : ng x <;> cases h4 : ng y <;> simp
  all_goals (try (rw [Bool.eq_iff_iff]; simp))
  all_goals omega
theorem bt'' {w w1 w2 : World} (h : Below w.heap.size w w1) (k : Below w1.heap.size w1 w2) : Below w.heap.size w w2 := h.trans (k.mono h.size)
set_option maxHeartbeats 2000000 in
set_option maxRecDepth 100000 in
theorem refBelow_any (a b : VV) (ha : a.good = true) (hb : b.good = true) (hx : a.x < 2 ^ 64) (hy : b.x < 2 ^ 64) (w : World) : Calls Tryd.prog 48 #[a.agg, b.agg] w fun e w' => e = .returned (.bool (decide (cmpV a b < 0))) ∧ Below w.heap.size w w' := by
  have hN := blN_eq a.x b.x hx hy
  have hL := lt_order a.x b.x
  have hX := isN_bne a.x
  have hY := isN_bne b.x
  have hX2 : (FloatKind.f64.format.order a.x a.x == some .eq) = !isN a.x := by rw [← hX, bne, Bool.not_not]
  have hZ := zero_sz b.x hy
  have HM := hide (minus_any a.x hx)
  have HM2 := hide (minus_any b.x hy)
  have H5 : a.k = 5 → b.k = 5 → Hid (∀ w, Calls Tryd.prog 65 #[.string a.s, .string b.s] w fun e w' => e = .returned (.tuple #[.int .i64 (M.cmpL (unS a.s) (unS b.s)), .int .i64 0]) ∧ Below w.heap.size w w') := by
    intro e1 e2
    have f1 : fitV a.s = true := by
      rcases good_cases ha with ⟨h, -⟩ | ⟨h, -⟩ | ⟨h, -⟩ | ⟨h, -⟩ | ⟨-, -, -, -, h⟩ | ⟨h, -⟩ | ⟨h, -⟩
      all_goals first | exact h | omega
    have f2 : fitV b.s = true := by
      rcases good_cases hb with ⟨h, -⟩ | ⟨h, -⟩ | ⟨h, -⟩ | ⟨h, -⟩ | ⟨-, -, -, -, h⟩ | ⟨h, -⟩ | ⟨h, -⟩
      all_goals first | exact h | omega
    obtain ⟨s1, v1⟩ := fit_size f1
    obtain ⟨s2, v2⟩ := fit_size f2
    refine hide fun w => ?_
    have := refCompare_any a.s b.s (by omega) (by omega) w
    unfold cmI cmE okC' at this
    rw [v1, v2] at this
    exact this
  have H12 : a.k = b.k → a.k ≠ 3 → a.k ≠ 4 → a.k ≠ 5 → cmpV a b = cmpI a.i b.i := by
    intro e1 e3 e4 e5
    unfold cmpV
    rw [if_neg (by simp [e1]), if_neg e3, if_neg e4, if_neg e5]
    by_cases e6 : a.k = 6
    · rw [if_pos e6]
    · rw [if_neg e6]
      by_cases e7 : a.k = 7
      · rw [if_pos e7]
      · rw [if_neg e7]
        have i1 : a.i = 0 := by rcases good_cases ha with ⟨-, -, -, -, h⟩ | ⟨-, -, -, -, h⟩ | ⟨h, -⟩ | ⟨h, -⟩ | ⟨h, -⟩ | ⟨h, -⟩ | ⟨h, -⟩ <;> first | exact h | omega
        have i2 : b.i = 0 := by rcases good_cases hb with ⟨-, -, -, -, h⟩ | ⟨-, -, -, -, h⟩ | ⟨h, -⟩ | ⟨h, -⟩ | ⟨h, -⟩ | ⟨h, -⟩ | ⟨h, -⟩ <;> first | exact h | omega
        rw [i1, i2]
        rfl
  have HK : 1 ≤ a.k ∧ a.k ≤ 7 := by rcases good_cases ha with ⟨h, -⟩ | ⟨h, -⟩ | ⟨h, -⟩ | ⟨h, -⟩ | ⟨h, -⟩ | ⟨h, -⟩ | ⟨h, -⟩ <;> omega
  clear ha hb hx hy
  by_cases hk : a.k = b.k
  · by_cases h3 : a.k = 3
    · have hr : cmpV a b = cmpB a.b b.b := by unfold cmpV; rw [if_neg (by simp [hk]), if_pos h3]
      have hr2 : decide (cmpV a b < 0) = (!a.b && b.b) := by rw [hr]; cases a.b <;> cases b.b <;> rfl
      rw [hr2]
      clear hr hr2 H5 H12 HM HM2 hN hL hX hX2 hY hZ HK
      obtain ⟨k, c, x, s, i⟩ := a
      obtain ⟨k', c', x', s', i'⟩ := b
      unfold VV.agg at *
      dsimp only at *
      subst hk
      subst h3
      cases c <;> cases c'
      all_goals
        go_enter Tryd.func48, Tryd.ntmps48
        go_wp2
        go_ret
        exact ⟨rfl, below2 w _ _⟩
    · by_cases h4 : a.k = 4
      · have hr : cmpV a b = cmpN a.x b.x := by unfold cmpV; rw [if_neg (by simp [hk]), if_neg h3, if_pos h4]
        rw [hr, ← hN]
        unfold blN
        clear hr H5 H12 hN HK
        obtain ⟨k, c, x, s, i⟩ := a
        obtain ⟨k', c', x', s', i'⟩ := b
        unfold VV.agg at *
        dsimp only at *
        subst hk
        subst h4
        generalize isN x = nx at *
        generalize isN x' = ny at *
        generalize mnV x = m1 at *
        generalize mnV x' = m2 at *
        generalize decide (sz x' = 0) = z2 at *
        generalize decide (pl x < pl x') = lt at *
        cases nx
        · cases ny
          · cases lt
            · cases m1
              · go_enter Tryd.func48, Tryd.ntmps48
                go_wp2_with fail
                refine (unhide HM _).mono ?_
                rintro e w' ⟨rfl, rfl⟩
                go_wp2
                go_ret
                exact ⟨by simp, below2 w _ _⟩
              · cases z2
                · go_enter Tryd.func48, Tryd.ntmps48
                  go_wp2_with fail
                  refine (unhide HM _).mono ?_
                  rintro e w' ⟨rfl, rfl⟩
                  go_wp2
                  go_ret
                  exact ⟨by simp, below2 w _ _⟩
                · go_enter Tryd.func48, Tryd.ntmps48
                  go_wp2_with fail
                  refine (unhide HM _).mono ?_
                  rintro e w' ⟨rfl, rfl⟩
                  go_wp2_with fail
                  refine (unhide HM2 _).mono ?_
                  rintro e w' ⟨rfl, rfl⟩
                  go_wp2
                  go_ret
                  exact ⟨by simp, below2 w _ _⟩
            · go_enter Tryd.func48, Tryd.ntmps48
              go_wp2
              go_ret
              exact ⟨by simp, below2 w _ _⟩
          · go_enter Tryd.func48, Tryd.ntmps48
            go_wp2
            go_ret
            exact ⟨by simp, below2 w _ _⟩
        · go_enter Tryd.func48, Tryd.ntmps48
          go_wp2
          go_ret
          exact ⟨by simp, below2 w _ _⟩
      · by_cases h5 : a.k = 5
        · have hr : cmpV a b = M.cmpL (unS a.s) (unS b.s) := by unfold cmpV; rw [if_neg (by simp [hk]), if_neg h3, if_neg h4, if_pos h5]
          rw [hr]
          have HC := H5 h5 (hk ▸ h5)
          clear hr H5 H12 hN HM HM2 hL hX hX2 hY hZ HK
          obtain ⟨k, c, x, s, i⟩ := a
          obtain ⟨k', c', x', s', i'⟩ := b
          unfold VV.agg at *
          dsimp only at *
          subst hk
          subst h5
          generalize M.cmpL (unS s) (unS s') = r at *
          go_enter Tryd.func48, Tryd.ntmps48
          go_wp2_with fail
          refine (unhide HC _).mono ?_
          rintro e w1 ⟨rfl, hb⟩
          have hB := hide (bt'' (below2 w _ _) hb)
          clear hb
          go_wp2
          go_ret
          exact ⟨rfl, unhide hB⟩
        · have hr2 : decide (cmpV a b < 0) = decide (a.i < b.i) := by rw [H12 hk h3 h4 h5]; simp only [cmpI_lt]
          rw [hr2]
          clear hr2 H5 H12 hN HM HM2 hL hX hX2 hY hZ HK
          obtain ⟨k, c, x, s, i⟩ := a
          obtain ⟨k', c', x', s', i'⟩ := b
          unfold VV.agg at *
          dsimp only at *
          subst hk
          go_enter Tryd.func48, Tryd.ntmps48
          go_wp2
          go_ret
          exact ⟨by simp, below2 w _ _⟩
  · have hr : decide (cmpV a b < 0) = decide (a.k < b.k) := by
      have : cmpV a b = cmpI a.k b.k := by unfold cmpV; rw [if_pos hk]
      rw [this]
      simp only [cmpI_lt]
    rw [hr]
    clear hr H5 H12 hN HM HM2 hL hX hX2 hY hZ HK
    obtain ⟨k, c, x, s, i⟩ := a
    obtain ⟨k', c', x', s', i'⟩ := b
    unfold VV.agg at *
    dsimp only at *
    go_enter Tryd.func48, Tryd.ntmps48
    go_wp2
    go_ret
    exact ⟨by simp, below2 w _ _⟩
end Go.Proofs.YtdlbciiekghkaaaDoor
