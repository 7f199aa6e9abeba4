import Derived.Test.YtedgaaaloigpdaaDoorVj
import Derived.Deep.QuietTactic
import Derived.BigQuiet
namespace Go.Proofs.YtedgaaaloigpdaaDoor
open Go.RowKit FM
attribute [local go_sem] bits_run run_store_float
set_option maxHeartbeats 2000000 in
set_option maxRecDepth 100000 in
theorem refIs_any (a b : VV) (hx : a.x < 2 ^ 64) (hy : b.x < 2 ^ 64) (w : World) : Calls Tryd.prog 66 #[a.agg, b.agg] w fun e w' => e = .returned (.bool (alikeV sameV a b)) ∧ Below w.heap.size w w' := by
  have hE := eq_order a.x b.x hx hy
  have hX := nanF a.x
  have hY := nanF b.x
  rw [← fo] at hX hY
  have HM := hide (minus_any a.x hx)
  have HN := hide (minus_any b.x hy)
  obtain ⟨k, c, x, s, i⟩ := a
  obtain ⟨k', c', x', s', i'⟩ := b
  unfold VV.agg alikeV
  dsimp only at *
  by_cases hk : k = k'
  · subst hk
    by_cases h4 : k = 4
    · subst h4
      cases hn : isN x
      · cases hm : isN x'
        · rw [hn] at hX
          rw [hm] at hY
          by_cases hq : equalV x x' = true
          · rw [hq] at hE
            have hE2 : FloatKind.f64.format.order x x' = some .eq := by simpa using hE
            have hr : sameV x x' = (mnV x == mnV x') := by
              unfold equalV same0V sameV at hq
              unfold sameV mnV
              rw [hn, hm] at *
              simp at hq ⊢
              rw [Bool.eq_iff_iff]
              simp
              unfold sz at hq
              omega
            have hp : ((4 : Int) == 4 && if (4 : Int) = 4 then sameV x x' else c == c' && s.toList == s'.toList && i == i') = (mnV x == mnV x') := by rw [← hr]; rfl
            rw [hp]
            clear hr hp hq hn hm HM HN
            go_enter Tryd.func66, Tryd.ntmps66
            go_wp2_with fail
            go_quiet ((go_at_call 59; refine Calls.quiet_of_same (minus_any _ ?_ _); assumption))
            go_wp2
            go_ret
            refine ⟨?_, (below2 w _ _).trans (below_drewN' _ _ _)⟩
            rfl
          · have hq' : equalV x x' = false := by simpa using hq
            rw [hq'] at hE
            have hE2 : ¬ FloatKind.f64.format.order x x' = some .eq := by simpa using hE
            have hr : sameV x x' = false := by
              unfold equalV same0V at hq'
              rw [hn, hm] at hq'
              simp at hq'
              exact hq'.1
            have hp : ((4 : Int) == 4 && if (4 : Int) = 4 then sameV x x' else c == c' && s.toList == s'.toList && i == i') = false := by rw [hr]; rfl
            rw [hp]
            clear hr hp hq hq' hn hm hx hy
            go_enter Tryd.func66, Tryd.ntmps66
            go_wp2_with fail
            go_quiet (fail)
            go_wp2
            go_ret
            exact ⟨rfl, (below2 w _ _).trans (below_drewN' _ _ _)⟩
        · rw [hn] at hX
          rw [hm] at hY
          have hp : ((4 : Int) == 4 && if (4 : Int) = 4 then sameV x x' else c == c' && s.toList == s'.toList && i == i') = false := by
            have : x ≠ x' := fun e => by rw [e, hm] at hn; cases hn
            unfold sameV
            simp [hn, this]
          rw [hp]
          clear hp hE HM HN hn hm
          go_enter Tryd.func66, Tryd.ntmps66
          go_wp2
          go_ret
          exact ⟨rfl, below2 w _ _⟩
      · rw [hn] at hX
        have hp : ((4 : Int) == 4 && if (4 : Int) = 4 then sameV x x' else c == c' && s.toList == s'.toList && i == i') = isN x' := by
          unfold sameV
          simp [hn]
          intro e
          rw [← e, hn]
        rw [hp]
        clear hp hE HM HN hn
        generalize isN x' = ny at *
        go_enter Tryd.func66, Tryd.ntmps66
        go_wp2
        go_ret
        exact ⟨rfl, below2 w _ _⟩
    · have h4' : (k == 4) = false := by rw [beq_eq_false_iff_ne]; exact h4
      clear hE hX hY HM HN
      simp only [h4, if_false]
      go_enter Tryd.func66, Tryd.ntmps66
      go_wp2
      all_goals
        go_ret
        refine ⟨?_, below2 w _ _⟩
        simp [*]
  · have hk' : (k == k') = false := by rw [beq_eq_false_iff_ne]; exact hk
    simp only [hk', Bool.false_and]
    clear hE hX hY HM HN
    go_enter Tryd.func66, Tryd.ntmps66
    go_wp2
    go_ret
    exact ⟨rfl, below2 w _ _⟩
end Go.Proofs.YtedgaaaloigpdaaDoor
