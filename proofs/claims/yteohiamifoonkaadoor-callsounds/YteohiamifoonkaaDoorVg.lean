import Derived.Test.YteohiamifoonkaaDoorVf
import Derived.Deep.QuietTactic
import Derived.BigQuiet
namespace Go.Proofs.YteohiamifoonkaaDoor
open Go.RowKit FM
attribute [local go_sem] bits_run run_store_float
def eqB (a b : VV) : Bool := (decide (a.x = b.x) || isN a.x && isN b.x) && a.k == b.k && a.b == b.b && decide (a.s.toList = b.s.toList) && a.i == b.i
set_option maxHeartbeats 2000000 in
theorem eq_any (a b : VV) (w : World) : Calls Tryd.prog 10 #[a.agg, b.agg] w fun e w' => e = .returned (.bool (eqB a b)) ∧ Below w.heap.size w w' := by
  have ha := nanF a.x
  have hb := nanF b.x
  obtain ⟨k, b, x, s, i⟩ := a
  rename_i b'
  obtain ⟨k', c, x', s', i'⟩ := b'
  unfold VV.agg
  dsimp only at *
  rw [← fo] at ha hb
  have hg : eqB ⟨k, b, x, s, i⟩ ⟨k', c, x', s', i'⟩ = ((decide (x = x') || isN x && isN x') && k == k' && b == c && decide (s.toList = s'.toList) && i == i') := rfl
  rw [hg]
  clear hg
  generalize isN x = nx at *
  generalize isN x' = nx' at *
  cases nx
  · by_cases hx : x = x'
    · subst hx
      go_enter Tryd.func10, Tryd.ntmps10
      go_wp2
      go_quiet (fail)
      go_wp2
      all_goals
        go_ret
        refine ⟨?_, (below2 w _ _).trans (below_drewN' _ _ _)⟩
        simp [*]
    · have hxi : ((x : Int) == (x' : Int)) = false := by rw [beq_eq_false_iff_ne]; omega
      go_enter Tryd.func10, Tryd.ntmps10
      go_wp2
      go_quiet (fail)
      go_wp2
      all_goals
        go_ret
        refine ⟨?_, (below2 w _ _).trans (below_drewN' _ _ _)⟩
        simp [*]
  · by_cases hx : x = x'
    · subst hx
      go_enter Tryd.func10, Tryd.ntmps10
      go_wp2
      go_quiet (fail)
      go_wp2
      all_goals
        go_ret
        refine ⟨?_, (below2 w _ _).trans (below_drewN' _ _ _)⟩
        simp [*]
    · have hxi : ((x : Int) == (x' : Int)) = false := by rw [beq_eq_false_iff_ne]; omega
      cases nx'
      all_goals
        go_enter Tryd.func10, Tryd.ntmps10
        go_wp2
        go_quiet (fail)
        go_wp2
        all_goals
          go_ret
          refine ⟨?_, (below2 w _ _).trans (below_drewN' _ _ _)⟩
          simp [*]
end Go.Proofs.YteohiamifoonkaaDoor
