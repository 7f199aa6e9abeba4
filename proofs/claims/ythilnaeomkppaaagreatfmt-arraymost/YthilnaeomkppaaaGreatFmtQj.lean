import Derived.Test.YthilnaeomkppaaaGreatFmtQi
set_option linter.all false
namespace Go.Proofs.YthilnaeomkppaaaGreatFmt
section
open Go.RowKit FM
attribute [local go_sem] bits_run run_store_floatD
set_option maxRecDepth 100000 in
theorem undefined_any (w : World) : Calls Tryz.prog 83 #[] w fun e w' => e = .returned (VV.agg ⟨1, false, 0, ByteArray.empty, 0⟩) ∧ Below w.heap.size w w' := by
  have HO := hide (outside1)
  unfold VV.agg at *
  dsimp only at *
  go_enter Tryz.func83, Tryz.ntmps83
  go_wp2_with fail
  refine (unhide HO _).mono ?_
  rintro e w1 ⟨rfl, hb⟩
  have hB := ((Below.refl w.heap.size w).alloc (Nat.le_refl _) _).trans (hb.mono (by simp))
  obtain ⟨r0, r1, r2, r3, r4, rf, rl⟩ := five_below (five_new _ w.heap.size _ _ _ _ _ _ rfl) hb
  clear hb HO
  go_wp2
  simp [bodyPost, results, Tryz.results83, go_sem, r0, r1, r2, r3, r4]
  exact set5 hB (by omega)
def eqB (a b : VV) : Bool := (decide (a.x = b.x) || isN a.x && isN b.x) && a.k == b.k && a.b == b.b && decide (a.s.toList = b.s.toList) && a.i == b.i
set_option maxHeartbeats 2000000 in
theorem eq_any (a b : VV) (w : World) : Calls Tryz.prog 42 #[a.agg, b.agg] w fun e w' => e = .returned (.bool (eqB a b)) ∧ Below w.heap.size w w' := by
  have ha := nanF a.x
  have hb := nanF b.x
  obtain ⟨k, b, x, s, i⟩ := a
  rename_i b'
  obtain ⟨k', c, x', s', i'⟩ := b'
  unfold VV.agg
  dsimp only at *
  rw [← fo] at ha hb
  have hg : eqB ⟨k, b, x, s, i⟩ ⟨k', c, x', s', i'⟩ = ((decide (x = x') || isN x && isN x') && k == k' && b == c && decide (s.toList = s'.toList) && i == i') := rfl
  rw [hg]
  clear hg
  generalize isN x = nx at *
  generalize isN x' = nx' at *
  cases nx
  · by_cases hx : x = x'
    · subst hx
      go_enter Tryz.func42, Tryz.ntmps42
      go_wp2
      go_quiet (fail)
      go_wp2
      all_goals
        go_ret
        refine ⟨?_, (below2 w _ _).trans (below_drewN' _ _ _)⟩
        simp [*]
    · have hxi : ((x : Int) == (x' : Int)) = false := by rw [beq_eq_false_iff_ne]; omega
      go_enter Tryz.func42, Tryz.ntmps42
      go_wp2
      go_quiet (fail)
      go_wp2
      all_goals
        go_ret
        refine ⟨?_, (below2 w _ _).trans (below_drewN' _ _ _)⟩
        simp [*]
  · by_cases hx : x = x'
    · subst hx
      go_enter Tryz.func42, Tryz.ntmps42
      go_wp2
      go_quiet (fail)
      go_wp2
      all_goals
        go_ret
        refine ⟨?_, (below2 w _ _).trans (below_drewN' _ _ _)⟩
        simp [*]
    · have hxi : ((x : Int) == (x' : Int)) = false := by rw [beq_eq_false_iff_ne]; omega
      cases nx'
      all_goals
        go_enter Tryz.func42, Tryz.ntmps42
        go_wp2
        go_quiet (fail)
        go_wp2
        all_goals
          go_ret
          refine ⟨?_, (below2 w _ _).trans (below_drewN' _ _ _)⟩
          simp [*]
