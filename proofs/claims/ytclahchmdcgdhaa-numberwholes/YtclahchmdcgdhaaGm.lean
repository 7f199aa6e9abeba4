import Derived.Test.YtclahchmdcgdhaaGl
namespace Go.Proofs.Ytclahchmdcgdhaa
open Go.RowKit
theorem ReadsD.same {w w' : World} {v : Value} {l : List Nat} (h : ReadsD w v l) (hb : Below w.heap.size w w') : ReadsD w' v l := by
  obtain ⟨A, cap, e, h⟩ := h
  refine ⟨A, cap, e, fun i hi => ?_⟩
  obtain ⟨b, off, e2, hlt, hc⟩ := h i hi
  exact ⟨b, off, e2, Nat.lt_of_lt_of_le hlt hb.size, (hb.cell (p := ⟨b, off + i, none⟩) hlt).trans hc⟩
set_option maxHeartbeats 2000000 in
set_option maxRecDepth 100000 in
/-- Compare, of any two of which the second is not nought. -/
theorem compare_all (va vb : Value) (D E : List Nat) (P Q : Int) (hD : D.length ≤ 1000000) (hE : E.length ≤ 1000000) (hE0 : E ≠ []) (w : World) (hRD : ReadsD w va D) (hRE : ReadsD w vb E) :
    Calls Try.prog 52 #[.agg #[va, .int .i64 P], .agg #[vb, .int .i64 Q]] w fun e w' => e = .returned (.int .i64 (cmpD D P E Q)) ∧ Below w.heap.size w w' := by
  by_cases hD0 : D = []
  · subst hD0
    obtain ⟨A, cap, rfl, hA⟩ := hRD
    obtain ⟨A', cap', rfl, hA'⟩ := hRE
    clear hA hA'
    have h2 : 0 < E.length := List.length_pos_iff.2 hE0
    have e0 : cmpD [] P E Q = -1 := by unfold cmpD; rw [if_pos (by simp)]; simp only [List.length_nil]; omega
    rw [e0]
    clear e0
    have h2i : (1 : Int) ≤ (E.length : Int) := by omega
    rw [List.length_nil]
    go_enter Try.func52, Try.ntmps52
    go_wp2
    all_goals go_ret
    all_goals refine ⟨rt2 ?_, below2 w _ _⟩
    all_goals omega
  · exact compare_any va vb D E P Q hD hE hD0 hE0 w hRD hRE
end Go.Proofs.Ytclahchmdcgdhaa
