import Derived.Test.YteohiamifoonkaaDoorCg
import Derived.Test.YteohiamifoonkaaDoorCl
namespace Go.Proofs.YteohiamifoonkaaDoor
open Go Go.Proofs Go.Maps Go.RowKit FM
set_option linter.unusedSimpArgs false
set_option linter.unusedVariables false
set_option maxHeartbeats 1000000
set_option maxHeartbeats 4000000 in
set_option maxRecDepth 100000 in
theorem rsndO (o : OP) (hc : o.c < 1 ∨ 24 < o.c) (w : World) : Calls Tryd.prog 13 #[o.agg] w fun e w' => e = .returned (.bool (sndV o)) ∧ Below w.heap.size w w' := by
  have LL := hide (Hq.nil w [])
  have HR := hide (fun (n : Int) (X : World) => reg_any n X)
  have HNC := hide hc
  have HS : Hid (sndV o = false) := hide (by unfold sndV; rcases hc with h | h <;> simp <;> omega)
  simp only [oagg] at *
  rcases hc with h | h
  · have hg10 : decide (10 ≤ o.c) = false := decide_eq_false (by omega)
    have hl15 : True := trivial
    clear h
    go_enter Tryd.func13, Tryd.ntmps13
    go_wp2_with (first | go_skip | ((with_reducible show wpList _ _ _ _ _ _); first | ((refine bx 34 (o.cs) (by rfl) rfl rfl rfl (Nat.succ_pos _) (unhide LL) ?_); intro X1 B1 hE1 L1 hb1; have hB1 := hide (Nat.le_trans (unhide LL).fr.size (Nat.le_of_eq hE1.symm)); replace LL := hide L1; clear L1 hb1 hE1; simp only [Act.put, List.setIfInBounds_toArray, List.set_cons_succ, List.set_cons_zero]) | ((refine rd (by rfl) (ex_load1 3 Tryd.isAgg3 rfl rfl ((unhide LL).get 0 rfl) rfl) ?_); simp only [Act.put, List.setIfInBounds_toArray, List.set_cons_succ, List.set_cons_zero]) | ((refine rd (by rfl) (ex_geI rfl rfl rfl hg10) ?_); simp only [Act.put, List.setIfInBounds_toArray, List.set_cons_succ, List.set_cons_zero]) | ((refine rd (by rfl) (ex_leI rfl rfl rfl hl15) ?_); simp only [Act.put, List.setIfInBounds_toArray, List.set_cons_succ, List.set_cons_zero]) | ((refine rd (by rfl) (ex_eqNo rfl rfl rfl (by have := unhide HNC; omega)) ?_); simp only [Act.put, List.setIfInBounds_toArray, List.set_cons_succ, List.set_cons_zero])))
    refine (unhide HR o.t _).mono ?_
    rintro e0 X4 ⟨rfl, hb4⟩
    replace LL := hide ((unhide LL).on hb4)
    clear hb4
    cases ht : rgB o.t
    · go_wp2_with (first | go_skip | ((with_reducible show wpList _ _ _ _ _ _); first | ((refine bx 34 (o.cs) (by rfl) rfl rfl rfl (Nat.succ_pos _) (unhide LL) ?_); intro X1 B1 hE1 L1 hb1; have hB1 := hide (Nat.le_trans (unhide LL).fr.size (Nat.le_of_eq hE1.symm)); replace LL := hide L1; clear L1 hb1 hE1; simp only [Act.put, List.setIfInBounds_toArray, List.set_cons_succ, List.set_cons_zero]) | ((refine rd (by rfl) (ex_load1 3 Tryd.isAgg3 rfl rfl ((unhide LL).get 0 rfl) rfl) ?_); simp only [Act.put, List.setIfInBounds_toArray, List.set_cons_succ, List.set_cons_zero]) | ((refine rd (by rfl) (ex_geI rfl rfl rfl hg10) ?_); simp only [Act.put, List.setIfInBounds_toArray, List.set_cons_succ, List.set_cons_zero]) | ((refine rd (by rfl) (ex_leI rfl rfl rfl hl15) ?_); simp only [Act.put, List.setIfInBounds_toArray, List.set_cons_succ, List.set_cons_zero]) | ((refine rd (by rfl) (ex_eqNo rfl rfl rfl (by have := unhide HNC; omega)) ?_); simp only [Act.put, List.setIfInBounds_toArray, List.set_cons_succ, List.set_cons_zero])))
      go_ret
      exact ⟨by rw [unhide HS]; rfl, (unhide LL).fr.below⟩
    · go_wp2_with (first | go_skip | ((with_reducible show wpList _ _ _ _ _ _); first | ((refine bx 34 (o.cs) (by rfl) rfl rfl rfl (Nat.succ_pos _) (unhide LL) ?_); intro X1 B1 hE1 L1 hb1; have hB1 := hide (Nat.le_trans (unhide LL).fr.size (Nat.le_of_eq hE1.symm)); replace LL := hide L1; clear L1 hb1 hE1; simp only [Act.put, List.setIfInBounds_toArray, List.set_cons_succ, List.set_cons_zero]) | ((refine rd (by rfl) (ex_load1 3 Tryd.isAgg3 rfl rfl ((unhide LL).get 0 rfl) rfl) ?_); simp only [Act.put, List.setIfInBounds_toArray, List.set_cons_succ, List.set_cons_zero]) | ((refine rd (by rfl) (ex_geI rfl rfl rfl hg10) ?_); simp only [Act.put, List.setIfInBounds_toArray, List.set_cons_succ, List.set_cons_zero]) | ((refine rd (by rfl) (ex_leI rfl rfl rfl hl15) ?_); simp only [Act.put, List.setIfInBounds_toArray, List.set_cons_succ, List.set_cons_zero]) | ((refine rd (by rfl) (ex_eqNo rfl rfl rfl (by have := unhide HNC; omega)) ?_); simp only [Act.put, List.setIfInBounds_toArray, List.set_cons_succ, List.set_cons_zero])))
      go_ret
      exact ⟨by rw [unhide HS]; rfl, (unhide LL).fr.below⟩
  · have hg10 : decide (10 ≤ o.c) = true := decide_eq_true (by omega)
    have hl15 : decide (o.c ≤ 15) = false := decide_eq_false (by omega)
    clear h
    go_enter Tryd.func13, Tryd.ntmps13
    go_wp2_with (first | go_skip | ((with_reducible show wpList _ _ _ _ _ _); first | ((refine bx 34 (o.cs) (by rfl) rfl rfl rfl (Nat.succ_pos _) (unhide LL) ?_); intro X1 B1 hE1 L1 hb1; have hB1 := hide (Nat.le_trans (unhide LL).fr.size (Nat.le_of_eq hE1.symm)); replace LL := hide L1; clear L1 hb1 hE1; simp only [Act.put, List.setIfInBounds_toArray, List.set_cons_succ, List.set_cons_zero]) | ((refine rd (by rfl) (ex_load1 3 Tryd.isAgg3 rfl rfl ((unhide LL).get 0 rfl) rfl) ?_); simp only [Act.put, List.setIfInBounds_toArray, List.set_cons_succ, List.set_cons_zero]) | ((refine rd (by rfl) (ex_geI rfl rfl rfl hg10) ?_); simp only [Act.put, List.setIfInBounds_toArray, List.set_cons_succ, List.set_cons_zero]) | ((refine rd (by rfl) (ex_leI rfl rfl rfl hl15) ?_); simp only [Act.put, List.setIfInBounds_toArray, List.set_cons_succ, List.set_cons_zero]) | ((refine rd (by rfl) (ex_eqNo rfl rfl rfl (by have := unhide HNC; omega)) ?_); simp only [Act.put, List.setIfInBounds_toArray, List.set_cons_succ, List.set_cons_zero])))
    refine (unhide HR o.t _).mono ?_
    rintro e0 X4 ⟨rfl, hb4⟩
    replace LL := hide ((unhide LL).on hb4)
    clear hb4
    cases ht : rgB o.t
    · go_wp2_with (first | go_skip | ((with_reducible show wpList _ _ _ _ _ _); first | ((refine bx 34 (o.cs) (by rfl) rfl rfl rfl (Nat.succ_pos _) (unhide LL) ?_); intro X1 B1 hE1 L1 hb1; have hB1 := hide (Nat.le_trans (unhide LL).fr.size (Nat.le_of_eq hE1.symm)); replace LL := hide L1; clear L1 hb1 hE1; simp only [Act.put, List.setIfInBounds_toArray, List.set_cons_succ, List.set_cons_zero]) | ((refine rd (by rfl) (ex_load1 3 Tryd.isAgg3 rfl rfl ((unhide LL).get 0 rfl) rfl) ?_); simp only [Act.put, List.setIfInBounds_toArray, List.set_cons_succ, List.set_cons_zero]) | ((refine rd (by rfl) (ex_geI rfl rfl rfl hg10) ?_); simp only [Act.put, List.setIfInBounds_toArray, List.set_cons_succ, List.set_cons_zero]) | ((refine rd (by rfl) (ex_leI rfl rfl rfl hl15) ?_); simp only [Act.put, List.setIfInBounds_toArray, List.set_cons_succ, List.set_cons_zero]) | ((refine rd (by rfl) (ex_eqNo rfl rfl rfl (by have := unhide HNC; omega)) ?_); simp only [Act.put, List.setIfInBounds_toArray, List.set_cons_succ, List.set_cons_zero])))
      go_ret
      exact ⟨by rw [unhide HS]; rfl, (unhide LL).fr.below⟩
    · go_wp2_with (first | go_skip | ((with_reducible show wpList _ _ _ _ _ _); first | ((refine bx 34 (o.cs) (by rfl) rfl rfl rfl (Nat.succ_pos _) (unhide LL) ?_); intro X1 B1 hE1 L1 hb1; have hB1 := hide (Nat.le_trans (unhide LL).fr.size (Nat.le_of_eq hE1.symm)); replace LL := hide L1; clear L1 hb1 hE1; simp only [Act.put, List.setIfInBounds_toArray, List.set_cons_succ, List.set_cons_zero]) | ((refine rd (by rfl) (ex_load1 3 Tryd.isAgg3 rfl rfl ((unhide LL).get 0 rfl) rfl) ?_); simp only [Act.put, List.setIfInBounds_toArray, List.set_cons_succ, List.set_cons_zero]) | ((refine rd (by rfl) (ex_geI rfl rfl rfl hg10) ?_); simp only [Act.put, List.setIfInBounds_toArray, List.set_cons_succ, List.set_cons_zero]) | ((refine rd (by rfl) (ex_leI rfl rfl rfl hl15) ?_); simp only [Act.put, List.setIfInBounds_toArray, List.set_cons_succ, List.set_cons_zero]) | ((refine rd (by rfl) (ex_eqNo rfl rfl rfl (by have := unhide HNC; omega)) ?_); simp only [Act.put, List.setIfInBounds_toArray, List.set_cons_succ, List.set_cons_zero])))
      go_ret
      exact ⟨by rw [unhide HS]; rfl, (unhide LL).fr.below⟩
theorem rsnd_any (o : OP) (hO : OkO o) (w : World) : Calls Tryd.prog 13 #[o.agg] w fun e w' => e = .returned (.bool (sndV o)) ∧ Below w.heap.size w w' := by
  by_cases h1 : 1 ≤ o.c
  · by_cases h2 : o.c ≤ 24
    · obtain ⟨c, t, a, b, d, k, v, e, x, g⟩ := o
      dsimp only at h1 h2
      rcases codes h1 h2 with rfl | rfl | rfl | rfl | rfl | rfl | rfl | rfl | rfl | rfl | rfl | rfl | rfl | rfl | rfl | rfl | rfl | rfl | rfl | rfl | rfl | rfl | rfl | rfl
      · exact rsnd1 t a b d k v e x g hO.2 hO.1 w
      · exact rsnd2 t a b d k v e x g hO.2 hO.1 w
      · exact rsnd3 t a b d k v e x g hO.2 hO.1 w
      · exact rsnd4 t a b d k v e x g hO.2 hO.1 w
      · exact rsnd5 t a b d k v e x g hO.2 hO.1 w
      · exact rsnd6 t a b d k v e x g hO.2 hO.1 w
      · exact rsnd7 t a b d k v e x g hO.2 hO.1 w
      · exact rsnd8 t a b d k v e x g hO.2 hO.1 w
      · exact rsnd9 t a b d k v e x g hO.2 hO.1 w
      · exact rsnd10 t a b d k v e x g hO.2 hO.1 w
      · exact rsnd11 t a b d k v e x g hO.2 hO.1 w
      · exact rsnd12 t a b d k v e x g hO.2 hO.1 w
      · exact rsnd13 t a b d k v e x g hO.2 hO.1 w
      · exact rsnd14 t a b d k v e x g hO.2 hO.1 w
      · exact rsnd15 t a b d k v e x g hO.2 hO.1 w
      · exact rsnd16 t a b d k v e x g hO.2 hO.1 w
      · exact rsnd17 t a b d k v e x g hO.2 hO.1 w
      · exact rsnd18 t a b d k v e x g hO.2 hO.1 w
      · exact rsnd19 t a b d k v e x g hO.2 hO.1 w
      · exact rsnd20 t a b d k v e x g hO.2 hO.1 w
      · exact rsnd21 t a b d k v e x g hO.2 hO.1 w
      · exact rsnd22 t a b d k v e x g hO.2 hO.1 w
      · exact rsnd23 t a b d k v e x g hO.2 hO.1 w
      · exact rsnd24 t a b d k v e x g hO.2 hO.1 w
    · exact rsndO o (by omega) w
  · exact rsndO o (by omega) w
end Go.Proofs.YteohiamifoonkaaDoor
