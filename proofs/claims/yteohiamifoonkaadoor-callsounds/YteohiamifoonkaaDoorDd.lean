import Derived.Test.YteohiamifoonkaaDoorDc
import Derived.Test.YteohiamifoonkaaDoorVg
namespace Go.Proofs.YteohiamifoonkaaDoor
open Go Go.Proofs Go.RowKit FM
set_option linter.unusedSimpArgs false
set_option linter.unusedVariables false
attribute [local go_sem] run_store_float
/-- What callable tells of a field. -/
def callV (v : VV) : Bool := if v.k == 1 || v.k == 7 then v.good else !thV v
def slotV (v : VV) : Bool := v.good && (v.k == 1 || v.k == 7)
def orV (v a : VV) : VV := if thV v then v else a
def undV : VV := ⟨1, false, 0, ByteArray.empty, 0⟩
def rorV (v : VV) : VV := if v.k != 0 then v else undV
set_option maxHeartbeats 2000000 in
set_option maxRecDepth 100000 in
theorem callable_any (v : VV) (hx : v.x < 2 ^ 64) (w : World) (hT : Lib.Utf8Tabs 1 2 w) : Calls Tryd.prog 57 #[v.agg] w fun e w' => e = .returned (.bool (callV v)) ∧ Below w.heap.size w w' := by
  have HC := hide (fun w hT => check_any v w hT)
  have HV := hide (there_any v hx)
  have HT := hide hT
  clear hT
  unfold callV
  have L0 := Lie.new1 w (.V v)
  obtain ⟨k, b, x, s, i⟩ := v
  unfold PB.obj VV.obj at L0
  unfold VV.agg errB at *
  dsimp only at *
  have LL := hide L0
  clear L0 hx
  generalize VV.good ⟨k, b, x, s, i⟩ = g at *
  generalize thV ⟨k, b, x, s, i⟩ = t at *
  by_cases hk : k = 1
  · subst hk
    cases g
    · go_enter Tryd.func57, Tryd.ntmps57
      go_wp2_with (fail)
      refine (unhide HC _ (tabs_below (unhide HT) (unhide LL).below)).mono ?_
      rintro _ w1 ⟨rfl, hb⟩
      replace LL := hide ((unhide LL).on hb)
      clear hb
      obtain ⟨f0, c0_0, c0_1, c0_2, c0_3, c0_4⟩ := (unhide LL).one
      dsimp only at f0 c0_0 c0_1 c0_2 c0_3 c0_4
      go_wp2_with (fail)
      go_ret
      exact ⟨rfl, (unhide LL).below⟩
    · go_enter Tryd.func57, Tryd.ntmps57
      go_wp2_with (fail)
      refine (unhide HC _ (tabs_below (unhide HT) (unhide LL).below)).mono ?_
      rintro _ w1 ⟨rfl, hb⟩
      replace LL := hide ((unhide LL).on hb)
      clear hb
      obtain ⟨f0, c0_0, c0_1, c0_2, c0_3, c0_4⟩ := (unhide LL).one
      dsimp only at f0 c0_0 c0_1 c0_2 c0_3 c0_4
      go_wp2_with (fail)
      go_ret
      exact ⟨rfl, (unhide LL).below⟩
  · by_cases hk7 : k = 7
    · subst hk7
      cases g
      · go_enter Tryd.func57, Tryd.ntmps57
        go_wp2_with (fail)
        refine (unhide HC _ (tabs_below (unhide HT) (unhide LL).below)).mono ?_
        rintro _ w1 ⟨rfl, hb⟩
        replace LL := hide ((unhide LL).on hb)
        clear hb
        obtain ⟨f0, c0_0, c0_1, c0_2, c0_3, c0_4⟩ := (unhide LL).one
        dsimp only at f0 c0_0 c0_1 c0_2 c0_3 c0_4
        go_wp2_with (fail)
        go_ret
        exact ⟨rfl, (unhide LL).below⟩
      · go_enter Tryd.func57, Tryd.ntmps57
        go_wp2_with (fail)
        refine (unhide HC _ (tabs_below (unhide HT) (unhide LL).below)).mono ?_
        rintro _ w1 ⟨rfl, hb⟩
        replace LL := hide ((unhide LL).on hb)
        clear hb
        obtain ⟨f0, c0_0, c0_1, c0_2, c0_3, c0_4⟩ := (unhide LL).one
        dsimp only at f0 c0_0 c0_1 c0_2 c0_3 c0_4
        go_wp2_with (fail)
        go_ret
        exact ⟨rfl, (unhide LL).below⟩
    · have e1 : (k == 1) = false := by simp [hk]
      have e7 : (k == 7) = false := by simp [hk7]
      rw [e1, e7]
      go_enter Tryd.func57, Tryd.ntmps57
      go_wp2_with (fail)
      refine (unhide HV _).mono ?_
      rintro _ w1 ⟨rfl, hb⟩
      replace LL := hide ((unhide LL).on hb)
      clear hb
      obtain ⟨f0, c0_0, c0_1, c0_2, c0_3, c0_4⟩ := (unhide LL).one
      dsimp only at f0 c0_0 c0_1 c0_2 c0_3 c0_4
      go_wp2_with (fail)
      go_ret
      exact ⟨rfl, (unhide LL).below⟩
set_option maxHeartbeats 2000000 in
set_option maxRecDepth 100000 in
theorem refSlot_any (v : VV) (hx : v.x < 2 ^ 64) (w : World) : Calls Tryd.prog 38 #[v.agg] w fun e w' => e = .returned (.bool (slotV v)) ∧ Below w.heap.size w w' := by
  have HC := hide (refGood_any v hx)
  unfold slotV
  have L0 := Lie.new1 w (.V v)
  obtain ⟨k, b, x, s, i⟩ := v
  unfold PB.obj VV.obj at L0
  unfold VV.agg at *
  dsimp only at *
  have LL := hide L0
  clear L0 hx
  generalize VV.good ⟨k, b, x, s, i⟩ = g at *
  cases g
  · go_enter Tryd.func38, Tryd.ntmps38
    go_wp2_with (fail)
    refine (unhide HC _).mono ?_
    rintro _ w1 ⟨rfl, hb⟩
    replace LL := hide ((unhide LL).on hb)
    clear hb
    obtain ⟨f0, c0_0, c0_1, c0_2, c0_3, c0_4⟩ := (unhide LL).one
    dsimp only at f0 c0_0 c0_1 c0_2 c0_3 c0_4
    go_wp2_with (fail)
    go_ret
    exact ⟨rfl, (unhide LL).below⟩
  · by_cases hk : k = 1
    · subst hk
      go_enter Tryd.func38, Tryd.ntmps38
      go_wp2_with (fail)
      refine (unhide HC _).mono ?_
      rintro _ w1 ⟨rfl, hb⟩
      replace LL := hide ((unhide LL).on hb)
      clear hb
      obtain ⟨f0, c0_0, c0_1, c0_2, c0_3, c0_4⟩ := (unhide LL).one
      dsimp only at f0 c0_0 c0_1 c0_2 c0_3 c0_4
      go_wp2_with (fail)
      go_ret
      exact ⟨rfl, (unhide LL).below⟩
    · have e1 : (k == 1) = false := by simp [hk]
      rw [e1]
      go_enter Tryd.func38, Tryd.ntmps38
      go_wp2_with (fail)
      refine (unhide HC _).mono ?_
      rintro _ w1 ⟨rfl, hb⟩
      replace LL := hide ((unhide LL).on hb)
      clear hb
      obtain ⟨f0, c0_0, c0_1, c0_2, c0_3, c0_4⟩ := (unhide LL).one
      dsimp only at f0 c0_0 c0_1 c0_2 c0_3 c0_4
      go_wp2_with (fail)
      go_ret
      exact ⟨rfl, (unhide LL).below⟩
end Go.Proofs.YteohiamifoonkaaDoor
