import Derived.Test.YtmlofbgnoaobfaaDoorKq
import Derived.Test.YtmlofbgnoaobfaaDoorSa
namespace Go.Proofs.YtmlofbgnoaobfaaDoor
open Go Go.Proofs Go.RowKit
set_option linter.unusedSimpArgs false
set_option linter.unusedVariables false
set_option maxHeartbeats 1000000 in
theorem cmp24 (a b : Nat) (w : World) : Calls Tryd.prog 24 #[.int .u32 (a : Nat), .int .u32 (b : Nat)] w fun e w' => e = .returned (.int .i64 (if a < b then -1 else if b < a then 1 else 0)) ∧ w' = w := by
  by_cases h1 : a < b
  · have h1' : (a : Int) < (b : Int) := by omega
    rw [if_pos h1]
    clear h1
    go_enter Tryd.func24, Tryd.ntmps24
    go_wp2
    go_ret
    exact ⟨rfl, rfl⟩
  · by_cases h2 : b < a
    · have h1' : ¬ (a : Int) < (b : Int) := by omega
      have h2' : (b : Int) < (a : Int) := by omega
      rw [if_neg h1, if_pos h2]
      clear h1 h2
      go_enter Tryd.func24, Tryd.ntmps24
      go_wp2
      go_ret
      exact ⟨rfl, rfl⟩
    · have h1' : ¬ (a : Int) < (b : Int) := by omega
      have h2' : ¬ (b : Int) < (a : Int) := by omega
      rw [if_neg h1, if_neg h2]
      clear h1 h2
      go_enter Tryd.func24, Tryd.ntmps24
      go_wp2
      go_ret
      exact ⟨rfl, rfl⟩

theorem two22 {w w1 : World} {c0 c1 d0 d1 : Value} {t u : TypeId} (hb : Below ((w.alloc (Obj.cells #[c0, c1] t)).alloc (Obj.cells #[d0, d1] u)).heap.size ((w.alloc (Obj.cells #[c0, c1] t)).alloc (Obj.cells #[d0, d1] u)) w1) :
    Below w.heap.size w w1 ∧ w.heap.size + 2 ≤ w1.heap.size ∧ w1.cell? ⟨w.heap.size, 0, none⟩ = some c0 ∧ w1.cell? ⟨w.heap.size, 1, none⟩ = some c1 ∧ w1.cell? ⟨w.heap.size + 1, 0, none⟩ = some d0 ∧ w1.cell? ⟨w.heap.size + 1, 1, none⟩ = some d1 := by
  have h0 := hb.cell (p := ⟨w.heap.size, 0, none⟩) (by simp; omega)
  have h1 := hb.cell (p := ⟨w.heap.size, 1, none⟩) (by simp; omega)
  have h2 := hb.cell (p := ⟨w.heap.size + 1, 0, none⟩) (by simp)
  have h3 := hb.cell (p := ⟨w.heap.size + 1, 1, none⟩) (by simp)
  have h4 := hb.size
  simp [go_sem] at h0 h1 h2 h3 h4
  exact ⟨(kbelow2 w _ _).trans (hb.mono (by simp; omega)), h4, h0, h1, h2, h3⟩
def cpN (a b : Nat) : Int := if a < b then -1 else if b < a then 1 else 0
theorem cmp24' (a b : Nat) (w : World) : Calls Tryd.prog 24 #[.int .u32 (a : Nat), .int .u32 (b : Nat)] w fun e w' => e = .returned (.int .i64 (cpN a b)) ∧ w' = w := cmp24 a b w
/-- The order of two right keys. -/
def cmpK (a : ByteArray) (m : Int) (b : ByteArray) (n : Int) : Int :=
  if kdOf a m = kdOf b n then (if kdOf a m = 0 then cpN (knOf a m) (knOf b n) else if kdOf a m = 1 then cmI a b else Lib.compareInt m n) else Lib.compareInt (kdOf a m) (kdOf b n)
set_option maxHeartbeats 2000000 in
set_option maxRecDepth 100000 in
theorem compare13 (a b : ByteArray) (m n : Int) (ha : a.size ≤ 1048576) (hb : b.size ≤ 1048576) (w : World) (hT : Lib.Utf8Tabs 2 3 w) : Calls Tryd.prog 13 #[keyV a m, keyV b n] w fun e w' => e = .returned (.int .i64 (cmpK a m b n)) ∧ Below w.heap.size w w' := by
  have HA := hide (fun w => kindOf22 a m (by omega) w)
  have HB := hide (fun w => kindOf22 b n (by omega) w)
  have HT := hide hT
  have HU := hide (fun w hT => compare_any a b (by omega) (by omega) w hT)
  have HI := hide (fun x y w => Tryd.cmp_Compare_int x y w)
  have HN := hide (fun x y w => cmp24' x y w)
  have hk : kdOf a m = 0 ∨ kdOf a m = 1 ∨ kdOf a m = 2 := by unfold kdOf; split <;> (try split) <;> simp
  clear hT ha hb
  obtain ⟨r, hr⟩ : ∃ r, cmpK a m b n = r := ⟨_, rfl⟩
  rw [hr]
  unfold cmpK at hr
  unfold keyV at *
  generalize kdOf a m = ka at *
  generalize kdOf b n = kb at *
  generalize knOf a m = na at *
  generalize knOf b n = nb at *
  generalize cmI a b = ci at *
  have HR := hide hr
  clear hr
  go_enter Tryd.func13, Tryd.ntmps13
  go_wp2_with fail
  refine (unhide HA _).mono ?_
  rintro e w1 ⟨rfl, hb1⟩
  obtain ⟨hB1, hs1, c0, c1, d0, d1⟩ := two22 hb1
  have HB1 := hide hB1
  clear hb1 hB1
  go_wp2_with fail
  refine (unhide HB _).mono ?_
  rintro e w2 ⟨rfl, hb2⟩
  have c0' := hb2.cell (p := ⟨w.heap.size, 0, none⟩) (by show w.heap.size < _; omega)
  have c1' := hb2.cell (p := ⟨w.heap.size, 1, none⟩) (by show w.heap.size < _; omega)
  have d0' := hb2.cell (p := ⟨w.heap.size + 1, 0, none⟩) (by show w.heap.size + 1 < _; omega)
  have d1' := hb2.cell (p := ⟨w.heap.size + 1, 1, none⟩) (by show w.heap.size + 1 < _; omega)
  rw [c0] at c0'
  rw [c1] at c1'
  rw [d0] at d0'
  rw [d1] at d1'
  have HB2 := hide ((unhide HB1).trans (hb2.mono (unhide HB1).size))
  clear hb2 c0 c1 d0 d1 HB1 hs1 HA HB
  by_cases hkk : ka = kb
  · subst hkk
    rcases hk with rfl | rfl | rfl
    · have hr := unhide HR
      rw [if_pos rfl, if_pos rfl] at hr
      clear HR
      have HR := hide hr
      clear hr
      go_wp2_with fail
      refine (unhide HN _ _ _).mono ?_
      rintro e w3 ⟨rfl, rfl⟩
      go_wp2
      go_ret
      exact ⟨by rw [← unhide HR]; rfl, unhide HB2⟩
    · have hr := unhide HR
      rw [if_pos rfl, if_neg (by decide), if_pos rfl] at hr
      subst hr
      clear HR
      go_wp2_with fail
      refine (unhide HU _ (tabs_below (unhide HT) (unhide HB2))).mono ?_
      rintro e w3 ⟨rfl, hb3⟩
      have HB3 := hide ((unhide HB2).trans (hb3.mono (unhide HB2).size))
      clear hb3
      go_wp2
      go_ret
      exact ⟨rfl, unhide HB3⟩
    · have hr := unhide HR
      rw [if_pos rfl, if_neg (by decide), if_neg (by decide)] at hr
      clear HR
      have HR := hide hr
      clear hr
      go_wp2_with fail
      refine (unhide HI _ _ _).mono ?_
      rintro e w3 ⟨rfl, rfl⟩
      go_wp2
      go_ret
      exact ⟨by rw [← unhide HR]; rfl, unhide HB2⟩
  · have hr := unhide HR
    rw [if_neg hkk] at hr
    clear HR
    have HR := hide hr
    clear hr
    go_wp2_with fail
    refine (unhide HI _ _ _).mono ?_
    rintro e w3 ⟨rfl, rfl⟩
    go_wp2
    go_ret
    exact ⟨by rw [← unhide HR]; rfl, unhide HB2⟩
end Go.Proofs.YtmlofbgnoaobfaaDoor
