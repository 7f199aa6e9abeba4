import Derived.Test.YtmlofbgnoaobfaaDoorKb
import Derived.Test.YtmlofbgnoaobfaaDoorKd
namespace Go.Proofs.YtmlofbgnoaobfaaDoor
open Go Go.Proofs Go.RowKit Go.Sort
set_option linter.unusedSimpArgs false
set_option linter.unusedVariables false
theorem sd_size (hi first : Nat) : ∀ (n root : Nat) (d : Array Nat), hi - root ≤ n → (siftDown ltN hi first root d).size = d.size := by
  intro n
  induction n with
  | zero =>
    intro root d h
    rw [sd_stop _ _ _ _ (by omega)]
  | succ n ih =>
    intro root d h
    by_cases hs : 2 * root + 1 ≥ hi
    · rw [sd_stop _ _ _ _ hs]
    · by_cases h1 : 2 * root + 1 + 1 < hi ∧ ltN d[first + (2 * root + 1)]! d[first + (2 * root + 1) + 1]! = true
      · rw [sd_two _ _ _ _ hs h1.1 h1.2]
        split
        · rw [ih _ _ (by omega), swp_size]
        · rfl
      · rw [sd_one _ _ _ _ hs h1]
        split
        · rw [ih _ _ (by omega), swp_size]
        · rfl
set_option maxHeartbeats 4000000 in
set_option maxRecDepth 100000 in
theorem heap62 (blk cap a b : Nat) (d : Array Nat) (w : World) (hL : LiesU w blk d) (hab : a < b) (hb : b ≤ d.size) (hsz : d.size ≤ 3000) :
    Calls Tryd.prog 62 #[.slice (some ⟨blk, 0, none⟩) d.size cap, .int .i64 a, .int .i64 b] w fun e w' => e = .returned (.tuple #[]) ∧ LiesU w' blk (heapSort ltN d a b) ∧ w.grownBy w' (some blk) := by
  have HL := hide hL
  clear hL
  obtain ⟨h, hh⟩ : ∃ h, h = b - a := ⟨_, rfl⟩
  have z1 : IntKind.i64.wrap ((b : Int) - a) = (h : Int) := by rw [IntKind.wrap_i64]; omega
  obtain ⟨u, hu⟩ : ∃ u, u = h - 1 := ⟨_, rfl⟩
  obtain ⟨v, hv⟩ : ∃ v, v = u / 2 := ⟨_, rfl⟩
  have z2 : IntKind.i64.wrap ((h : Int) - 1) = (u : Int) := by rw [IntKind.wrap_i64]; omega
  have z3 : (u : Int).tdiv 2 = (v : Int) := by rw [Int.tdiv_eq_ediv_of_nonneg (by omega)]; omega
  have z3' : (u : Int) / 2 = (v : Int) := by omega
  have z4 : IntKind.i64.wrap (v : Int) = (v : Int) := by rw [IntKind.wrap_i64]; omega
  have hdef : heapSort ltN d a b = heapPop ltN a h (heapBuild ltN h a (v + 1) d) := by unfold heapSort; rw [← hh, hv, hu]
  have HD := hide hdef
  have HH := hide (And.intro hh (And.intro hu hv))
  clear hdef hh hu hv
  go_enter Tryd.func62, Tryd.ntmps62
  go_wp2_with fail
  go_loopg [9] (v + 1) (fun g s9 wr => ∃ (k : Nat) (dk : Array Nat), s9 = .int .i64 ((k : Int) - 1) ∧ k ≤ v + 1 ∧ k ≤ g ∧ Hid (dk.size = d.size) ∧ Hid (LiesU wr blk dk) ∧ Hid (w.grownBy wr (some blk)) ∧ Hid (heapBuild ltN h a k dk = heapBuild ltN h a (v + 1) d))
  case atStart => exact ⟨v + 1, d, by congr 1; omega, Nat.le_refl _, Nat.le_refl _, hide rfl, HL, hide (gb_refl _ _), hide rfl⟩
  case round =>
    obtain ⟨k, dk, hs9, hkv, hg, hsk, hLk, hGk, hOk⟩ := hrel
    cases k with
    | succ m =>
      have e9 : (((m + 1 : Nat) : Int) - 1) = (m : Int) := by omega
      rw [e9] at hs9
      subst hs9
      clear e9
      have HC := hide (sift78 blk cap m h a dk wr (unhide hLk) (by have := unhide HH; have := unhide hsk; omega) (by have := unhide HH; have := unhide hsk; omega) (by have := unhide hsk; omega))
      rw [unhide hsk] at HC
      have y1 : IntKind.i64.wrap ((m : Int) - 1) = (m : Int) - 1 := by have := unhide HH; rw [IntKind.wrap_i64]; omega
      have y2 : (0 : Int) ≤ m := by omega
      go_wp2_with fail
      refine (unhide HC).mono ?_
      rintro e w1 ⟨rfl, hL1, hG1⟩
      have HL1 := hide hL1
      have HG1 := hide (gb_trans (unhide hGk) hG1)
      clear hL1 hG1
      go_wp2
      go_roundg m
      case measure => omega
      case rel => exact ⟨m, siftDown ltN h a m dk, rfl, by omega, Nat.le_refl _, hide (by rw [sd_size h a _ _ _ (Nat.le_refl _)]; exact unhide hsk), HL1, HG1, hide (by rw [← unhide hOk]; rfl)⟩
    | zero =>
      have e9 : (((0 : Nat) : Int) - 1) = -1 := by omega
      rw [e9] at hs9
      subst hs9
      clear e9
      have HOk := hide (show dk = heapBuild ltN h a (v + 1) d from unhide hOk)
      clear hOk
      go_wp2_with fail
      go_loopg [10] h (fun g s10 wr => ∃ (k : Nat) (dj : Array Nat), s10 = .int .i64 ((k : Int) - 1) ∧ k ≤ h ∧ k ≤ g ∧ Hid (dj.size = d.size) ∧ Hid (LiesU wr blk dj) ∧ Hid (w.grownBy wr (some blk)) ∧ Hid (heapPop ltN a k dj = heapPop ltN a h dk))
      case atStart => exact ⟨h, dk, by have := unhide HH; congr 1; omega, Nat.le_refl _, Nat.le_refl _, hsk, hLk, hGk, hide rfl⟩
      case round =>
        obtain ⟨k, dj, hs9, hkv, hg, hsj, hLj, hGj, hOj⟩ := hrel
        cases k with
        | succ m =>
          have e9 : (((m + 1 : Nat) : Int) - 1) = (m : Int) := by omega
          rw [e9] at hs9
          subst hs9
          clear e9
          have hds := unhide hsj
          have hhh := unhide HH
          have hlt1 : a < dj.size := by omega
          have hlt2 : a + m < dj.size := by omega
          have HC := hide (fun X hX => sift78 blk cap 0 m a (swp dj a (a + m)) X hX (by omega) (by rw [swp_size]; omega) (by rw [swp_size]; omega))
          rw [swp_size, hds] at HC
          obtain ⟨c1, f1⟩ := (unhide hLj).cell a hlt1
          obtain ⟨c2, f2⟩ := (unhide hLj).cell (a + m) hlt2
          have HSw := hide (fun n => ((unhide hLj).drew n).swap a (a + m) hlt1 hlt2)
          have y1 : IntKind.i64.wrap ((m : Int) - 1) = (m : Int) - 1 := by rw [IntKind.wrap_i64]; omega
          have y2 : (0 : Int) ≤ m := by omega
          have y3 : IntKind.i64.wrap ((a : Int) + m) = (a : Int) + m := by rw [IntKind.wrap_i64]; omega
          have y4 : ((a : Int) + m).toNat = a + m := by omega
          have y5 : (a : Int) + m < d.size := by omega
          have y6 : (0 : Int) ≤ (a : Int) + m := by omega
          have y7 : (a : Int) < d.size := by omega
          clear hds hhh hlt1 hlt2
          by_cases hm0 : m = 0
          · subst hm0
            simp only [Nat.add_zero] at c2 f2 HSw
            generalize dj[a]! = x at *
            go_wp2_with fail
            go_region
            all_goals go_wp2_with fail
            refine (unhide HC (((wr.setCell ⟨blk, a, none⟩ (.int .u32 (x : Nat))).setCell ⟨blk, a, none⟩ (.int .u32 (x : Nat))).drew) (LiesU.grown (unhide HSw 0) rfl)).mono ?_
            rintro e w1 ⟨rfl, hL1, hG1⟩
            have HL1 := hide hL1
            have g0 := gb_trans (unhide hGj) (gb_swap wr blk a a (.int .u32 (x : Nat)) (.int .u32 (x : Nat)))
            have HG1 := hide (gb_trans g0 ⟨hG1.os, hG1.tape, hG1.output, hG1.size, hG1.block⟩)
            clear hL1 hG1 g0
            go_wp2
            go_roundg 0
            case measure => omega
            case rel => exact ⟨0, siftDown ltN 0 a 0 (swp dj a (a + 0)), rfl, by omega, Nat.le_refl _, hide (by rw [sd_size 0 a _ _ _ (Nat.le_refl _), swp_size]; exact unhide hsj), HL1, HG1, hide (by rw [← unhide hOj]; rfl)⟩
          · have n1 : ¬ a + m = a := by omega
            have n2 : ¬ a = a + m := by omega
            generalize dj[a]! = x at *
            generalize dj[a + m]! = y at *
            go_wp2_with fail
            go_region
            all_goals go_wp2_with fail
            refine (unhide HC _ (unhide HSw _)).mono ?_
            rintro e w1 ⟨rfl, hL1, hG1⟩
            have HL1 := hide hL1
            have HG1 := hide (gb_trans (gb_trans (gb_drew (unhide hGj) _) (gb_swap _ _ _ _ _ _)) hG1)
            clear hL1 hG1
            go_wp2
            go_roundg m
            case measure => omega
            case rel => exact ⟨m, siftDown ltN m a 0 (swp dj a (a + m)), rfl, by omega, Nat.le_refl _, hide (by rw [sd_size m a _ _ _ (Nat.le_refl _), swp_size]; exact unhide hsj), HL1, HG1, hide (by rw [← unhide hOj]; rfl)⟩
        | zero =>
          have e9 : (((0 : Nat) : Int) - 1) = -1 := by omega
          rw [e9] at hs9
          subst hs9
          clear e9
          go_wp2
          go_end0
          refine ⟨rfl, ?_, unhide hGj⟩
          rw [unhide HD, ← unhide HOk, ← unhide hOj]
          exact unhide hLj
end Go.Proofs.YtmlofbgnoaobfaaDoor
