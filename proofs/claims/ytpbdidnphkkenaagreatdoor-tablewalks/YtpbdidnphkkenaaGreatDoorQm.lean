import Derived.Test.YtpbdidnphkkenaaGreatDoorQl
import Derived.Sort.LotC
set_option linter.all false
namespace Go.Proofs.YtpbdidnphkkenaaGreatDoor
section
open Go Go.Proofs Go.RowKit Go.Sort
theorem LiesU.gb {w w' : World} {blk : Nat} {d : Array Nat} {o : Option Nat} (h : LiesU w blk d) (hg : w.grownBy w' o) (hne : some blk ≠ o) : LiesU w' blk d := h.grown (hg.block blk h.lt hne)
set_option maxHeartbeats 2000000 in
set_option maxRecDepth 100000 in
theorem median82 (blk cap a b c B s : Nat) (d : Array Nat) (w : World) (hL : LiesU w blk d) (hP : Pt w B s) (hB : blk ≠ B) (hs : s ≤ 50) (ha : a < d.size) (hb : b < d.size) (hc : c < d.size) (hsz : d.size ≤ 1500000) :
    Calls Tryz.prog 104 #[.slice (some ⟨blk, 0, none⟩) d.size cap, .int .i64 a, .int .i64 b, .int .i64 c, .pointer (some ⟨B, 0, none⟩)] w fun e w' => ∃ m s' : Nat, e = .returned (.int .i64 m) ∧ (m = a ∨ m = b ∨ m = c) ∧ s' ≤ s + 3 ∧ Pt w' B s' ∧ w.grownBy w' (some B) := by
  have HL := hide hL
  have HP := hide hP
  have hBn : some blk ≠ some B := fun e => hB (Option.some.inj e)
  clear hL hP
  go_enter Tryz.func104, Tryz.ntmps104
  go_wp2_with fail
  refine (order88 blk cap a b B s d w (unhide HL) (unhide HP) (by omega) ha hb hsz).mono ?_
  rintro e w1 ⟨x1, y1, s1, rfl, h1, hs1, hP1, hG1⟩
  have HL1 := hide ((unhide HL).gb hG1 hBn)
  have HP1 := hide hP1
  have HG1 := hide hG1
  clear hP1 hG1
  go_wp2_with fail
  refine (order88 blk cap y1 c B s1 d w1 (unhide HL1) (unhide HP1) (by omega) (by omega) hc hsz).mono ?_
  rintro e w2 ⟨x2, y2, s2, rfl, h2, hs2, hP2, hG2⟩
  have HL2 := hide ((unhide HL1).gb hG2 hBn)
  have HP2 := hide hP2
  have HG2 := hide (gb_trans (unhide HG1) hG2)
  clear hP2 hG2
  go_wp2_with fail
  refine (order88 blk cap x1 x2 B s2 d w2 (unhide HL2) (unhide HP2) (by omega) (by omega) (by omega) hsz).mono ?_
  rintro e w3 ⟨x3, y3, s3, rfl, h3, hs3, hP3, hG3⟩
  have HF := hide (And.intro hP3 (gb_trans (unhide HG2) hG3))
  clear hP3 hG3
  go_wp2
  go_ret
  exact ⟨y3, s3, rfl, by omega, by omega, (unhide HF).1, (unhide HF).2⟩
set_option maxHeartbeats 2000000 in
set_option maxRecDepth 100000 in
theorem adjacent81 (blk cap a B s : Nat) (d : Array Nat) (w : World) (hL : LiesU w blk d) (hP : Pt w B s) (hB : blk ≠ B) (hs : s ≤ 50) (ha : 0 < a) (ha2 : a + 1 < d.size) (hsz : d.size ≤ 1500000) :
    Calls Tryz.prog 103 #[.slice (some ⟨blk, 0, none⟩) d.size cap, .int .i64 a, .pointer (some ⟨B, 0, none⟩)] w fun e w' => ∃ m s' : Nat, e = .returned (.int .i64 m) ∧ (m = a - 1 ∨ m = a ∨ m = a + 1) ∧ s' ≤ s + 3 ∧ Pt w' B s' ∧ w.grownBy w' (some B) := by
  have HM := hide (median82 blk cap (a - 1) a (a + 1) B s d w hL hP hB hs (by omega) (by omega) ha2 hsz)
  clear hL hP
  have z1 : IntKind.i64.wrap ((a : Int) - 1) = ((a - 1 : Nat) : Int) := by rw [IntKind.wrap_i64]; omega
  have z2 : IntKind.i64.wrap ((a : Int) + 1) = ((a + 1 : Nat) : Int) := by rw [IntKind.wrap_i64]; omega
  go_enter Tryz.func103, Tryz.ntmps103
  go_wp2_with fail
  refine (unhide HM).mono ?_
  rintro e w1 ⟨m, s1, rfl, h1, hs1, hP1, hG1⟩
  have HF := hide (And.intro hP1 hG1)
  clear hP1 hG1
  go_wp2
  go_ret
  exact ⟨m, s1, rfl, h1, hs1, (unhide HF).1, (unhide HF).2⟩
set_option maxHeartbeats 2000000 in
set_option maxRecDepth 100000 in
theorem pivot64 (blk cap a b : Nat) (d : Array Nat) (w : World) (hL : LiesU w blk d) (hab : a < b) (hb : b ≤ d.size) (hsz : d.size ≤ 1500000) :
    Calls Tryz.prog 88 #[.slice (some ⟨blk, 0, none⟩) d.size cap, .int .i64 a, .int .i64 b] w fun e w' => ∃ p h : Nat, e = .returned (.tuple #[.int .i64 p, .int .i64 h]) ∧ a ≤ p ∧ p < b ∧ h ≤ 2 ∧ w.grownBy w' none := by
  have HL := hide hL
  have hlt := hL.lt
  clear hL
  obtain ⟨l, hl⟩ : ∃ l, l = b - a := ⟨_, rfl⟩
  obtain ⟨q, hq⟩ : ∃ q, q = l / 4 := ⟨_, rfl⟩
  obtain ⟨i, hi⟩ : ∃ i, i = a + q := ⟨_, rfl⟩
  obtain ⟨j, hj⟩ : ∃ j, j = a + 2 * q := ⟨_, rfl⟩
  obtain ⟨k, hk⟩ : ∃ k, k = a + 3 * q := ⟨_, rfl⟩
  have z1 : IntKind.i64.wrap ((b : Int) - a) = (l : Int) := by rw [IntKind.wrap_i64]; omega
  have z2 : (l : Int).tdiv 4 = (q : Int) := by rw [Int.tdiv_eq_ediv_of_nonneg (by omega)]; omega
  have z2' : (l : Int) / 4 = (q : Int) := by omega
  have z3 : IntKind.i64.wrap ((q : Int)) = (q : Int) := by rw [IntKind.wrap_i64]; omega
  have z4 : IntKind.i64.wrap ((q : Int) * 2) = 2 * (q : Int) := by rw [IntKind.wrap_i64]; omega
  have z5 : IntKind.i64.wrap ((q : Int) * 3) = 3 * (q : Int) := by rw [IntKind.wrap_i64]; omega
  have z6 : IntKind.i64.wrap ((a : Int) + q) = (i : Int) := by rw [IntKind.wrap_i64]; omega
  have z7 : IntKind.i64.wrap ((a : Int) + 2 * (q : Int)) = (j : Int) := by rw [IntKind.wrap_i64]; omega
  have z8 : IntKind.i64.wrap ((a : Int) + 3 * (q : Int)) = (k : Int) := by rw [IntKind.wrap_i64]; omega
  have HQ := hide (And.intro hl (And.intro hq (And.intro hi (And.intro hj hk))))
  clear hl hq hi hj hk
  have hP0 : Pt (w.alloc (Obj.cells #[Value.int IntKind.i64 0] 3)) w.heap.size 0 := (show (w.heap.push _)[w.heap.size]? = _ from Array.getElem?_push_size)
  have HP0 := hide hP0
  have hL0 := (unhide HL).grown (((Below.refl _ _).alloc (Nat.le_refl _) (Obj.cells #[Value.int IntKind.i64 0] 3)).block blk hlt)
  have HL0 := hide hL0
  have HG0 : Hid (∀ X, (w.alloc (Obj.cells #[Value.int IntKind.i64 0] 3)).grownBy X (some w.heap.size) → w.grownBy X none) := hide (fun X hX => by
    have b0 := (Below.refl w.heap.size w).alloc (Nat.le_refl _) (Obj.cells #[Value.int IntKind.i64 0] 3)
    exact ⟨hX.os.trans b0.os, hX.tape.trans b0.tape, hX.output.trans b0.output, Nat.le_trans b0.size hX.size, fun c hc _ => by
      rw [hX.block c (Nat.lt_of_lt_of_le hc b0.size) (fun e => by cases e; omega)]
      exact b0.block c hc⟩)
  have hBB : blk ≠ w.heap.size := by omega
  have hBn : some blk ≠ some w.heap.size := fun e => hBB (Option.some.inj e)
  clear hP0 hL0
  by_cases h50 : 50 ≤ l
  · have y1 : (50 : Int) ≤ l := by omega
    have y2 : (8 : Int) ≤ l := by omega
    go_enter Tryz.func88, Tryz.ntmps88
    go_wp2_with fail
    refine (adjacent81 blk cap i w.heap.size 0 d _ (unhide HL0) (unhide HP0) hBB (by omega) (by have := unhide HQ; omega) (by have := unhide HQ; omega) hsz).mono ?_
    rintro e w1 ⟨i1, s1, rfl, h1, hs1, hP1, hG1⟩
    have HL1 := hide ((unhide HL0).gb hG1 hBn)
    have HP1 := hide hP1
    have HG1 := hide hG1
    clear hP1 hG1
    go_wp2_with fail
    refine (adjacent81 blk cap j w.heap.size s1 d w1 (unhide HL1) (unhide HP1) hBB (by omega) (by have := unhide HQ; omega) (by have := unhide HQ; omega) hsz).mono ?_
    rintro e w2 ⟨j1, s2, rfl, h2, hs2, hP2, hG2⟩
    have HL2 := hide ((unhide HL1).gb hG2 hBn)
    have HP2 := hide hP2
    have HG2 := hide (gb_trans (unhide HG1) hG2)
    clear hP2 hG2
    go_wp2_with fail
    refine (adjacent81 blk cap k w.heap.size s2 d w2 (unhide HL2) (unhide HP2) hBB (by omega) (by have := unhide HQ; omega) (by have := unhide HQ; omega) hsz).mono ?_
    rintro e w3 ⟨k1, s3, rfl, h3, hs3, hP3, hG3⟩
    have HL3 := hide ((unhide HL2).gb hG3 hBn)
    have HP3 := hide hP3
    have HG3 := hide (gb_trans (unhide HG2) hG3)
    clear hP3 hG3
    go_wp2_with fail
    refine (median82 blk cap i1 j1 k1 w.heap.size s3 d w3 (unhide HL3) (unhide HP3) hBB (by omega) (by have := unhide HQ; omega) (by have := unhide HQ; omega) (by have := unhide HQ; omega) hsz).mono ?_
    rintro e w4 ⟨m, s4, rfl, h4, hs4, hP4, hG4⟩
    obtain ⟨p1, p2, p3⟩ := hP4.cell
    have HF := hide (unhide HG0 _ (gb_trans (unhide HG3) hG4))
    have HR := hide (show a ≤ m ∧ m < b by have := unhide HQ; omega)
    clear hP4 hG4 h1 h2 h3 h4
    go_wp2
    all_goals
      go_ret2
      first
        | exact ⟨m, 1, rfl, (unhide HR).1, (unhide HR).2, by omega, unhide HF⟩
        | exact ⟨m, 2, rfl, (unhide HR).1, (unhide HR).2, by omega, unhide HF⟩
        | exact ⟨m, 0, rfl, (unhide HR).1, (unhide HR).2, by omega, unhide HF⟩
  · by_cases h8 : 8 ≤ l
    · have y1 : ¬ (50 : Int) ≤ l := by omega
      have y2 : (8 : Int) ≤ l := by omega
      go_enter Tryz.func88, Tryz.ntmps88
      go_wp2_with fail
      refine (median82 blk cap i j k w.heap.size 0 d _ (unhide HL0) (unhide HP0) hBB (by omega) (by have := unhide HQ; omega) (by have := unhide HQ; omega) (by have := unhide HQ; omega) hsz).mono ?_
      rintro e w4 ⟨m, s4, rfl, h4, hs4, hP4, hG4⟩
      obtain ⟨p1, p2, p3⟩ := hP4.cell
      have HF := hide (unhide HG0 _ hG4)
      have HR := hide (show a ≤ m ∧ m < b by have := unhide HQ; omega)
      clear hP4 hG4 h4
      go_wp2
      all_goals
        go_ret2
        first
          | exact ⟨m, 1, rfl, (unhide HR).1, (unhide HR).2, by omega, unhide HF⟩
          | exact ⟨m, 2, rfl, (unhide HR).1, (unhide HR).2, by omega, unhide HF⟩
          | exact ⟨m, 0, rfl, (unhide HR).1, (unhide HR).2, by omega, unhide HF⟩
    · have y1 : ¬ (50 : Int) ≤ l := by omega
      have y2 : ¬ (8 : Int) ≤ l := by omega
      have HF := hide (unhide HG0 _ (gb_refl _ _))
      have HR := hide (show a ≤ j ∧ j < b by have := unhide HQ; omega)
      go_enter Tryz.func88, Tryz.ntmps88
      go_wp2
      go_ret2
      exact ⟨j, 1, rfl, (unhide HR).1, (unhide HR).2, by omega, unhide HF⟩
theorem sd_size (hi first : Nat) : ∀ (n root : Nat) (d : Array Nat), hi - root ≤ n → (siftDown ltN hi first root d).size = d.size := by
  intro n
  induction n with
  | zero =>
    intro root d h
    rw [sd_stop _ _ _ _ (by omega)]
  | succ n ih =>
    intro root d h
    by_cases hs : 2 * root + 1 ≥ hi
    · rw [sd_stop _ _ _ _ hs]
    · by_cases h1 : 2 * root + 1 + 1 < hi ∧ ltN d[first + (2 * root + 1)]! d[first + (2 * root + 1) + 1]! = true
      · rw [sd_two _ _ _ _ hs h1.1 h1.2]
        split
        · rw [ih _ _ (by omega), swp_size]
        · rfl
      · rw [sd_one _ _ _ _ hs h1]
        split
        · rw [ih _ _ (by omega), swp_size]
        · rfl
set_option maxHeartbeats 4000000 in
set_option maxRecDepth 100000 in
theorem heap62 (blk cap a b : Nat) (d : Array Nat) (w : World) (hL : LiesU w blk d) (hab : a < b) (hb : b ≤ d.size) (hsz : d.size ≤ 1500000) :
    Calls Tryz.prog 86 #[.slice (some ⟨blk, 0, none⟩) d.size cap, .int .i64 a, .int .i64 b] w fun e w' => e = .returned (.tuple #[]) ∧ LiesU w' blk (heapSort ltN d a b) ∧ w.grownBy w' (some blk) := by
  have HL := hide hL
  clear hL
  obtain ⟨h, hh⟩ : ∃ h, h = b - a := ⟨_, rfl⟩
  have z1 : IntKind.i64.wrap ((b : Int) - a) = (h : Int) := by rw [IntKind.wrap_i64]; omega
  obtain ⟨u, hu⟩ : ∃ u, u = h - 1 := ⟨_, rfl⟩
  obtain ⟨v, hv⟩ : ∃ v, v = u / 2 := ⟨_, rfl⟩
  have z2 : IntKind.i64.wrap ((h : Int) - 1) = (u : Int) := by rw [IntKind.wrap_i64]; omega
  have z3 : (u : Int).tdiv 2 = (v : Int) := by rw [Int.tdiv_eq_ediv_of_nonneg (by omega)]; omega
  have z3' : (u : Int) / 2 = (v : Int) := by omega
  have z4 : IntKind.i64.wrap (v : Int) = (v : Int) := by rw [IntKind.wrap_i64]; omega
  have hdef : heapSort ltN d a b = heapPop ltN a h (heapBuild ltN h a (v + 1) d) := by unfold heapSort; rw [← hh, hv, hu]
  have HD := hide hdef
  have HH := hide (And.intro hh (And.intro hu hv))
  clear hdef hh hu hv
  go_enter Tryz.func86, Tryz.ntmps86
  go_wp2_with fail
  go_loopg [9] (v + 1) (fun g s9 wr => ∃ (k : Nat) (dk : Array Nat), s9 = .int .i64 ((k : Int) - 1) ∧ k ≤ v + 1 ∧ k ≤ g ∧ Hid (dk.size = d.size) ∧ Hid (LiesU wr blk dk) ∧ Hid (w.grownBy wr (some blk)) ∧ Hid (heapBuild ltN h a k dk = heapBuild ltN h a (v + 1) d))
  case atStart => exact ⟨v + 1, d, by congr 1; omega, Nat.le_refl _, Nat.le_refl _, hide rfl, HL, hide (gb_refl _ _), hide rfl⟩
  case round =>
    obtain ⟨k, dk, hs9, hkv, hg, hsk, hLk, hGk, hOk⟩ := hrel
    cases k with
    | succ m =>
      have e9 : (((m + 1 : Nat) : Int) - 1) = (m : Int) := by omega
      rw [e9] at hs9
      subst hs9
      clear e9
      have HC := hide (sift78 blk cap m h a dk wr (unhide hLk) (by have := unhide HH; have := unhide hsk; omega) (by have := unhide HH; have := unhide hsk; omega) (by have := unhide hsk; omega))
      rw [unhide hsk] at HC
      have y1 : IntKind.i64.wrap ((m : Int) - 1) = (m : Int) - 1 := by have := unhide HH; rw [IntKind.wrap_i64]; omega
      have y2 : (0 : Int) ≤ m := by omega
      go_wp2_with fail
      refine (unhide HC).mono ?_
      rintro e w1 ⟨rfl, hL1, hG1⟩
      have HL1 := hide hL1
      have HG1 := hide (gb_trans (unhide hGk) hG1)
      clear hL1 hG1
      go_wp2
      go_roundg m
      case measure => omega
      case rel => exact ⟨m, siftDown ltN h a m dk, rfl, by omega, Nat.le_refl _, hide (by rw [sd_size h a _ _ _ (Nat.le_refl _)]; exact unhide hsk), HL1, HG1, hide (by rw [← unhide hOk]; rfl)⟩
    | zero =>
      have e9 : (((0 : Nat) : Int) - 1) = -1 := by omega
      rw [e9] at hs9
      subst hs9
      clear e9
      have HOk := hide (show dk = heapBuild ltN h a (v + 1) d from unhide hOk)
      clear hOk
      go_wp2_with fail
      go_loopg [10] h (fun g s10 wr => ∃ (k : Nat) (dj : Array Nat), s10 = .int .i64 ((k : Int) - 1) ∧ k ≤ h ∧ k ≤ g ∧ Hid (dj.size = d.size) ∧ Hid (LiesU wr blk dj) ∧ Hid (w.grownBy wr (some blk)) ∧ Hid (heapPop ltN a k dj = heapPop ltN a h dk))
      case atStart => exact ⟨h, dk, by have := unhide HH; congr 1; omega, Nat.le_refl _, Nat.le_refl _, hsk, hLk, hGk, hide rfl⟩
      case round =>
        obtain ⟨k, dj, hs9, hkv, hg, hsj, hLj, hGj, hOj⟩ := hrel
        cases k with
        | succ m =>
          have e9 : (((m + 1 : Nat) : Int) - 1) = (m : Int) := by omega
          rw [e9] at hs9
          subst hs9
          clear e9
          have hds := unhide hsj
          have hhh := unhide HH
          have hlt1 : a < dj.size := by omega
          have hlt2 : a + m < dj.size := by omega
          have HC := hide (fun X hX => sift78 blk cap 0 m a (swp dj a (a + m)) X hX (by omega) (by rw [swp_size]; omega) (by rw [swp_size]; omega))
          rw [swp_size, hds] at HC
          obtain ⟨c1, f1⟩ := (unhide hLj).cell a hlt1
          obtain ⟨c2, f2⟩ := (unhide hLj).cell (a + m) hlt2
          have HSw := hide (fun n => ((unhide hLj).drew n).swap a (a + m) hlt1 hlt2)
          have y1 : IntKind.i64.wrap ((m : Int) - 1) = (m : Int) - 1 := by rw [IntKind.wrap_i64]; omega
          have y2 : (0 : Int) ≤ m := by omega
          have y3 : IntKind.i64.wrap ((a : Int) + m) = (a : Int) + m := by rw [IntKind.wrap_i64]; omega
          have y4 : ((a : Int) + m).toNat = a + m := by omega
          have y5 : (a : Int) + m < d.size := by omega
          have y6 : (0 : Int) ≤ (a : Int) + m := by omega
          have y7 : (a : Int) < d.size := by omega
          clear hds hhh hlt1 hlt2
          by_cases hm0 : m = 0
          · subst hm0
            simp only [Nat.add_zero] at c2 f2 HSw
            generalize dj[a]! = x at *
            go_wp2_with fail
            go_region
            all_goals go_wp2_with fail
            refine (unhide HC (((wr.setCell ⟨blk, a, none⟩ (.int .u32 (x : Nat))).setCell ⟨blk, a, none⟩ (.int .u32 (x : Nat))).drew) (LiesU.grown (unhide HSw 0) rfl)).mono ?_
            rintro e w1 ⟨rfl, hL1, hG1⟩
            have HL1 := hide hL1
            have g0 := gb_trans (unhide hGj) (gb_swap wr blk a a (.int .u32 (x : Nat)) (.int .u32 (x : Nat)))
            have HG1 := hide (gb_trans g0 ⟨hG1.os, hG1.tape, hG1.output, hG1.size, hG1.block⟩)
            clear hL1 hG1 g0
            go_wp2
            go_roundg 0
            case measure => omega
            case rel => exact ⟨0, siftDown ltN 0 a 0 (swp dj a (a + 0)), rfl, by omega, Nat.le_refl _, hide (by rw [sd_size 0 a _ _ _ (Nat.le_refl _), swp_size]; exact unhide hsj), HL1, HG1, hide (by rw [← unhide hOj]; rfl)⟩
          · have n1 : ¬ a + m = a := by omega
            have n2 : ¬ a = a + m := by omega
            generalize dj[a]! = x at *
            generalize dj[a + m]! = y at *
            go_wp2_with fail
            go_region
            all_goals go_wp2_with fail
            refine (unhide HC _ (unhide HSw _)).mono ?_
            rintro e w1 ⟨rfl, hL1, hG1⟩
            have HL1 := hide hL1
            have HG1 := hide (gb_trans (gb_trans (gb_drew (unhide hGj) _) (gb_swap _ _ _ _ _ _)) hG1)
            clear hL1 hG1
            go_wp2
            go_roundg m
            case measure => omega
            case rel => exact ⟨m, siftDown ltN m a 0 (swp dj a (a + m)), rfl, by omega, Nat.le_refl _, hide (by rw [sd_size m a _ _ _ (Nat.le_refl _), swp_size]; exact unhide hsj), HL1, HG1, hide (by rw [← unhide hOj]; rfl)⟩
        | zero =>
          have e9 : (((0 : Nat) : Int) - 1) = -1 := by omega
          rw [e9] at hs9
          subst hs9
          clear e9
          go_wp2
          go_end0
          refine ⟨rfl, ?_, unhide hGj⟩
          rw [unhide HD, ← unhide HOk, ← unhide hOj]
          exact unhide hLj
theorem su_go (p : Nat → Bool) (d : Array Nat) (j i : Nat) (h : i ≤ j) (hp : p d[i]! = true) : scanUp p d j i = scanUp p d j (i + 1) := by
  rw [scanUp, if_pos (by simp [h, hp])]
theorem su_stop (p : Nat → Bool) (d : Array Nat) (j i : Nat) (h : ¬ i ≤ j ∨ p d[i]! = false) : scanUp p d j i = i := by
  rw [scanUp, if_neg]
  rcases h with h | h
  · simp [h]
  · simp [h]
theorem sdn_go (p : Nat → Bool) (d : Array Nat) (i j : Nat) (h : i ≤ j) (h0 : 0 < i) (hp : p d[j]! = true) : scanDown p d i j = scanDown p d i (j - 1) := by
  cases j with
  | zero => omega
  | succ j => rw [scanDown, if_pos (by simp [h, hp])]; rfl
theorem sdn_stop (p : Nat → Bool) (d : Array Nat) (i j : Nat) (h : ¬ i ≤ j ∨ p d[j]! = false) : scanDown p d i j = j := by
  cases j with
  | zero => rfl
  | succ j =>
    rw [scanDown, if_neg]
    rcases h with h | h
    · simp [h]
    · simp [h]
theorem su_ge (p : Nat → Bool) (d : Array Nat) (j : Nat) : ∀ (n i : Nat), j + 1 - i ≤ n → i ≤ scanUp p d j i ∧ (i ≤ j + 1 → scanUp p d j i ≤ j + 1) := by
  intro n
  induction n with
  | zero => intro i h; rw [su_stop p d j i (.inl (by omega))]; omega
  | succ n ih =>
    intro i h
    by_cases hc : i ≤ j ∧ p d[i]! = true
    · rw [su_go p d j i hc.1 hc.2]
      have := ih (i + 1) (by omega)
      omega
    · rw [su_stop p d j i (by by_cases e : i ≤ j; exact .inr (by cases h : p d[i]!; rfl; exact absurd ⟨e, h⟩ hc); exact .inl e)]
      omega
theorem sdn_le (p : Nat → Bool) (d : Array Nat) (i : Nat) : ∀ j, scanDown p d i j ≤ j ∧ (i ≤ j + 1 → i ≤ scanDown p d i j + 1) := by
  intro j
  induction j with
  | zero => simp [scanDown]
  | succ j ih =>
    unfold scanDown
    split
    · rename_i h
      simp at h
      omega
    · omega
theorem pl_eq (a i j : Nat) (d : Array Nat) (i2 j2 : Nat) (h1 : scanUp (fun x => ltN x d[a]!) d j i = i2) (h2 : scanDown (fun x => !ltN x d[a]!) d i2 j = j2) :
    partLoop ltN a i j d = if i2 > j2 then (j2, d) else partLoop ltN a (i2 + 1) (j2 - 1) (swp d i2 j2) := by
  have g1 := (su_ge (fun x => ltN x d[a]!) d j _ i (Nat.le_refl _)).1
  have g2 := (sdn_le (fun x => !ltN x d[a]!) d i2 j).1
  rw [h1] at g1
  rw [h2] at g2
  rw [partLoop]
  simp only [h1, h2]
  split
  · rfl
  · rw [dif_pos (by omega)]
theorem pe_eq (a i j : Nat) (d : Array Nat) (i2 j2 : Nat) (h1 : scanUp (fun x => !ltN d[a]! x) d j i = i2) (h2 : scanDown (fun x => ltN d[a]! x) d i2 j = j2) :
    partEqLoop ltN a i j d = if i2 > j2 then (i2, d) else partEqLoop ltN a (i2 + 1) (j2 - 1) (swp d i2 j2) := by
  have g1 := (su_ge (fun x => !ltN d[a]! x) d j _ i (Nat.le_refl _)).1
  have g2 := (sdn_le (fun x => ltN d[a]! x) d i2 j).1
  rw [h1] at g1
  rw [h2] at g2
  rw [partEqLoop]
  simp only [h1, h2]
  split
  · rfl
  · rw [dif_pos (by omega)]
set_option maxHeartbeats 4000000 in
set_option maxRecDepth 100000 in
theorem parteq68 (blk cap a b p : Nat) (d : Array Nat) (w : World) (hL : LiesU w blk d) (hap : a ≤ p) (hpb : p < b) (hb : b ≤ d.size) (hsz : d.size ≤ 1500000) :
    Calls Tryz.prog 92 #[.slice (some ⟨blk, 0, none⟩) d.size cap, .int .i64 a, .int .i64 b, .int .i64 p] w fun e w' => e = .returned (.int .i64 ((partitionEqual ltN d a b p).1 : Nat)) ∧ LiesU w' blk (partitionEqual ltN d a b p).2 ∧ w.grownBy w' (some blk) := by
  have HL := hide hL
  obtain ⟨c1, f1⟩ := hL.cell a (by omega)
  obtain ⟨c2, f2⟩ := hL.cell p (by omega)
  have HSw := hide (fun n => (hL.drew n).swap a p (by omega) (by omega))
  clear hL
  have z1 : (a : Int) < d.size := by omega
  have z2 : (p : Int) < d.size := by omega
  have z3 : IntKind.i64.wrap ((a : Int) + 1) = ((a + 1 : Nat) : Int) := by rw [IntKind.wrap_i64]; omega
  have z4 : IntKind.i64.wrap ((b : Int) - 1) = ((b - 1 : Nat) : Int) := by rw [IntKind.wrap_i64]; omega
  have HD : Hid (partitionEqual ltN d a b p = partEqLoop ltN a (a + 1) (b - 1) (swp d a p)) := hide rfl
  have HZ := hide (swp_size d a p)
  generalize partitionEqual ltN d a b p = res at *
  generalize swp d a p = d1 at *
  have hcase := Classical.em (a = p)
  rcases hcase with hne | hne
  all_goals
    first
    | (subst hne
       generalize d[a]! = x at *
       go_enter Tryz.func92, Tryz.ntmps92
       go_wp2_with fail
       go_region
       all_goals go_wp2_with fail
       obtain ⟨X, hX⟩ : ∃ X, X = ((w.setCell ⟨blk, a, none⟩ (.int .u32 (x : Nat))).setCell ⟨blk, a, none⟩ (.int .u32 (x : Nat))).drew := ⟨_, rfl⟩
       rw [← hX]
       have HLX : Hid (LiesU X blk d1) := hide (by rw [hX]; exact LiesU.grown (unhide HSw 0) rfl)
       have HGX : Hid (w.grownBy X (some blk)) := hide (by rw [hX]; exact (have g0 := gb_swap w blk a a _ _; ⟨g0.os, g0.tape, g0.output, g0.size, g0.block⟩))
       clear hX)
    | (have n1 : ¬ p = a := (by omega)
       generalize d[a]! = x at *
       generalize d[p]! = y at *
       go_enter Tryz.func92, Tryz.ntmps92
       go_wp2_with fail
       go_region
       all_goals go_wp2_with fail
       obtain ⟨X, hX⟩ : ∃ X, X = ((w.setCell ⟨blk, a, none⟩ (.int .u32 (y : Nat))).setCell ⟨blk, p, none⟩ (.int .u32 (x : Nat))).drew := ⟨_, rfl⟩
       rw [← hX]
       have HLX : Hid (LiesU X blk d1) := hide (by rw [hX]; exact LiesU.grown (unhide HSw 0) rfl)
       have HGX : Hid (w.grownBy X (some blk)) := hide (by rw [hX]; exact (have g0 := gb_swap w blk a p _ _; ⟨g0.os, g0.tape, g0.output, g0.size, g0.block⟩))
       clear hX)
    clear c1 c2 f1 f2 HSw
    go_loopg [9, 10] (d.size + 1) (fun g s9 s10 wr => ∃ (i j : Nat) (dk : Array Nat), s9 = .int .i64 i ∧ s10 = .int .i64 j ∧ a + 1 ≤ i ∧ i ≤ b ∧ j < b ∧ a ≤ j ∧ d.size + 1 - i ≤ g ∧ Hid (dk.size = d.size) ∧ Hid (LiesU wr blk dk) ∧ Hid (w.grownBy wr (some blk)) ∧ Hid (partEqLoop ltN a i j dk = res))
    case atStart => exact ⟨a + 1, b - 1, d1, by go_num, rfl, Nat.le_refl _, by omega, by omega, by omega, by omega, HZ, HLX, HGX, hide (unhide HD).symm⟩
    case round =>
      obtain ⟨i, j, dk, rfl, rfl, hai, hib, hjb, haj, hg, hsk, hLk, hGk, hOk⟩ := hrel
      obtain ⟨w0, hw0⟩ : ∃ w0, w0 = wr := ⟨wr, rfl⟩
      subst hw0
      go_wp2_with fail
      go_loopg [9] (d.size + 1) (fun g s wr => ∃ i2 : Nat, s = .int .i64 i2 ∧ i ≤ i2 ∧ i2 ≤ d.size ∧ (i2 ≤ j + 1 ∨ i2 = i) ∧ d.size + 1 - i2 ≤ g ∧ Hid (LiesU wr blk dk) ∧ Hid (w.grownBy wr (some blk)) ∧ Hid (scanUp (fun x => !ltN dk[a]! x) dk j i2 = scanUp (fun x => !ltN dk[a]! x) dk j i))
      case atStart => exact ⟨i, rfl, Nat.le_refl _, by omega, .inr rfl, by omega, hLk, hGk, hide rfl⟩
      case round =>
        obtain ⟨i2, rfl, hi1, hi2, hi3, hgi, hLi, hGi, hSi⟩ := hrel
        have hds := unhide hsk
        by_cases hcont : i2 ≤ j ∧ ltN dk[a]! dk[i2]! = false
        · obtain ⟨c1, f1⟩ := (unhide hLi).cell a (by omega)
          obtain ⟨c2, f2⟩ := (unhide hLi).cell i2 (by omega)
          have HE := hide (su_go (fun x => !ltN dk[a]! x) dk j i2 hcont.1 (by simp [hcont.2]))
          have HC := hide (less67 dk[a]! dk[i2]!)
          have y1 : (i2 : Int) ≤ j := by omega
          have y2 : (i2 : Int) < d.size := by omega
          have y3 : IntKind.i64.wrap ((i2 : Int) + 1) = ((i2 + 1 : Nat) : Int) := by rw [IntKind.wrap_i64]; omega
          rw [hcont.2] at HC
          have hle := hcont.1
          clear hds hcont
          generalize dk[a]! = pv at *
          generalize dk[i2]! = xv at *
          go_wp2_with fail
          go_quiet ((go_at_call 91; refine (unhide HC _).mono ?_; rintro e w9 ⟨rfl, rfl⟩; exact ⟨rfl, _, rfl⟩))
          go_wp2
          go_roundg (d.size + 1 - (i2 + 1))
          case measure => omega
          case rel => exact ⟨i2 + 1, by go_num, by omega, by omega, .inl (by omega), Nat.le_refl _, hide ((unhide hLi).grown rfl), hide ⟨(unhide hGi).os, (unhide hGi).tape, (unhide hGi).output, (unhide hGi).size, (unhide hGi).block⟩, hide (by rw [← unhide HE]; exact unhide hSi)⟩
        · have hstop : ¬ i2 ≤ j ∨ ltN dk[a]! dk[i2]! = !false := by
            by_cases e : i2 ≤ j
            · right
              cases h : ltN dk[a]! dk[i2]!
              all_goals first | rfl | exact absurd ⟨e, h⟩ hcont
            · exact .inl e
          have HSA := hide hstop
          have HI2 : Hid (scanUp (fun x => !ltN dk[a]! x) dk j i = i2) := hide (by rw [← unhide hSi]; exact su_stop _ _ _ _ (by rcases hstop with h | h; exact .inl h; exact .inr (by simp [h])))
          clear hstop hSi
          have hle := Classical.em (i2 ≤ j)
          rcases hle with hle | hle
          all_goals
            first
            | (obtain ⟨c1, f1⟩ := (unhide hLi).cell a (by omega)
               obtain ⟨c2, f2⟩ := (unhide hLi).cell i2 (by omega)
               have HC := hide (less67 dk[a]! dk[i2]!)
               have hr : ltN dk[a]! dk[i2]! = !false := (by rcases unhide HSA with h | h; exact absurd hle h; exact h)
               rw [hr] at HC
               have y1 : (i2 : Int) ≤ j := (by omega)
               have y2 : (i2 : Int) < d.size := (by omega)
               clear hds hcont hr
               generalize dk[a]! = pv at c1 HC
               generalize dk[i2]! = xv at c2 HC
               go_wp2_with fail
               go_quiet ((go_at_call 91; refine (unhide HC _).mono ?_; rintro e w9 ⟨rfl, rfl⟩; exact ⟨rfl, _, rfl⟩))
               clear HC c1 c2 f1 f2 y1 y2)
            | (have y0 : ¬ (i2 : Int) ≤ j := (by omega)
               clear hds hcont
               go_wp2_with fail
               have y1 : decide ((i2 : Int) ≤ j) = false := decide_eq_false (by omega)
               go_quiet (fail)
               clear y0 y1)
            obtain ⟨w1, hw1⟩ : ∃ w1, w1 = wr.drewN nq := ⟨_, rfl⟩
            have HL1 : Hid (LiesU w1 blk dk) := hide (by rw [hw1]; exact (unhide hLi).grown rfl)
            have HG1 : Hid (w.grownBy w1 (some blk)) := hide (by rw [hw1]; exact gb_drew (unhide hGi) _)
            rw [← hw1]
            clear hw1 hLi hGi
            go_wp2_with fail
            go_loopg [10] (d.size + 1) (fun g s wr => ∃ j2 : Nat, s = .int .i64 j2 ∧ j2 ≤ j ∧ (i2 ≤ j2 + 1 ∨ j2 = j) ∧ a ≤ j2 ∧ j2 ≤ g ∧ Hid (LiesU wr blk dk) ∧ Hid (w.grownBy wr (some blk)) ∧ Hid (scanDown (fun x => ltN dk[a]! x) dk i2 j2 = scanDown (fun x => ltN dk[a]! x) dk i2 j))
            case atStart => exact ⟨j, rfl, Nat.le_refl _, .inr rfl, by omega, by have := unhide hsk; omega, HL1, HG1, hide rfl⟩
            case round =>
              obtain ⟨j2, rfl, hj1, hj2, hj3, hgj, hLj, hGj, hSj⟩ := hrel
              have hds := unhide hsk
              by_cases hcont2 : i2 ≤ j2 ∧ ltN dk[a]! dk[j2]! = true
              · obtain ⟨c1, f1⟩ := (unhide hLj).cell a (by omega)
                obtain ⟨c2, f2⟩ := (unhide hLj).cell j2 (by omega)
                have HE := hide (sdn_go (fun x => ltN dk[a]! x) dk i2 j2 hcont2.1 (by omega) (by simp [hcont2.2]))
                have HC := hide (less67 dk[a]! dk[j2]!)
                have y1 : (i2 : Int) ≤ j2 := by omega
                have y2 : (j2 : Int) < d.size := by omega
                have y3 : IntKind.i64.wrap ((j2 : Int) - 1) = ((j2 - 1 : Nat) : Int) := by rw [IntKind.wrap_i64]; omega
                rw [hcont2.2] at HC
                have hle2 := hcont2.1
                clear hds hcont2
                generalize dk[a]! = pv at c1 HC
                generalize dk[j2]! = xv at c2 HC
                go_wp2_with fail
                go_quiet ((go_at_call 91; refine (unhide HC _).mono ?_; rintro e w9 ⟨rfl, rfl⟩; exact ⟨rfl, _, rfl⟩))
                go_wp2
                go_roundg (j2 - 1)
                case measure => omega
                case rel => exact ⟨j2 - 1, by go_num, by omega, .inl (by omega), by omega, Nat.le_refl _, hide ((unhide hLj).grown rfl), hide ⟨(unhide hGj).os, (unhide hGj).tape, (unhide hGj).output, (unhide hGj).size, (unhide hGj).block⟩, hide (by rw [← unhide HE]; exact unhide hSj)⟩
              · have hstop2 : ¬ i2 ≤ j2 ∨ ltN dk[a]! dk[j2]! = !true := by
                  by_cases e : i2 ≤ j2
                  · right
                    cases h : ltN dk[a]! dk[j2]!
                    all_goals first | rfl | exact absurd ⟨e, h⟩ hcont2
                  · exact .inl e
                have HJ2 : Hid (scanDown (fun x => ltN dk[a]! x) dk i2 j = j2) := hide (by rw [← unhide hSj]; exact sdn_stop _ _ _ _ (by rcases hstop2 with h | h; exact .inl h; exact .inr (by simp [h])))
                clear hSj
                by_cases hle2 : i2 ≤ j2
                · obtain ⟨c1, f1⟩ := (unhide hLj).cell a (by omega)
                  obtain ⟨c2, f2⟩ := (unhide hLj).cell j2 (by omega)
                  have hrB : ltN dk[a]! dk[j2]! = !true := by rcases hstop2 with h | h; exact absurd hle2 h; exact h
                  have hij : i2 ≠ j2 := by
                    intro e
                    rcases unhide HSA with h | h
                    · omega
                    · rw [e] at h
                      rw [hrB] at h
                      simp at h
                  have HC := hide (less67 dk[a]! dk[j2]!)
                  rw [hrB] at HC
                  have y1 : (i2 : Int) ≤ j2 := by omega
                  have y2 : (j2 : Int) < d.size := by omega
                  clear hcont2 hstop2 hrB
                  have HDS := hide hds
                  clear hds
                  generalize dk[a]! = pv at c1 HC
                  generalize hxv : dk[j2]! = xv at c2 HC
                  clear hxv
                  go_wp2_with fail
                  go_quiet ((go_at_call 91; refine (unhide HC _).mono ?_; rintro e w9 ⟨rfl, rfl⟩; exact ⟨rfl, _, rfl⟩))
                  clear HC c1 c2 f1 f2
                  have HLw : Hid (LiesU (wr.drewN nq) blk dk) := hide ((unhide hLj).grown rfl)
                  have HGw : Hid (w.grownBy (wr.drewN nq) (some blk)) := hide (gb_drew (unhide hGj) _)
                  obtain ⟨wx, hwx⟩ : ∃ wx, wx = wr.drewN nq := ⟨_, rfl⟩
                  rw [← hwx] at HLw HGw ⊢
                  clear hwx hLj hGj
                  have hds := unhide HDS
                  obtain ⟨c1, f1⟩ := (unhide HLw).cell i2 (by omega)
                  obtain ⟨c2, f2⟩ := (unhide HLw).cell j2 (by omega)
                  have HSw := hide (fun n => ((unhide HLw).drew n).swap i2 j2 (by omega) (by omega))
                  have HE := hide (pe_eq a i j dk i2 j2 (unhide HI2) (unhide HJ2))
                  rw [if_neg (by omega)] at HE
                  have y3 : (i2 : Int) < d.size := by omega
                  have y4 : IntKind.i64.wrap ((i2 : Int) + 1) = ((i2 + 1 : Nat) : Int) := by rw [IntKind.wrap_i64]; omega
                  have y5 : IntKind.i64.wrap ((j2 : Int) - 1) = ((j2 - 1 : Nat) : Int) := by rw [IntKind.wrap_i64]; omega
                  have n2 : ¬ j2 = i2 := fun e => hij e.symm
                  clear hds
                  generalize dk[i2]! = xv at *
                  generalize dk[j2]! = yv at *
                  first
                  | (exfalso; omega)
                  | (go_wp2_with fail
                     go_region
                     all_goals go_wp2
                     go_roundg (d.size + 1 - (i2 + 1))
                     case measure => omega
                     case rel => exact ⟨i2 + 1, j2 - 1, swp dk i2 j2, by go_num, by go_num, by omega, by omega, by omega, by omega, Nat.le_refl _, hide (by rw [swp_size]; exact unhide hsk), hide (LiesU.grown (unhide HSw 0) rfl), hide (have g0 := gb_trans (unhide HGw) (gb_swap wx blk i2 j2 _ _); ⟨g0.os, g0.tape, g0.output, g0.size, g0.block⟩), hide (by rw [← unhide HE]; exact unhide hOk)⟩)
                · have y0 : ¬ (i2 : Int) ≤ j2 := by omega
                  clear hcont2 hstop2
                  go_wp2_with fail
                  have y1 : decide ((i2 : Int) ≤ j2) = false := decide_eq_false (by omega)
                  go_quiet (fail)
                  have HLw : Hid (LiesU (wr.drewN nq) blk dk) := hide ((unhide hLj).grown rfl)
                  have HGw : Hid (w.grownBy (wr.drewN nq) (some blk)) := hide (gb_drew (unhide hGj) _)
                  obtain ⟨wx, hwx⟩ : ∃ wx, wx = wr.drewN nq := ⟨_, rfl⟩
                  rw [← hwx] at HLw HGw ⊢
                  clear hwx hLj hGj y1
                  have y2 : (j2 : Int) < i2 := by omega
                  have HE := hide (pe_eq a i j dk i2 j2 (unhide HI2) (unhide HJ2))
                  rw [if_pos (by omega)] at HE
                  go_wp2
                  go_ret
                  rw [← unhide hOk, unhide HE]
                  exact ⟨rfl, unhide HLw, unhide HGw⟩
