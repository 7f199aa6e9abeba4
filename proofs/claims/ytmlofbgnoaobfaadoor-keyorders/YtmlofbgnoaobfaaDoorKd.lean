import Derived.Test.YtmlofbgnoaobfaaDoorKc
namespace Go.Proofs.YtmlofbgnoaobfaaDoor
open Go Go.Proofs Go.RowKit Go.Sort
set_option linter.unusedSimpArgs false
set_option linter.unusedVariables false
theorem LiesU.gb {w w' : World} {blk : Nat} {d : Array Nat} {o : Option Nat} (h : LiesU w blk d) (hg : w.grownBy w' o) (hne : some blk ≠ o) : LiesU w' blk d := h.grown (hg.block blk h.lt hne)
set_option maxHeartbeats 2000000 in
set_option maxRecDepth 100000 in
theorem median82 (blk cap a b c B s : Nat) (d : Array Nat) (w : World) (hL : LiesU w blk d) (hP : Pt w B s) (hB : blk ≠ B) (hs : s ≤ 50) (ha : a < d.size) (hb : b < d.size) (hc : c < d.size) (hsz : d.size ≤ 3000) :
    Calls Tryd.prog 82 #[.slice (some ⟨blk, 0, none⟩) d.size cap, .int .i64 a, .int .i64 b, .int .i64 c, .pointer (some ⟨B, 0, none⟩)] w fun e w' => ∃ m s' : Nat, e = .returned (.int .i64 m) ∧ (m = a ∨ m = b ∨ m = c) ∧ s' ≤ s + 3 ∧ Pt w' B s' ∧ w.grownBy w' (some B) := by
  have HL := hide hL
  have HP := hide hP
  have hBn : some blk ≠ some B := fun e => hB (Option.some.inj e)
  clear hL hP
  go_enter Tryd.func82, Tryd.ntmps82
  go_wp2_with fail
  refine (order88 blk cap a b B s d w (unhide HL) (unhide HP) (by omega) ha hb hsz).mono ?_
  rintro e w1 ⟨x1, y1, s1, rfl, h1, hs1, hP1, hG1⟩
  have HL1 := hide ((unhide HL).gb hG1 hBn)
  have HP1 := hide hP1
  have HG1 := hide hG1
  clear hP1 hG1
  go_wp2_with fail
  refine (order88 blk cap y1 c B s1 d w1 (unhide HL1) (unhide HP1) (by omega) (by omega) hc hsz).mono ?_
  rintro e w2 ⟨x2, y2, s2, rfl, h2, hs2, hP2, hG2⟩
  have HL2 := hide ((unhide HL1).gb hG2 hBn)
  have HP2 := hide hP2
  have HG2 := hide (gb_trans (unhide HG1) hG2)
  clear hP2 hG2
  go_wp2_with fail
  refine (order88 blk cap x1 x2 B s2 d w2 (unhide HL2) (unhide HP2) (by omega) (by omega) (by omega) hsz).mono ?_
  rintro e w3 ⟨x3, y3, s3, rfl, h3, hs3, hP3, hG3⟩
  have HF := hide (And.intro hP3 (gb_trans (unhide HG2) hG3))
  clear hP3 hG3
  go_wp2
  go_ret
  exact ⟨y3, s3, rfl, by omega, by omega, (unhide HF).1, (unhide HF).2⟩
set_option maxHeartbeats 2000000 in
set_option maxRecDepth 100000 in
theorem adjacent81 (blk cap a B s : Nat) (d : Array Nat) (w : World) (hL : LiesU w blk d) (hP : Pt w B s) (hB : blk ≠ B) (hs : s ≤ 50) (ha : 0 < a) (ha2 : a + 1 < d.size) (hsz : d.size ≤ 3000) :
    Calls Tryd.prog 81 #[.slice (some ⟨blk, 0, none⟩) d.size cap, .int .i64 a, .pointer (some ⟨B, 0, none⟩)] w fun e w' => ∃ m s' : Nat, e = .returned (.int .i64 m) ∧ (m = a - 1 ∨ m = a ∨ m = a + 1) ∧ s' ≤ s + 3 ∧ Pt w' B s' ∧ w.grownBy w' (some B) := by
  have HM := hide (median82 blk cap (a - 1) a (a + 1) B s d w hL hP hB hs (by omega) (by omega) ha2 hsz)
  clear hL hP
  have z1 : IntKind.i64.wrap ((a : Int) - 1) = ((a - 1 : Nat) : Int) := by rw [IntKind.wrap_i64]; omega
  have z2 : IntKind.i64.wrap ((a : Int) + 1) = ((a + 1 : Nat) : Int) := by rw [IntKind.wrap_i64]; omega
  go_enter Tryd.func81, Tryd.ntmps81
  go_wp2_with fail
  refine (unhide HM).mono ?_
  rintro e w1 ⟨m, s1, rfl, h1, hs1, hP1, hG1⟩
  have HF := hide (And.intro hP1 hG1)
  clear hP1 hG1
  go_wp2
  go_ret
  exact ⟨m, s1, rfl, h1, hs1, (unhide HF).1, (unhide HF).2⟩
set_option maxHeartbeats 2000000 in
set_option maxRecDepth 100000 in
theorem pivot64 (blk cap a b : Nat) (d : Array Nat) (w : World) (hL : LiesU w blk d) (hab : a < b) (hb : b ≤ d.size) (hsz : d.size ≤ 3000) :
    Calls Tryd.prog 64 #[.slice (some ⟨blk, 0, none⟩) d.size cap, .int .i64 a, .int .i64 b] w fun e w' => ∃ p h : Nat, e = .returned (.tuple #[.int .i64 p, .int .i64 h]) ∧ a ≤ p ∧ p < b ∧ h ≤ 2 ∧ w.grownBy w' none := by
  have HL := hide hL
  have hlt := hL.lt
  clear hL
  obtain ⟨l, hl⟩ : ∃ l, l = b - a := ⟨_, rfl⟩
  obtain ⟨q, hq⟩ : ∃ q, q = l / 4 := ⟨_, rfl⟩
  obtain ⟨i, hi⟩ : ∃ i, i = a + q := ⟨_, rfl⟩
  obtain ⟨j, hj⟩ : ∃ j, j = a + 2 * q := ⟨_, rfl⟩
  obtain ⟨k, hk⟩ : ∃ k, k = a + 3 * q := ⟨_, rfl⟩
  have z1 : IntKind.i64.wrap ((b : Int) - a) = (l : Int) := by rw [IntKind.wrap_i64]; omega
  have z2 : (l : Int).tdiv 4 = (q : Int) := by rw [Int.tdiv_eq_ediv_of_nonneg (by omega)]; omega
  have z2' : (l : Int) / 4 = (q : Int) := by omega
  have z3 : IntKind.i64.wrap ((q : Int)) = (q : Int) := by rw [IntKind.wrap_i64]; omega
  have z4 : IntKind.i64.wrap ((q : Int) * 2) = 2 * (q : Int) := by rw [IntKind.wrap_i64]; omega
  have z5 : IntKind.i64.wrap ((q : Int) * 3) = 3 * (q : Int) := by rw [IntKind.wrap_i64]; omega
  have z6 : IntKind.i64.wrap ((a : Int) + q) = (i : Int) := by rw [IntKind.wrap_i64]; omega
  have z7 : IntKind.i64.wrap ((a : Int) + 2 * (q : Int)) = (j : Int) := by rw [IntKind.wrap_i64]; omega
  have z8 : IntKind.i64.wrap ((a : Int) + 3 * (q : Int)) = (k : Int) := by rw [IntKind.wrap_i64]; omega
  have HQ := hide (And.intro hl (And.intro hq (And.intro hi (And.intro hj hk))))
  clear hl hq hi hj hk
  have hP0 : Pt (w.alloc (Obj.cells #[Value.int IntKind.i64 0] 3)) w.heap.size 0 := (show (w.heap.push _)[w.heap.size]? = _ from Array.getElem?_push_size)
  have HP0 := hide hP0
  have hL0 := (unhide HL).grown (((Below.refl _ _).alloc (Nat.le_refl _) (Obj.cells #[Value.int IntKind.i64 0] 3)).block blk hlt)
  have HL0 := hide hL0
  have HG0 : Hid (∀ X, (w.alloc (Obj.cells #[Value.int IntKind.i64 0] 3)).grownBy X (some w.heap.size) → w.grownBy X none) := hide (fun X hX => by
    have b0 := (Below.refl w.heap.size w).alloc (Nat.le_refl _) (Obj.cells #[Value.int IntKind.i64 0] 3)
    exact ⟨hX.os.trans b0.os, hX.tape.trans b0.tape, hX.output.trans b0.output, Nat.le_trans b0.size hX.size, fun c hc _ => by
      rw [hX.block c (Nat.lt_of_lt_of_le hc b0.size) (fun e => by cases e; omega)]
      exact b0.block c hc⟩)
  have hBB : blk ≠ w.heap.size := by omega
  have hBn : some blk ≠ some w.heap.size := fun e => hBB (Option.some.inj e)
  clear hP0 hL0
  by_cases h50 : 50 ≤ l
  · have y1 : (50 : Int) ≤ l := by omega
    have y2 : (8 : Int) ≤ l := by omega
    go_enter Tryd.func64, Tryd.ntmps64
    go_wp2_with fail
    refine (adjacent81 blk cap i w.heap.size 0 d _ (unhide HL0) (unhide HP0) hBB (by omega) (by have := unhide HQ; omega) (by have := unhide HQ; omega) hsz).mono ?_
    rintro e w1 ⟨i1, s1, rfl, h1, hs1, hP1, hG1⟩
    have HL1 := hide ((unhide HL0).gb hG1 hBn)
    have HP1 := hide hP1
    have HG1 := hide hG1
    clear hP1 hG1
    go_wp2_with fail
    refine (adjacent81 blk cap j w.heap.size s1 d w1 (unhide HL1) (unhide HP1) hBB (by omega) (by have := unhide HQ; omega) (by have := unhide HQ; omega) hsz).mono ?_
    rintro e w2 ⟨j1, s2, rfl, h2, hs2, hP2, hG2⟩
    have HL2 := hide ((unhide HL1).gb hG2 hBn)
    have HP2 := hide hP2
    have HG2 := hide (gb_trans (unhide HG1) hG2)
    clear hP2 hG2
    go_wp2_with fail
    refine (adjacent81 blk cap k w.heap.size s2 d w2 (unhide HL2) (unhide HP2) hBB (by omega) (by have := unhide HQ; omega) (by have := unhide HQ; omega) hsz).mono ?_
    rintro e w3 ⟨k1, s3, rfl, h3, hs3, hP3, hG3⟩
    have HL3 := hide ((unhide HL2).gb hG3 hBn)
    have HP3 := hide hP3
    have HG3 := hide (gb_trans (unhide HG2) hG3)
    clear hP3 hG3
    go_wp2_with fail
    refine (median82 blk cap i1 j1 k1 w.heap.size s3 d w3 (unhide HL3) (unhide HP3) hBB (by omega) (by have := unhide HQ; omega) (by have := unhide HQ; omega) (by have := unhide HQ; omega) hsz).mono ?_
    rintro e w4 ⟨m, s4, rfl, h4, hs4, hP4, hG4⟩
    obtain ⟨p1, p2, p3⟩ := hP4.cell
    have HF := hide (unhide HG0 _ (gb_trans (unhide HG3) hG4))
    have HR := hide (show a ≤ m ∧ m < b by have := unhide HQ; omega)
    clear hP4 hG4 h1 h2 h3 h4
    go_wp2
    all_goals
      go_ret2
      first
        | exact ⟨m, 1, rfl, (unhide HR).1, (unhide HR).2, by omega, unhide HF⟩
        | exact ⟨m, 2, rfl, (unhide HR).1, (unhide HR).2, by omega, unhide HF⟩
        | exact ⟨m, 0, rfl, (unhide HR).1, (unhide HR).2, by omega, unhide HF⟩
  · by_cases h8 : 8 ≤ l
    · have y1 : ¬ (50 : Int) ≤ l := by omega
      have y2 : (8 : Int) ≤ l := by omega
      go_enter Tryd.func64, Tryd.ntmps64
      go_wp2_with fail
      refine (median82 blk cap i j k w.heap.size 0 d _ (unhide HL0) (unhide HP0) hBB (by omega) (by have := unhide HQ; omega) (by have := unhide HQ; omega) (by have := unhide HQ; omega) hsz).mono ?_
      rintro e w4 ⟨m, s4, rfl, h4, hs4, hP4, hG4⟩
      obtain ⟨p1, p2, p3⟩ := hP4.cell
      have HF := hide (unhide HG0 _ hG4)
      have HR := hide (show a ≤ m ∧ m < b by have := unhide HQ; omega)
      clear hP4 hG4 h4
      go_wp2
      all_goals
        go_ret2
        first
          | exact ⟨m, 1, rfl, (unhide HR).1, (unhide HR).2, by omega, unhide HF⟩
          | exact ⟨m, 2, rfl, (unhide HR).1, (unhide HR).2, by omega, unhide HF⟩
          | exact ⟨m, 0, rfl, (unhide HR).1, (unhide HR).2, by omega, unhide HF⟩
    · have y1 : ¬ (50 : Int) ≤ l := by omega
      have y2 : ¬ (8 : Int) ≤ l := by omega
      have HF := hide (unhide HG0 _ (gb_refl _ _))
      have HR := hide (show a ≤ j ∧ j < b by have := unhide HQ; omega)
      go_enter Tryd.func64, Tryd.ntmps64
      go_wp2
      go_ret2
      exact ⟨j, 1, rfl, (unhide HR).1, (unhide HR).2, by omega, unhide HF⟩
end Go.Proofs.YtmlofbgnoaobfaaDoor
