import Derived.Test.YtpbdidnphkkenaaGreatDoorQm
import Derived.Test.YtpbdidnphkkenaaGreatDoorQk
import Derived.Sort.Lot0
set_option linter.all false
namespace Go.Proofs.YtpbdidnphkkenaaGreatDoor
section
open Go Go.Proofs Go.RowKit Go.Sort
/-- The cell of a random number. -/
def Rn (w : World) (B : Nat) (n : Nat) : Prop := w.heap[B]? = some (.cells #[.int .u64 (n : Int)] 167 (0, 0))
theorem Rn.cell {w : World} {B n : Nat} (h : Rn w B n) : w.cell? ⟨B, 0, none⟩ = some (.int .u64 (n : Int)) ∧ w.frozen? ⟨B, 0, none⟩ = false ∧ B < w.heap.size := by
  unfold Rn at h
  exact ⟨by simp [go_sem, World.cell?, h], by simp [go_sem, World.frozen?, h], (Array.getElem?_eq_some_iff.1 h).1⟩
theorem next80 (B r : Nat) (w : World) (h : Rn w B r) (hr : r < 2 ^ 64) :
    Calls Tryz.prog 102 #[.pointer (some ⟨B, 0, none⟩)] w fun e w' => ∃ r' : Nat, r' < 2 ^ 64 ∧ e = .returned (.int .u64 r') ∧ Rn w' B r' ∧ w.grownBy w' (some B) := by
  obtain ⟨c, f, hl⟩ := h.cell
  obtain ⟨s1, hs1⟩ : ∃ s1, s1 = r * 8192 % 18446744073709551616 := ⟨_, rfl⟩
  have a1 : IntKind.u64.wrap ((r : Int) * 8192) = (s1 : Int) := by simp [IntKind.wrap, IntKind.bits, IntKind.signed]; omega
  obtain ⟨r1, hr1⟩ : ∃ r1, r1 = r ^^^ s1 := ⟨_, rfl⟩
  have l1 : r1 < 2 ^ 64 := by rw [hr1]; exact Nat.xor_lt_two_pow hr (by omega)
  have b1 : bits .xor .u64 (r : Int) (s1 : Int) = (r1 : Int) := by rw [hr1]; exact u64_xor_nat r s1 hr (by omega)
  obtain ⟨s2, hs2⟩ : ∃ s2, s2 = r1 / 128 := ⟨_, rfl⟩
  have a2 : (r1 : Int) / 128 = (s2 : Int) := by omega
  obtain ⟨r2, hr2⟩ : ∃ r2, r2 = r1 ^^^ s2 := ⟨_, rfl⟩
  have l2 : r2 < 2 ^ 64 := by rw [hr2]; exact Nat.xor_lt_two_pow l1 (by omega)
  have b2 : bits .xor .u64 (r1 : Int) (s2 : Int) = (r2 : Int) := by rw [hr2]; exact u64_xor_nat r1 s2 l1 (by omega)
  obtain ⟨s3, hs3⟩ : ∃ s3, s3 = r2 * 131072 % 18446744073709551616 := ⟨_, rfl⟩
  have a3 : IntKind.u64.wrap ((r2 : Int) * 131072) = (s3 : Int) := by simp [IntKind.wrap, IntKind.bits, IntKind.signed]; omega
  obtain ⟨r3, hr3⟩ : ∃ r3, r3 = r2 ^^^ s3 := ⟨_, rfl⟩
  have l3 : r3 < 2 ^ 64 := by rw [hr3]; exact Nat.xor_lt_two_pow l2 (by omega)
  have b3 : bits .xor .u64 (r2 : Int) (s3 : Int) = (r3 : Int) := by rw [hr3]; exact u64_xor_nat r2 s3 l2 (by omega)
  have HL := hide (And.intro l3 h)
  clear l1 l2 l3 hr h hs1 hr1 hs2 hr2 hs3 hr3
  go_enter Tryz.func102, Tryz.ntmps102
  go_wp2_with fail
  go_region
  all_goals go_wp2_with fail
  go_region
  all_goals go_wp2_with fail
  go_region
  obtain ⟨X, hX⟩ : ∃ X, X = (((w.setCell ⟨B, 0, none⟩ (.int .u64 (r1 : Nat))).setCell ⟨B, 0, none⟩ (.int .u64 (r2 : Nat))).setCell ⟨B, 0, none⟩ (.int .u64 (r3 : Nat))).drew.drew.drew := ⟨_, rfl⟩
  have hR : Rn X B r3 := by
    have h := (unhide HL).2
    unfold Rn at *
    rw [hX]
    show ((((w.setCell ⟨B, 0, none⟩ (.int .u64 (r1 : Nat))).setCell ⟨B, 0, none⟩ (.int .u64 (r2 : Nat))).setCell ⟨B, 0, none⟩ (.int .u64 (r3 : Nat)))).heap[B]? = _
    simp [World.setCell, Array.getElem?_modify, h]
  have hG : w.grownBy X (some B) := by
    rw [hX]
    have g0 := gb_trans (gb_trans (gb_set w B 0 (.int .u64 (r1 : Nat))) (gb_set _ B 0 (.int .u64 (r2 : Nat)))) (gb_set _ B 0 (.int .u64 (r3 : Nat)))
    exact ⟨g0.os, g0.tape, g0.output, g0.size, g0.block⟩
  rw [← hX]
  have HF := hide (And.intro hR hG)
  obtain ⟨c', f', hl'⟩ := hR.cell
  clear hX hR hG
  go_wp2
  go_ret
  exact ⟨r3, (unhide HL).1, rfl, (unhide HF).1, (unhide HF).2⟩
theorem bl_all : ∀ (f x : Nat), x ≤ f → 1 ≤ x → x < 18446744073709551616 → x < 2 ^ Lib.bitLen x ∧ 2 ^ Lib.bitLen x ≤ 2 * x := by
  intro f
  induction f with
  | zero => intro x h1 h2; omega
  | succ f ih =>
    intro x h1 h2 h3
    rw [Lib.bitLen_half x (by omega) h3, Nat.pow_add, Nat.pow_one]
    by_cases h : x / 2 = 0
    · rw [h, show Lib.bitLen 0 = 0 by decide +kernel]
      omega
    · have := ih (x / 2) (by omega) (by omega) (by omega)
      omega
theorem bl_le (n : Nat) (h0 : 8 ≤ n) (h1 : n ≤ 1500000) : n < 2 ^ Lib.bitLen n ∧ 2 ^ Lib.bitLen n ≤ 2 * n ∧ Lib.bitLen n ≤ 21 := by
  have h := bl_all n n (Nat.le_refl _) (by omega) (by omega)
  refine ⟨h.1, h.2, ?_⟩
  rcases Nat.lt_or_ge 21 (Lib.bitLen n) with hk | hk
  · have := Nat.pow_le_pow_right (n := 2) (by omega) hk
    simp at this
    omega
  · exact hk
theorem pow79 (n : Nat) (h0 : 8 ≤ n) (h1 : n ≤ 1500000) (w : World) : Calls Tryz.prog 101 #[.int .i64 (n : Nat)] w fun e w' => (∃ m k : Nat, e = .returned (.int .u64 m) ∧ m = 2 ^ k ∧ n < m ∧ m ≤ 2 * n) ∧ w' = w := by
  have hb := bl_le n h0 h1
  have HC := hide (Tryz.bits_Len (n : Int) w (by omega) (by omega))
  rw [Int.toNat_natCast] at HC
  have HB := hide hb
  obtain ⟨k, hk⟩ : ∃ k, k = Lib.bitLen n := ⟨_, rfl⟩
  rw [← hk] at HC HB hb
  have hk12 := hb.2.2
  clear hk hb
  have z1 : IntKind.u64.wrap (n : Int) = (n : Int) := by simp [IntKind.wrap, IntKind.bits, IntKind.signed]; omega
  go_enter Tryz.func101, Tryz.ntmps101
  go_wp2_with fail
  refine (unhide HC).mono ?_
  rintro e w' ⟨rfl, rfl⟩
  have hcases : k = 0 ∨ k = 1 ∨ k = 2 ∨ k = 3 ∨ k = 4 ∨ k = 5 ∨ k = 6 ∨ k = 7 ∨ k = 8 ∨ k = 9 ∨ k = 10 ∨ k = 11 ∨ k = 12 ∨ k = 13 ∨ k = 14 ∨ k = 15 ∨ k = 16 ∨ k = 17 ∨ k = 18 ∨ k = 19 ∨ k = 20 ∨ k = 21 := by omega
  rcases hcases with rfl | rfl | rfl | rfl | rfl | rfl | rfl | rfl | rfl | rfl | rfl | rfl | rfl | rfl | rfl | rfl | rfl | rfl | rfl | rfl | rfl | rfl
  all_goals
    go_wp2
    go_ret
    first
      | exact ⟨⟨1, 0, rfl, rfl, (unhide HB).1, (unhide HB).2.1⟩, rfl⟩
      | exact ⟨⟨2, 1, rfl, rfl, (unhide HB).1, (unhide HB).2.1⟩, rfl⟩
      | exact ⟨⟨4, 2, rfl, rfl, (unhide HB).1, (unhide HB).2.1⟩, rfl⟩
      | exact ⟨⟨8, 3, rfl, rfl, (unhide HB).1, (unhide HB).2.1⟩, rfl⟩
      | exact ⟨⟨16, 4, rfl, rfl, (unhide HB).1, (unhide HB).2.1⟩, rfl⟩
      | exact ⟨⟨32, 5, rfl, rfl, (unhide HB).1, (unhide HB).2.1⟩, rfl⟩
      | exact ⟨⟨64, 6, rfl, rfl, (unhide HB).1, (unhide HB).2.1⟩, rfl⟩
      | exact ⟨⟨128, 7, rfl, rfl, (unhide HB).1, (unhide HB).2.1⟩, rfl⟩
      | exact ⟨⟨256, 8, rfl, rfl, (unhide HB).1, (unhide HB).2.1⟩, rfl⟩
      | exact ⟨⟨512, 9, rfl, rfl, (unhide HB).1, (unhide HB).2.1⟩, rfl⟩
      | exact ⟨⟨1024, 10, rfl, rfl, (unhide HB).1, (unhide HB).2.1⟩, rfl⟩
      | exact ⟨⟨2048, 11, rfl, rfl, (unhide HB).1, (unhide HB).2.1⟩, rfl⟩
      | exact ⟨⟨4096, 12, rfl, rfl, (unhide HB).1, (unhide HB).2.1⟩, rfl⟩
      | exact ⟨⟨8192, 13, rfl, rfl, (unhide HB).1, (unhide HB).2.1⟩, rfl⟩
      | exact ⟨⟨16384, 14, rfl, rfl, (unhide HB).1, (unhide HB).2.1⟩, rfl⟩
      | exact ⟨⟨32768, 15, rfl, rfl, (unhide HB).1, (unhide HB).2.1⟩, rfl⟩
      | exact ⟨⟨65536, 16, rfl, rfl, (unhide HB).1, (unhide HB).2.1⟩, rfl⟩
      | exact ⟨⟨131072, 17, rfl, rfl, (unhide HB).1, (unhide HB).2.1⟩, rfl⟩
      | exact ⟨⟨262144, 18, rfl, rfl, (unhide HB).1, (unhide HB).2.1⟩, rfl⟩
      | exact ⟨⟨524288, 19, rfl, rfl, (unhide HB).1, (unhide HB).2.1⟩, rfl⟩
      | exact ⟨⟨1048576, 20, rfl, rfl, (unhide HB).1, (unhide HB).2.1⟩, rfl⟩
      | exact ⟨⟨2097152, 21, rfl, rfl, (unhide HB).1, (unhide HB).2.1⟩, rfl⟩
theorem and_lt (r k : Nat) (hk : k ≤ 21) (hr : r < 2 ^ 64) : ∃ o : Nat, o < 2 ^ k ∧ bits .and .u64 (r : Int) ((2 ^ k - 1 : Nat) : Int) = (o : Int) := by
  have hp : 2 ^ k ≤ 2097152 := Nat.pow_le_pow_right (n := 2) (by omega) hk
  have h0 : 0 < 2 ^ k := Nat.two_pow_pos k
  refine ⟨r &&& (2 ^ k - 1), ?_, u64_and_nat r _ hr (by omega)⟩
  rw [Nat.and_two_pow_sub_one_eq_mod]
  exact Nat.mod_lt _ h0
set_option maxHeartbeats 4000000 in
set_option maxRecDepth 100000 in
theorem break63 (blk cap a b : Nat) (d : Array Nat) (w : World) (hL : LiesU w blk d) (hab : a + 8 ≤ b) (hb : b ≤ d.size) (hsz : d.size ≤ 1500000) :
    Calls Tryz.prog 87 #[.slice (some ⟨blk, 0, none⟩) d.size cap, .int .i64 a, .int .i64 b] w fun e w' => e = .returned (.tuple #[]) ∧ ∃ d', PermIn a b d d' ∧ LiesU w' blk d' ∧ w.grownBy w' (some blk) := by
  have HL := hide hL
  have hlt := hL.lt
  clear hL
  obtain ⟨l, hl⟩ : ∃ l, l = b - a := ⟨_, rfl⟩
  obtain ⟨q, hq⟩ : ∃ q, q = l / 4 := ⟨_, rfl⟩
  obtain ⟨t0, ht0⟩ : ∃ t, t = a + 2 * q - 1 := ⟨_, rfl⟩
  obtain ⟨t1, ht1⟩ : ∃ t, t = a + 2 * q + 1 := ⟨_, rfl⟩
  obtain ⟨t2, ht2⟩ : ∃ t, t = a + 2 * q := ⟨_, rfl⟩
  have z1 : IntKind.i64.wrap ((b : Int) - a) = (l : Int) := by rw [IntKind.wrap_i64]; omega
  have z2 : (l : Int).tdiv 4 = (q : Int) := by rw [Int.tdiv_eq_ediv_of_nonneg (by omega)]; omega
  have z2' : (l : Int) / 4 = (q : Int) := by omega
  have z3 : IntKind.i64.wrap ((q : Int)) = (q : Int) := by rw [IntKind.wrap_i64]; omega
  have z4 : IntKind.i64.wrap ((q : Int) * 2) = 2 * (q : Int) := by rw [IntKind.wrap_i64]; omega
  have z5 : IntKind.i64.wrap ((a : Int) + 2 * (q : Int)) = (t2 : Int) := by rw [IntKind.wrap_i64]; omega
  have z6 : IntKind.i64.wrap ((t2 : Int) - 1) = (t0 : Int) := by rw [IntKind.wrap_i64]; omega
  have z7 : IntKind.i64.wrap ((t2 : Int) + 1) = (t1 : Int) := by rw [IntKind.wrap_i64]; omega
  have z8 : IntKind.u64.wrap (l : Int) = (l : Int) := by simp [IntKind.wrap, IntKind.bits, IntKind.signed]; omega
  have z9 : (8 : Int) ≤ l := by omega
  have HM := hide (pow79 l (by omega) (by omega))
  have HQ := hide (And.intro hl (And.intro hq (And.intro ht0 (And.intro ht1 ht2))))
  clear hl hq ht0 ht1 ht2
  go_enter Tryz.func87, Tryz.ntmps87
  go_wp2_with fail
  refine (unhide HM _).mono ?_
  rintro e w1 ⟨⟨m, k, rfl, hm, hm1, hm2⟩, rfl⟩
  have hk12 : k ≤ 21 := by
    rcases Nat.lt_or_ge 21 k with hk | hk
    · have := Nat.pow_le_pow_right (n := 2) (by omega) hk
      have := unhide HQ
      simp at *
      omega
    · exact hk
  have HMK := hide hm
  clear hm
  obtain ⟨m1, hm1'⟩ : ∃ m1, m1 = m - 1 := ⟨_, rfl⟩
  have y0 : IntKind.u64.wrap ((m : Int) - 1) = (m1 : Int) := by have := unhide HQ; simp [IntKind.wrap, IntKind.bits, IntKind.signed]; omega
  have HAnd : Hid (∀ r : Nat, r < 2 ^ 64 → ∃ o : Nat, o < m ∧ bits .and .u64 (r : Int) (m1 : Int) = (o : Int)) := hide (fun r hr => by
    obtain ⟨o, h1, h2⟩ := and_lt r k hk12 hr
    rw [← unhide HMK] at h1 h2
    rw [← hm1'] at h2
    exact ⟨o, h1, h2⟩)
  clear hm1'
  have hR0 : Rn (w.alloc (Obj.cells #[Value.int IntKind.u64 (l : Nat)] 167)) w.heap.size l := (show (w.heap.push _)[w.heap.size]? = _ from Array.getElem?_push_size)
  have HR0 := hide hR0
  have b0 := (Below.refl w.heap.size w).alloc (Nat.le_refl _) (Obj.cells #[Value.int IntKind.u64 (l : Nat)] 167)
  have HL0 := hide ((unhide HL).grown (b0.block blk hlt))
  have HG0 : Hid (w.grownBy (w.alloc (Obj.cells #[Value.int IntKind.u64 (l : Nat)] 167)) (some blk)) := hide ⟨b0.os, b0.tape, b0.output, b0.size, fun c hc _ => b0.block c hc⟩
  have hBB : some blk ≠ some w.heap.size := fun e => by have := Option.some.inj e; omega
  clear hR0 b0
  go_wp2_with fail
  go_loopg [9] (d.size + 2) (fun g s9 wr => ∃ (x r : Nat) (dk : Array Nat), s9 = .int .i64 x ∧ t0 ≤ x ∧ x ≤ t1 + 1 ∧ d.size + 2 - x ≤ g ∧ Hid (dk.size = d.size) ∧ Hid (LiesU wr blk dk) ∧ Hid (Rn wr w.heap.size r) ∧ r < 2 ^ 64 ∧ Hid (w.grownBy wr (some blk)) ∧ Hid (PermIn a b d dk))
  case atStart => exact ⟨t0, l, d, rfl, Nat.le_refl _, by have := unhide HQ; omega, by have := unhide HQ; omega, hide rfl, HL0, HR0, by have := unhide HQ; omega, HG0, hide (permIn_refl d a b)⟩
  case round =>
    obtain ⟨x, r, dk, rfl, hx1, hx2, hg, hsk, hLk, hRk, hr64, hGk, hPk⟩ := hrel
    by_cases hxt : x ≤ t1
    · have y1 : (x : Int) ≤ t1 := by omega
      have HN := hide (next80 w.heap.size r wr (unhide hRk) hr64)
      clear hr64
      go_wp2_with fail
      refine (unhide HN).mono ?_
      rintro e w1 ⟨r', hr', rfl, hR1, hG1⟩
      obtain ⟨o, ho1, ho2⟩ := unhide HAnd r' hr'
      have HL1 := hide ((unhide hLk).gb hG1 hBB)
      have HG1 : Hid (w.grownBy w1 (some blk)) := hide ⟨hG1.os.trans (unhide hGk).os, hG1.tape.trans (unhide hGk).tape, hG1.output.trans (unhide hGk).output, Nat.le_trans (unhide hGk).size hG1.size, fun c hc hne => (hG1.block c (Nat.lt_of_lt_of_le hc (unhide hGk).size) (fun e => by have := Option.some.inj e; omega)).trans ((unhide hGk).block c hc hne)⟩
      have HR1 := hide hR1
      have hlq := unhide HQ
      have y2 : IntKind.i64.wrap (o : Int) = (o : Int) := by rw [IntKind.wrap_i64]; omega
      have hds := unhide hsk
      obtain ⟨o2, ho3⟩ : ∃ o2, o2 = if l ≤ o then o - l else o := ⟨_, rfl⟩
      have ho4 : o2 < l := by rw [ho3]; split <;> omega
      have y4 : IntKind.i64.wrap ((a : Int) + o2) = (a : Int) + o2 := by rw [IntKind.wrap_i64]; omega
      have y5 : ((a : Int) + o2).toNat = a + o2 := by omega
      have y6 : (0 : Int) ≤ (a : Int) + o2 := by omega
      have y7 : (a : Int) + o2 < d.size := by omega
      have y8 : (x : Int) < d.size := by omega
      have y9 : IntKind.i64.wrap ((x : Int) + 1) = ((x + 1 : Nat) : Int) := by rw [IntKind.wrap_i64]; omega
      obtain ⟨c1, f1⟩ := (unhide HL1).cell x (by omega)
      obtain ⟨c2, f2⟩ := (unhide HL1).cell (a + o2) (by omega)
      have HSw := hide (fun n => ((unhide HL1).drew n).swap x (a + o2) (by omega) (by omega))
      have HP1 := hide (permIn_trans d dk (swp dk x (a + o2)) a b (unhide hPk) (swp_permIn dk a b x (a + o2) (by omega) (by omega) (by omega) (by omega) (by omega)))
      have HRn : Hid (∀ (X : World), w1.grownBy X (some blk) → Rn X w.heap.size r') := hide (fun X hX => by
        unfold Rn
        rw [hX.block _ (unhide HR1).cell.2.2 (fun e => hBB e.symm)]
        exact unhide HR1)
      have hoo := Classical.em (l ≤ o)
      clear hR1 hG1 hlq hds hRk hLk hGk
      rcases hoo with hoo | hoo
      all_goals
        first
        | (have x1 : (l : Int) ≤ o := (by omega)
           rw [if_pos hoo] at ho3
           have x2 : IntKind.i64.wrap ((o : Int) - l) = (o2 : Int) := (by rw [IntKind.wrap_i64]; omega)
           have HO3 := hide ho3
           clear ho3
           go_wp2_with fail)
        | (have x1 : ¬ (l : Int) ≤ o := (by omega)
           rw [if_neg hoo] at ho3
           subst ho3
           go_wp2_with fail)
        have hxx := Classical.em (x = a + o2)
        rcases hxx with hxx | hxx
        all_goals
          first
          | (subst hxx
             generalize dk[a + o2]! = xv at *
             go_region
             all_goals go_wp2
             go_roundg (d.size + 2 - (a + o2 + 1))
             case measure => omega
             case rel =>
               have g0 := gb_swap w1 blk (a + o2) (a + o2) (.int .u32 (xv : Nat)) (.int .u32 (xv : Nat))
               exact ⟨a + o2 + 1, r', swp dk (a + o2) (a + o2), by go_num, by omega, by omega, Nat.le_refl _, hide (by rw [swp_size]; exact unhide hsk), hide (LiesU.grown (unhide HSw 0) rfl), hide (unhide HRn _ ⟨g0.os, g0.tape, g0.output, g0.size, g0.block⟩), hr', hide (gb_trans (unhide HG1) ⟨g0.os, g0.tape, g0.output, g0.size, g0.block⟩), HP1⟩)
          | (have n1 : ¬ a + o2 = x := (fun e => hxx e.symm)
             generalize dk[x]! = xv at *
             generalize dk[a + o2]! = yv at *
             go_region
             all_goals go_wp2
             go_roundg (d.size + 2 - (x + 1))
             case measure => omega
             case rel =>
               have g0 := gb_swap w1 blk x (a + o2) (.int .u32 (yv : Nat)) (.int .u32 (xv : Nat))
               exact ⟨x + 1, r', swp dk x (a + o2), by go_num, by omega, by omega, Nat.le_refl _, hide (by rw [swp_size]; exact unhide hsk), hide (LiesU.grown (unhide HSw 0) rfl), hide (unhide HRn _ ⟨g0.os, g0.tape, g0.output, g0.size, g0.block⟩), hr', hide (gb_trans (unhide HG1) ⟨g0.os, g0.tape, g0.output, g0.size, g0.block⟩), HP1⟩)
    · have y1 : ¬ (x : Int) ≤ t1 := by omega
      go_wp2
      go_end0
      exact ⟨rfl, dk, unhide hPk, unhide hLk, unhide hGk⟩
