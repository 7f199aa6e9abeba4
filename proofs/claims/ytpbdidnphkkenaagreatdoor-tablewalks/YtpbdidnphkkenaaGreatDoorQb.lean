import Derived.Test.YtpbdidnphkkenaaGreatDoorQa
import Derived.Below
import Derived.Deep.QuietTactic
import Derived.BigQuiet
import Derived.Laws.BitsLemmas
import Derived.WalkSmall
import Derived.WalkSpells
import Derived.WalkLawsBesides
import Derived.Laws.BitsAllLaws
import Derived.Laws.AppendOwn
import Derived.Deep.LoopGhost
import Derived.Sort.Statements
import Derived.BigRegion
import Derived.LoopTactic
import Derived.RangeFuncNested
import Derived.RangeFuncBound
import Derived.RangeFuncCalls
import Derived.RangeFuncLeaves
import Derived.RangeFuncBox
import Derived.Shelf.Abstract
import Derived.Shelf.RegionOpen
import Derived.OwnWalkIn
import Derived.TacticsInMore
import Derived.LoopNIn
import Derived.LoopIn
import Derived.Maps.AppendAt
set_option linter.all false
namespace Go.Proofs.YtpbdidnphkkenaaGreatDoor
section
open Go.RowKit Go.Shelf
def hiZ (c : Int) : Bool := decide (55296 ≤ c) && decide (c < 56320)
def loZ (c : Int) : Bool := decide (56320 ≤ c) && decide (c ≤ 57343)
theorem hiZ_nat (c : Nat) : hiZ c = M.isHi c := by
  unfold hiZ M.isHi
  rw [show decide ((55296 : Int) ≤ (c : Int)) = decide (55296 ≤ c) from decide_eq_decide.2 (by omega), show decide ((c : Int) < 56320) = decide (c < 56320) from decide_eq_decide.2 (by omega)]
theorem loZ_nat (c : Nat) : loZ c = M.isLo c := by
  unfold loZ M.isLo
  rw [show decide ((56320 : Int) ≤ (c : Int)) = decide (56320 ≤ c) from decide_eq_decide.2 (by omega), show decide ((c : Int) ≤ 57343) = decide (c ≤ 57343) from decide_eq_decide.2 (by omega)]

theorem isHigh_any (c : Int) (w : World) : Calls Tryz.prog 99 #[.int .i32 c] w fun e w' => e = .returned (.bool (hiZ c)) ∧ w' = w := by
  unfold hiZ
  by_cases h1 : 55296 ≤ c <;> by_cases h2 : c < 56320
  all_goals
    go_enter Tryz.func99, Tryz.ntmps99
    go_wp2
    go_ret
    simp [h1, h2]
theorem isLow_any (c : Int) (w : World) : Calls Tryz.prog 98 #[.int .i32 c] w fun e w' => e = .returned (.bool (loZ c)) ∧ w' = w := by
  unfold loZ
  by_cases h1 : 56320 ≤ c <;> by_cases h2 : c ≤ 57343
  all_goals
    go_enter Tryz.func98, Tryz.ntmps98
    go_wp2
    go_ret
    simp [h1, h2]
theorem high_any (c : Int) (w : World) : Calls Tryz.prog 80 #[.int .u16 c] w fun e w' => e = .returned (.bool (hiZ c)) ∧ w' = w := by
  unfold hiZ
  by_cases h1 : 55296 ≤ c <;> by_cases h2 : c < 56320
  all_goals
    have h3 : c ≤ 56319 ↔ c < 56320 := by omega
    go_enter Tryz.func80, Tryz.ntmps80
    go_wp2
    go_ret
    simp [h1, h2]
    try omega
theorem low_any (c : Int) (w : World) : Calls Tryz.prog 81 #[.int .u16 c] w fun e w' => e = .returned (.bool (loZ c)) ∧ w' = w := by
  unfold loZ
  by_cases h1 : 56320 ≤ c <;> by_cases h2 : c ≤ 57343
  all_goals
    go_enter Tryz.func81, Tryz.ntmps81
    go_wp2
    go_ret
    simp [h1, h2]
theorem ret_int {k : IntKind} {a b : Int} (h : a = b) : Ending.returned (.int k a) = .returned (.int k b) := by rw [h]
def nums (s : ByteArray) : List Nat := s.data.toList.map UInt8.toNat
theorem nums_len (s : ByteArray) : (nums s).length = s.size := by unfold nums; rw [List.length_map]; rfl
theorem nums_lt (s : ByteArray) : ∀ x ∈ nums s, x < 256 := by
  intro x hx; unfold nums at hx; rw [List.mem_map] at hx; obtain ⟨y, _, rfl⟩ := hx; exact y.toNat_lt
theorem nums_get (s : ByteArray) (k : Nat) (h : k < s.size) : (nums s).getD k 0 = (s[k]'h).toNat := by
  have h' : k < s.data.toList.length := h
  unfold nums
  rw [List.getD_eq_getElem?_getD, List.getElem?_map, List.getElem?_eq_getElem h']
  rfl

theorem u8_224 : ∀ n : Fin 256, bits .and .u8 (n.val : Int) 224 = (n.val : Int) / 32 * 32 := by decide +kernel
theorem u8_192 : ∀ n : Fin 256, bits .and .u8 (n.val : Int) 192 = (n.val : Int) / 64 * 64 := by decide +kernel

theorem surr_any (s : ByteArray) (w : World) : Calls Tryz.prog 111 #[.string s] w fun e w' => e = .returned (.tuple #[.int .i32 ((M.surr (nums s)).1 : Nat), .int .i64 ((M.surr (nums s)).2 : Nat)]) ∧ ∃ n, w' = w.drewN n := by
  by_cases h : s.size < 3
  · have e : M.surr (nums s) = (0, 0) := by unfold M.surr; rw [nums_len, if_pos (Or.inl h)]
    rw [e]
    have h' : (s.size : Int) < 3 := by omega
    go_enter Tryz.func111, Tryz.ntmps111
    go_wp2
    go_ret2
    exact ⟨rfl, 0, rfl⟩
  · have hz0 : (0 : Int) < (s.size : Int) := by omega
    have hz1 : (1 : Int) < (s.size : Int) := by omega
    have hz2 : (2 : Int) < (s.size : Int) := by omega
    have h' : ¬ ((s.size : Int) < 3) := by omega
    obtain ⟨x0, hx0⟩ : ∃ x0, s[0]'(by omega) = x0 := ⟨_, rfl⟩
    obtain ⟨x1, hx1⟩ : ∃ x1, s[1]'(by omega) = x1 := ⟨_, rfl⟩
    obtain ⟨x2, hx2⟩ : ∃ x2, s[2]'(by omega) = x2 := ⟨_, rfl⟩
    have g0 : (nums s).getD 0 0 = x0.toNat := by rw [nums_get s 0 (by omega), hx0]
    have g1 : (nums s).getD 1 0 = x1.toNat := by rw [nums_get s 1 (by omega), hx1]
    have g2 : (nums s).getD 2 0 = x2.toNat := by rw [nums_get s 2 (by omega), hx2]
    have hS : M.surr (nums s) = if x0.toNat ≠ 237 ∨ x1.toNat / 32 ≠ 5 ∨ x2.toNat / 64 ≠ 2 then (0, 0) else (55296 + x1.toNat % 32 * 64 + x2.toNat % 64, 3) := by
      unfold M.surr; rw [nums_len, g0, g1, g2]; simp [h]
    clear g0 g1 g2
    rw [hS]; clear hS
    have l0 := x0.toNat_lt; have l1 := x1.toNat_lt; have l2 := x2.toNat_lt
    obtain ⟨n0, hn0⟩ : ∃ n0, x0.toNat = n0 := ⟨_, rfl⟩
    obtain ⟨n1, hn1⟩ : ∃ n1, x1.toNat = n1 := ⟨_, rfl⟩
    obtain ⟨n2, hn2⟩ : ∃ n2, x2.toNat = n2 := ⟨_, rfl⟩
    rw [hn0] at l0; rw [hn1] at l1; rw [hn2] at l2
    rw [hn0, hn1, hn2]
    have q1 : bits .and .u8 (n1 : Int) 224 = (n1 : Int) / 32 * 32 := u8_224 ⟨n1, l1⟩
    have q2 : bits .and .u8 (n2 : Int) 192 = (n2 : Int) / 64 * 64 := u8_192 ⟨n2, l2⟩
    have q3 : bits .and .u8 (n1 : Int) 31 = (n1 : Int) % 32 := u8_and31 _ (by omega) (by omega)
    have q4 : bits .and .u8 (n2 : Int) 63 = (n2 : Int) % 64 := u8_and63 _ (by omega) (by omega)
    by_cases c0 : n0 = 237
    case neg =>
      rw [if_pos (Or.inl c0)]
      have c0' : ((n0 : Int) != 237) = true := by rw [bne_iff_ne]; omega
      go_enter Tryz.func111, Tryz.ntmps111
      go_wp2
      go_ret2
      exact ⟨rfl, 0, rfl⟩
    by_cases c1 : n1 / 32 = 5
    case neg =>
      rw [if_pos (Or.inr (Or.inl c1))]
      have c1' : ((n1 : Int) / 32 * 32 != 160) = true := by rw [bne_iff_ne]; omega
      have c0' : ((n0 : Int) != 237) = false := by rw [bne_eq_false_iff_eq]; omega
      go_enter Tryz.func111, Tryz.ntmps111
      go_wp2
      go_ret2
      exact ⟨rfl, 0, rfl⟩
    have c0' : ((n0 : Int) != 237) = false := by rw [bne_eq_false_iff_eq]; omega
    have c1' : ((n1 : Int) / 32 * 32 != 160) = false := by rw [bne_eq_false_iff_eq]; omega
    by_cases c2 : n2 / 64 = 2
    case neg =>
      rw [if_pos (Or.inr (Or.inr c2))]
      have c2' : ((n2 : Int) / 64 * 64 != 128) = true := by rw [bne_iff_ne]; omega
      go_enter Tryz.func111, Tryz.ntmps111
      go_wp2
      go_ret2
      exact ⟨rfl, 0, rfl⟩
    rw [if_neg (by omega)]
    have c2' : ((n2 : Int) / 64 * 64 != 128) = false := by rw [bne_eq_false_iff_eq]; omega
    have b1 : 0 ≤ (n1 : Int) % 32 := by omega
    have b2 : (n1 : Int) % 32 < 32 := by omega
    have b3 : 0 ≤ (n2 : Int) % 64 := by omega
    have b4 : (n2 : Int) % 64 < 64 := by omega
    clear c0 c1 c2
    go_enter Tryz.func111, Tryz.ntmps111
    go_wp2
    go_quiet (fail)
    go_wp2
    go_ret2
    exact ⟨rfl, nq, rfl⟩

theorem nzA {α : Type} (l : List α) (i : Nat) (a : α) : l.toArray.setIfInBounds i a = (l.set i a).toArray := by simp
theorem nzB {α : Type} (x : α) (l : List α) (i : Nat) (a : α) : (x :: l).set (i + 1) a = x :: l.set i a := rfl
theorem nzC {α : Type} (x : α) (l : List α) (a : α) : (x :: l).set 0 a = a :: l := rfl
theorem get_nums (s : ByteArray) (k : Nat) : (s.get! k).toNat = (nums s).getD k 0 := by
  by_cases h : k < s.size
  · rw [nums_get s k h]
    have : s.get! k = s[k]'h := by
      cases s with
      | mk d => exact getElem!_pos d k h
    rw [this]
  · have e1 : s.get! k = 0 := by
      cases s with
      | mk d => exact getElem!_neg d k h
    rw [e1, List.getD_eq_getElem?_getD, List.getElem?_eq_none (by rw [nums_len]; omega)]
    rfl
theorem valid_nat (c : Nat) : Utf8.valid (c : Int) = M.okc c := by
  unfold Utf8.valid M.okc
  rw [Bool.eq_iff_iff]
  simp
  omega
set_option maxHeartbeats 1000000 in
theorem decodeGo_nums (s : ByteArray) : Lib.decodeGo s = M.goD (nums s) := by
  unfold Lib.decodeGo M.goD Utf8.decode
  simp only [nums_len, get_nums, Nat.zero_add, Bool.and_eq_true, beq_iff_eq, decide_eq_true_eq, valid_nat, ge_iff_le, Utf8.runeError, and_assoc]

theorem below_drewN' (B : Nat) (w : World) (n : Nat) : Below B w (w.drewN n) := by
  exact below_drewN (Below.refl _ _) n
theorem hide {p : Prop} (h : p) : Hid p := h
theorem unhide {p : Prop} (h : Hid p) : p := h
theorem goD_le (l : List Nat) (hb : ∀ x ∈ l, x < 256) : (M.goD l).1 ≤ 1114111 ∧ (M.goD l).2 ≤ 4 := by
  rcases M.goD_cases l hb with h | ⟨b0, t, hl, h1, hv⟩ | ⟨b0, b1, t, hl, h1, h2, h3, hv⟩ | ⟨b0, b1, b2, t, hl, h1, h2, h3, h4, hv⟩ | ⟨b0, b1, b2, b3, t, hl, h1, h2, h3, h4, h5, h6, hv⟩
  · omega
  all_goals (rw [hv]; dsimp only; omega)
set_option maxHeartbeats 400000 in
theorem decode_any (s : ByteArray) (w : World) (hT : Lib.Utf8Tabs 2 3 w) : Calls Tryz.prog 97 #[.string s] w fun e w' => e = .returned (.tuple #[.int .i32 ((M.dec (nums s)).1 : Nat), .int .i64 ((M.dec (nums s)).2 : Nat)]) ∧ Below w.heap.size w w' := by
  have hD := Tryz.utf8_DecodeRuneInString s w hT
  have hle := goD_le (nums s) (nums_lt s)
  have hS := fun w => surr_any s w
  unfold M.dec
  rw [decodeGo_nums] at hD
  generalize M.goD (nums s) = p at *
  generalize M.surr (nums s) = q at *
  obtain ⟨c, n⟩ := p
  obtain ⟨c', n'⟩ := q
  dsimp only at *
  by_cases h1 : c = 65533
  · by_cases h2 : n ≤ 1
    · rw [if_pos ⟨h1, h2⟩]
      have h1' : ((c : Int) == 65533) = true := by rw [beq_iff_eq]; omega
      have h2' : (n : Int) ≤ 1 := by omega
      clear h1 h2
      have HS := hide hS; clear hS
      have HD := hide hD; clear hD
      go_enter Tryz.func97, Tryz.ntmps97
      go_wp2_with fail
      refine (unhide HD).mono ?_
      rintro e w1 ⟨rfl, hb⟩
      go_wp2_with fail
      refine (unhide HS _).mono ?_
      rintro e w2 ⟨rfl, m, rfl⟩
      go_wp2
      go_ret2
      exact ⟨rfl, hb.trans (below_drewN' _ _ _)⟩
    · rw [if_neg (by omega)]
      have h1' : ((c : Int) == 65533) = true := by rw [beq_iff_eq]; omega
      have h2' : ¬ (n : Int) ≤ 1 := by omega
      clear h1 h2 hS
      have HD := hide hD; clear hD
      go_enter Tryz.func97, Tryz.ntmps97
      go_wp2_with fail
      refine (unhide HD).mono ?_
      rintro e w1 ⟨rfl, hb⟩
      go_wp2
      go_ret2
      exact ⟨rfl, hb⟩
  · rw [if_neg (by omega)]
    have h1' : ((c : Int) == 65533) = false := by rw [beq_eq_false_iff_ne]; omega
    clear h1 hS
    have HD := hide hD; clear hD
    go_enter Tryz.func97, Tryz.ntmps97
    go_wp2_with fail
    refine (unhide HD).mono ?_
    rintro e w1 ⟨rfl, hb⟩
    go_wp2
    go_ret2
    exact ⟨rfl, hb⟩
end
section
open Go Go.Proofs Go.RowKit Go.Sort
def encU (n : Nat) : Value := .int .u32 (n : Int)
/-- A row of numbers at the head of block blk. -/
def LiesU (w : World) (blk : Nat) (d : Array Nat) : Prop := ∃ r : Array Value, w.heap[blk]? = some (.cells (d.map encU ++ r) 111 (0, 0))
theorem LiesU.lt {w : World} {blk : Nat} {d : Array Nat} (h : LiesU w blk d) : blk < w.heap.size := by
  obtain ⟨r, h⟩ := h
  exact (Array.getElem?_eq_some_iff.1 h).1
theorem LiesU.cell {w : World} {blk : Nat} {d : Array Nat} (h : LiesU w blk d) (j : Nat) (hj : j < d.size) : w.cell? ⟨blk, j, none⟩ = some (.int .u32 (d[j]! : Nat)) ∧ w.frozen? ⟨blk, j, none⟩ = false := by
  obtain ⟨r, h⟩ := h
  refine ⟨?_, ?_⟩
  · simp [go_sem, World.cell?, h, hj, Array.getElem?_append_left, encU]
  · simp [go_sem, World.frozen?, h]
theorem swp_size (d : Array Nat) (i j : Nat) : (swp d i j).size = d.size := by simp [swp]
theorem set_row (d : Array Nat) (r : Array Value) (i x : Nat) (hi : i < d.size) : (d.map encU ++ r).setIfInBounds i (encU x) = (d.setIfInBounds i x).map encU ++ r := by
  apply Array.toList_inj.1
  simp only [Array.toList_setIfInBounds, Array.toList_append, Array.toList_map]
  rw [List.set_append_left _ _ (by simpa using hi), List.map_set]
theorem LiesU.set {w : World} {blk : Nat} {d : Array Nat} (h : LiesU w blk d) (i x : Nat) (hi : i < d.size) : LiesU (w.setCell ⟨blk, i, none⟩ (.int .u32 (x : Nat))) blk (d.setIfInBounds i x) := by
  obtain ⟨r, h⟩ := h
  refine ⟨r, ?_⟩
  rw [← set_row d r i x hi]
  simp [World.setCell, Array.getElem?_modify, h]
  rfl
theorem LiesU.swap {w : World} {blk : Nat} {d : Array Nat} (h : LiesU w blk d) (i j : Nat) (hi : i < d.size) (hj : j < d.size) :
    LiesU ((w.setCell ⟨blk, i, none⟩ (.int .u32 (d[j]! : Nat))).setCell ⟨blk, j, none⟩ (.int .u32 (d[i]! : Nat))) blk (swp d i j) := by
  unfold swp
  exact (h.set i _ hi).set j _ (by simpa using hj)
theorem gb_refl (w : World) (o : Option Nat) : w.grownBy w o := ⟨rfl, rfl, rfl, Nat.le_refl _, fun _ _ _ => rfl⟩
theorem gb_trans {w w1 w2 : World} {o : Option Nat} (h : w.grownBy w1 o) (k : w1.grownBy w2 o) : w.grownBy w2 o :=
  ⟨k.os.trans h.os, k.tape.trans h.tape, k.output.trans h.output, Nat.le_trans h.size k.size, fun b hb ho => (k.block b (Nat.lt_of_lt_of_le hb h.size) ho).trans (h.block b hb ho)⟩
theorem gb_set (w : World) (blk o : Nat) (v : Value) : w.grownBy (w.setCell ⟨blk, o, none⟩ v) (some blk) := by
  refine ⟨rfl, rfl, rfl, by simp [World.setCell], ?_⟩
  intro k _ hne
  have : blk ≠ k := fun e => hne (by rw [e])
  simp [World.setCell, Array.getElem?_modify, this]
theorem gb_swap (w : World) (blk i j : Nat) (v u : Value) : w.grownBy ((w.setCell ⟨blk, i, none⟩ v).setCell ⟨blk, j, none⟩ u) (some blk) := gb_trans (gb_set _ _ _ _) (gb_set _ _ _ _)
def ltN (x y : Nat) : Bool := decide (x < y)
theorem nan36 (x : Nat) (w : World) : Calls Tryz.prog 105 #[.int .u32 (x : Nat)] w fun e w' => e = .returned (.bool false) ∧ w' = w := by
  go_enter Tryz.func105, Tryz.ntmps105
  go_wp2
  go_ret
  exact ⟨rfl, rfl⟩
theorem less67 (x y : Nat) (w : World) : Calls Tryz.prog 91 #[.int .u32 (x : Nat), .int .u32 (y : Nat)] w fun e w' => e = .returned (.bool (ltN x y)) ∧ w' = w := by
  have hr : ((x : Int) < y) = (x < y) := by simp
  unfold ltN
  go_enter Tryz.func91, Tryz.ntmps91
  go_wp2_with fail
  refine (nan36 x _).mono ?_
  rintro e w' ⟨rfl, rfl⟩
  go_wp2
  go_ret
  refine ⟨?_, rfl⟩
  simp
theorem LiesU.grown {w w' : World} {blk : Nat} {d : Array Nat} (h : LiesU w blk d) (hb : w'.heap[blk]? = w.heap[blk]?) : LiesU w' blk d := by
  obtain ⟨r, h⟩ := h
  exact ⟨r, hb.trans h⟩
theorem LiesU.drew {w : World} {blk : Nat} {d : Array Nat} (h : LiesU w blk d) (n : Nat) : LiesU (w.drewN n) blk d := h.grown rfl
theorem gb_drew {w w' : World} {o : Option Nat} (h : w.grownBy w' o) (n : Nat) : w.grownBy (w'.drewN n) o := ⟨h.os, h.tape, h.output, h.size, h.block⟩
theorem insI_go (a j : Nat) (d : Array Nat) (hj : a < j) (hl : ltN d[j]! d[j - 1]! = true) : insInner ltN a j d = insInner ltN a (j - 1) (swp d j (j - 1)) := by
  cases j with
  | zero => omega
  | succ j =>
    simp only [Nat.add_sub_cancel] at hl ⊢
    rw [insInner, if_pos]
    simp [hl, hj]
theorem insI_stop (a j : Nat) (d : Array Nat) (h : j ≤ a ∨ ltN d[j]! d[j - 1]! = false) : insInner ltN a j d = d := by
  cases j with
  | zero => rfl
  | succ j =>
    rw [insInner, if_neg]
    simp only [Nat.add_sub_cancel] at h
    rcases h with h | h
    · simp; omega
    · simp [h]
theorem insO_go (a b i : Nat) (d : Array Nat) (h : i < b) : insOuter ltN a b i d = insOuter ltN a b (i + 1) (insInner ltN a i d) := by rw [insOuter, if_pos h]
theorem insO_stop (a b i : Nat) (d : Array Nat) (h : ¬ i < b) : insOuter ltN a b i d = d := by rw [insOuter, if_neg h]
set_option maxHeartbeats 2000000 in
set_option maxRecDepth 100000 in
theorem insertion61 (blk cap a b : Nat) (d : Array Nat) (w : World) (hL : LiesU w blk d) (hab : a ≤ b) (hb : b ≤ d.size) (hsz : d.size ≤ 1500000) :
    Calls Tryz.prog 85 #[.slice (some ⟨blk, 0, none⟩) d.size cap, .int .i64 a, .int .i64 b] w fun e w' => e = .returned (.tuple #[]) ∧ LiesU w' blk (insertionSort ltN d a b) ∧ w.grownBy w' (some blk) := by
  have HL := hide hL
  clear hL
  go_enter Tryz.func85, Tryz.ntmps85
  go_wp2_with fail
  go_loopg [6] (b + 1) (fun g s6 wr => ∃ (i : Nat) (dk : Array Nat), s6 = .int .i64 i ∧ a < i ∧ i ≤ b + 1 ∧ b + 1 - i ≤ g ∧ Hid (dk.size = d.size) ∧ Hid (LiesU wr blk dk) ∧ Hid (w.grownBy wr (some blk)) ∧ Hid (insOuter ltN a b i dk = insertionSort ltN d a b))
  case atStart => exact ⟨a + 1, d, by go_num, by omega, by omega, by omega, hide rfl, HL, hide (gb_refl _ _), hide rfl⟩
  case round =>
    obtain ⟨i, dk, rfl, hai, hib, hg, hsk, hLk, hGk, hOk⟩ := hrel
    by_cases hlt : i < b
    · have hiz : (i : Int) < b := by omega
      go_wp2_with fail
      go_loopg [7] i (fun g s7 wr => ∃ (j : Nat) (dj : Array Nat), s7 = .int .i64 j ∧ a ≤ j ∧ j ≤ i ∧ j ≤ g ∧ Hid (dj.size = d.size) ∧ Hid (LiesU wr blk dj) ∧ Hid (w.grownBy wr (some blk)) ∧ Hid (insInner ltN a j dj = insInner ltN a i dk))
      case atStart => exact ⟨i, dk, rfl, by omega, Nat.le_refl _, Nat.le_refl _, hsk, hLk, hGk, hide rfl⟩
      case round =>
        obtain ⟨j, dj, rfl, haj, hji, hg2, hsj, hLj, hGj, hIj⟩ := hrel
        have hds := unhide hsj
        by_cases hja : a < j
        · obtain ⟨c1, f1⟩ := (unhide hLj).cell j (by omega)
          obtain ⟨c2, f2⟩ := (unhide hLj).cell (j - 1) (by omega)
          have HGo := hide (insI_go a j dj hja)
          have HSt := hide (fun h => insI_stop a j dj (.inr h))
          have HSw := hide (fun n => ((unhide hLj).drew n).swap j (j - 1) (by omega) (by omega))
          have z1 : (a : Int) < j := by omega
          have z2 : (j : Int) < d.size := by omega
          have z3 : (j : Int) - 1 < d.size := by omega
          have z4 : (0 : Int) ≤ (j : Int) - 1 := by omega
          have z5 : ((j : Int) - 1).toNat = j - 1 := by omega
          have z6 : IntKind.i64.wrap ((j : Int) - 1) = (j : Int) - 1 := by rw [IntKind.wrap_i64]; omega
          have z7 : (0 : Int) ≤ j := by omega
          clear hds
          generalize dj[j]! = x at *
          generalize dj[j - 1]! = y at *
          have HC := hide (less67 x y)
          generalize ltN x y = r at *
          cases r
          · have HE := hide (unhide HSt rfl)
            clear HSt HGo HSw
            go_wp2_with fail
            go_quiet ((go_at_call 91; refine Calls.quiet_of_same (unhide HC _)))
            go_wp2
            go_roundg (b + 1 - (i + 1))
            case measure => omega
            case rel =>
              refine ⟨i + 1, dj, by go_num, by omega, by omega, Nat.le_refl _, hsj, hide ((unhide hLj).drew _), hide (gb_drew (unhide hGj) _), hide ?_⟩
              rw [← unhide hOk, insO_go _ _ _ _ hlt, ← unhide hIj, unhide HE]
          · have HE := hide (unhide HGo rfl)
            clear HSt HGo
            go_wp2_with fail
            go_quiet ((go_at_call 91; refine Calls.quiet_of_same (unhide HC _)))
            go_wp2_with fail
            go_region
            all_goals go_wp2
            go_roundg (j - 1)
            case measure => omega
            case rel => exact ⟨j - 1, swp dj j (j - 1), by go_num, by omega, by omega, Nat.le_refl _, hide (by rw [swp_size]; exact unhide hsj), hide (unhide HSw _), hide (gb_trans (gb_drew (unhide hGj) _) (gb_swap _ _ _ _ _ _)), hide (by rw [← unhide HE]; exact unhide hIj)⟩
        · have z1 : ¬ (a : Int) < j := by omega
          have HE := hide (insI_stop a j dj (.inl (by omega)))
          go_wp2_with fail
          go_quiet (fail)
          go_wp2
          go_roundg (b + 1 - (i + 1))
          case measure => omega
          case rel =>
            refine ⟨i + 1, dj, by go_num, by omega, by omega, Nat.le_refl _, hsj, hide ((unhide hLj).drew _), hide (gb_drew (unhide hGj) _), hide ?_⟩
            rw [← unhide hOk, insO_go _ _ _ _ hlt, ← unhide hIj, unhide HE]
    · have hiz : ¬ (i : Int) < b := by omega
      go_wp2
      go_end0
      refine ⟨rfl, ?_, unhide hGk⟩
      rw [← unhide hOk, insO_stop _ _ _ _ hlt]
      exact unhide hLk
theorem rv_go (i j : Nat) (d : Array Nat) (h : i < j) : reverseLoop i j d = reverseLoop (i + 1) (j - 1) (swp d i j) := by rw [reverseLoop, if_pos h]
theorem rv_stop (i j : Nat) (d : Array Nat) (h : ¬ i < j) : reverseLoop i j d = d := by rw [reverseLoop, if_neg h]
set_option maxHeartbeats 2000000 in
set_option maxRecDepth 100000 in
theorem reverse65 (blk cap a b : Nat) (d : Array Nat) (w : World) (hL : LiesU w blk d) (hab : a < b) (hb : b ≤ d.size) (hsz : d.size ≤ 1500000) :
    Calls Tryz.prog 89 #[.slice (some ⟨blk, 0, none⟩) d.size cap, .int .i64 a, .int .i64 b] w fun e w' => e = .returned (.tuple #[]) ∧ LiesU w' blk (reverseRange d a b) ∧ w.grownBy w' (some blk) := by
  have HL := hide hL
  clear hL
  have zb : IntKind.i64.wrap ((b : Int) - 1) = ((b - 1 : Nat) : Int) := by rw [IntKind.wrap_i64]; omega
  go_enter Tryz.func89, Tryz.ntmps89
  go_wp2_with fail
  go_loopg [6, 7] (b + 1) (fun g s6 s7 wr => ∃ (i j : Nat) (dk : Array Nat), s6 = .int .i64 i ∧ s7 = .int .i64 j ∧ a ≤ i ∧ i ≤ b ∧ j < b ∧ b + 1 - i ≤ g ∧ Hid (dk.size = d.size) ∧ Hid (LiesU wr blk dk) ∧ Hid (w.grownBy wr (some blk)) ∧ Hid (reverseLoop i j dk = reverseRange d a b))
  case atStart => exact ⟨a, b - 1, d, rfl, rfl, Nat.le_refl _, by omega, by omega, by omega, hide rfl, HL, hide (gb_refl _ _), hide rfl⟩
  case round =>
    obtain ⟨i, j, dk, rfl, rfl, hai, hib, hjb, hg, hsk, hLk, hGk, hOk⟩ := hrel
    have hds := unhide hsk
    by_cases hlt : i < j
    · have hiz : (i : Int) < j := by omega
      obtain ⟨c1, f1⟩ := (unhide hLk).cell i (by omega)
      obtain ⟨c2, f2⟩ := (unhide hLk).cell j (by omega)
      have HGo := hide (rv_go i j dk hlt)
      have HSw := hide (fun n => ((unhide hLk).drew n).swap i j (by omega) (by omega))
      have z2 : (j : Int) < d.size := by omega
      have z3 : (i : Int) < d.size := by omega
      have z4 : IntKind.i64.wrap ((j : Int) - 1) = ((j - 1 : Nat) : Int) := by rw [IntKind.wrap_i64]; omega
      have z5 : IntKind.i64.wrap ((i : Int) + 1) = ((i + 1 : Nat) : Int) := by rw [IntKind.wrap_i64]; omega
      have n1 : ¬ i = j := by omega
      have n2 : ¬ j = i := by omega
      clear hds
      generalize dk[i]! = x at *
      generalize dk[j]! = y at *
      go_wp2_with fail
      go_region
      all_goals go_wp2
      go_roundg (b + 1 - (i + 1))
      case measure => omega
      case rel => exact ⟨i + 1, j - 1, swp dk i j, by go_num, by go_num, by omega, by omega, by omega, Nat.le_refl _, hide (by rw [swp_size]; exact unhide hsk), hide (unhide HSw _), hide (gb_trans (gb_drew (unhide hGk) _) (gb_swap _ _ _ _ _ _)), hide (by rw [← unhide HGo]; exact unhide hOk)⟩
    · have hiz : ¬ (i : Int) < j := by omega
      go_wp2
      go_end0
      refine ⟨rfl, ?_, unhide hGk⟩
      rw [← unhide hOk, rv_stop _ _ _ hlt]
      exact unhide hLk
/-- A number that a pointer points at. -/
def Pt (w : World) (B : Nat) (n : Nat) : Prop := w.heap[B]? = some (.cells #[.int .i64 (n : Int)] 3 (0, 0))
theorem Pt.cell {w : World} {B n : Nat} (h : Pt w B n) : w.cell? ⟨B, 0, none⟩ = some (.int .i64 (n : Int)) ∧ w.frozen? ⟨B, 0, none⟩ = false ∧ B < w.heap.size := by
  unfold Pt at h
  exact ⟨by simp [go_sem, World.cell?, h], by simp [go_sem, World.frozen?, h], (Array.getElem?_eq_some_iff.1 h).1⟩
theorem Pt.set {w : World} {B n : Nat} (h : Pt w B n) (m : Nat) : Pt (w.setCell ⟨B, 0, none⟩ (.int .i64 (m : Int))) B m := by
  unfold Pt at *
  simp [World.setCell, Array.getElem?_modify, h]
set_option maxHeartbeats 2000000 in
set_option maxRecDepth 100000 in
theorem order88 (blk cap a b B s : Nat) (d : Array Nat) (w : World) (hL : LiesU w blk d) (hP : Pt w B s) (hs : s ≤ 100) (ha : a < d.size) (hb : b < d.size) (hsz : d.size ≤ 1500000) :
    Calls Tryz.prog 112 #[.slice (some ⟨blk, 0, none⟩) d.size cap, .int .i64 a, .int .i64 b, .pointer (some ⟨B, 0, none⟩)] w fun e w' => ∃ x y s' : Nat, e = .returned (.tuple #[.int .i64 x, .int .i64 y]) ∧ (x = a ∧ y = b ∨ x = b ∧ y = a) ∧ s' ≤ s + 1 ∧ Pt w' B s' ∧ w.grownBy w' (some B) := by
  obtain ⟨c1, f1⟩ := hL.cell a ha
  obtain ⟨c2, f2⟩ := hL.cell b hb
  obtain ⟨p1, p2, p3⟩ := hP.cell
  have HP := hide hP
  have z1 : (a : Int) < d.size := by omega
  have z2 : (b : Int) < d.size := by omega
  have z3 : IntKind.i64.wrap ((s : Int) + 1) = ((s + 1 : Nat) : Int) := by rw [IntKind.wrap_i64]; omega
  clear hL hP
  generalize d[a]! = x at *
  generalize d[b]! = y at *
  have HC := hide (less67 y x)
  generalize ltN y x = r at *
  cases r
  · go_enter Tryz.func112, Tryz.ntmps112
    go_wp2_with fail
    go_quiet ((go_at_call 91; refine Calls.quiet_of_same (unhide HC _)))
    go_wp2
    go_ret2
    exact ⟨a, b, s, rfl, .inl ⟨rfl, rfl⟩, by omega, unhide HP, gb_drew (gb_refl _ _) _⟩
  · go_enter Tryz.func112, Tryz.ntmps112
    go_wp2_with fail
    go_quiet ((go_at_call 91; refine Calls.quiet_of_same (unhide HC _)))
    go_wp2
    go_ret2
    exact ⟨b, a, s + 1, rfl, .inr ⟨rfl, rfl⟩, by omega, Pt.set (w := w.drewN _) (unhide HP) (s + 1), gb_trans (gb_drew (gb_refl _ _) _) (gb_set _ _ _ _)⟩
end
section
open Go.RowKit Go.Shelf
def strLen : Value → Nat
  | .string s => s.size
  | _ => 0
theorem tabs_below {w w' : World} (h : Lib.Utf8Tabs 2 3 w) (hb : Below w.heap.size w w') : Lib.Utf8Tabs 2 3 w' := Utf8Tabs_below h hb

theorem nums_extract (u : ByteArray) (n : Nat) : nums (u.extract n u.size) = (nums u).drop n := by
  unfold nums
  rw [ByteArray.data_extract, Array.toList_extract, ← List.map_drop]
  congr 1
  rw [List.extract_eq_take_drop, List.take_of_length_le]
  rw [List.length_drop]; exact Nat.le_refl _
theorem size_extract (u : ByteArray) (n : Nat) : (u.extract n u.size).size = u.size - n := by
  rw [← nums_len, nums_extract, List.length_drop, nums_len]
set_option maxHeartbeats 400000 in
theorem valid_any (s : ByteArray) (w : World) (hT : Lib.Utf8Tabs 2 3 w) : Calls Tryz.prog 79 #[.string s] w fun e w' => e = .returned (.bool (M.valid false (nums s))) ∧ Below w.heap.size w w' := by
  have HT := hide hT; clear hT
  go_enter Tryz.func79, Tryz.ntmps79
  go_wp2
  go_loopw [0, 3] (fun t b wr => ∃ (u : ByteArray) (h : Bool), t = .string u ∧ b = .bool h ∧ M.valid false (nums s) = M.valid h (nums u) ∧ Below w.heap.size w wr) (fun t _ _ => strLen t)
  case atStart => exact ⟨s, false, rfl, rfl, rfl, Below.refl _ _⟩
  case round =>
    obtain ⟨u, h, rfl, rfl, hv, hB⟩ := hrel
    have HV := hide hv; clear hv
    have hNE : nums u = [] ↔ u.size = 0 := by rw [← nums_len, List.length_eq_zero_iff]
    cases hE : u.toList.isEmpty with
    | true =>
      have hz : nums u = [] := by
        rw [hNE, ByteArray.size, ← Array.length_toList, List.length_eq_zero_iff]
        simpa [Lib.toList_data] using hE
      go_wp2
      go_ret
      refine ⟨?_, hB⟩
      rw [unhide HV, hz]; rfl
    | false =>
      have hz : nums u ≠ [] := by
        intro e
        rw [hNE, ByteArray.size, ← Array.length_toList, List.length_eq_zero_iff] at e
        simp [Lib.toList_data, e] at hE
      have hst := M.valid_step h (nums u) hz
      have hinv := M.dec_inv (nums u) (nums_lt u)
      have hdc := decode_any u wr (tabs_below (unhide HT) hB)
      generalize M.dec (nums u) = p at *
      obtain ⟨c, n⟩ := p
      dsimp only at *
      have HD := hide hdc; clear hdc
      have HS := hide hst; clear hst
      have HN := hide hNE; clear hNE
      have HZ := hide hz; clear hz
      by_cases hn : n = 0
      · have HI := hide hinv; clear hinv
        have hn' : ((n : Int) == 0) = true := by rw [beq_iff_eq]; omega
        go_wp2_with fail
        refine (unhide HD).mono ?_
        rintro e w1 ⟨rfl, hb⟩
        go_wp2
        go_ret
        refine ⟨?_, hB.trans (hb.mono hB.size)⟩
        rw [unhide HV, unhide HS, hn]; rfl
      · obtain ⟨d1, d2, d3⟩ := hinv hn
        have hn' : ((n : Int) == 0) = false := by rw [beq_eq_false_iff_ne]; omega
        have hnle : n ≤ u.size := by
          have := congrArg List.length d2
          rw [List.length_append, nums_len] at this; omega
        have h1n : (1 : Int) ≤ (n : Int) := by omega
        have hnle' : (n : Int) ≤ (u.size : Int) := by omega
        have D2 := hide d2; clear d2
        have D3 := hide d3; clear d3
        clear hinv
        have hsz := size_extract u n
        have HZ2 := hide hsz; clear hsz
        have fin : ∀ (w2 : World), Below wr.heap.size wr w2 → (decide (n = 0) || h && M.isLo c) = false → (∃ (u_1 : ByteArray) (h : Bool),
            Value.string (u.extract n u.size) = Value.string u_1 ∧ Value.bool (hiZ ↑c) = Value.bool h ∧ M.valid false (nums s) = M.valid h (nums u_1) ∧ Below w.heap.size w w2) ∧
            strLen (Value.string (u.extract n u.size)) < strLen (Value.string u) := by
          intro w2 hb he
          refine ⟨⟨u.extract n u.size, M.isHi c, rfl, by rw [hiZ_nat], ?_, hB.trans (hb.mono hB.size)⟩, ?_⟩
          · rw [unhide HV, unhide HS, he, nums_extract]; simp
          · simp only [strLen]; rw [unhide HZ2]; omega
        have FIN := hide fin; clear fin
        cases h with
        | true =>
          go_wp2_with fail
          refine (unhide HD).mono ?_
          rintro e w1 ⟨rfl, hb⟩
          go_wp2_with fail
          refine (isLow_any _ _).mono ?_
          rintro e w2 ⟨rfl, rfl⟩
          rw [loZ_nat]
          cases hl : M.isLo c with
          | true =>
            go_wp2
            go_ret
            refine ⟨?_, hB.trans (hb.mono hB.size)⟩
            rw [unhide HV, unhide HS, hl]; simp
          | false =>
            go_wp2_with fail
            refine (isHigh_any _ _).mono ?_
            rintro e w3 ⟨rfl, rfl⟩
            go_wp2
            exact unhide FIN _ hb (by simp [hl, hn])
        | false =>
          go_wp2_with fail
          refine (unhide HD).mono ?_
          rintro e w1 ⟨rfl, hb⟩
          go_wp2_with fail
          refine (isHigh_any _ _).mono ?_
          rintro e w2 ⟨rfl, rfl⟩
          go_wp2
          exact unhide FIN _ hb (by simp [hn])
end
section
open Go.RowKit Go.Shelf
attribute [local go_sem] Oper.semAt_some
/-- a code point; a code point and where it begins -/
abbrev CP := { c : Nat // c ≤ 1114111 }
abbrev PT := { x : Nat × Nat // x.2 ≤ 1114111 }
def encs (x : PT) : Array Value := #[.int .i64 (x.1.1 : Nat), .int .i32 (x.1.2 : Nat)]
def bytes (cs : List CP) : List Nat := (cs.map (·.1)).flatMap M.E

theorem tabs_size {w : World} (h : Lib.Utf8Tabs 2 3 w) : 4 ≤ w.heap.size := by
  have := (h.2 0 (by omega)).1
  rcases Nat.lt_or_ge 3 w.heap.size with h' | h'
  · omega
  · simp [World.cell?, Array.getElem?_eq_none h'] at this
theorem tabs_belowB {B : Nat} {w w' : World} (h : Lib.Utf8Tabs 2 3 w) (hB : 4 ≤ B) (hb : Below B w w') : Lib.Utf8Tabs 2 3 w' :=
  ⟨fun c hc => (hb.cell (p := ⟨2, c, none⟩) (by show 2 < B; omega)).trans (h.1 c hc), fun i hi => ⟨(hb.cell (p := ⟨3, 2 * i, none⟩) (by show 3 < B; omega)).trans (h.2 i hi).1, (hb.cell (p := ⟨3, 2 * i + 1, none⟩) (by show 3 < B; omega)).trans (h.2 i hi).2⟩⟩
theorem grown_of_below {w w' : World} (h : Below w.heap.size w w') : w.grownBy w' none := ⟨h.os, h.tape, h.output, h.size, fun k hk _ => h.block k hk⟩

def u16v (u : Nat) : Value := .int .u16 (u : Nat)
theorem info65 : (Tryz.prog.info? 132).map (fun i => (i.zero, i.size, i.bytes)) = some (some (.int .u16 0), 1, 2) := by kernel_rfl

theorem U_len (c : Nat) : (M.U c).length ≤ 2 := by unfold M.U; split <;> simp
