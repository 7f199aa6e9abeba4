import Derived.Test.YthilnaeomkppaaaGreatFmtQg
import Derived.Laws.AppendOwn
import Derived.Deep.LoopGhost
import Derived.Sort.Statements
import Derived.BigRegion
import Derived.Laws.OwnMore
import Derived.Laws.MakeOwn
set_option linter.all false
namespace Go.Proofs.YthilnaeomkppaaaGreatFmt
section
open Go Go.Proofs Go.RowKit Go.Sort
def encU (n : Nat) : Value := .int .u32 (n : Int)
/-- A row of numbers at the head of block blk. -/
def LiesU (w : World) (blk : Nat) (d : Array Nat) : Prop := ∃ r : Array Value, w.heap[blk]? = some (.cells (d.map encU ++ r) 56 (0, 0))
theorem LiesU.lt {w : World} {blk : Nat} {d : Array Nat} (h : LiesU w blk d) : blk < w.heap.size := by
  obtain ⟨r, h⟩ := h
  exact (Array.getElem?_eq_some_iff.1 h).1
theorem LiesU.cell {w : World} {blk : Nat} {d : Array Nat} (h : LiesU w blk d) (j : Nat) (hj : j < d.size) : w.cell? ⟨blk, j, none⟩ = some (.int .u32 (d[j]! : Nat)) ∧ w.frozen? ⟨blk, j, none⟩ = false := by
  obtain ⟨r, h⟩ := h
  refine ⟨?_, ?_⟩
  · simp [go_sem, World.cell?, h, hj, Array.getElem?_append_left, encU]
  · simp [go_sem, World.frozen?, h]
theorem swp_size (d : Array Nat) (i j : Nat) : (swp d i j).size = d.size := by simp [swp]
theorem set_row (d : Array Nat) (r : Array Value) (i x : Nat) (hi : i < d.size) : (d.map encU ++ r).setIfInBounds i (encU x) = (d.setIfInBounds i x).map encU ++ r := by
  apply Array.toList_inj.1
  simp only [Array.toList_setIfInBounds, Array.toList_append, Array.toList_map]
  rw [List.set_append_left _ _ (by simpa using hi), List.map_set]
theorem LiesU.set {w : World} {blk : Nat} {d : Array Nat} (h : LiesU w blk d) (i x : Nat) (hi : i < d.size) : LiesU (w.setCell ⟨blk, i, none⟩ (.int .u32 (x : Nat))) blk (d.setIfInBounds i x) := by
  obtain ⟨r, h⟩ := h
  refine ⟨r, ?_⟩
  rw [← set_row d r i x hi]
  simp [World.setCell, Array.getElem?_modify, h]
  rfl
theorem LiesU.swap {w : World} {blk : Nat} {d : Array Nat} (h : LiesU w blk d) (i j : Nat) (hi : i < d.size) (hj : j < d.size) :
    LiesU ((w.setCell ⟨blk, i, none⟩ (.int .u32 (d[j]! : Nat))).setCell ⟨blk, j, none⟩ (.int .u32 (d[i]! : Nat))) blk (swp d i j) := by
  unfold swp
  exact (h.set i _ hi).set j _ (by simpa using hj)
theorem gb_refl (w : World) (o : Option Nat) : w.grownBy w o := ⟨rfl, rfl, rfl, Nat.le_refl _, fun _ _ _ => rfl⟩
theorem gb_trans {w w1 w2 : World} {o : Option Nat} (h : w.grownBy w1 o) (k : w1.grownBy w2 o) : w.grownBy w2 o :=
  ⟨k.os.trans h.os, k.tape.trans h.tape, k.output.trans h.output, Nat.le_trans h.size k.size, fun b hb ho => (k.block b (Nat.lt_of_lt_of_le hb h.size) ho).trans (h.block b hb ho)⟩
theorem gb_set (w : World) (blk o : Nat) (v : Value) : w.grownBy (w.setCell ⟨blk, o, none⟩ v) (some blk) := by
  refine ⟨rfl, rfl, rfl, by simp [World.setCell], ?_⟩
  intro k _ hne
  have : blk ≠ k := fun e => hne (by rw [e])
  simp [World.setCell, Array.getElem?_modify, this]
theorem gb_swap (w : World) (blk i j : Nat) (v u : Value) : w.grownBy ((w.setCell ⟨blk, i, none⟩ v).setCell ⟨blk, j, none⟩ u) (some blk) := gb_trans (gb_set _ _ _ _) (gb_set _ _ _ _)
def ltN (x y : Nat) : Bool := decide (x < y)
theorem nan36 (x : Nat) (w : World) : Calls Tryz.prog 280 #[.int .u32 (x : Nat)] w fun e w' => e = .returned (.bool false) ∧ w' = w := by
  go_enter Tryz.func280, Tryz.ntmps280
  go_wp2
  go_ret
  exact ⟨rfl, rfl⟩
theorem less67 (x y : Nat) (w : World) : Calls Tryz.prog 250 #[.int .u32 (x : Nat), .int .u32 (y : Nat)] w fun e w' => e = .returned (.bool (ltN x y)) ∧ w' = w := by
  have hr : ((x : Int) < y) = (x < y) := by simp
  unfold ltN
  go_enter Tryz.func250, Tryz.ntmps250
  go_wp2_with fail
  refine (nan36 x _).mono ?_
  rintro e w' ⟨rfl, rfl⟩
  go_wp2
  go_ret
  refine ⟨?_, rfl⟩
  simp
theorem LiesU.grown {w w' : World} {blk : Nat} {d : Array Nat} (h : LiesU w blk d) (hb : w'.heap[blk]? = w.heap[blk]?) : LiesU w' blk d := by
  obtain ⟨r, h⟩ := h
  exact ⟨r, hb.trans h⟩
theorem LiesU.drew {w : World} {blk : Nat} {d : Array Nat} (h : LiesU w blk d) (n : Nat) : LiesU (w.drewN n) blk d := h.grown rfl
theorem gb_drew {w w' : World} {o : Option Nat} (h : w.grownBy w' o) (n : Nat) : w.grownBy (w'.drewN n) o := ⟨h.os, h.tape, h.output, h.size, h.block⟩
theorem insI_go (a j : Nat) (d : Array Nat) (hj : a < j) (hl : ltN d[j]! d[j - 1]! = true) : insInner ltN a j d = insInner ltN a (j - 1) (swp d j (j - 1)) := by
  cases j with
  | zero => omega
  | succ j =>
    simp only [Nat.add_sub_cancel] at hl ⊢
    rw [insInner, if_pos]
    simp [hl, hj]
theorem insI_stop (a j : Nat) (d : Array Nat) (h : j ≤ a ∨ ltN d[j]! d[j - 1]! = false) : insInner ltN a j d = d := by
  cases j with
  | zero => rfl
  | succ j =>
    rw [insInner, if_neg]
    simp only [Nat.add_sub_cancel] at h
    rcases h with h | h
    · simp; omega
    · simp [h]
theorem insO_go (a b i : Nat) (d : Array Nat) (h : i < b) : insOuter ltN a b i d = insOuter ltN a b (i + 1) (insInner ltN a i d) := by rw [insOuter, if_pos h]
theorem insO_stop (a b i : Nat) (d : Array Nat) (h : ¬ i < b) : insOuter ltN a b i d = d := by rw [insOuter, if_neg h]
set_option maxHeartbeats 2000000 in
set_option maxRecDepth 100000 in
theorem insertion61 (blk cap a b : Nat) (d : Array Nat) (w : World) (hL : LiesU w blk d) (hab : a ≤ b) (hb : b ≤ d.size) (hsz : d.size ≤ 1500000) :
    Calls Tryz.prog 244 #[.slice (some ⟨blk, 0, none⟩) d.size cap, .int .i64 a, .int .i64 b] w fun e w' => e = .returned (.tuple #[]) ∧ LiesU w' blk (insertionSort ltN d a b) ∧ w.grownBy w' (some blk) := by
  have HL := hide hL
  clear hL
  go_enter Tryz.func244, Tryz.ntmps244
  go_wp2_with fail
  go_loopg [6] (b + 1) (fun g s6 wr => ∃ (i : Nat) (dk : Array Nat), s6 = .int .i64 i ∧ a < i ∧ i ≤ b + 1 ∧ b + 1 - i ≤ g ∧ Hid (dk.size = d.size) ∧ Hid (LiesU wr blk dk) ∧ Hid (w.grownBy wr (some blk)) ∧ Hid (insOuter ltN a b i dk = insertionSort ltN d a b))
  case atStart => exact ⟨a + 1, d, by go_num, by omega, by omega, by omega, hide rfl, HL, hide (gb_refl _ _), hide rfl⟩
  case round =>
    obtain ⟨i, dk, rfl, hai, hib, hg, hsk, hLk, hGk, hOk⟩ := hrel
    by_cases hlt : i < b
    · have hiz : (i : Int) < b := by omega
      go_wp2_with fail
      go_loopg [7] i (fun g s7 wr => ∃ (j : Nat) (dj : Array Nat), s7 = .int .i64 j ∧ a ≤ j ∧ j ≤ i ∧ j ≤ g ∧ Hid (dj.size = d.size) ∧ Hid (LiesU wr blk dj) ∧ Hid (w.grownBy wr (some blk)) ∧ Hid (insInner ltN a j dj = insInner ltN a i dk))
      case atStart => exact ⟨i, dk, rfl, by omega, Nat.le_refl _, Nat.le_refl _, hsk, hLk, hGk, hide rfl⟩
      case round =>
        obtain ⟨j, dj, rfl, haj, hji, hg2, hsj, hLj, hGj, hIj⟩ := hrel
        have hds := unhide hsj
        by_cases hja : a < j
        · obtain ⟨c1, f1⟩ := (unhide hLj).cell j (by omega)
          obtain ⟨c2, f2⟩ := (unhide hLj).cell (j - 1) (by omega)
          have HGo := hide (insI_go a j dj hja)
          have HSt := hide (fun h => insI_stop a j dj (.inr h))
          have HSw := hide (fun n => ((unhide hLj).drew n).swap j (j - 1) (by omega) (by omega))
          have z1 : (a : Int) < j := by omega
          have z2 : (j : Int) < d.size := by omega
          have z3 : (j : Int) - 1 < d.size := by omega
          have z4 : (0 : Int) ≤ (j : Int) - 1 := by omega
          have z5 : ((j : Int) - 1).toNat = j - 1 := by omega
          have z6 : IntKind.i64.wrap ((j : Int) - 1) = (j : Int) - 1 := by rw [IntKind.wrap_i64]; omega
          have z7 : (0 : Int) ≤ j := by omega
          clear hds
          generalize dj[j]! = x at *
          generalize dj[j - 1]! = y at *
          have HC := hide (less67 x y)
          generalize ltN x y = r at *
          cases r
          · have HE := hide (unhide HSt rfl)
            clear HSt HGo HSw
            go_wp2_with fail
            go_quiet ((go_at_call 250; refine Calls.quiet_of_same (unhide HC _)))
            go_wp2
            go_roundg (b + 1 - (i + 1))
            case measure => omega
            case rel =>
              refine ⟨i + 1, dj, by go_num, by omega, by omega, Nat.le_refl _, hsj, hide ((unhide hLj).drew _), hide (gb_drew (unhide hGj) _), hide ?_⟩
              rw [← unhide hOk, insO_go _ _ _ _ hlt, ← unhide hIj, unhide HE]
          · have HE := hide (unhide HGo rfl)
            clear HSt HGo
            go_wp2_with fail
            go_quiet ((go_at_call 250; refine Calls.quiet_of_same (unhide HC _)))
            go_wp2_with fail
            go_region
            all_goals go_wp2
            go_roundg (j - 1)
            case measure => omega
            case rel => exact ⟨j - 1, swp dj j (j - 1), by go_num, by omega, by omega, Nat.le_refl _, hide (by rw [swp_size]; exact unhide hsj), hide (unhide HSw _), hide (gb_trans (gb_drew (unhide hGj) _) (gb_swap _ _ _ _ _ _)), hide (by rw [← unhide HE]; exact unhide hIj)⟩
        · have z1 : ¬ (a : Int) < j := by omega
          have HE := hide (insI_stop a j dj (.inl (by omega)))
          go_wp2_with fail
          go_quiet (fail)
          go_wp2
          go_roundg (b + 1 - (i + 1))
          case measure => omega
          case rel =>
            refine ⟨i + 1, dj, by go_num, by omega, by omega, Nat.le_refl _, hsj, hide ((unhide hLj).drew _), hide (gb_drew (unhide hGj) _), hide ?_⟩
            rw [← unhide hOk, insO_go _ _ _ _ hlt, ← unhide hIj, unhide HE]
    · have hiz : ¬ (i : Int) < b := by omega
      go_wp2
      go_end0
      refine ⟨rfl, ?_, unhide hGk⟩
      rw [← unhide hOk, insO_stop _ _ _ _ hlt]
      exact unhide hLk
theorem rv_go (i j : Nat) (d : Array Nat) (h : i < j) : reverseLoop i j d = reverseLoop (i + 1) (j - 1) (swp d i j) := by rw [reverseLoop, if_pos h]
theorem rv_stop (i j : Nat) (d : Array Nat) (h : ¬ i < j) : reverseLoop i j d = d := by rw [reverseLoop, if_neg h]
set_option maxHeartbeats 2000000 in
set_option maxRecDepth 100000 in
theorem reverse65 (blk cap a b : Nat) (d : Array Nat) (w : World) (hL : LiesU w blk d) (hab : a < b) (hb : b ≤ d.size) (hsz : d.size ≤ 1500000) :
    Calls Tryz.prog 248 #[.slice (some ⟨blk, 0, none⟩) d.size cap, .int .i64 a, .int .i64 b] w fun e w' => e = .returned (.tuple #[]) ∧ LiesU w' blk (reverseRange d a b) ∧ w.grownBy w' (some blk) := by
  have HL := hide hL
  clear hL
  have zb : IntKind.i64.wrap ((b : Int) - 1) = ((b - 1 : Nat) : Int) := by rw [IntKind.wrap_i64]; omega
  go_enter Tryz.func248, Tryz.ntmps248
  go_wp2_with fail
  go_loopg [6, 7] (b + 1) (fun g s6 s7 wr => ∃ (i j : Nat) (dk : Array Nat), s6 = .int .i64 i ∧ s7 = .int .i64 j ∧ a ≤ i ∧ i ≤ b ∧ j < b ∧ b + 1 - i ≤ g ∧ Hid (dk.size = d.size) ∧ Hid (LiesU wr blk dk) ∧ Hid (w.grownBy wr (some blk)) ∧ Hid (reverseLoop i j dk = reverseRange d a b))
  case atStart => exact ⟨a, b - 1, d, rfl, rfl, Nat.le_refl _, by omega, by omega, by omega, hide rfl, HL, hide (gb_refl _ _), hide rfl⟩
  case round =>
    obtain ⟨i, j, dk, rfl, rfl, hai, hib, hjb, hg, hsk, hLk, hGk, hOk⟩ := hrel
    have hds := unhide hsk
    by_cases hlt : i < j
    · have hiz : (i : Int) < j := by omega
      obtain ⟨c1, f1⟩ := (unhide hLk).cell i (by omega)
      obtain ⟨c2, f2⟩ := (unhide hLk).cell j (by omega)
      have HGo := hide (rv_go i j dk hlt)
      have HSw := hide (fun n => ((unhide hLk).drew n).swap i j (by omega) (by omega))
      have z2 : (j : Int) < d.size := by omega
      have z3 : (i : Int) < d.size := by omega
      have z4 : IntKind.i64.wrap ((j : Int) - 1) = ((j - 1 : Nat) : Int) := by rw [IntKind.wrap_i64]; omega
      have z5 : IntKind.i64.wrap ((i : Int) + 1) = ((i + 1 : Nat) : Int) := by rw [IntKind.wrap_i64]; omega
      have n1 : ¬ i = j := by omega
      have n2 : ¬ j = i := by omega
      clear hds
      generalize dk[i]! = x at *
      generalize dk[j]! = y at *
      go_wp2_with fail
      go_region
      all_goals go_wp2
      go_roundg (b + 1 - (i + 1))
      case measure => omega
      case rel => exact ⟨i + 1, j - 1, swp dk i j, by go_num, by go_num, by omega, by omega, by omega, Nat.le_refl _, hide (by rw [swp_size]; exact unhide hsk), hide (unhide HSw _), hide (gb_trans (gb_drew (unhide hGk) _) (gb_swap _ _ _ _ _ _)), hide (by rw [← unhide HGo]; exact unhide hOk)⟩
    · have hiz : ¬ (i : Int) < j := by omega
      go_wp2
      go_end0
      refine ⟨rfl, ?_, unhide hGk⟩
      rw [← unhide hOk, rv_stop _ _ _ hlt]
      exact unhide hLk
/-- A number that a pointer points at. -/
def Pt (w : World) (B : Nat) (n : Nat) : Prop := w.heap[B]? = some (.cells #[.int .i64 (n : Int)] 3 (0, 0))
theorem Pt.cell {w : World} {B n : Nat} (h : Pt w B n) : w.cell? ⟨B, 0, none⟩ = some (.int .i64 (n : Int)) ∧ w.frozen? ⟨B, 0, none⟩ = false ∧ B < w.heap.size := by
  unfold Pt at h
  exact ⟨by simp [go_sem, World.cell?, h], by simp [go_sem, World.frozen?, h], (Array.getElem?_eq_some_iff.1 h).1⟩
theorem Pt.set {w : World} {B n : Nat} (h : Pt w B n) (m : Nat) : Pt (w.setCell ⟨B, 0, none⟩ (.int .i64 (m : Int))) B m := by
  unfold Pt at *
  simp [World.setCell, Array.getElem?_modify, h]
set_option maxHeartbeats 2000000 in
set_option maxRecDepth 100000 in
theorem order88 (blk cap a b B s : Nat) (d : Array Nat) (w : World) (hL : LiesU w blk d) (hP : Pt w B s) (hs : s ≤ 100) (ha : a < d.size) (hb : b < d.size) (hsz : d.size ≤ 1500000) :
    Calls Tryz.prog 303 #[.slice (some ⟨blk, 0, none⟩) d.size cap, .int .i64 a, .int .i64 b, .pointer (some ⟨B, 0, none⟩)] w fun e w' => ∃ x y s' : Nat, e = .returned (.tuple #[.int .i64 x, .int .i64 y]) ∧ (x = a ∧ y = b ∨ x = b ∧ y = a) ∧ s' ≤ s + 1 ∧ Pt w' B s' ∧ w.grownBy w' (some B) := by
  obtain ⟨c1, f1⟩ := hL.cell a ha
  obtain ⟨c2, f2⟩ := hL.cell b hb
  obtain ⟨p1, p2, p3⟩ := hP.cell
  have HP := hide hP
  have z1 : (a : Int) < d.size := by omega
  have z2 : (b : Int) < d.size := by omega
  have z3 : IntKind.i64.wrap ((s : Int) + 1) = ((s + 1 : Nat) : Int) := by rw [IntKind.wrap_i64]; omega
  clear hL hP
  generalize d[a]! = x at *
  generalize d[b]! = y at *
  have HC := hide (less67 y x)
  generalize ltN y x = r at *
  cases r
  · go_enter Tryz.func303, Tryz.ntmps303
    go_wp2_with fail
    go_quiet ((go_at_call 250; refine Calls.quiet_of_same (unhide HC _)))
    go_wp2
    go_ret2
    exact ⟨a, b, s, rfl, .inl ⟨rfl, rfl⟩, by omega, unhide HP, gb_drew (gb_refl _ _) _⟩
  · go_enter Tryz.func303, Tryz.ntmps303
    go_wp2_with fail
    go_quiet ((go_at_call 250; refine Calls.quiet_of_same (unhide HC _)))
    go_wp2
    go_ret2
    exact ⟨b, a, s + 1, rfl, .inr ⟨rfl, rfl⟩, by omega, Pt.set (w := w.drewN _) (unhide HP) (s + 1), gb_trans (gb_drew (gb_refl _ _) _) (gb_set _ _ _ _)⟩
end
section
open Go.RowKit Go.Shelf
namespace M
/-- The order of two rows. -/
def cmpL : List Nat → List Nat → Int
  | [], [] => 0
  | [], _ :: _ => -1
  | _ :: _, [] => 1
  | a :: r, b :: q => if a < b then -1 else if b < a then 1 else cmpL r q

theorem cmpL_rng : ∀ (l m : List Nat), cmpL l m = -1 ∨ cmpL l m = 0 ∨ cmpL l m = 1
  | [], [] => by simp [cmpL]
  | [], _ :: _ => by simp [cmpL]
  | _ :: _, [] => by simp [cmpL]
  | a :: l, b :: m => by
    have := cmpL_rng l m
    simp only [cmpL]; split
    · simp
    · split
      · simp
      · exact this
theorem cmpL_neg : ∀ (l m : List Nat), cmpL l m = - cmpL m l
  | [], [] => by simp [cmpL]
  | [], _ :: _ => by simp [cmpL]
  | _ :: _, [] => by simp [cmpL]
  | a :: l, b :: m => by
    have := cmpL_neg l m
    simp only [cmpL]
    by_cases h1 : a < b
    · rw [if_pos h1, if_neg (by omega), if_pos h1]
    · by_cases h2 : b < a
      · rw [if_neg h1, if_pos h2, if_pos h2]; rfl
      · rw [if_neg h1, if_neg h2, if_neg h2, if_neg h1]; exact this
theorem cmpL_zero : ∀ (l m : List Nat), cmpL l m = 0 ↔ l = m
  | [], [] => by simp [cmpL]
  | [], _ :: _ => by simp [cmpL]
  | _ :: _, [] => by simp [cmpL]
  | a :: l, b :: m => by
    have := cmpL_zero l m
    simp only [cmpL, List.cons.injEq]
    by_cases h1 : a < b
    · rw [if_pos h1]; constructor
      · intro h; omega
      · rintro ⟨h, _⟩; omega
    · by_cases h2 : b < a
      · rw [if_neg h1, if_pos h2]; constructor
        · intro h; omega
        · rintro ⟨h, _⟩; omega
      · rw [if_neg h1, if_neg h2, this]; constructor
        · intro h; exact ⟨by omega, h⟩
        · exact And.right
theorem cmpL_le : ∀ (a b c : List Nat), cmpL a b ≤ 0 → cmpL b c ≤ 0 → cmpL a c ≤ 0
  | [], _, [] => by simp [cmpL]
  | [], _, _ :: _ => by simp [cmpL]
  | _ :: _, [], _ => by simp [cmpL]
  | _ :: _, _ :: _, [] => by simp [cmpL]
  | x :: a, y :: b, z :: c => by
    have := cmpL_le a b c
    simp only [cmpL]
    intro h1 h2
    by_cases a1 : x < y
    · by_cases b1 : y < z
      · rw [if_pos (by omega)]; omega
      · rw [if_neg b1] at h2
        by_cases b2 : z < y
        · rw [if_pos b2] at h2; omega
        · rw [if_pos (by omega)]; omega
    · rw [if_neg a1] at h1
      by_cases a2 : y < x
      · rw [if_pos a2] at h1; omega
      · rw [if_neg a2] at h1
        by_cases b1 : y < z
        · rw [if_pos (by omega)]; omega
        · rw [if_neg b1] at h2
          by_cases b2 : z < y
          · rw [if_pos b2] at h2; omega
          · rw [if_neg b2] at h2
            rw [if_neg (by omega), if_neg (by omega)]
            exact this h1 h2
theorem cmpL_ge (a b c : List Nat) (h1 : 0 ≤ cmpL a b) (h2 : 0 ≤ cmpL b c) : 0 ≤ cmpL a c := by
  have e1 := cmpL_neg a b; have e2 := cmpL_neg b c; have e3 := cmpL_neg a c
  have := cmpL_le c b a (by omega) (by omega)
  omega
end M
theorem unS_len (s : ByteArray) : (unS s).length ≤ s.size := by
  unfold unS; split
  · exact rdL_len s
  · simp
theorem valid_cs (s : ByteArray) (h : vS s = true) : ∃ cs : List CP, nums s = bytes cs ∧ unS s = unitsN (cs.map (·.1)) ∧ M.Wtf (nums s) (cs.map (·.1)) := by
  rcases M.valid_ref (nums s) (nums_lt s) with ⟨_, u, h2, h3, cs, ⟨e1, e2, e3⟩, hu⟩ | ⟨h1, _⟩
  · have hcs : ∃ l : List CP, l.map (·.1) = cs := by
      clear h2 h3 e1 e3 hu
      induction cs with
      | nil => exact ⟨[], rfl⟩
      | cons c r ih =>
        obtain ⟨l, hl⟩ := ih (fun x hx => e2 x (by simp [hx]))
        exact ⟨⟨c, e2 c (by simp)⟩ :: l, by simp [hl]⟩
    obtain ⟨l, rfl⟩ := hcs
    refine ⟨l, e1, ?_, e1, e2, e3⟩
    unfold unS rdL; rw [h, h2, hu]; rfl
  · unfold vS at h; rw [h] at h1; cases h1

theorem erS_ok' {s : ByteArray} (h : vS s = true) : erS s = 0 := by unfold erS; rw [h]; rfl
theorem erS_bad' {s : ByteArray} (h : vS s = false) : erS s = 10 := by unfold erS; rw [h]; rfl
def okC' (a b : ByteArray) : Bool := vS a && vS b
def cmI (a b : ByteArray) : Int := if okC' a b then M.cmpL (unS a) (unS b) else 0
def cmE (a b : ByteArray) : Int := if okC' a b then 0 else 10
theorem un_ok {a : ByteArray} (h : vS a = true) : nums a = M.ofL (unS a) := by
  unfold unS; rw [h, if_pos rfl]
  rcases M.valid_ref (nums a) (nums_lt a) with ⟨_, u, h2, h3, _⟩ | ⟨h1, _⟩
  · unfold rdL; rw [h2]; exact h3.symm
  · unfold vS at h; rw [h] at h1; cases h1
theorem un_inj {a b : ByteArray} (ha : vS a = true) (hb : vS b = true) (h : unS a = unS b) : a = b :=
  nums_inj (by rw [un_ok ha, un_ok hb, h])
end
section
open Go Go.Proofs Go.RowKit
/-- The number that digits stand for, if it isn't above a limit. -/
def dgF (most : Nat) : List Nat → Nat → Option Nat
  | [], n => some n
  | c :: r, n => if c < 48 ∨ 57 < c then none else if most < n * 10 + (c - 48) then none else dgF most r (n * 10 + (c - 48))
def dgV (most : Nat) (l : List Nat) : Option Nat :=
  match l with
  | [] => none
  | c :: r => if c = 48 ∧ r ≠ [] then none else dgF most (c :: r) 0
theorem dgF_le (most : Nat) : ∀ (l : List Nat) (n m : Nat), n ≤ most → dgF most l n = some m → m ≤ most
  | [], n, m, h, e => by simp [dgF] at e; omega
  | c :: r, n, m, h, e => by
    unfold dgF at e
    split at e
    · cases e
    · split at e
      · cases e
      · exact dgF_le most r _ m (by omega) e
theorem dgV_le (most : Nat) (l : List Nat) (m : Nat) (e : dgV most l = some m) : m ≤ most := by
  unfold dgV at e
  split at e
  · cases e
  · split at e
    · cases e
    · exact dgF_le most _ 0 m (Nat.zero_le _) e
theorem get_at (s : ByteArray) (i : Nat) (h : i < s.size) : s.get! i = s[i]'h := by
  cases s with
  | mk d => exact getElem!_pos d i h
theorem dgF_step (most : Nat) (s : ByteArray) (i n : Nat) (h : i < s.size) :
    dgF most ((nums s).drop i) n = if (s.get! i).toNat < 48 ∨ 57 < (s.get! i).toNat then none else if most < n * 10 + ((s.get! i).toNat - 48) then none else dgF most ((nums s).drop (i + 1)) (n * 10 + ((s.get! i).toNat - 48)) := by
  have hl : i < (nums s).length := by rw [nums_len]; exact h
  have hg : (s.get! i).toNat = (nums s)[i] := by
    rw [get_nums, List.getD_eq_getElem?_getD, List.getElem?_eq_getElem hl]; rfl
  rw [hg, List.drop_eq_getElem_cons hl, dgF]
theorem dgF_end (most : Nat) (s : ByteArray) (i n : Nat) (h : s.size ≤ i) : dgF most ((nums s).drop i) n = some n := by
  rw [List.drop_eq_nil_of_le (by rw [nums_len]; exact h), dgF]
theorem dgV_nil (most : Nat) (s : ByteArray) (h : s.size = 0) : dgV most (nums s) = none := by
  have : nums s = [] := by rw [← List.length_eq_zero_iff, nums_len]; exact h
  rw [this, dgV]
theorem dgV_cons (most : Nat) (s : ByteArray) (h : 0 < s.size) : dgV most (nums s) = if (s.get! 0).toNat = 48 ∧ 1 < s.size then none else dgF most ((nums s).drop 0) 0 := by
  have hg := get_nums s 0
  have hl := nums_len s
  cases hn : nums s with
  | nil => rw [hn] at hl; simp at hl; omega
  | cons c r =>
    rw [hn] at hg hl
    simp only [List.getD_cons_zero, List.length_cons] at hg hl
    rw [hg, dgV, List.drop_zero]
    have : (r ≠ []) ↔ 1 < s.size := by
      rw [← hl, ← List.length_pos_iff]; omega
    simp only [this]
theorem one_str (s : ByteArray) (hp : 0 < s.size) (h : ((s[0]'hp).toNat : Int) = 48) : (s.toList == [48]) = decide (s.size = 1) := by
  have hl : s.toList.length = s.size := by rw [Lib.toList_data]; rfl
  have h0 : s.toList[0]? = some 48 := by
    rw [Lib.toList_data, Array.getElem?_toList, Array.getElem?_eq_getElem (h := hp)]
    congr 1
    exact UInt8.toNat_inj.1 (by show (s[0]'hp).toNat = 48; omega)
  rw [← hl]
  cases e : s.toList with
  | nil => rw [e] at h0; cases h0
  | cons c r =>
    rw [e] at h0
    simp only [List.getElem?_cons_zero, Option.some.injEq] at h0
    subst h0
    cases r <;> simp
set_option maxHeartbeats 2000000 in
set_option maxRecDepth 100000 in
theorem upTo49 (s : ByteArray) (most : Nat) (hs : s.size < 4611686018427387904) (hm : most ≤ 9007199254740991) (w : World) : Calls Tryz.prog 131 #[.int .i64 (most : Nat), .string s] w fun e w' => e = .returned (.tuple #[.int .i64 ((dgV most (nums s)).getD 0 : Nat), .bool (dgV most (nums s)).isSome]) ∧ w' = w := by
  have hE : (s.toList.isEmpty = true) ↔ s.size = 0 := by
    rw [ByteArray.size, ← Array.length_toList, List.length_eq_zero_iff]
    simp [Lib.toList_data]
  go_enter Tryz.func131, Tryz.ntmps131
  by_cases h0 : s.size = 0
  · have hv := dgV_nil most s h0
    have he := hE.2 h0
    have hz : (s.size : Int) = 0 := by omega
    clear hE
    go_wp2
    go_ret2
    exact ⟨by rw [hv]; rfl, rfl⟩
  · have hp : 0 < s.size := by omega
    have hv := dgV_cons most s hp
    have he : s.toList.isEmpty = false := by
      cases h : s.toList.isEmpty
      · rfl
      · exact absurd (hE.1 h) h0
    clear hE
    have z0 : (0 : Int) < s.size := by omega
    by_cases hz : (s.get! 0).toNat = 48 ∧ 1 < s.size
    · rw [if_pos hz] at hv
      obtain ⟨hz1, hz2⟩ := hz
      have z1 : (1 : Int) < s.size := by omega
      have z2 : ((s[0]'hp).toNat : Int) = 48 := by rw [← get_at s 0 hp]; omega
      clear hz1
      have q1 : (s.toList == [48]) = false := by rw [one_str s hp z2]; exact decide_eq_false (by omega)
      go_wp2
      go_ret2
      exact ⟨by rw [hv]; rfl, rfl⟩
    · rw [if_neg hz] at hv
      have HV := hide hv
      clear hv
      have hc3 : (¬ ((s[0]'hp).toNat : Int) = 48) ∨ (¬ 1 < s.size ∧ ((s[0]'hp).toNat : Int) = 48) := by
        rw [← get_at s 0 hp]; omega
      clear hz
      rcases hc3 with z2 | ⟨h1, z2⟩
      · have h1 := trivial
        have q1 := trivial
        have z1 := trivial
        go_wp2_with fail
        go_loopg [6, 21] (s.size + 1) (fun g s6 s21 wr => ∃ (n i : Nat), s6 = .int .i64 n ∧ s21 = .int .i64 i ∧ i ≤ s.size ∧ s.size - i < g ∧ n ≤ most ∧ wr = w ∧ Hid (dgV most (nums s) = dgF most ((nums s).drop i) n))
        case atStart => exact ⟨0, 0, rfl, rfl, Nat.zero_le _, by omega, Nat.zero_le _, rfl, HV⟩
        case round =>
          obtain ⟨n, i, rfl, rfl, hi, hg, hn, rfl, hR⟩ := hrel
          clear z0 z1 z2 h1 q1
          by_cases hil : i < s.size
          · have hst := dgF_step most s i n hil
            rw [get_at s i hil] at hst
            have y0 : (i : Int) < s.size := by omega
            have hcl := (s[i]'hil).toNat_lt
            by_cases hc1 : (s[i]'hil).toNat < 48
            · rw [if_pos (Or.inl hc1)] at hst
              have HS := hide hst
              have y1 : ((s[i]'hil).toNat : Int) < 48 := by omega
              clear hst hc1
              go_wp2
              go_ret2
              exact ⟨by rw [unhide hR, unhide HS]; rfl, rfl⟩
            · have y1 : ¬ ((s[i]'hil).toNat : Int) < 48 := by omega
              by_cases hc2 : 57 < (s[i]'hil).toNat
              · rw [if_pos (Or.inr hc2)] at hst
                have HS := hide hst
                have y2 : (57 : Int) < ((s[i]'hil).toNat : Int) := by omega
                clear hst hc1 hc2
                go_wp2
                go_ret2
                exact ⟨by rw [unhide hR, unhide HS]; rfl, rfl⟩
              · rw [if_neg (by omega)] at hst
                have y2 : ¬ (57 : Int) < ((s[i]'hil).toNat : Int) := by omega
                obtain ⟨m, hm1⟩ : ∃ m, m = n * 10 + ((s[i]'hil).toNat - 48) := ⟨_, rfl⟩
                rw [← hm1] at hst
                have y3 : IntKind.u8.wrap (((s[i]'hil).toNat : Int) - 48) = (((s[i]'hil).toNat - 48 : Nat) : Int) := by
                  simp [IntKind.wrap, IntKind.bits, IntKind.signed]; omega
                have y4 : IntKind.i64.wrap (((s[i]'hil).toNat - 48 : Nat) : Int) = (((s[i]'hil).toNat - 48 : Nat) : Int) := by
                  rw [IntKind.wrap_i64]; omega
                have y5 : IntKind.i64.wrap (10 * (n : Int)) = ((10 * n : Nat) : Int) := by
                  rw [IntKind.wrap_i64]; omega
                have y6 : IntKind.i64.wrap (((10 * n : Nat) : Int) + (((s[i]'hil).toNat - 48 : Nat) : Int)) = (m : Int) := by
                  rw [IntKind.wrap_i64]; omega
                have y7 : IntKind.i64.wrap ((i : Int) + 1) = ((i + 1 : Nat) : Int) := by rw [IntKind.wrap_i64]; omega
                by_cases hmm : most < m
                · rw [if_pos hmm] at hst
                  have HS := hide hst
                  have y8 : (most : Int) < m := by omega
                  clear hst hc1 hc2
                  go_wp2
                  go_ret2
                  exact ⟨by rw [unhide hR, unhide HS]; rfl, rfl⟩
                · rw [if_neg hmm] at hst
                  have HS := hide hst
                  have y8 : ¬ (most : Int) < m := by omega
                  clear hst hc1 hc2
                  go_wp2
                  go_roundg (s.size - i)
                  case measure => omega
                  case rel => exact ⟨m, i + 1, by congr 1; omega, by go_num, by omega, by omega, by omega, rfl, hide (by rw [unhide hR, unhide HS])⟩
          · have hst := dgF_end most s i n (by omega)
            have HS := hide hst
            have y0 : ¬ (i : Int) < s.size := by omega
            clear hst
            go_wp2
            go_ret2
            exact ⟨by rw [unhide hR, unhide HS]; rfl, rfl⟩
      · have q1 : (s.toList == [48]) = true := by rw [one_str s hp z2]; exact decide_eq_true (by omega)
        have z1 := trivial
        go_wp2_with fail
        go_loopg [6, 21] (s.size + 1) (fun g s6 s21 wr => ∃ (n i : Nat), s6 = .int .i64 n ∧ s21 = .int .i64 i ∧ i ≤ s.size ∧ s.size - i < g ∧ n ≤ most ∧ wr = w ∧ Hid (dgV most (nums s) = dgF most ((nums s).drop i) n))
        case atStart => exact ⟨0, 0, rfl, rfl, Nat.zero_le _, by omega, Nat.zero_le _, rfl, HV⟩
        case round =>
          obtain ⟨n, i, rfl, rfl, hi, hg, hn, rfl, hR⟩ := hrel
          clear z0 z1 z2 h1 q1
          by_cases hil : i < s.size
          · have hst := dgF_step most s i n hil
            rw [get_at s i hil] at hst
            have y0 : (i : Int) < s.size := by omega
            have hcl := (s[i]'hil).toNat_lt
            by_cases hc1 : (s[i]'hil).toNat < 48
            · rw [if_pos (Or.inl hc1)] at hst
              have HS := hide hst
              have y1 : ((s[i]'hil).toNat : Int) < 48 := by omega
              clear hst hc1
              go_wp2
              go_ret2
              exact ⟨by rw [unhide hR, unhide HS]; rfl, rfl⟩
            · have y1 : ¬ ((s[i]'hil).toNat : Int) < 48 := by omega
              by_cases hc2 : 57 < (s[i]'hil).toNat
              · rw [if_pos (Or.inr hc2)] at hst
                have HS := hide hst
                have y2 : (57 : Int) < ((s[i]'hil).toNat : Int) := by omega
                clear hst hc1 hc2
                go_wp2
                go_ret2
                exact ⟨by rw [unhide hR, unhide HS]; rfl, rfl⟩
              · rw [if_neg (by omega)] at hst
                have y2 : ¬ (57 : Int) < ((s[i]'hil).toNat : Int) := by omega
                obtain ⟨m, hm1⟩ : ∃ m, m = n * 10 + ((s[i]'hil).toNat - 48) := ⟨_, rfl⟩
                rw [← hm1] at hst
                have y3 : IntKind.u8.wrap (((s[i]'hil).toNat : Int) - 48) = (((s[i]'hil).toNat - 48 : Nat) : Int) := by
                  simp [IntKind.wrap, IntKind.bits, IntKind.signed]; omega
                have y4 : IntKind.i64.wrap (((s[i]'hil).toNat - 48 : Nat) : Int) = (((s[i]'hil).toNat - 48 : Nat) : Int) := by
                  rw [IntKind.wrap_i64]; omega
                have y5 : IntKind.i64.wrap (10 * (n : Int)) = ((10 * n : Nat) : Int) := by
                  rw [IntKind.wrap_i64]; omega
                have y6 : IntKind.i64.wrap (((10 * n : Nat) : Int) + (((s[i]'hil).toNat - 48 : Nat) : Int)) = (m : Int) := by
                  rw [IntKind.wrap_i64]; omega
                have y7 : IntKind.i64.wrap ((i : Int) + 1) = ((i + 1 : Nat) : Int) := by rw [IntKind.wrap_i64]; omega
                by_cases hmm : most < m
                · rw [if_pos hmm] at hst
                  have HS := hide hst
                  have y8 : (most : Int) < m := by omega
                  clear hst hc1 hc2
                  go_wp2
                  go_ret2
                  exact ⟨by rw [unhide hR, unhide HS]; rfl, rfl⟩
                · rw [if_neg hmm] at hst
                  have HS := hide hst
                  have y8 : ¬ (most : Int) < m := by omega
                  clear hst hc1 hc2
                  go_wp2
                  go_roundg (s.size - i)
                  case measure => omega
                  case rel => exact ⟨m, i + 1, by congr 1; omega, by go_num, by omega, by omega, by omega, rfl, hide (by rw [unhide hR, unhide HS])⟩
          · have hst := dgF_end most s i n (by omega)
            have HS := hide hst
            have y0 : ¬ (i : Int) < s.size := by omega
            clear hst
            go_wp2
            go_ret2
            exact ⟨by rw [unhide hR, unhide HS]; rfl, rfl⟩
