import Derived.Test.YtmlofbgnoaobfaaDoorKa
namespace Go.Proofs.YtmlofbgnoaobfaaDoor
open Go Go.Proofs Go.RowKit Go.Sort
set_option linter.unusedSimpArgs false
set_option linter.unusedVariables false
theorem rv_go (i j : Nat) (d : Array Nat) (h : i < j) : reverseLoop i j d = reverseLoop (i + 1) (j - 1) (swp d i j) := by rw [reverseLoop, if_pos h]
theorem rv_stop (i j : Nat) (d : Array Nat) (h : ¬ i < j) : reverseLoop i j d = d := by rw [reverseLoop, if_neg h]
set_option maxHeartbeats 2000000 in
set_option maxRecDepth 100000 in
theorem reverse65 (blk cap a b : Nat) (d : Array Nat) (w : World) (hL : LiesU w blk d) (hab : a < b) (hb : b ≤ d.size) (hsz : d.size ≤ 3000) :
    Calls Tryd.prog 65 #[.slice (some ⟨blk, 0, none⟩) d.size cap, .int .i64 a, .int .i64 b] w fun e w' => e = .returned (.tuple #[]) ∧ LiesU w' blk (reverseRange d a b) ∧ w.grownBy w' (some blk) := by
  have HL := hide hL
  clear hL
  have zb : IntKind.i64.wrap ((b : Int) - 1) = ((b - 1 : Nat) : Int) := by rw [IntKind.wrap_i64]; omega
  go_enter Tryd.func65, Tryd.ntmps65
  go_wp2_with fail
  go_loopg [6, 7] (b + 1) (fun g s6 s7 wr => ∃ (i j : Nat) (dk : Array Nat), s6 = .int .i64 i ∧ s7 = .int .i64 j ∧ a ≤ i ∧ i ≤ b ∧ j < b ∧ b + 1 - i ≤ g ∧ Hid (dk.size = d.size) ∧ Hid (LiesU wr blk dk) ∧ Hid (w.grownBy wr (some blk)) ∧ Hid (reverseLoop i j dk = reverseRange d a b))
  case atStart => exact ⟨a, b - 1, d, rfl, rfl, Nat.le_refl _, by omega, by omega, by omega, hide rfl, HL, hide (gb_refl _ _), hide rfl⟩
  case round =>
    obtain ⟨i, j, dk, rfl, rfl, hai, hib, hjb, hg, hsk, hLk, hGk, hOk⟩ := hrel
    have hds := unhide hsk
    by_cases hlt : i < j
    · have hiz : (i : Int) < j := by omega
      obtain ⟨c1, f1⟩ := (unhide hLk).cell i (by omega)
      obtain ⟨c2, f2⟩ := (unhide hLk).cell j (by omega)
      have HGo := hide (rv_go i j dk hlt)
      have HSw := hide (fun n => ((unhide hLk).drew n).swap i j (by omega) (by omega))
      have z2 : (j : Int) < d.size := by omega
      have z3 : (i : Int) < d.size := by omega
      have z4 : IntKind.i64.wrap ((j : Int) - 1) = ((j - 1 : Nat) : Int) := by rw [IntKind.wrap_i64]; omega
      have z5 : IntKind.i64.wrap ((i : Int) + 1) = ((i + 1 : Nat) : Int) := by rw [IntKind.wrap_i64]; omega
      have n1 : ¬ i = j := by omega
      have n2 : ¬ j = i := by omega
      clear hds
      generalize dk[i]! = x at *
      generalize dk[j]! = y at *
      go_wp2_with fail
      go_region
      all_goals go_wp2
      go_roundg (b + 1 - (i + 1))
      case measure => omega
      case rel => exact ⟨i + 1, j - 1, swp dk i j, by go_num, by go_num, by omega, by omega, by omega, Nat.le_refl _, hide (by rw [swp_size]; exact unhide hsk), hide (unhide HSw _), hide (gb_trans (gb_drew (unhide hGk) _) (gb_swap _ _ _ _ _ _)), hide (by rw [← unhide HGo]; exact unhide hOk)⟩
    · have hiz : ¬ (i : Int) < j := by omega
      go_wp2
      go_end0
      refine ⟨rfl, ?_, unhide hGk⟩
      rw [← unhide hOk, rv_stop _ _ _ hlt]
      exact unhide hLk
/-- A number that a pointer points at. -/
def Pt (w : World) (B : Nat) (n : Nat) : Prop := w.heap[B]? = some (.cells #[.int .i64 (n : Int)] 3 (0, 0))
theorem Pt.cell {w : World} {B n : Nat} (h : Pt w B n) : w.cell? ⟨B, 0, none⟩ = some (.int .i64 (n : Int)) ∧ w.frozen? ⟨B, 0, none⟩ = false ∧ B < w.heap.size := by
  unfold Pt at h
  exact ⟨by simp [go_sem, World.cell?, h], by simp [go_sem, World.frozen?, h], (Array.getElem?_eq_some_iff.1 h).1⟩
theorem Pt.set {w : World} {B n : Nat} (h : Pt w B n) (m : Nat) : Pt (w.setCell ⟨B, 0, none⟩ (.int .i64 (m : Int))) B m := by
  unfold Pt at *
  simp [World.setCell, Array.getElem?_modify, h]
set_option maxHeartbeats 2000000 in
set_option maxRecDepth 100000 in
theorem order88 (blk cap a b B s : Nat) (d : Array Nat) (w : World) (hL : LiesU w blk d) (hP : Pt w B s) (hs : s ≤ 100) (ha : a < d.size) (hb : b < d.size) (hsz : d.size ≤ 3000) :
    Calls Tryd.prog 88 #[.slice (some ⟨blk, 0, none⟩) d.size cap, .int .i64 a, .int .i64 b, .pointer (some ⟨B, 0, none⟩)] w fun e w' => ∃ x y s' : Nat, e = .returned (.tuple #[.int .i64 x, .int .i64 y]) ∧ (x = a ∧ y = b ∨ x = b ∧ y = a) ∧ s' ≤ s + 1 ∧ Pt w' B s' ∧ w.grownBy w' (some B) := by
  obtain ⟨c1, f1⟩ := hL.cell a ha
  obtain ⟨c2, f2⟩ := hL.cell b hb
  obtain ⟨p1, p2, p3⟩ := hP.cell
  have HP := hide hP
  have z1 : (a : Int) < d.size := by omega
  have z2 : (b : Int) < d.size := by omega
  have z3 : IntKind.i64.wrap ((s : Int) + 1) = ((s + 1 : Nat) : Int) := by rw [IntKind.wrap_i64]; omega
  clear hL hP
  generalize d[a]! = x at *
  generalize d[b]! = y at *
  have HC := hide (less67 y x)
  generalize ltN y x = r at *
  cases r
  · go_enter Tryd.func88, Tryd.ntmps88
    go_wp2_with fail
    go_quiet ((go_at_call 67; refine Calls.quiet_of_same (unhide HC _)))
    go_wp2
    go_ret2
    exact ⟨a, b, s, rfl, .inl ⟨rfl, rfl⟩, by omega, unhide HP, gb_drew (gb_refl _ _) _⟩
  · go_enter Tryd.func88, Tryd.ntmps88
    go_wp2_with fail
    go_quiet ((go_at_call 67; refine Calls.quiet_of_same (unhide HC _)))
    go_wp2
    go_ret2
    exact ⟨b, a, s + 1, rfl, .inr ⟨rfl, rfl⟩, by omega, Pt.set (w := w.drewN _) (unhide HP) (s + 1), gb_trans (gb_drew (gb_refl _ _) _) (gb_set _ _ _ _)⟩
end Go.Proofs.YtmlofbgnoaobfaaDoor
