import Derived.Test.YtmlofbgnoaobfaaDoorKd
namespace Go.Proofs.YtmlofbgnoaobfaaDoor
open Go Go.Proofs Go.RowKit Go.Sort
set_option linter.unusedSimpArgs false
set_option linter.unusedVariables false
/-- The cell of a random number. -/
def Rn (w : World) (B : Nat) (n : Nat) : Prop := w.heap[B]? = some (.cells #[.int .u64 (n : Int)] 125 (0, 0))
theorem Rn.cell {w : World} {B n : Nat} (h : Rn w B n) : w.cell? ⟨B, 0, none⟩ = some (.int .u64 (n : Int)) ∧ w.frozen? ⟨B, 0, none⟩ = false ∧ B < w.heap.size := by
  unfold Rn at h
  exact ⟨by simp [go_sem, World.cell?, h], by simp [go_sem, World.frozen?, h], (Array.getElem?_eq_some_iff.1 h).1⟩
theorem next80 (B r : Nat) (w : World) (h : Rn w B r) (hr : r < 2 ^ 64) :
    Calls Tryd.prog 80 #[.pointer (some ⟨B, 0, none⟩)] w fun e w' => ∃ r' : Nat, r' < 2 ^ 64 ∧ e = .returned (.int .u64 r') ∧ Rn w' B r' ∧ w.grownBy w' (some B) := by
  obtain ⟨c, f, hl⟩ := h.cell
  obtain ⟨s1, hs1⟩ : ∃ s1, s1 = r * 8192 % 18446744073709551616 := ⟨_, rfl⟩
  have a1 : IntKind.u64.wrap ((r : Int) * 8192) = (s1 : Int) := by simp [IntKind.wrap, IntKind.bits, IntKind.signed]; omega
  obtain ⟨r1, hr1⟩ : ∃ r1, r1 = r ^^^ s1 := ⟨_, rfl⟩
  have l1 : r1 < 2 ^ 64 := by rw [hr1]; exact Nat.xor_lt_two_pow hr (by omega)
  have b1 : bits .xor .u64 (r : Int) (s1 : Int) = (r1 : Int) := by rw [hr1]; exact u64_xor_nat r s1 hr (by omega)
  obtain ⟨s2, hs2⟩ : ∃ s2, s2 = r1 / 128 := ⟨_, rfl⟩
  have a2 : (r1 : Int) / 128 = (s2 : Int) := by omega
  obtain ⟨r2, hr2⟩ : ∃ r2, r2 = r1 ^^^ s2 := ⟨_, rfl⟩
  have l2 : r2 < 2 ^ 64 := by rw [hr2]; exact Nat.xor_lt_two_pow l1 (by omega)
  have b2 : bits .xor .u64 (r1 : Int) (s2 : Int) = (r2 : Int) := by rw [hr2]; exact u64_xor_nat r1 s2 l1 (by omega)
  obtain ⟨s3, hs3⟩ : ∃ s3, s3 = r2 * 131072 % 18446744073709551616 := ⟨_, rfl⟩
  have a3 : IntKind.u64.wrap ((r2 : Int) * 131072) = (s3 : Int) := by simp [IntKind.wrap, IntKind.bits, IntKind.signed]; omega
  obtain ⟨r3, hr3⟩ : ∃ r3, r3 = r2 ^^^ s3 := ⟨_, rfl⟩
  have l3 : r3 < 2 ^ 64 := by rw [hr3]; exact Nat.xor_lt_two_pow l2 (by omega)
  have b3 : bits .xor .u64 (r2 : Int) (s3 : Int) = (r3 : Int) := by rw [hr3]; exact u64_xor_nat r2 s3 l2 (by omega)
  have HL := hide (And.intro l3 h)
  clear l1 l2 l3 hr h hs1 hr1 hs2 hr2 hs3 hr3
  go_enter Tryd.func80, Tryd.ntmps80
  go_wp2_with fail
  go_region
  all_goals go_wp2_with fail
  go_region
  all_goals go_wp2_with fail
  go_region
  obtain ⟨X, hX⟩ : ∃ X, X = (((w.setCell ⟨B, 0, none⟩ (.int .u64 (r1 : Nat))).setCell ⟨B, 0, none⟩ (.int .u64 (r2 : Nat))).setCell ⟨B, 0, none⟩ (.int .u64 (r3 : Nat))).drew.drew.drew := ⟨_, rfl⟩
  have hR : Rn X B r3 := by
    have h := (unhide HL).2
    unfold Rn at *
    rw [hX]
    show ((((w.setCell ⟨B, 0, none⟩ (.int .u64 (r1 : Nat))).setCell ⟨B, 0, none⟩ (.int .u64 (r2 : Nat))).setCell ⟨B, 0, none⟩ (.int .u64 (r3 : Nat)))).heap[B]? = _
    simp [World.setCell, Array.getElem?_modify, h]
  have hG : w.grownBy X (some B) := by
    rw [hX]
    have g0 := gb_trans (gb_trans (gb_set w B 0 (.int .u64 (r1 : Nat))) (gb_set _ B 0 (.int .u64 (r2 : Nat)))) (gb_set _ B 0 (.int .u64 (r3 : Nat)))
    exact ⟨g0.os, g0.tape, g0.output, g0.size, g0.block⟩
  rw [← hX]
  have HF := hide (And.intro hR hG)
  obtain ⟨c', f', hl'⟩ := hR.cell
  clear hX hR hG
  go_wp2
  go_ret
  exact ⟨r3, (unhide HL).1, rfl, (unhide HF).1, (unhide HF).2⟩
end Go.Proofs.YtmlofbgnoaobfaaDoor
