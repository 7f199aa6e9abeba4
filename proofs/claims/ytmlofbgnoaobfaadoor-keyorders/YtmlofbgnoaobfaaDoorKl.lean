import Derived.Test.YtmlofbgnoaobfaaDoorKk
namespace Go.Proofs.YtmlofbgnoaobfaaDoor
open Go Go.Proofs Go.RowKit Go.Sort
set_option linter.unusedSimpArgs false
set_option linter.unusedVariables false
theorem bl_any (n : Nat) (h : n ≤ 3000) : Lib.bitLen n ≤ 12 := by
  rcases Nat.lt_or_ge n 8 with h8 | h8
  · have : ∀ m : Fin 8, Lib.bitLen m.val ≤ 12 := by decide +kernel
    exact this ⟨n, h8⟩
  · exact (bl_le n h8 h).2.2
theorem sort31 (blk cap : Nat) (d : Array Nat) (w : World) (hL : LiesU w blk d) (hsz : d.size ≤ 3000) :
    Calls Tryd.prog 31 #[.slice (some ⟨blk, 0, none⟩) d.size cap] w fun e w' => e = .returned (.tuple #[]) ∧ ∃ d', d'.toList = d.toList.mergeSort (fun x y => !ltN y x) ∧ LiesU w' blk d' ∧ w.grownBy w' (some blk) := by
  have HC := hide (Tryd.bits_Len (d.size : Int) w (by omega) (by omega))
  rw [Int.toNat_natCast] at HC
  have HP := hide (pdq_all blk (d.size + 1) cap 0 d.size (Lib.bitLen d.size) d w (by omega) hL (by omega) (Nat.le_refl _) hsz (by have := bl_any d.size hsz; omega) (.inl rfl))
  generalize Lib.bitLen d.size = k at *
  clear hL
  have z1 : IntKind.u64.wrap (d.size : Int) = (d.size : Int) := by simp [IntKind.wrap, IntKind.bits, IntKind.signed]; omega
  go_enter Tryd.func31, Tryd.ntmps31
  go_wp2_with fail
  refine (unhide HC).mono ?_
  rintro e w' ⟨rfl, rfl⟩
  go_wp2_with fail
  refine (unhide HP).mono ?_
  rintro e w1 ⟨rfl, d', hP, hS, hL1, hG1⟩
  have HF := hide (And.intro hL1 (And.intro hG1 (sorted_unique_holds (lt := ltN) swoN (fun x y h1 h2 => by simp [ltN] at *; omega) d d' hP hS)))
  clear hL1 hG1 hP hS
  go_wp2
  go_end0
  exact ⟨rfl, d', (unhide HF).2.2, (unhide HF).1, (unhide HF).2.1⟩
set_option maxRecDepth 100000 in
theorem insertion61_nil (w : World) : Calls Tryd.prog 61 #[.slice none 0 0, .int .i64 0, .int .i64 0] w fun e w' => e = .returned (.tuple #[]) ∧ w.grownBy w' none := by
  go_enter Tryd.func61, Tryd.ntmps61
  go_wp2_with fail
  go_loopg [6] 1 (fun g s6 wr => s6 = .int .i64 1 ∧ Hid (w.grownBy wr none))
  case atStart => exact ⟨by go_num, hide (gb_refl _ _)⟩
  case round =>
    obtain ⟨rfl, hGk⟩ := hrel
    go_wp2_with fail
    go_end0
    exact ⟨rfl, unhide hGk⟩
set_option maxRecDepth 100000 in
theorem pdq44_nil (k : Nat) (w : World) : Calls Tryd.prog 44 #[.slice none 0 0, .int .i64 0, .int .i64 0, .int .i64 k] w fun e w' => e = .returned (.tuple #[]) ∧ w.grownBy w' none := by
  have HI := hide (fun w => insertion61_nil w)
  go_enter Tryd.func44, Tryd.ntmps44
  go_wp2_with fail
  go_loopg [1, 2, 3, 8, 9] 1 (fun g s1 s2 s3 s8 s9 wr => s1 = .int .i64 0 ∧ s2 = .int .i64 0 ∧ s3 = .int .i64 k ∧ s8 = .bool true ∧ s9 = .bool true ∧ Hid (w.grownBy wr none))
  case atStart => exact ⟨rfl, rfl, rfl, rfl, rfl, hide (gb_refl _ _)⟩
  case round =>
    obtain ⟨rfl, rfl, rfl, rfl, rfl, hG⟩ := hrel
    go_wp2_with fail
    refine ((unhide HI) _).mono ?_
    rintro e w1 ⟨rfl, hG1⟩
    have HF := hide (gb_trans (unhide hG) hG1)
    clear hG1
    go_wp2
    (try simp only [Exit.inBlock, Exit.then])
    refine bodyPost_ret (results_none rfl _ _ _) rfl ?_
    exact ⟨rfl, unhide HF⟩
set_option maxRecDepth 100000 in
theorem sort31_nil (w : World) : Calls Tryd.prog 31 #[.slice none 0 0] w fun e w' => e = .returned (.tuple #[]) ∧ w.grownBy w' none := by
  have HC := hide (Tryd.bits_Len (0 : Int) w (by omega) (by omega))
  have HP := hide (fun k => pdq44_nil k w)
  generalize Lib.bitLen (0 : Int).toNat = k at *
  go_enter Tryd.func31, Tryd.ntmps31
  go_wp2_with fail
  refine (unhide HC).mono ?_
  rintro e w' ⟨rfl, rfl⟩
  go_wp2_with fail
  refine ((unhide HP) k).mono ?_
  rintro e w1 ⟨rfl, hG1⟩
  have HF := hide hG1
  clear hG1
  go_wp2
  go_end0
  exact ⟨rfl, unhide HF⟩
end Go.Proofs.YtmlofbgnoaobfaaDoor
