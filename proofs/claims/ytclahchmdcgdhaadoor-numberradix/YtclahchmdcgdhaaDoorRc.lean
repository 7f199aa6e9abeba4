import Derived.Test.YtclahchmdcgdhaaDoorRb
namespace Go.Proofs.YtclahchmdcgdhaaDoor
open Go.RowKit FM

def tab64 : List Int := [0,1,56,2,57,49,28,3,61,58,42,50,38,29,17,4,62,47,59,36,45,43,51,22,53,39,33,30,24,18,12,5,63,55,48,27,60,41,37,16,46,35,44,21,52,32,23,11,54,26,40,15,34,20,31,10,25,14,19,9,13,8,7,6]
/-- The table of math/bits that the road reads. -/
def DBT (W : World) : Prop := ∀ i, i < 64 → W.cell? ⟨3, i, none⟩ = some (.int .u8 (tab64.getD i 0))
theorem DBT.below {w w' : World} (h : DBT w) (hb : Below w.heap.size w w') : DBT w' := fun i hi =>
  (hb.cell (p := ⟨3, i, none⟩) (World.block_lt_of_cell? w _ (h i hi))).trans (h i hi)
theorem tz2 (w : World) (h : DBT w) : Calls Tryd.prog 33 #[.int .u64 2] w fun e w' => e = .returned (.int .i64 1) ∧ w' = w := by
  have hc : w.cell? ⟨3, 1, none⟩ = some (.int .u8 1) := h 1 (by decide)
  have h1 : IntKind.u64.wrap (-2) = 18446744073709551614 := by decide +kernel
  have h2 : bits BinOp.and IntKind.u64 2 18446744073709551614 = 2 := by decide +kernel
  have h3 : IntKind.u64.wrap (2 * 285870213051353865) = 571740426102707730 := by decide +kernel
  clear h
  go_enter Tryd.func33, Tryd.ntmps33
  go_wp2
  go_ret
  exact ⟨rfl, rfl⟩
theorem tz4 (w : World) (h : DBT w) : Calls Tryd.prog 33 #[.int .u64 4] w fun e w' => e = .returned (.int .i64 2) ∧ w' = w := by
  have hc : w.cell? ⟨3, 3, none⟩ = some (.int .u8 2) := h 3 (by decide)
  have h1 : IntKind.u64.wrap (-4) = 18446744073709551612 := by decide +kernel
  have h2 : bits BinOp.and IntKind.u64 4 18446744073709551612 = 4 := by decide +kernel
  have h3 : IntKind.u64.wrap (4 * 285870213051353865) = 1143480852205415460 := by decide +kernel
  clear h
  go_enter Tryd.func33, Tryd.ntmps33
  go_wp2
  go_ret
  exact ⟨rfl, rfl⟩
theorem tz8 (w : World) (h : DBT w) : Calls Tryd.prog 33 #[.int .u64 8] w fun e w' => e = .returned (.int .i64 3) ∧ w' = w := by
  have hc : w.cell? ⟨3, 7, none⟩ = some (.int .u8 3) := h 7 (by decide)
  have h1 : IntKind.u64.wrap (-8) = 18446744073709551608 := by decide +kernel
  have h2 : bits BinOp.and IntKind.u64 8 18446744073709551608 = 8 := by decide +kernel
  have h3 : IntKind.u64.wrap (8 * 285870213051353865) = 2286961704410830920 := by decide +kernel
  clear h
  go_enter Tryd.func33, Tryd.ntmps33
  go_wp2
  go_ret
  exact ⟨rfl, rfl⟩
theorem tz16 (w : World) (h : DBT w) : Calls Tryd.prog 33 #[.int .u64 16] w fun e w' => e = .returned (.int .i64 4) ∧ w' = w := by
  have hc : w.cell? ⟨3, 15, none⟩ = some (.int .u8 4) := h 15 (by decide)
  have h1 : IntKind.u64.wrap (-16) = 18446744073709551600 := by decide +kernel
  have h2 : bits BinOp.and IntKind.u64 16 18446744073709551600 = 16 := by decide +kernel
  have h3 : IntKind.u64.wrap (16 * 285870213051353865) = 4573923408821661840 := by decide +kernel
  clear h
  go_enter Tryd.func33, Tryd.ntmps33
  go_wp2
  go_ret
  exact ⟨rfl, rfl⟩
theorem tz32 (w : World) (h : DBT w) : Calls Tryd.prog 33 #[.int .u64 32] w fun e w' => e = .returned (.int .i64 5) ∧ w' = w := by
  have hc : w.cell? ⟨3, 31, none⟩ = some (.int .u8 5) := h 31 (by decide)
  have h1 : IntKind.u64.wrap (-32) = 18446744073709551584 := by decide +kernel
  have h2 : bits BinOp.and IntKind.u64 32 18446744073709551584 = 32 := by decide +kernel
  have h3 : IntKind.u64.wrap (32 * 285870213051353865) = 9147846817643323680 := by decide +kernel
  clear h
  go_enter Tryd.func33, Tryd.ntmps33
  go_wp2
  go_ret
  exact ⟨rfl, rfl⟩

theorem bases : ∀ b : Fin 37, b.val < 2 ∨ bits BinOp.and IntKind.i64 (b.val : Int) ((b.val : Int) - 1) ≠ 0 ∨ b.val = 2 ∨ b.val = 4 ∨ b.val = 8 ∨ b.val = 16 ∨ b.val = 32 := by decide +kernel
theorem pow2s : ∀ s : Fin 6, bits BinOp.and IntKind.i64 ((2 ^ s.val : Nat) : Int) (((2 ^ s.val : Nat) : Int) - 1) = 0 := by decide +kernel

theorem fbPos_any (n b : Nat) (hn : n < 2 ^ 63) (hb : 2 ≤ b) (hb2 : b ≤ 36) (hb3 : b ≠ 10) (w : World) (hT : DBT w) : Calls Tryd.prog 27 #[.slice none 0 0, .int .u64 (n : Int), .int .i64 (b : Int), .bool false, .bool false] w fun e w' => e = .returned (.tuple #[.slice none 0 0, .string ⟨(DG b n).toArray⟩]) ∧ Below w.heap.size w w' := by
  rcases bases ⟨b, by omega⟩ with h | h | h | h | h | h | h
  · have : b < 2 := h
    omega
  · exact fbGen n b hn hb hb2 hb3 h w
  · have e : b = 2 := h
    subst e
    exact fbPow n 2 1 hn hb hb2 hb3 ⟨rfl⟩ (by decide) (pow2s ⟨1, by decide⟩) w (fun w' hw => tz2 w' (hT.below hw))
  · have e : b = 4 := h
    subst e
    exact fbPow n 4 2 hn hb hb2 hb3 ⟨rfl⟩ (by decide) (pow2s ⟨2, by decide⟩) w (fun w' hw => tz4 w' (hT.below hw))
  · have e : b = 8 := h
    subst e
    exact fbPow n 8 3 hn hb hb2 hb3 ⟨rfl⟩ (by decide) (pow2s ⟨3, by decide⟩) w (fun w' hw => tz8 w' (hT.below hw))
  · have e : b = 16 := h
    subst e
    exact fbPow n 16 4 hn hb hb2 hb3 ⟨rfl⟩ (by decide) (pow2s ⟨4, by decide⟩) w (fun w' hw => tz16 w' (hT.below hw))
  · have e : b = 32 := h
    subst e
    exact fbPow n 32 5 hn hb hb2 hb3 ⟨rfl⟩ (by decide) (pow2s ⟨5, by decide⟩) w (fun w' hw => tz32 w' (hT.below hw))
theorem fbNeg_any (n b : Nat) (hn : n < 2 ^ 63) (hn0 : 0 < n) (hb : 2 ≤ b) (hb2 : b ≤ 36) (hb3 : b ≠ 10) (w : World) (hT : DBT w) : Calls Tryd.prog 27 #[.slice none 0 0, .int .u64 (18446744073709551616 - (n : Int)), .int .i64 (b : Int), .bool true, .bool false] w fun e w' => e = .returned (.tuple #[.slice none 0 0, .string ⟨(45 :: DG b n).toArray⟩]) ∧ Below w.heap.size w w' := by
  rcases bases ⟨b, by omega⟩ with h | h | h | h | h | h | h
  · have : b < 2 := h
    omega
  · exact fbGenNeg n b hn hn0 hb hb2 hb3 h w
  · have e : b = 2 := h
    subst e
    exact fbPowNeg n 2 1 hn hn0 hb hb2 hb3 ⟨rfl⟩ (by decide) (pow2s ⟨1, by decide⟩) w (fun w' hw => tz2 w' (hT.below hw))
  · have e : b = 4 := h
    subst e
    exact fbPowNeg n 4 2 hn hn0 hb hb2 hb3 ⟨rfl⟩ (by decide) (pow2s ⟨2, by decide⟩) w (fun w' hw => tz4 w' (hT.below hw))
  · have e : b = 8 := h
    subst e
    exact fbPowNeg n 8 3 hn hn0 hb hb2 hb3 ⟨rfl⟩ (by decide) (pow2s ⟨3, by decide⟩) w (fun w' hw => tz8 w' (hT.below hw))
  · have e : b = 16 := h
    subst e
    exact fbPowNeg n 16 4 hn hn0 hb hb2 hb3 ⟨rfl⟩ (by decide) (pow2s ⟨4, by decide⟩) w (fun w' hw => tz16 w' (hT.below hw))
  · have e : b = 32 := h
    subst e
    exact fbPowNeg n 32 5 hn hn0 hb hb2 hb3 ⟨rfl⟩ (by decide) (pow2s ⟨5, by decide⟩) w (fun w' hw => tz32 w' (hT.below hw))

/-- What FormatInt answers. -/
def FI (i : Int) (b : Nat) : List UInt8 := if i < 0 then 45 :: DG b i.natAbs else DG b i.natAbs
theorem fiX_any (i : Int) (b : Nat) (hi : -9007199254740991 ≤ i) (hi2 : i ≤ 9007199254740991) (hb : 2 ≤ b) (hb2 : b ≤ 36) (hb3 : b ≠ 10) (w : World) (hT : DBT w) : Calls Tryd.prog 17 #[.int .i64 i, .int .i64 (b : Int)] w fun e w' => e = .returned (.string ⟨(FI i b).toArray⟩) ∧ Below w.heap.size w w' := by
  have h10 : ((b : Int) == 10) = false := by simp; omega
  by_cases h : i < 0
  · obtain ⟨n, rfl⟩ : ∃ n : Nat, i = -(n : Int) := ⟨i.natAbs, by omega⟩
    have hF : FI (-(n : Int)) b = 45 :: DG b n := by unfold FI; rw [if_pos h, Int.natAbs_neg, Int.natAbs_natCast]
    rw [hF]
    have H := fun w hT => fbNeg_any n b (by omega) (by omega) hb hb2 hb3 w hT
    have hw : IntKind.u64.wrap (-(n : Int)) = 18446744073709551616 - (n : Int) := by rw [IntKind.wrap_u64]; omega
    have hlt : -(n : Int) < 0 := h
    have hd : decide (0 < n) = true := by simp; omega
    go_enter Tryd.func17, Tryd.ntmps17
    go_wp2_with fail
    refine (H _ hT).mono ?_
    rintro e w' ⟨rfl, hbe⟩
    go_wp2
    go_ret
    exact ⟨rfl, hbe⟩
  · obtain ⟨n, rfl⟩ : ∃ n : Nat, i = (n : Int) := ⟨i.natAbs, by omega⟩
    have hF : FI (n : Int) b = DG b n := by unfold FI; rw [if_neg h, Int.natAbs_natCast]
    rw [hF]
    have H := fun w hT => fbPos_any n b (by omega) hb hb2 hb3 w hT
    go_enter Tryd.func17, Tryd.ntmps17
    go_wp2_with fail
    refine (H _ hT).mono ?_
    rintro e w' ⟨rfl, hbe⟩
    go_wp2
    go_ret
    exact ⟨rfl, hbe⟩
theorem below_grow (w : World) (k : Nat) (os : Array Obj) : Below w.heap.size w (Sort.grow (w.drewN k) os) := by
  have h : Below w.heap.size w (w.drewN k) := below_drewN (Below.refl _ _) k
  refine ⟨h.os, h.tape, h.output, ?_, fun j hj => ?_⟩
  · simp [Sort.grow]
  · simp [Sort.grow, Array.getElem?_append_left, hj]
theorem dec_DG (u : Nat) : Lib.decDigits u = DG 10 u := by
  induction u using Nat.strongRecOn with
  | _ u ih =>
    by_cases h : u < 10
    · rw [Lib.decDigits, dif_pos h, DG_small h]
      unfold dc; rw [if_pos h]
    · rw [Lib.decDigits, dif_neg h, DG_big (by decide) (by omega), ih (u / 10) (by omega)]
      unfold dc; rw [if_pos (Nat.mod_lt _ (by decide))]
theorem itoa_FI (i : Int) : Lib.itoa i = FI i 10 := by
  unfold Lib.itoa FI
  rw [dec_DG, dec_DG]
  by_cases h : i < 0
  · rw [if_pos h, if_pos h]
  · rw [if_neg h, if_neg h]
    congr 1; omega
theorem format_any (i : Int) (b : Nat) (hi : -9007199254740991 ≤ i) (hi2 : i ≤ 9007199254740991) (hb : 2 ≤ b) (hb2 : b ≤ 36) (w : World) (hP : Lib.TabIs Tryd.prog w "internal/strconv.uint64pow10" .u64 Lib.pow10Tab) (hT : DBT w) : Calls Tryd.prog 10 #[.int .i64 i, .int .i64 (b : Int)] w fun e w' => e = .returned (.string ⟨(FI i b).toArray⟩) ∧ Below w.heap.size w w' := by
  by_cases h10 : b = 10
  · subst h10
    refine (Tryd.strconv_FormatInt_10 i (by omega) (by omega) w hP).mono ?_
    rintro e w' ⟨rfl, k, os, rfl⟩
    exact ⟨by rw [itoa_FI], below_grow _ _ _⟩
  · have H := fun w hT => fiX_any i b hi hi2 hb hb2 h10 w hT
    go_enter Tryd.func10, Tryd.ntmps10
    go_wp2_with fail
    refine (H _ hT).mono ?_
    rintro e w' ⟨rfl, hbe⟩
    go_wp2
    go_ret
    exact ⟨rfl, hbe⟩
end Go.Proofs.YtclahchmdcgdhaaDoor
