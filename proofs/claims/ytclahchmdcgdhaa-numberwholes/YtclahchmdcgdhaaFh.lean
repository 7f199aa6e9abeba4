import Derived.Test.YtclahchmdcgdhaaFg
namespace Go.Proofs.Ytclahchmdcgdhaa
open Go.RowKit FM
attribute [local go_sem] frombits_run bits_run neg_run

theorem split_any (x : Nat) (hx : x < 2 ^ 64) (w : World) : Calls Try.prog 50 #[.float .f64 x] w fun e w' => e = .returned (.tuple #[.int .u64 (pm (sz x) : Int), .int .i64 (-1074 + (pk (sz x) : Int))]) ∧ w' = w := by
  have a1 := andFrac x (by omega)
  have a2 := andExp x (by omega)
  have hsm : x % 2 ^ 52 = sz x % 2 ^ 52 := by unfold sz; omega
  rw [hsm] at a1
  have a3 := orHid (sz x % 2 ^ 52) (Nat.mod_lt _ (by decide))
  have hs := sz_lt x
  generalize sz x = b at *
  by_cases h : b < 2 ^ 52
  · have e1 : b / 2 ^ 52 = 0 := by omega
    have e2 : b % 2 ^ 52 = b := by omega
    have p1 : pm b = b := by unfold pm; rw [if_pos h]
    have p2 : pk b = 0 := by unfold pk; rw [if_pos h]
    rw [e1] at a2; rw [e2] at a1 a3; rw [p1, p2]
    clear e1 e2 p1 p2 hsm
    go_enter Try.func50, Try.ntmps50
    go_wp2
    go_ret2
    exact ⟨rfl, rfl⟩
  · have p1 : pm b = 2 ^ 52 + b % 2 ^ 52 := by unfold pm; rw [if_neg h]
    have p2 : pk b = b / 2 ^ 52 - 1 := by unfold pk; rw [if_neg h]
    have hE : b / 2 ^ 52 ≠ 0 := by omega
    have hE2 : b / 2 ^ 52 < 2048 := by omega
    rw [p1, p2]
    generalize b / 2 ^ 52 = E at *
    generalize hm : 2 ^ 52 + b % 2 ^ 52 = M at *
    generalize b % 2 ^ 52 = F at *
    have hE' : ¬ ((E : Int) = 0) := by omega
    have hE3 : ((E : Int) == 0) = false := by simpa using hE'
    clear p1 p2 h hs hm hsm
    go_enter Try.func50, Try.ntmps50
    go_wp2
    go_ret2
    exact ⟨rt rfl (vi (by omega)), rfl⟩


/-- The whole part of a size, modulo 2 to the 64. -/
def loV (a : Nat) : Nat := if pk a < 1074 then pm a / 2 ^ min (1074 - pk a) 64 else pm a * 2 ^ min (pk a - 1074) 64 % 2 ^ 64
theorem loV_lt (a : Nat) : loV a < 2 ^ 64 := by
  have h := pm_lt a
  unfold loV
  split
  · have := Nat.div_le_self (pm a) (2 ^ min (1074 - pk a) 64); omega
  · exact Nat.mod_lt _ (by decide)
theorem shr_nat (x n : Nat) (y : Int) (hy : y = (n : Int)) : Op.shift .shr .u64 (x : Int) .i64 y = pure (.int .u64 ((x / 2 ^ min n 64 : Nat) : Int)) := by
  subst hy
  have h : ¬ ((n : Int) < 0) := by omega
  unfold Op.shift
  rw [if_neg h]
  have e : (min (n : Int).toNat (IntKind.u64.bits)) = min n 64 := by simp [IntKind.bits]
  simp only [e]
  congr 2
  rw [Int.fdiv_eq_ediv_of_nonneg _ (by exact Int.le_of_lt (Int.pow_pos (by decide)))]
  simp
theorem shl_nat (x n : Nat) (y : Int) (hy : y = (n : Int)) : Op.shift .shl .u64 (x : Int) .i64 y = pure (.int .u64 ((x * 2 ^ min n 64 % 2 ^ 64 : Nat) : Int)) := by
  subst hy
  have h : ¬ ((n : Int) < 0) := by omega
  unfold Op.shift
  rw [if_neg h]
  have e : (min (n : Int).toNat (IntKind.u64.bits)) = min n 64 := by simp [IntKind.bits]
  simp only [e]
  congr 2
theorem loV_low (a : Nat) (h : pk a < 1074) : loV a = pm a / 2 ^ min (1074 - pk a) 64 := by unfold loV; rw [if_pos h]
theorem loV_high (a : Nat) (h : ¬ pk a < 1074) : loV a = pm a * 2 ^ min (pk a - 1074) 64 % 2 ^ 64 := by unfold loV; rw [if_neg h]
theorem loV_far (a : Nat) (h : -1074 + (pk a : Int) ≤ -64 ∨ 64 ≤ -1074 + (pk a : Int)) : loV a = 0 := by
  have hm := pm_lt a
  by_cases h1 : pk a < 1074
  · rw [loV_low a h1, show min (1074 - pk a) 64 = 64 by omega]
    exact Nat.div_eq_of_lt (by omega)
  · rw [loV_high a h1, show min (pk a - 1074) 64 = 64 by omega]
    simp
theorem lowBits_any (a : Nat) (hk : pk a ≤ 2046) (w : World) : Calls Try.prog 49 #[.int .u64 (pm a : Int), .int .i64 (-1074 + (pk a : Int))] w fun e w' => e = .returned (.int .u32 ((loV a % 2 ^ 32 : Nat) : Int)) ∧ w' = w := by
  have hlt := loV_lt a
  by_cases h : pk a < 1074
  · have hs := shr_nat (pm a) (1074 - pk a) (-(-1074 + (pk a : Int))) (by omega)
    rw [← loV_low a h] at hs
    generalize loV a = V at *
    generalize pm a = m at *
    generalize pk a = k at *
    go_enter Try.func49, Try.ntmps49
    go_wp2
    go_ret
    exact ⟨ri (by omega), rfl⟩
  · have hs := shl_nat (pm a) (pk a - 1074) (-1074 + (pk a : Int)) (by omega)
    rw [← loV_high a h] at hs
    generalize loV a = V at *
    generalize pm a = m at *
    generalize pk a = k at *
    go_enter Try.func49, Try.ntmps49
    go_wp2
    go_ret
    exact ⟨ri (by omega), rfl⟩

theorem neg64w (V : Nat) (h : V < 2 ^ 64) : IntKind.u64.wrap (-(V : Int)) = ((18446744073709551616 - V : Nat) : Int) % 18446744073709551616 := by
  rw [IntKind.wrap_u64]
  have e : (18446744073709551616 - V : Nat) + V = 18446744073709551616 := by omega
  omega
def MV (x : Nat) : Nat := if sz x < INF then (if ng x then (2 ^ 64 - loV (sz x)) % 2 ^ 64 else loV (sz x)) else 0
theorem MV_lt (x : Nat) : MV x < 2 ^ 64 := by
  have := loV_lt (sz x)
  unfold MV
  split
  · split
    · exact Nat.mod_lt _ (by decide)
    · exact this
  · decide
theorem nfinite_any (x : Nat) (hx : x < 2 ^ 64) (w : World) : Calls Try.prog 48 #[.float .f64 x] w fun e w' => e = .returned (.bool (decide (sz x < INF))) ∧ w' = w := by
  cases h : isN x
  · have h2 : ¬ INF < sz x := by simpa [isN] using h
    go_enter Try.func48, Try.ntmps48
    go_wp2_with fail
    refine (isnan_any x _).mono ?_
    rintro e w' ⟨rfl, rfl⟩
    rw [h]
    go_wp2_with fail
    refine (isinf_any x hx _).mono ?_
    rintro e w' ⟨rfl, rfl⟩
    go_wp2
    go_ret
    refine ⟨rb ?_, rfl⟩
    rw [Bool.eq_iff_iff]; simp; omega
  · have h2 : INF < sz x := by simpa [isN] using h
    go_enter Try.func48, Try.ntmps48
    go_wp2_with fail
    refine (isnan_any x _).mono ?_
    rintro e w' ⟨rfl, rfl⟩
    rw [h]
    go_wp2
    go_ret
    refine ⟨rb ?_, rfl⟩
    symm; simp; omega
theorem uint32_any (x : Nat) (hx : x < 2 ^ 64) (w : World) : Calls Try.prog 14 #[.float .f64 x] w fun e w' => e = .returned (.int .u32 ((MV x % 2 ^ 32 : Nat) : Int)) ∧ w' = w := by
  have HF := fun w => nfinite_any x hx w
  by_cases hf : sz x < INF
  · have hd : decide (sz x < INF) = true := by simpa using hf
    have hk := pk_lt (sz x) hf
    have hn : isN x = false := by unfold isN; simp; omega
    have HL := fun w => lowBits_any (sz x) (by omega) w
    have HS := fun w => split_any x hx w
    have hlt := loV_lt (sz x)
    have hz : (FloatKind.f64.format.order x 0 == some .lt) = (ng x && decide (0 < sz x)) := by rw [ltz, hn]; simp
    have hMV : MV x = if ng x then (2 ^ 64 - loV (sz x)) % 2 ^ 64 else loV (sz x) := by unfold MV; rw [if_pos hf]
    by_cases hng : (ng x && decide (0 < sz x)) = true
    · rw [hng] at hz
      have hng' : ng x = true := by simp at hng; exact hng.1
      rw [hMV, hng']
      generalize loV (sz x) = V at *
      clear hMV hng hng' hf
      go_enter Try.func14, Try.ntmps14
      go_wp2_with fail
      refine (HF _).mono ?_
      rintro e w' ⟨rfl, rfl⟩
      rw [hd]
      go_wp2_with fail
      refine (HS _).mono ?_
      rintro e w' ⟨rfl, rfl⟩
      go_wp2_with fail
      refine (HL _).mono ?_
      rintro e w' ⟨rfl, rfl⟩
      go_wp2
      go_ret
      refine ⟨ri ?_, rfl⟩
      have e : (18446744073709551616 - V : Nat) + V = 18446744073709551616 := by omega
      omega
    · have hng2 : (ng x && decide (0 < sz x)) = false := by simpa using hng
      rw [hng2] at hz
      have hV : (if ng x then (2 ^ 64 - loV (sz x)) % 2 ^ 64 else loV (sz x)) = loV (sz x) := by
        cases hg : ng x
        · simp
        · rw [hg] at hng2
          have h0 : sz x = 0 := by simpa using hng2
          rw [h0]; decide +kernel
      rw [hMV, hV]
      generalize loV (sz x) = V at *
      clear hMV hng hng2 hf hV
      go_enter Try.func14, Try.ntmps14
      go_wp2_with fail
      refine (HF _).mono ?_
      rintro e w' ⟨rfl, rfl⟩
      rw [hd]
      go_wp2_with fail
      refine (HS _).mono ?_
      rintro e w' ⟨rfl, rfl⟩
      go_wp2_with fail
      refine (HL _).mono ?_
      rintro e w' ⟨rfl, rfl⟩
      go_wp2
      go_ret
      exact ⟨rfl, rfl⟩
  · have hd : decide (sz x < INF) = false := by simpa using hf
    have hMV : MV x = 0 := by unfold MV; rw [if_neg hf]
    rw [hMV]
    clear hMV hf
    go_enter Try.func14, Try.ntmps14
    go_wp2_with fail
    refine (HF _).mono ?_
    rintro e w' ⟨rfl, rfl⟩
    rw [hd]
    go_wp2
    go_ret
    exact ⟨rfl, rfl⟩
theorem modulo_any (x : Nat) (hx : x < 2 ^ 64) (w : World) : Calls Try.prog 7 #[.float .f64 x] w fun e w' => e = .returned (.int .u64 (MV x : Int)) ∧ w' = w := by
  have HF := fun w => finite_any x hx w
  by_cases hf : sz x < INF
  · have hd : decide (sz x < INF) = true := by simpa using hf
    have hk := pk_lt (sz x) hf
    have HP := fun w => parts_any (sz x) (sz_lt x) w
    have HS := fun w => size_any x hx w
    have HN := fun w => negative_any x hx w
    have hlt := loV_lt (sz x)
    have hMV : MV x = if ng x then (2 ^ 64 - loV (sz x)) % 2 ^ 64 else loV (sz x) := by unfold MV; rw [if_pos hf]
    rw [hMV]
    have hfar := loV_far (sz x)
    have hs1 : pk (sz x) < 1074 → Op.shift .shr .u64 (pm (sz x) : Int) .i64 (-(-1074 + (pk (sz x) : Int))) = pure (.int .u64 (loV (sz x) : Int)) := fun h => by
      rw [loV_low _ h]; exact shr_nat _ _ _ (by omega)
    have hs1' : pk (sz x) < 1074 → ¬ -1074 + (pk (sz x) : Int) ≤ -64 → (pm (sz x) : Int) / 2 ^ (-(-1074 + (pk (sz x) : Int))).toNat = (loV (sz x) : Int) := fun h h' => by
      rw [loV_low _ h, show min (1074 - pk (sz x)) 64 = 1074 - pk (sz x) by omega, show (-(-1074 + (pk (sz x) : Int))).toNat = 1074 - pk (sz x) by omega]; simp
    have hs2 : ¬ pk (sz x) < 1074 → Op.shift .shl .u64 (pm (sz x) : Int) .i64 (-1074 + (pk (sz x) : Int)) = pure (.int .u64 (loV (sz x) : Int)) := fun h => by
      rw [loV_high _ h]; exact shl_nat _ _ _ (by omega)
    have hs2' : ¬ pk (sz x) < 1074 → ¬ 64 ≤ -1074 + (pk (sz x) : Int) → IntKind.u64.wrap ((pm (sz x) : Int) * 2 ^ (-1074 + (pk (sz x) : Int)).toNat) = (loV (sz x) : Int) := fun h h' => by
      rw [loV_high _ h, show min (pk (sz x) - 1074) 64 = pk (sz x) - 1074 by omega, show (-1074 + (pk (sz x) : Int)).toNat = pk (sz x) - 1074 by omega, IntKind.wrap_u64]; simp
    generalize loV (sz x) = V at *
    generalize pm (sz x) = m at *
    generalize pk (sz x) = k at *
    generalize hng : ng x = s at *
    clear hMV hf
    by_cases h1 : -1074 + (k : Int) ≤ -64
    · have hV := hfar (.inl h1)
      subst hV
      clear hfar hs1 hs2 hs1' hs2'
      cases s
      all_goals
        go_enter Try.func7, Try.ntmps7
        go_wp2_with fail
        refine (HF _).mono ?_
        rintro e w' ⟨rfl, rfl⟩
        rw [hd]
        go_wp2_with fail
        refine (HS _).mono ?_
        rintro e w' ⟨rfl, rfl⟩
        go_wp2_with fail
        refine (HP _).mono ?_
        rintro e w' ⟨rfl, rfl⟩
        go_wp2_with fail
        refine (HN _).mono ?_
        rintro e w' ⟨rfl, rfl⟩
        go_wp2
        go_ret
        exact ⟨rfl, rfl⟩
    · by_cases h2 : 64 ≤ -1074 + (k : Int)
      · have hV := hfar (.inr h2)
        subst hV
        clear hfar hs1 hs2 hs1' hs2'
        cases s
        all_goals
          go_enter Try.func7, Try.ntmps7
          go_wp2_with fail
          refine (HF _).mono ?_
          rintro e w' ⟨rfl, rfl⟩
          rw [hd]
          go_wp2_with fail
          refine (HS _).mono ?_
          rintro e w' ⟨rfl, rfl⟩
          go_wp2_with fail
          refine (HP _).mono ?_
          rintro e w' ⟨rfl, rfl⟩
          go_wp2_with fail
          refine (HN _).mono ?_
          rintro e w' ⟨rfl, rfl⟩
          go_wp2
          go_ret
          exact ⟨rfl, rfl⟩
      · by_cases h3 : k < 1074
        · have hs := hs1' h3 h1
          have h3' : -1074 + (k : Int) < 0 := by omega
          clear hfar hs1 hs2 hs1' hs2'
          cases s
          all_goals
            go_enter Try.func7, Try.ntmps7
            go_wp2_with fail
            refine (HF _).mono ?_
            rintro e w' ⟨rfl, rfl⟩
            rw [hd]
            go_wp2_with fail
            refine (HS _).mono ?_
            rintro e w' ⟨rfl, rfl⟩
            go_wp2_with fail
            refine (HP _).mono ?_
            rintro e w' ⟨rfl, rfl⟩
            go_wp2_with fail
            refine (HN _).mono ?_
            rintro e w' ⟨rfl, rfl⟩
            go_wp2
            go_ret
            first | exact ⟨rfl, rfl⟩ | exact ⟨ri (neg64w V hlt), rfl⟩
        · have hs := hs2' h3 h2
          have h3' : ¬ (-1074 + (k : Int) < 0) := by omega
          clear hfar hs1 hs2 hs1' hs2'
          cases s
          all_goals
            go_enter Try.func7, Try.ntmps7
            go_wp2_with fail
            refine (HF _).mono ?_
            rintro e w' ⟨rfl, rfl⟩
            rw [hd]
            go_wp2_with fail
            refine (HS _).mono ?_
            rintro e w' ⟨rfl, rfl⟩
            go_wp2_with fail
            refine (HP _).mono ?_
            rintro e w' ⟨rfl, rfl⟩
            go_wp2_with fail
            refine (HN _).mono ?_
            rintro e w' ⟨rfl, rfl⟩
            go_wp2
            go_ret
            first | exact ⟨rfl, rfl⟩ | exact ⟨ri (neg64w V hlt), rfl⟩
  · have hd : decide (sz x < INF) = false := by simpa using hf
    have hMV : MV x = 0 := by unfold MV; rw [if_neg hf]
    rw [hMV]
    clear hMV hf
    go_enter Try.func7, Try.ntmps7
    go_wp2_with fail
    refine (HF _).mono ?_
    rintro e w' ⟨rfl, rfl⟩
    rw [hd]
    go_wp2
    go_ret
    exact ⟨rfl, rfl⟩
end Go.Proofs.Ytclahchmdcgdhaa
