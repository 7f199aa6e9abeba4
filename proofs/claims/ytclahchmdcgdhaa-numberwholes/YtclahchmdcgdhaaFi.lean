import Derived.Test.YtclahchmdcgdhaaFh
namespace Go.Proofs.Ytclahchmdcgdhaa
open Go.RowKit FM
attribute [local go_sem] frombits_run bits_run neg_run

theorem nan_run (w : World) : Calls Try.prog 67 #[] w fun e w' => e = .returned (.float .f64 9221120237041090561) ∧ w' = w := by
  go_enter Try.func67, Try.ntmps67
  go_wp2
  go_ret
  exact ⟨rfl, rfl⟩
/-- math.Mod where there is no answer. -/
theorem mod_nan (x y : Nat) (hx64 : x < 2 ^ 64) (hy64 : y < 2 ^ 64) (h : (isN x || isN y || decide (sz x = INF) || decide (sz y = 0)) = true) (w : World) : Calls Try.prog 65 #[.float .f64 x, .float .f64 y] w fun e w' => e = .returned (.float .f64 9221120237041090561) ∧ w' = w := by
  have h1 : (FloatKind.f64.format.order y 0 == some .eq) = (!isN y && decide (sz y = 0)) := by
    have n0 : isN 0 = false := by decide
    have s0 : sz 0 = 0 := by decide
    rw [fo, eqF y 0 hy64 (by decide), n0, s0]
    by_cases e : y = 0
    · subst e; decide
    · simp [e]
  cases hy0 : (!isN y && decide (sz y = 0))
  · rw [hy0] at h1
    by_cases hi : sz x = INF
    · have hi' : decide (sz x = INF) = true := by simpa using hi
      clear h hi
      go_enter Try.func65, Try.ntmps65
      go_wp2_with fail
      refine (isinf_any x hx64 _).mono ?_
      rintro e w' ⟨rfl, rfl⟩
      rw [hi']
      go_wp2_with fail
      refine (nan_run _).mono ?_
      rintro e w' ⟨rfl, rfl⟩
      go_wp2
      go_ret
      exact ⟨rfl, rfl⟩
    · have hi' : decide (sz x = INF) = false := by simpa using hi
      cases hx : isN x
      · have hy : isN y = true := by
          cases hy : isN y
          · rw [hy] at hy0; simp at hy0; simp [hx, hy, hi, hy0] at h
          · rfl
        clear h hi
        go_enter Try.func65, Try.ntmps65
        go_wp2_with fail
        refine (isinf_any x hx64 _).mono ?_
        rintro e w' ⟨rfl, rfl⟩
        rw [hi']
        go_wp2_with fail
        refine (isnan_any x _).mono ?_
        rintro e w' ⟨rfl, rfl⟩
        rw [hx]
        go_wp2_with fail
        refine (isnan_any y _).mono ?_
        rintro e w' ⟨rfl, rfl⟩
        rw [hy]
        go_wp2_with fail
        refine (nan_run _).mono ?_
        rintro e w' ⟨rfl, rfl⟩
        go_wp2
        go_ret
        exact ⟨rfl, rfl⟩
      · clear h hi
        go_enter Try.func65, Try.ntmps65
        go_wp2_with fail
        refine (isinf_any x hx64 _).mono ?_
        rintro e w' ⟨rfl, rfl⟩
        rw [hi']
        go_wp2_with fail
        refine (isnan_any x _).mono ?_
        rintro e w' ⟨rfl, rfl⟩
        rw [hx]
        go_wp2_with fail
        refine (nan_run _).mono ?_
        rintro e w' ⟨rfl, rfl⟩
        go_wp2
        go_ret
        exact ⟨rfl, rfl⟩
  · rw [hy0] at h1
    clear h hy0
    go_enter Try.func65, Try.ntmps65
    go_wp2_with fail
    refine (nan_run _).mono ?_
    rintro e w' ⟨rfl, rfl⟩
    go_wp2
    go_ret
    exact ⟨rfl, rfl⟩
/-- The rest of a division, as both answer it. -/
def RemP (x y z : Nat) : Prop := if (isN x || isN y || decide (sz x = INF) || decide (sz y = 0)) = true then isN z = true else ∃ ρ, z = Ieee.double.word (ng x) ρ ∧ vl ρ = vl (sz x) % vl (sz y)
theorem remP_same {x y a b : Nat} (h1 : RemP x y a) (h2 : RemP x y b) : sameV a b = true := by
  unfold RemP at h1 h2
  unfold sameV
  by_cases h : (isN x || isN y || decide (sz x = INF) || decide (sz y = 0)) = true
  · rw [if_pos h] at h1 h2
    rw [h1, h2]; rfl
  · rw [if_neg h] at h1 h2
    obtain ⟨r, rfl, hr⟩ := h1
    obtain ⟨q, rfl, hq⟩ := h2
    have : r = q := vl_inj.1 (hr.trans hq.symm)
    rw [this]; simp
theorem rem_facts {x y : Nat} (h : ¬ (isN x || isN y || decide (sz x = INF) || decide (sz y = 0)) = true) : sz x < INF ∧ 0 < sz y ∧ sz y ≤ INF := by
  simp [isN] at h
  omega
theorem mod_any (x y : Nat) (hx64 : x < 2 ^ 64) (hy64 : y < 2 ^ 64) (w : World) : Calls Try.prog 65 #[.float .f64 x, .float .f64 y] w fun e w' => ∃ z, e = .returned (.float .f64 z) ∧ RemP x y z ∧ z < 2 ^ 64 ∧ w' = w := by
  by_cases h : (isN x || isN y || decide (sz x = INF) || decide (sz y = 0)) = true
  · refine (mod_nan x y hx64 hy64 h w).mono ?_
    rintro e w' ⟨rfl, rfl⟩
    exact ⟨_, rfl, by unfold RemP; rw [if_pos h]; decide, by decide, rfl⟩
  · obtain ⟨h1, h2, h3⟩ := rem_facts h
    have hI := INF_lt
    cases hn : ng x
    · have hs : sz x = x := by have := word_sz x hx64; rw [hn, word_eq] at this; simpa using this
      rw [hs] at h1
      refine (mod_pos x y (sz y) hx64 hy64 h1 rfl h2 h3 w).mono ?_
      rintro e w' ⟨ρ, rfl, hv, hρ, rfl⟩
      refine ⟨ρ, rfl, ?_, by omega, rfl⟩
      unfold RemP; rw [if_neg h, hn, hs]
      exact ⟨ρ, by rw [word_eq]; simp, hv⟩
    · by_cases h0 : sz x = 0
      · refine (mod_nought x y (sz y) hx64 h0 hy64 rfl h2 h3 w).mono ?_
        rintro e w' ⟨rfl, rfl⟩
        refine ⟨x, rfl, ?_, hx64, rfl⟩
        unfold RemP; rw [if_neg h]
        exact ⟨0, by have := word_sz x hx64; rw [h0] at this; exact this.symm, by rw [h0, vl0]; simp⟩
      · refine (mod_neg x (sz x) y (sz y) hx64 rfl hn (by omega) hy64 h1 rfl h2 h3 w).mono ?_
        rintro e w' ⟨ρ, rfl, hv, hρ, rfl⟩
        refine ⟨2 ^ 63 + ρ, rfl, ?_, by omega, rfl⟩
        unfold RemP; rw [if_neg h, hn]
        exact ⟨ρ, by rw [word_eq]; simp, hv⟩
theorem Mod_any (x y : Nat) (hx64 : x < 2 ^ 64) (hy64 : y < 2 ^ 64) (w : World) : Calls Try.prog 56 #[.float .f64 x, .float .f64 y] w fun e w' => ∃ z, e = .returned (.float .f64 z) ∧ RemP x y z ∧ z < 2 ^ 64 ∧ w' = w := by
  go_enter Try.func56, Try.ntmps56
  go_wp2_with fail
  refine (mod_any x y hx64 hy64 _).mono ?_
  rintro e w' ⟨z, rfl, hz, hz64, rfl⟩
  go_wp2
  go_ret
  exact ⟨z, rfl, hz, hz64, rfl⟩
theorem Rem_any (x y : Nat) (hx64 : x < 2 ^ 64) (hy64 : y < 2 ^ 64) (w : World) : Calls Try.prog 32 #[.float .f64 x, .float .f64 y] w fun e w' => ∃ z, e = .returned (.float .f64 z) ∧ RemP x y z ∧ z < 2 ^ 64 ∧ w' = w := by
  go_enter Try.func32, Try.ntmps32
  go_wp2_with fail
  refine (Mod_any x y hx64 hy64 _).mono ?_
  rintro e w' ⟨z, rfl, hz, hz64, rfl⟩
  go_wp2
  go_ret
  exact ⟨z, rfl, hz, hz64, rfl⟩
theorem refRem_all (x y : Nat) (hx64 : x < 2 ^ 64) (hy64 : y < 2 ^ 64) (w : World) : Calls Try.prog 33 #[.float .f64 x, .float .f64 y] w fun e w' => ∃ z, e = .returned (.float .f64 z) ∧ RemP x y z ∧ z < 2 ^ 64 ∧ w' = w := by
  have hI := INF_lt
  by_cases h : (isN x || isN y || decide (sz x = INF) || decide (sz y = 0)) = true
  · refine (refRem_nan x y hx64 hy64 h w).mono ?_
    rintro e w' ⟨rfl, rfl⟩
    exact ⟨_, rfl, by unfold RemP; rw [if_pos h]; exact nanr, by decide, rfl⟩
  · obtain ⟨h1, h2, h3⟩ := rem_facts h
    by_cases hl : sz x < sz y
    · refine (refRem_less x y hx64 hy64 h1 h2 h3 hl w).mono ?_
      rintro e w' ⟨rfl, rfl⟩
      refine ⟨x, rfl, ?_, hx64, rfl⟩
      unfold RemP; rw [if_neg h]
      exact ⟨sz x, (word_sz x hx64).symm, by rw [Nat.mod_eq_of_lt (vl_mono hl)]⟩
    · refine (refRem_any x y hx64 hy64 h1 h2 (by omega) w).mono ?_
      rintro e w' ⟨ρ, rfl, hv, hρ, rfl⟩
      refine ⟨_, rfl, ?_, ?_, rfl⟩
      · unfold RemP; rw [if_neg h]
        exact ⟨ρ, rfl, hv⟩
      · rw [word_eq]; split <;> omega
theorem alike_any (x y : Nat) (hx64 : x < 2 ^ 64) (hy64 : y < 2 ^ 64) (w : World) : Calls Try.prog 10 #[.float .f64 x, .float .f64 y] w fun e w' => e = .returned (.bool (sameV x y)) ∧ w' = w := by
  go_enter Try.func10, Try.ntmps10
  go_wp2_with fail
  refine (refSame_any x y hx64 hy64 _).mono ?_
  rintro e w' ⟨rfl, rfl⟩
  go_wp2
  go_ret
  exact ⟨rfl, rfl⟩
theorem int32_any (x : Nat) (hx : x < 2 ^ 64) (w : World) : Calls Try.prog 13 #[.float .f64 x] w fun e w' => e = .returned (.int .i32 (wrap32 ((MV x % 2 ^ 32 : Nat) : Int))) ∧ w' = w := by
  have H := fun w => uint32_any x hx w
  generalize hV : MV x % 2 ^ 32 = V at *
  clear hV
  go_enter Try.func13, Try.ntmps13
  go_wp2_with fail
  refine (H _).mono ?_
  rintro e w' ⟨rfl, rfl⟩
  go_wp2
  go_ret
  exact ⟨rfl, rfl⟩
theorem places_any (x : Nat) (hx : x < 2 ^ 64) (w : World) : Calls Try.prog 58 #[.float .f64 x] w fun e w' => e = .returned (.int .u32 ((MV x % 2 ^ 32 % 32 : Nat) : Int)) ∧ w' = w := by
  have H := fun w => uint32_any x hx w
  generalize hV : MV x % 2 ^ 32 = V at *
  clear hV
  go_enter Try.func58, Try.ntmps58
  go_wp2_with fail
  refine (H _).mono ?_
  rintro e w' ⟨rfl, rfl⟩
  go_wp2
  go_ret
  exact ⟨ri (by simp), rfl⟩
theorem shl_any (x y : Nat) (hx : x < 2 ^ 64) (hy : y < 2 ^ 64) (w : World) : Calls Try.prog 34 #[.float .f64 x, .float .f64 y] w fun e w' => e = .returned (.int .i32 (wrap32 (wrap32 ((MV x % 2 ^ 32 : Nat) : Int) * 2 ^ (MV y % 2 ^ 32 % 32)))) ∧ w' = w := by
  have H1 := fun w => int32_any x hx w
  have H2 := fun w => places_any y hy w
  have hp : MV y % 2 ^ 32 % 32 < 32 := Nat.mod_lt _ (by decide)
  generalize MV x % 2 ^ 32 = U at *
  generalize MV y % 2 ^ 32 % 32 = n at *
  go_enter Try.func34, Try.ntmps34
  go_wp2_with fail
  refine (H1 _).mono ?_
  rintro e w' ⟨rfl, rfl⟩
  go_wp2_with fail
  refine (H2 _).mono ?_
  rintro e w' ⟨rfl, rfl⟩
  go_wp2
  go_ret
  exact ⟨rfl, rfl⟩
theorem shr_any (x y : Nat) (hx : x < 2 ^ 64) (hy : y < 2 ^ 64) (w : World) : Calls Try.prog 35 #[.float .f64 x, .float .f64 y] w fun e w' => e = .returned (.int .i32 (wrap32 ((MV x % 2 ^ 32 : Nat) : Int) / 2 ^ (MV y % 2 ^ 32 % 32))) ∧ w' = w := by
  have H1 := fun w => int32_any x hx w
  have H2 := fun w => places_any y hy w
  have hp : MV y % 2 ^ 32 % 32 < 32 := Nat.mod_lt _ (by decide)
  generalize MV x % 2 ^ 32 = U at *
  generalize MV y % 2 ^ 32 % 32 = n at *
  go_enter Try.func35, Try.ntmps35
  go_wp2_with fail
  refine (H1 _).mono ?_
  rintro e w' ⟨rfl, rfl⟩
  go_wp2_with fail
  refine (H2 _).mono ?_
  rintro e w' ⟨rfl, rfl⟩
  go_wp2
  go_ret
  exact ⟨rfl, rfl⟩
theorem ushr_any (x y : Nat) (hx : x < 2 ^ 64) (hy : y < 2 ^ 64) (w : World) : Calls Try.prog 36 #[.float .f64 x, .float .f64 y] w fun e w' => e = .returned (.int .u32 (((MV x % 2 ^ 32 : Nat) : Int) / 2 ^ (MV y % 2 ^ 32 % 32))) ∧ w' = w := by
  have H1 := fun w => uint32_any x hx w
  have H2 := fun w => places_any y hy w
  have hp : MV y % 2 ^ 32 % 32 < 32 := Nat.mod_lt _ (by decide)
  generalize MV x % 2 ^ 32 = U at *
  generalize MV y % 2 ^ 32 % 32 = n at *
  go_enter Try.func36, Try.ntmps36
  go_wp2_with fail
  refine (H1 _).mono ?_
  rintro e w' ⟨rfl, rfl⟩
  go_wp2_with fail
  refine (H2 _).mono ?_
  rintro e w' ⟨rfl, rfl⟩
  go_wp2
  go_ret
  exact ⟨rfl, rfl⟩
theorem wrap32_mod {a b : Int} (h : a % 4294967296 = b % 4294967296) : wrap32 a = wrap32 b := by
  unfold wrap32; omega
theorem shl_same (U n : Nat) : wrap32 (wrap32 (U : Int) * 2 ^ n) = wrap32 ((U : Int) * 2 ^ n % 4294967296) := by
  apply wrap32_mod
  rw [Int.emod_emod_of_dvd _ (Int.dvd_refl _), Int.mul_emod, Int.mul_emod (U : Int)]
  congr 2
  unfold wrap32; omega
end Go.Proofs.Ytclahchmdcgdhaa
