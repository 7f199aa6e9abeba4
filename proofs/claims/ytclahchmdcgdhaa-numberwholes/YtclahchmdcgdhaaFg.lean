import Derived.Test.YtclahchmdcgdhaaFf
namespace Go.Proofs.Ytclahchmdcgdhaa
open Go.RowKit FM
attribute [local go_sem] frombits_run bits_run neg_run

theorem rem_vl (a b : Nat) (h : b ≤ a) : pk b ≤ pk a ∧ vl a % vl b = (pm a * 2 ^ (pk a - pk b)) % pm b * 2 ^ pk b := by
  have hk : pk b ≤ pk a := by unfold pk; split <;> split <;> omega
  refine ⟨hk, ?_⟩
  rw [vl_parts a, vl_parts b, ← Nat.mul_mod_mul_right, Nat.mul_assoc, ← Nat.pow_add, Nat.sub_add_cancel hk]
theorem pm_pos (b : Nat) (h : 0 < b) : 0 < pm b := by unfold pm; split <;> omega

/-- NaN, as the document's answer makes it. -/
def NANR : Nat := Ieee.double.word false (INF + 1)
theorem nanr : isN NANR = true := by decide
theorem refRem_nan (x y : Nat) (hx64 : x < 2 ^ 64) (hy64 : y < 2 ^ 64) (h : (isN x || isN y || decide (sz x = INF) || decide (sz y = 0)) = true) (w : World) : Calls Try.prog 33 #[.float .f64 x, .float .f64 y] w fun e w' => e = .returned (.float .f64 NANR) ∧ w' = w := by
  have HS := fun w => signed_any (INF + 1) false (by decide) w
  rw [show ((INF + 1 : Nat) : Int) = 9218868437227405313 from rfl] at HS
  have HS' : ∀ w, Calls Try.prog 57 #[.int .u64 9218868437227405313, .bool false] w fun e w' => e = .returned (.float .f64 NANR) ∧ w' = w := HS
  have hIe : (INF : Int) = 9218868437227405312 := rfl
  generalize NANR = N at *
  clear HS
  cases hx : isN x
  · cases hy : isN y
    · by_cases hi : sz x = INF
      · rw [hx, hy] at h
        go_enter Try.func33, Try.ntmps33
        go_wp2_with fail
        refine (nan_any x hx64 _).mono ?_
        rintro e w' ⟨rfl, rfl⟩
        rw [hx]
        go_wp2_with fail
        refine (nan_any y hy64 _).mono ?_
        rintro e w' ⟨rfl, rfl⟩
        rw [hy]
        go_wp2_with fail
        refine (size_any x hx64 _).mono ?_
        rintro e w' ⟨rfl, rfl⟩
        rw [hi, hIe]
        go_wp2_with fail
        refine (HS' _).mono ?_
        rintro e w' ⟨rfl, rfl⟩
        go_wp2
        go_ret
        exact ⟨rfl, rfl⟩
      · have h0 : sz y = 0 := by simpa [hx, hy, hi] using h
        have hi' : ((sz x : Int) == 9218868437227405312) = false := by
          simp only [beq_eq_false_iff_ne]; unfold INF at hi; omega
        clear hi h
        go_enter Try.func33, Try.ntmps33
        go_wp2_with fail
        refine (nan_any x hx64 _).mono ?_
        rintro e w' ⟨rfl, rfl⟩
        rw [hx]
        go_wp2_with fail
        refine (nan_any y hy64 _).mono ?_
        rintro e w' ⟨rfl, rfl⟩
        rw [hy]
        go_wp2_with fail
        refine (size_any x hx64 _).mono ?_
        rintro e w' ⟨rfl, rfl⟩
        go_wp2_with fail
        refine (size_any y hy64 _).mono ?_
        rintro e w' ⟨rfl, rfl⟩
        rw [h0]
        go_wp2_with fail
        refine (HS' _).mono ?_
        rintro e w' ⟨rfl, rfl⟩
        go_wp2
        go_ret
        exact ⟨rfl, rfl⟩
    · go_enter Try.func33, Try.ntmps33
      go_wp2_with fail
      refine (nan_any x hx64 _).mono ?_
      rintro e w' ⟨rfl, rfl⟩
      rw [hx]
      go_wp2_with fail
      refine (nan_any y hy64 _).mono ?_
      rintro e w' ⟨rfl, rfl⟩
      rw [hy]
      go_wp2_with fail
      refine (HS' _).mono ?_
      rintro e w' ⟨rfl, rfl⟩
      go_wp2
      go_ret
      exact ⟨rfl, rfl⟩
  · go_enter Try.func33, Try.ntmps33
    go_wp2_with fail
    refine (nan_any x hx64 _).mono ?_
    rintro e w' ⟨rfl, rfl⟩
    rw [hx]
    go_wp2_with fail
    refine (HS' _).mono ?_
    rintro e w' ⟨rfl, rfl⟩
    go_wp2
    go_ret
    exact ⟨rfl, rfl⟩
theorem refRem_less (x y : Nat) (hx64 : x < 2 ^ 64) (hy64 : y < 2 ^ 64) (hxI : sz x < INF) (hy0 : 0 < sz y) (hyI : sz y ≤ INF) (hl : sz x < sz y) (w : World) : Calls Try.prog 33 #[.float .f64 x, .float .f64 y] w fun e w' => e = .returned (.float .f64 x) ∧ w' = w := by
  have hx : isN x = false := by unfold isN; simp; omega
  have hy : isN y = false := by unfold isN; simp; omega
  have hi' : ((sz x : Int) == 9218868437227405312) = false := by
    simp only [beq_eq_false_iff_ne]; unfold INF at hxI; omega
  have h0' : ((sz y : Int) == 0) = false := by
    simp only [beq_eq_false_iff_ne]; omega
  by_cases hyi : sz y = INF
  · have hyi' : ((sz y : Int) == 9218868437227405312) = true := by
      simp only [beq_iff_eq]; unfold INF at hyi; omega
    clear hxI hy0 hyI hl hyi
    go_enter Try.func33, Try.ntmps33
    go_wp2_with fail
    refine (nan_any x hx64 _).mono ?_
    rintro e w' ⟨rfl, rfl⟩
    rw [hx]
    go_wp2_with fail
    refine (nan_any y hy64 _).mono ?_
    rintro e w' ⟨rfl, rfl⟩
    rw [hy]
    go_wp2_with fail
    refine (size_any x hx64 _).mono ?_
    rintro e w' ⟨rfl, rfl⟩
    go_wp2_with fail
    refine (size_any y hy64 _).mono ?_
    rintro e w' ⟨rfl, rfl⟩
    go_wp2_with fail
    refine (size_any y hy64 _).mono ?_
    rintro e w' ⟨rfl, rfl⟩
    go_wp2
    go_ret
    exact ⟨rfl, rfl⟩
  · have hyi' : ((sz y : Int) == 9218868437227405312) = false := by
      simp only [beq_eq_false_iff_ne]; unfold INF at hyi; omega
    have hl' : decide (sz x < sz y) = true := by simpa using hl
    clear hxI hy0 hyI hl hyi
    go_enter Try.func33, Try.ntmps33
    go_wp2_with fail
    refine (nan_any x hx64 _).mono ?_
    rintro e w' ⟨rfl, rfl⟩
    rw [hx]
    go_wp2_with fail
    refine (nan_any y hy64 _).mono ?_
    rintro e w' ⟨rfl, rfl⟩
    rw [hy]
    go_wp2_with fail
    refine (size_any x hx64 _).mono ?_
    rintro e w' ⟨rfl, rfl⟩
    go_wp2_with fail
    refine (size_any y hy64 _).mono ?_
    rintro e w' ⟨rfl, rfl⟩
    go_wp2_with fail
    refine (size_any y hy64 _).mono ?_
    rintro e w' ⟨rfl, rfl⟩
    go_wp2_with fail
    refine (size_any x hx64 _).mono ?_
    rintro e w' ⟨rfl, rfl⟩
    go_wp2_with fail
    refine (size_any y hy64 _).mono ?_
    rintro e w' ⟨rfl, rfl⟩
    go_wp2
    go_ret
    exact ⟨rfl, rfl⟩
theorem refRem_any (x y : Nat) (hx64 : x < 2 ^ 64) (hy64 : y < 2 ^ 64) (hxI : sz x < INF) (hy0 : 0 < sz y) (hl : sz y ≤ sz x) (w : World) : Calls Try.prog 33 #[.float .f64 x, .float .f64 y] w fun e w' => ∃ ρ, e = .returned (.float .f64 (Ieee.double.word (ng x) ρ)) ∧ vl ρ = vl (sz x) % vl (sz y) ∧ ρ < INF ∧ w' = w := by
  have hyI : sz y < INF := by omega
  have hx : isN x = false := by unfold isN; simp; omega
  have hy : isN y = false := by unfold isN; simp; omega
  have hi' : ((sz x : Int) == 9218868437227405312) = false := by
    simp only [beq_eq_false_iff_ne]; unfold INF at hxI; omega
  have h0' : ((sz y : Int) == 0) = false := by
    simp only [beq_eq_false_iff_ne]; omega
  have hyi' : ((sz y : Int) == 9218868437227405312) = false := by
    simp only [beq_eq_false_iff_ne]; unfold INF at hyI; omega
  have hl' : decide (sz x < sz y) = false := by simpa using hl
  obtain ⟨hkk, hrem⟩ := rem_vl (sz x) (sz y) hl
  have hpk := pk_lt (sz x) hxI
  have hpm := pm_lt (sz x)
  have hpn := pm_lt (sz y)
  have hn0 := pm_pos (sz y) hy0
  have hee : decide (pk (sz x) < pk (sz y)) = false := by simpa using hkk
  have HP1 := fun w => parts_any (sz x) (sz_lt x) w
  have HP2 := fun w => parts_any (sz y) (sz_lt y) w
  have HS1 := fun w => size_any x hx64 w
  have HS2 := fun w => size_any y hy64 w
  have HREM : Hid (vl (sz x) % vl (sz y) = (pm (sz x) * 2 ^ (pk (sz x) - pk (sz y))) % pm (sz y) * 2 ^ pk (sz y)) := ⟨hrem⟩
  clear hrem hl hxI hy0 hyI
  generalize sz x = a at *
  generalize sz y = b at *
  generalize pm a = m at *
  generalize pm b = n at *
  generalize pk a = e1 at *
  generalize pk b = f1 at *
  have hn0' : ¬ ((n : Int) = 0) := by omega
  go_enter Try.func33, Try.ntmps33
  go_wp2_with fail
  refine (nan_any x hx64 _).mono ?_
  rintro e w' ⟨rfl, rfl⟩
  rw [hx]
  go_wp2_with fail
  refine (nan_any y hy64 _).mono ?_
  rintro e w' ⟨rfl, rfl⟩
  rw [hy]
  go_wp2_with fail
  refine (HS1 _).mono ?_
  rintro e w' ⟨rfl, rfl⟩
  go_wp2_with fail
  refine (HS2 _).mono ?_
  rintro e w' ⟨rfl, rfl⟩
  go_wp2_with fail
  refine (HS2 _).mono ?_
  rintro e w' ⟨rfl, rfl⟩
  go_wp2_with fail
  refine (HS1 _).mono ?_
  rintro e w' ⟨rfl, rfl⟩
  go_wp2_with fail
  refine (HS2 _).mono ?_
  rintro e w' ⟨rfl, rfl⟩
  go_wp2_with fail
  refine (HS1 _).mono ?_
  rintro e w' ⟨rfl, rfl⟩
  go_wp2_with fail
  refine (HP1 _).mono ?_
  rintro e w' ⟨rfl, rfl⟩
  go_wp2_with fail
  refine (HS2 _).mono ?_
  rintro e w' ⟨rfl, rfl⟩
  go_wp2_with fail
  refine (HP2 _).mono ?_
  rintro e w' ⟨rfl, rfl⟩
  go_wp2
  go_loopw [9, 10] (fun rv iv wr => ∃ r t : Nat, rv = .int .u64 (r : Int) ∧ iv = .int .i64 (-1074 + (f1 : Int) + (t : Int)) ∧ t ≤ e1 - f1 ∧ r = m * 2 ^ t % n ∧ wr = w') (fun _ iv _ => ((e1 : Int) - 1074 - intOf iv).toNat)
  case atStart => exact ⟨m % n, 0, by simp, by simp, by omega, by simp, rfl⟩
  case round =>
    obtain ⟨r, t, rfl, rfl, ht, hr, rfl⟩ := hrel
    have hrn : r < n := by rw [hr]; exact Nat.mod_lt _ hn0
    have HRR : Hid (r = m * 2 ^ t % n) := ⟨hr⟩
    clear hr
    by_cases hc : t < e1 - f1 ∧ 0 < r
    · have hc1 : -1074 + (f1 : Int) + (t : Int) < -1074 + (e1 : Int) := by omega
      have hc2 : 0 < r := hc.2
      go_wp2
      refine ⟨⟨r * 2 % n, t + 1, vi (by simp), vi (by omega), by omega, ?_, trivial⟩, ?_⟩
      · rw [HRR.it, Nat.pow_succ, ← Nat.mul_assoc, Nat.mod_mul_mod]
      · simp [intOf]; omega
    · have hfin : r = m * 2 ^ (e1 - f1) % n := by
        by_cases hr0 : r = 0
        · have h1 := HRR.it
          rw [hr0] at h1
          have e : m * 2 ^ (e1 - f1) = m * 2 ^ t * 2 ^ (e1 - f1 - t) := by rw [Nat.mul_assoc, ← Nat.pow_add]; congr 2; omega
          rw [hr0, e, Nat.mul_mod, ← h1]; simp
        · have : t = e1 - f1 := by omega
          rw [← this]; exact HRR.it
      have HF : Hid (r = m * 2 ^ (e1 - f1) % n) := ⟨hfin⟩
      have HPK := fun w => pack_any r f1 (ng x) (by omega) (by omega) w
      have HN := fun w => negative_any x hx64 w
      clear hfin
      by_cases hc1 : t < e1 - f1
      · have hc2 : r = 0 := by omega
        have hc3 : -1074 + (f1 : Int) + (t : Int) < -1074 + (e1 : Int) := by omega
        subst hc2
        go_wp2_with fail
        refine (HN _).mono ?_
        rintro e w' ⟨rfl, rfl⟩
        go_wp2_with fail
        refine (HPK _).mono ?_
        rintro e w' ⟨ρ, rfl, hv, hI, rfl⟩
        go_wp2
        go_ret
        exact ⟨ρ, rfl, by rw [hv, HREM.it, ← HF.it], hI, rfl⟩
      · have hc3 : ¬ (-1074 + (f1 : Int) + (t : Int) < -1074 + (e1 : Int)) := by omega
        go_wp2_with fail
        refine (HN _).mono ?_
        rintro e w' ⟨rfl, rfl⟩
        go_wp2_with fail
        refine (HPK _).mono ?_
        rintro e w' ⟨ρ, rfl, hv, hI, rfl⟩
        go_wp2
        go_ret
        exact ⟨ρ, rfl, by rw [hv, HREM.it, ← HF.it], hI, rfl⟩
end Go.Proofs.Ytclahchmdcgdhaa
