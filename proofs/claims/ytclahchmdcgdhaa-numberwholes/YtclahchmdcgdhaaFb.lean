import Derived.Test.YtclahchmdcgdhaaFa
import Derived.Test.YtclahchmdcgdhaaMathb
namespace Go.Proofs.Ytclahchmdcgdhaa
open Go.RowKit FM
attribute [local go_sem] frombits_run bits_run

theorem and2047 (e : Nat) (he : e < 2048) : bits BinOp.and IntKind.u64 (e : Int) 2047 = (e : Int) := by
  have h := u64_and_nat e 2047 (by omega) (by decide)
  have q : e &&& 2047 = e % 2 ^ 11 := Nat.and_two_pow_sub_one_eq_mod e 11
  rw [q, Nat.mod_eq_of_lt (by omega)] at h
  exact h
theorem andNotExp (r : Nat) (hr : r < 2 ^ 63) : bits BinOp.andNot IntKind.u64 (r : Int) 9218868437227405312 = ((r % 2 ^ 52 : Nat) : Int) := by
  have h := u64_andNot_nat r 9218868437227405312 (by omega) (by decide)
  have e : (18446744073709551615 - 9218868437227405312 : Nat) = 2 ^ 63 ||| (2 ^ 52 - 1) := by decide
  have q : r &&& (2 ^ 63 ||| (2 ^ 52 - 1)) = r % 2 ^ 52 := by
    have z : r &&& 2 ^ 63 = 0 := by
      apply Nat.eq_of_testBit_eq
      intro i
      rw [Nat.testBit_and, Nat.testBit_two_pow]
      by_cases hi : 63 = i
      · subst hi; rw [Nat.testBit_lt_two_pow hr]; simp
      · simp [hi]
    rw [Nat.and_or_distrib_left, Nat.and_two_pow_sub_one_eq_mod, z]
    simp
  rw [e, q] at h
  exact h
theorem orExp (f e : Nat) (hf : f < 2 ^ 52) (he : e < 4096) : bits BinOp.or IntKind.u64 (f : Int) ((e * 2 ^ 52 : Nat) : Int) = ((e * 2 ^ 52 + f : Nat) : Int) := by
  have h := u64_or_nat f (e * 2 ^ 52) (by omega) (by omega)
  have q : f ||| e * 2 ^ 52 = e * 2 ^ 52 + f := by
    rw [Nat.or_comm, Nat.mul_comm e, ← Nat.two_pow_add_eq_or_of_lt hf]
  rw [q] at h
  exact h

theorem pgen (x a b c : Nat) (h : c = a + b) : x * 2 ^ c = x * 2 ^ a * 2 ^ b := by
  rw [h, Nat.mul_assoc, Nat.pow_add]
theorem rf {a b : Nat} (h : a = b) : Ending.returned (.float .f64 a) = Ending.returned (.float .f64 b) := by rw [h]
theorem abs_any (b : Nat) (hb : b < 2 ^ 64) (w : World) : Calls Try.prog 45 #[.float .f64 b] w fun e w' => e = .returned (.float .f64 (sz b)) ∧ w' = w := by
  have hs := size_bits b hb
  clear hb
  go_enter Try.func45, Try.ntmps45
  go_wp2
  go_ret
  exact ⟨rf (by simp), rfl⟩
theorem sz_sz (b : Nat) : sz (sz b) = sz b := by unfold sz; omega
theorem pl_sz (b : Nat) : pl (sz b) = (sz b : Int) := by
  have h : ng (sz b) = false := by unfold ng sz; simp
  unfold pl; rw [h, sz_sz]; rfl
theorem pl_nat (b : Nat) (h : b < 2 ^ 63) : pl b = (b : Int) := by
  have e : sz b = b := Nat.mod_eq_of_lt h
  have := pl_sz b
  rwa [e] at this
theorem isN_sz (b : Nat) : isN (sz b) = isN b := by unfold isN; rw [sz_sz]
theorem isinf_any (b : Nat) (hb : b < 2 ^ 64) (w : World) : Calls Try.prog 61 #[.float .f64 b, .int .i64 0] w fun e w' => e = .returned (.bool (decide (sz b = INF))) ∧ w' = w := by
  go_enter Try.func61, Try.ntmps61
  go_wp2_with fail
  refine (abs_any b hb _).mono ?_
  rintro e w' ⟨rfl, rfl⟩
  go_wp2
  go_ret
  refine ⟨rb ?_, rfl⟩
  rw [fo, gtF, isN_sz, pl_sz, Bool.eq_iff_iff]
  have h2 : isN 9218868437227405311 = false := by decide
  have h3 : pl 9218868437227405311 = 9218868437227405311 := by decide
  have h4 : isN b = decide (INF < sz b) := rfl
  rw [h2, h3, h4]
  simp
  unfold INF
  omega

/-- What normalize answers of a finite float that is more than nought. -/
theorem normalize_any (x : Nat) (h0 : 0 < x) (hx : x < INF) (w : World) : Calls Try.prog 74 #[.float .f64 x] w fun e w' => ∃ r k : Nat, e = .returned (.tuple #[.float .f64 r, .int .i64 (-(k : Int))]) ∧ k ≤ 52 ∧ vl r = vl x * 2 ^ k ∧ 2 ^ 52 ≤ r ∧ r < INF ∧ w' = w := by
  have hI := INF_lt
  have hs : sz x = x := Nat.mod_eq_of_lt (by omega)
  have hcmp : (FloatKind.f64.format.order x 4503599627370496 == some .lt) = decide (x < 2 ^ 52) := by
    rw [fo, ltF, pl_nat x (by omega), pl_nat 4503599627370496 (by decide)]
    have h4 : isN x = false := by unfold isN; rw [hs]; simp; omega
    have h5 : isN 4503599627370496 = false := by decide
    rw [h4, h5, Bool.eq_iff_iff]
    simp; omega
  by_cases hsm : x < 2 ^ 52
  · obtain ⟨r, hr⟩ := rep x 52 (by omega)
    have hvx : vl x = x := by unfold vl; rw [if_pos hsm]
    have hr52 : 2 ^ 52 ≤ r := by
      have e : vl (2 ^ 52) = 2 ^ 52 := by decide
      have : vl (2 ^ 52) ≤ vl r := by rw [e, hr]; exact Nat.le_mul_of_pos_left _ h0
      exact vl_le.1 this
    have hrI : r < INF := by
      have h1 : vl r < vl (2 ^ 59) := by
        rw [hr]
        have : x * 2 ^ 52 < 2 ^ 52 * 2 ^ 52 := Nat.mul_lt_mul_of_pos_right hsm (by decide)
        have e : 2 ^ 52 * 2 ^ 52 ≤ vl (2 ^ 59) := by decide +kernel
        omega
      have := vl_lt_iff.1 h1
      unfold INF; omega
    have hmul : floatBits .mul .f64 x 4841369599423283200 = some r := by
      show Ieee.double.mul x 4841369599423283200 = some r
      have e1 : sz 4841369599423283200 = 4841369599423283200 := by decide
      have e2 : vl 4841369599423283200 = 2 ^ 1126 := by decide +kernel
      rw [mul_exact x 4841369599423283200 r (by rw [hs]; exact hx) (by decide) hrI (by rw [hs, e1, e2, hvx, hr]; exact pgen x 52 1074 1126 rfl)]
      have n1 : ng x = false := by unfold ng; simp; omega
      have n2 : ng 4841369599423283200 = false := by decide
      rw [n1, n2, word_eq]; simp
    have hrun := fun w => run_float_arith (P := Try.prog) w .mul 23 .f64 _ _ _ hmul
    have hcmp' : (FloatKind.f64.format.order x 4503599627370496 == some .lt) = true := by rw [hcmp]; simpa using hsm
    clear hcmp hmul
    go_enter Try.func74, Try.ntmps74
    go_wp2_with fail
    refine (abs_any x (by omega) _).mono ?_
    rintro e w' ⟨rfl, rfl⟩
    rw [hs]
    go_wp2
    go_ret2
    exact ⟨r, 52, rfl, by omega, by rw [hr, hvx], hr52, hrI, rfl⟩
  · have hcmp' : (FloatKind.f64.format.order x 4503599627370496 == some .lt) = false := by rw [hcmp]; simpa using hsm
    go_enter Try.func74, Try.ntmps74
    go_wp2_with fail
    refine (abs_any x (by omega) _).mono ?_
    rintro e w' ⟨rfl, rfl⟩
    rw [hs]
    go_wp2
    go_ret2
    exact ⟨x, 0, rfl, by omega, by simp, by omega, hx, rfl⟩
end Go.Proofs.Ytclahchmdcgdhaa
