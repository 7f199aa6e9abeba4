import Derived.Test.YtclahchmdcgdhaaFb
namespace Go.Proofs.Ytclahchmdcgdhaa
open Go.RowKit FM
attribute [local go_sem] frombits_run bits_run

/-- What Frexp answers of a size v: a fraction and an exponent. -/
def FR (v fr : Nat) (ex : Int) : Prop := ∃ M, 2 ^ 52 ≤ M ∧ M < 2 ^ 53 ∧ fr = 1021 * 2 ^ 52 + M ∧ M * 2 ^ v.log2 = v * 2 ^ 52 ∧ ex = (v.log2 : Int) - 1073

theorem and2047i (e : Nat) (he : e < 2048) : bits BinOp.and IntKind.i64 (e : Int) 2047 = (e : Int) := by
  have h127 : (BitVec.ofInt 64 2047).toNat = 2 ^ 11 - 1 := by decide
  have key : (BitVec.ofInt 64 (e : Int) &&& BitVec.ofInt 64 2047).toNat = ((e : Int) % ((2 ^ 64 : Nat) : Int)).toNat % 2 ^ 11 := by
    rw [BitVec.toNat_and, BitVec.toNat_ofInt, h127, Nat.and_two_pow_sub_one_eq_mod]
  show IntKind.i64.wrap ((BitVec.ofInt 64 (e : Int) &&& BitVec.ofInt 64 2047).toNat : Nat) = (e : Int)
  rw [key, IntKind.wrap_i64]
  omega
theorem fr_of {v r k : Nat} (hv : 0 < v) (hvr : vl r = v * 2 ^ k) (h52 : 2 ^ 52 ≤ r) : FR v (1022 * 2 ^ 52 + r % 2 ^ 52) ((r / 2 ^ 52 : Nat) - 1022 - k : Int) ∧ r / 2 ^ 52 + 51 = v.log2 + k := by
  have hl := vl_log r h52
  rw [hvr, log2_mul_pow (by omega)] at hl
  have hq : v.log2 + k = 51 + r / 2 ^ 52 := by omega
  refine ⟨⟨2 ^ 52 + r % 2 ^ 52, by omega, by omega, by omega, ?_, by omega⟩, by omega⟩
  have hM : vl r = (2 ^ 52 + r % 2 ^ 52) * 2 ^ (r / 2 ^ 52 - 1) := by unfold vl; rw [if_neg (by omega)]
  rw [hM] at hvr
  have h2 : (2 ^ 52 + r % 2 ^ 52) * 2 ^ v.log2 * 2 ^ k = v * 2 ^ 52 * 2 ^ k := by
    rw [Nat.mul_assoc, ← Nat.pow_add, hq, show 51 + r / 2 ^ 52 = (r / 2 ^ 52 - 1) + 52 by omega, Nat.pow_add, ← Nat.mul_assoc, hvr, Nat.mul_right_comm]
  exact Nat.eq_of_mul_eq_mul_right (Nat.two_pow_pos k) h2

theorem not_nan_fin {x : Nat} (hx : x < INF) : isN x = false := by
  have hI := INF_lt
  have hs : sz x = x := Nat.mod_eq_of_lt (by omega)
  unfold isN; rw [hs]; simp; omega
theorem eq0 (x : Nat) (h0 : 0 < x) (hx : x < INF) : (FloatKind.f64.format.order x 0 == some .eq) = false := by
  have hI := INF_lt
  have hs : sz x = x := Nat.mod_eq_of_lt (by omega)
  rw [fo, eqF x 0 (by omega) (by decide), hs]
  have : x ≠ 0 := by omega
  simp [this]

theorem frexp_any (x : Nat) (h0 : 0 < x) (hx : x < INF) (w : World) : Calls Try.prog 71 #[.float .f64 x] w fun e w' => ∃ fr ex, e = .returned (.tuple #[.float .f64 fr, .int .i64 ex]) ∧ FR (vl x) fr ex ∧ w' = w := by
  have hI := INF_lt
  have hs : sz x = x := Nat.mod_eq_of_lt (by omega)
  have he0 := eq0 x h0 hx
  have hinf : decide (sz x = INF) = false := by rw [hs]; simp; omega
  have hnan := not_nan_fin hx
  go_enter Try.func71, Try.ntmps71
  go_wp2_with fail
  refine (isinf_any x (by omega) _).mono ?_
  rintro e w' ⟨rfl, rfl⟩
  rw [hinf]
  go_wp2_with fail
  refine (isnan_any x _).mono ?_
  rintro e w' ⟨rfl, rfl⟩
  rw [hnan]
  go_wp2_with fail
  refine (normalize_any x h0 hx _).mono ?_
  rintro e w' ⟨r, k, rfl, hk, hvr, h52, hrI, rfl⟩
  have hfr := fr_of (vl_pos h0) hvr h52
  have a1 := and2047 (r / 2 ^ 52) (by unfold INF at hrI; omega)
  have a2 := andNotExp r (by omega)
  have a3 := orExp (r % 2 ^ 52) 1022 (by omega) (by omega)
  have a0 : (r : Int) / 4503599627370496 = ((r / 2 ^ 52 : Nat) : Int) := by omega
  rw [show ((1022 * 2 ^ 52 : Nat) : Int) = 4602678819172646912 from rfl] at a3
  have hb1 : r / 2 ^ 52 < 2048 := by unfold INF at hrI; omega
  generalize hE : r / 2 ^ 52 = E at *
  generalize hF : r % 2 ^ 52 = F at *
  go_wp2
  go_ret2
  refine ⟨4602678819172646912 + F, -(k : Int) + ((E : Int) - 1023 + 1), rfl, ?_, rfl⟩
  have e1 : -(k : Int) + ((E : Int) - 1023 + 1) = (E : Int) - 1022 - k := by omega
  have e2 : 4602678819172646912 + F = 1022 * 2 ^ 52 + F := by omega
  rw [e1, e2]
  exact hfr.1
theorem Frexp_any (x : Nat) (h0 : 0 < x) (hx : x < INF) (w : World) : Calls Try.prog 68 #[.float .f64 x] w fun e w' => ∃ fr ex, e = .returned (.tuple #[.float .f64 fr, .int .i64 ex]) ∧ FR (vl x) fr ex ∧ w' = w := by
  go_enter Try.func68, Try.ntmps68
  go_wp2_with fail
  refine (frexp_any x h0 hx _).mono ?_
  rintro e w' ⟨fr, ex, rfl, hfr, rfl⟩
  go_wp2
  go_ret2
  exact ⟨fr, ex, rfl, hfr, rfl⟩
/-- Of an infinity it answers it. -/
theorem frexp_inf (x : Nat) (hx : x = INF) (w : World) : Calls Try.prog 71 #[.float .f64 x] w fun e w' => e = .returned (.tuple #[.float .f64 x, .int .i64 0]) ∧ w' = w := by
  have he0 : (FloatKind.f64.format.order x 0 == some .eq) = false := by rw [hx]; decide
  have hinf : decide (sz x = INF) = true := by rw [hx]; decide
  have h64 : x < 2 ^ 64 := by rw [hx]; decide
  clear hx
  go_enter Try.func71, Try.ntmps71
  go_wp2_with fail
  refine (isinf_any x h64 _).mono ?_
  rintro e w' ⟨rfl, rfl⟩
  rw [hinf]
  go_wp2
  go_ret2
  exact ⟨rfl, rfl⟩
theorem Frexp_inf (x : Nat) (hx : x = INF) (w : World) : Calls Try.prog 68 #[.float .f64 x] w fun e w' => e = .returned (.tuple #[.float .f64 x, .int .i64 0]) ∧ w' = w := by
  have H := fun w => frexp_inf x hx w
  clear hx
  go_enter Try.func68, Try.ntmps68
  go_wp2_with fail
  refine (H _).mono ?_
  rintro e w' ⟨rfl, rfl⟩
  go_wp2
  go_ret2
  exact ⟨rfl, rfl⟩
theorem pgen2 (x a b c : Nat) (h : c = a + b) : 2 ^ b * (x * 2 ^ a) = x * 2 ^ c := by
  rw [h, Nat.pow_add, Nat.mul_left_comm, Nat.mul_comm (2 ^ a)]
/-- 2 to the -53 and 1, as they are read. -/
theorem vl_one : vl 4607182418800017408 = 2 ^ 1074 := by decide +kernel
theorem one_gen (p q : Nat) (h : p = q) (v : Nat) : p * v = v * q := by rw [h, Nat.mul_comm]
theorem one_fact (z : Nat) (h1 : vl (sz 4607182418800017408) = vl 4607182418800017408) (h2 : sz z = z) : vl (sz 4607182418800017408) * vl (sz z) = vl z * 2 ^ 1074 := by
  rw [h2]
  exact one_gen _ _ (h1.trans vl_one) _
theorem vl_tiny : vl 4368491638549381120 = 2 ^ 1021 := by decide +kernel
theorem vl_INF : vl INF = 2 ^ 2098 := by decide +kernel
theorem ldexp_any (y k z : Nat) (h0 : 0 < y) (hy : y < INF) (hz : z < INF) (h : vl z = vl y * 2 ^ k) (w : World) : Calls Try.prog 73 #[.float .f64 y, .int .i64 (k : Int)] w fun e w' => e = .returned (.float .f64 z) ∧ w' = w := by
  have hI := INF_lt
  have hs : sz y = y := Nat.mod_eq_of_lt (by omega)
  have he0 := eq0 y h0 hy
  have hinf : decide (sz y = INF) = false := by rw [hs]; simp; omega
  have hnan := not_nan_fin hy
  have hzl : (vl z).log2 = (vl y).log2 + k := by rw [h]; exact log2_mul_pow (by have := vl_pos h0; omega)
  have hzI : (vl z).log2 ≤ 2097 := by
    have h1 : vl z < 2 ^ 2098 := by rw [← vl_INF]; exact vl_mono hz
    have hne : vl z ≠ 0 := by rw [h]; exact Nat.ne_of_gt (Nat.mul_pos (vl_pos h0) (Nat.two_pow_pos k))
    have := (Nat.log2_lt hne).2 h1
    omega
  go_enter Try.func73, Try.ntmps73
  go_wp2_with fail
  refine (isinf_any y (by omega) _).mono ?_
  rintro e w' ⟨rfl, rfl⟩
  rw [hinf]
  go_wp2_with fail
  refine (isnan_any y _).mono ?_
  rintro e w' ⟨rfl, rfl⟩
  rw [hnan]
  go_wp2_with fail
  refine (normalize_any y h0 hy _).mono ?_
  rintro e w' ⟨r, j, rfl, hj, hvr, h52, hrI, rfl⟩
  have hfr := (fr_of (vl_pos h0) hvr h52).2
  have a1 := and2047i (r / 2 ^ 52) (by unfold INF at hrI; omega)
  have a2 := andNotExp r (by omega)
  have a0 : (r : Int) / 4503599627370496 = ((r / 2 ^ 52 : Nat) : Int) := by omega
  have hb1 : r / 2 ^ 52 < 2048 := by unfold INF at hrI; omega
  have hM : vl r = (2 ^ 52 + r % 2 ^ 52) * 2 ^ (r / 2 ^ 52 - 1) := by unfold vl; rw [if_neg (by omega)]
  have hE1 : 1 ≤ r / 2 ^ 52 := by omega
  have hFlt : r % 2 ^ 52 < 2 ^ 52 := Nat.mod_lt _ (by decide)
  generalize hE : r / 2 ^ 52 = E at *
  generalize hF : r % 2 ^ 52 = F at *
  have c1 : ¬ ((k : Int) + -(j : Int) + ((E : Int) - 1023) < -1075) := by omega
  have c2 : ¬ (1023 < (k : Int) + -(j : Int) + ((E : Int) - 1023)) := by omega
  have hTq : ∀ T : Nat, 1 ≤ T → T < 2048 → vl (T * 2 ^ 52 + F) = (2 ^ 52 + F) * 2 ^ (T - 1) := by
    intro T h1 h2
    unfold vl
    rw [if_neg (by omega), show (T * 2 ^ 52 + F) / 2 ^ 52 = T by omega, show (T * 2 ^ 52 + F) % 2 ^ 52 = F by omega]
  have n1 : ng 4368491638549381120 = false := by decide
  have n2 : ng 4607182418800017408 = false := by decide
  have s1 : sz 4368491638549381120 = 4368491638549381120 := by decide
  have s2 : sz 4607182418800017408 = 4607182418800017408 := by decide
  by_cases c3 : (k : Int) + -(j : Int) + ((E : Int) - 1023) < -1022
  · obtain ⟨T, hT⟩ : ∃ T : Nat, (T : Int) = (k : Int) + -(j : Int) + ((E : Int) - 1023) + 53 + 1023 := ⟨((k : Int) + -(j : Int) + ((E : Int) - 1023) + 53 + 1023).toNat, by omega⟩
    have hT1 : 1 ≤ T := by omega
    have hT2 : T ≤ 53 := by omega
    have hvf := hTq T hT1 (by omega)
    have a3 := orExp F T hFlt (by omega)
    have hvz : vl (T * 2 ^ 52 + F) = vl z * 2 ^ 53 := by
      have q : vl (T * 2 ^ 52 + F) * 2 ^ (E - 1) = vl z * 2 ^ 53 * 2 ^ (E - 1) := by
        rw [hvf, h, Nat.mul_right_comm, ← hM, hvr, Nat.mul_assoc, Nat.mul_assoc, Nat.mul_assoc, ← Nat.pow_add, ← Nat.pow_add, ← Nat.pow_add]
        congr 2; omega
      exact Nat.eq_of_mul_eq_mul_right (Nat.two_pow_pos _) q
    rw [show ((T * 2 ^ 52 : Nat) : Int) = ((k : Int) + -(j : Int) + ((E : Int) - 1023) + 53 + 1023) * 4503599627370496 by omega] at a3
    generalize hf : T * 2 ^ 52 + F = f at *
    have hfI : f < INF := by unfold INF; omega
    have hsf : sz f = f := Nat.mod_eq_of_lt (by omega)
    have hnf : ng f = false := by unfold ng; simp; omega
    have hmul : floatBits .mul .f64 4368491638549381120 f = some z := by
      show Ieee.double.mul 4368491638549381120 f = some z
      rw [mul_exact 4368491638549381120 f z (by rw [s1]; decide) (by rw [hsf]; exact hfI) hz (by rw [s1, hsf, vl_tiny, hvz]; exact pgen2 (vl z) 53 1021 1074 rfl)]
      rw [n1, hnf, word_eq]; simp
    have hrun := fun w => run_float_arith (P := Try.prog) w .mul 23 .f64 _ _ _ hmul
    have hwr : IntKind.u64.wrap ((k : Int) + -(j : Int) + ((E : Int) - 1023) + 53 + 1023) = (k : Int) + -(j : Int) + ((E : Int) - 1023) + 53 + 1023 := by rw [IntKind.wrap_u64]; omega
    clear hmul hvz hvf hTq hM hvr hf
    go_wp2
    go_ret
    exact ⟨rfl, rfl⟩
  · obtain ⟨T, hT⟩ : ∃ T : Nat, (T : Int) = (k : Int) + -(j : Int) + ((E : Int) - 1023) + 1023 := ⟨((k : Int) + -(j : Int) + ((E : Int) - 1023) + 1023).toNat, by omega⟩
    have hT1 : 1 ≤ T := by omega
    have hT2 : T ≤ 2046 := by omega
    have hvf := hTq T hT1 (by omega)
    have a3 := orExp F T hFlt (by omega)
    have hvz : vl (T * 2 ^ 52 + F) = vl z := by
      have q : vl (T * 2 ^ 52 + F) * 2 ^ (E - 1) = vl z * 2 ^ (E - 1) := by
        rw [hvf, h, Nat.mul_right_comm, ← hM, hvr, Nat.mul_assoc, Nat.mul_assoc, ← Nat.pow_add, ← Nat.pow_add]
        congr 2; omega
      exact Nat.eq_of_mul_eq_mul_right (Nat.two_pow_pos _) q
    have hfz := vl_inj.1 hvz
    rw [show ((T * 2 ^ 52 : Nat) : Int) = ((k : Int) + -(j : Int) + ((E : Int) - 1023) + 1023) * 4503599627370496 by omega, hfz] at a3
    have hsf : sz z = z := Nat.mod_eq_of_lt (by omega)
    have hnf : ng z = false := by unfold ng; simp; omega
    have hmul : floatBits .mul .f64 4607182418800017408 z = some z := by
      show Ieee.double.mul 4607182418800017408 z = some z
      rw [mul_exact 4607182418800017408 z z (by rw [s2]; decide) (by rw [hsf]; exact hz) hz (one_fact z (by rw [s2]) hsf)]
      rw [n2, hnf, word_eq]; simp
    have hrun := fun w => run_float_arith (P := Try.prog) w .mul 23 .f64 _ _ _ hmul
    clear hmul hvz hvf hTq hM hvr hfz h
    go_wp2
    go_ret
    exact ⟨rfl, rfl⟩
theorem Ldexp_any (y k z : Nat) (h0 : 0 < y) (hy : y < INF) (hz : z < INF) (h : vl z = vl y * 2 ^ k) (w : World) : Calls Try.prog 69 #[.float .f64 y, .int .i64 (k : Int)] w fun e w' => e = .returned (.float .f64 z) ∧ w' = w := by
  go_enter Try.func69, Try.ntmps69
  go_wp2_with fail
  refine (ldexp_any y k z h0 hy hz h _).mono ?_
  rintro e w' ⟨rfl, rfl⟩
  go_wp2
  go_ret
  exact ⟨rfl, rfl⟩
end Go.Proofs.Ytclahchmdcgdhaa
