import Derived.Test.YtclahchmdcgdhaaFd
namespace Go.Proofs.Ytclahchmdcgdhaa
open Go.RowKit FM
attribute [local go_sem] frombits_run bits_run

def fOf : Value → Nat
  | .float _ b => b
  | _ => 0
theorem ltz (x : Nat) : (FloatKind.f64.format.order x 0 == some .lt) = (!isN x && (ng x && decide (0 < sz x))) := by
  have h0 : isN 0 = false := by decide
  have p0 : pl 0 = 0 := by decide
  rw [fo, ltF, h0, p0, Bool.eq_iff_iff]
  unfold pl
  cases ng x <;> simp
theorem neg_run (b : Nat) : Op.unary .neg (.float .f64 b) = pure (.float .f64 (b ^^^ 9223372036854775808)) := rfl
theorem flip_neg (x : Nat) (h : x < 2 ^ 64) (hn : ng x = true) : x ^^^ 2 ^ 63 = sz x := by
  have e : x = 2 ^ 63 + sz x := by unfold ng at hn; unfold sz; simp at hn; omega
  have hs := sz_lt x
  have o : 2 ^ 63 + sz x = 2 ^ 63 ||| sz x := by
    have := Nat.two_pow_add_eq_or_of_lt (i := 63) (b := sz x) (by omega) 1
    simpa using this
  apply Nat.eq_of_testBit_eq
  intro i
  rw [Nat.testBit_xor]
  conv => lhs; rw [e, o]
  rw [Nat.testBit_or, Nat.testBit_two_pow]
  by_cases hi : 63 = i
  · subst hi; rw [Nat.testBit_lt_two_pow (x := sz x) (by omega)]; simp
  · simp [hi]
theorem flip_pos (r : Nat) (h : r < 2 ^ 63) : r ^^^ 2 ^ 63 = 2 ^ 63 + r := by
  have o : 2 ^ 63 + r = 2 ^ 63 ||| r := by
    have := Nat.two_pow_add_eq_or_of_lt (i := 63) (b := r) h 1
    simpa using this
  rw [o]
  apply Nat.eq_of_testBit_eq
  intro i
  rw [Nat.testBit_xor, Nat.testBit_or, Nat.testBit_two_pow]
  by_cases hi : 63 = i
  · subst hi; rw [Nat.testBit_lt_two_pow h]; simp
  · simp [hi]
attribute [local go_sem] neg_run

theorem fr_ex (Y : Nat) (h0 : 0 < Y) : ∃ fr ex, FR (vl Y) fr ex := by
  have hv := vl_pos h0
  have hlog := Nat.lt_log2_self (n := vl Y)
  have hlog2 := Nat.log2_self_le (n := vl Y) (by omega)
  by_cases hL : (vl Y).log2 ≤ 52
  · refine ⟨_, _, vl Y * 2 ^ (52 - (vl Y).log2), ?_, ?_, rfl, ?_, rfl⟩
    · have := Nat.mul_le_mul_right (2 ^ (52 - (vl Y).log2)) hlog2
      rwa [← Nat.pow_add, Nat.add_sub_cancel' hL] at this
    · have := Nat.mul_lt_mul_of_pos_right hlog (Nat.two_pow_pos (52 - (vl Y).log2))
      rwa [← Nat.pow_add, show (vl Y).log2 + 1 + (52 - (vl Y).log2) = 53 by omega] at this
    · rw [Nat.mul_assoc, ← Nat.pow_add, Nat.sub_add_cancel hL]
  · obtain ⟨q, hq⟩ := vl_dvd Y h0
    have e : 2 ^ (vl Y).log2 = 2 ^ ((vl Y).log2 - 52) * 2 ^ 52 := by rw [← Nat.pow_add]; congr 1; omega
    have e' : 2 ^ ((vl Y).log2 + 1) = 2 ^ ((vl Y).log2 - 52) * 2 ^ 53 := by rw [← Nat.pow_add]; congr 1; omega
    refine ⟨_, _, q, ?_, ?_, rfl, ?_, rfl⟩
    · have h1 := hlog2
      rw [e] at h1
      conv at h1 => rhs; rw [hq]
      exact Nat.le_of_mul_le_mul_left h1 (Nat.two_pow_pos _)
    · have h1 := hlog
      rw [e'] at h1
      conv at h1 => lhs; rw [hq]
      exact Nat.lt_of_mul_lt_mul_left h1
    · rw [e, ← Nat.mul_assoc, Nat.mul_comm q, ← hq]
theorem fr_uniq {v f1 f2 : Nat} {e1 e2 : Int} (h1 : FR v f1 e1) (h2 : FR v f2 e2) : f1 = f2 ∧ e1 = e2 := by
  obtain ⟨M, _, _, rfl, hM, rfl⟩ := h1
  obtain ⟨L, _, _, rfl, hL, rfl⟩ := h2
  have : M = L := Nat.eq_of_mul_eq_mul_right (Nat.two_pow_pos v.log2) (hM.trans hL.symm)
  exact ⟨by rw [this], rfl⟩
theorem mod_pos (x y Y : Nat) (hx64 : x < 2 ^ 64) (hy64 : y < 2 ^ 64) (hx : x < INF) (hY : sz y = Y) (hy0 : 0 < Y) (hyI : Y ≤ INF) (w : World) : Calls Try.prog 65 #[.float .f64 x, .float .f64 y] w fun e w' => ∃ ρ, e = .returned (.float .f64 ρ) ∧ vl ρ = vl x % vl Y ∧ ρ ≤ x ∧ w' = w := by
  have hI := INF_lt
  have hsx : sz x = x := Nat.mod_eq_of_lt (by omega)
  have hnx : ng x = false := by unfold ng; simp; omega
  have hyn : isN y = false := by unfold isN; rw [hY]; simp; omega
  have hxn : isN x = false := not_nan_fin hx
  have h1 : (FloatKind.f64.format.order y 0 == some .eq) = false := by
    rw [fo, eqF y 0 hy64 (by decide), hY]
    have a : Y ≠ 0 := by omega
    have b : y ≠ 0 := fun e => by rw [e] at hY; unfold sz at hY; simp at hY; omega
    simp [a, b]
  have h2 : decide (sz x = INF) = false := by rw [hsx]; simp; omega
  have h3 : (FloatKind.f64.format.order x 0 == some .lt) = false := by rw [ltz, hnx]; simp
  have HF : ∃ yfr yexp, (Y < INF → FR (vl Y) yfr yexp) ∧ ∀ w, Calls Try.prog 68 #[.float .f64 Y] w fun e w' => e = .returned (.tuple #[.float .f64 yfr, .int .i64 yexp]) ∧ w' = w := by
    by_cases h : Y < INF
    · obtain ⟨fr, ex, hf⟩ := fr_ex Y hy0
      refine ⟨fr, ex, fun _ => hf, fun w => (Frexp_any Y hy0 h w).mono ?_⟩
      rintro e w' ⟨fr', ex', rfl, hf', rfl⟩
      obtain ⟨rfl, rfl⟩ := fr_uniq hf hf'
      exact ⟨rfl, rfl⟩
    · exact ⟨Y, 0, fun g => absurd g h, fun w => Frexp_inf Y (by omega) w⟩
  obtain ⟨yfr, yexp, hFR, HF⟩ := HF
  have hvx : vl x < vl INF := vl_mono hx
  go_enter Try.func65, Try.ntmps65
  go_wp2_with fail
  refine (isinf_any x hx64 _).mono ?_
  rintro e w' ⟨rfl, rfl⟩
  rw [h2]
  go_wp2_with fail
  refine (isnan_any x _).mono ?_
  rintro e w' ⟨rfl, rfl⟩
  rw [hxn]
  go_wp2_with fail
  refine (isnan_any y _).mono ?_
  rintro e w' ⟨rfl, rfl⟩
  rw [hyn]
  go_wp2_with fail
  refine (abs_any y hy64 _).mono ?_
  rintro e w' ⟨rfl, rfl⟩
  rw [hY]
  go_wp2_with fail
  refine (HF _).mono ?_
  rintro e w1 ⟨rfl, rfl⟩
  go_wp2
  go_loopw [7] (fun rv wr => ∃ r : Nat, rv = .float .f64 r ∧ r ≤ x ∧ vl r % vl Y = vl x % vl Y ∧ wr = w1) (fun rv _ => fOf rv)
  case atStart => exact ⟨x, rfl, Nat.le_refl _, rfl, rfl⟩
  case round =>
    obtain ⟨r, rfl, hrx, hmod, rfl⟩ := hrel
    have hg := geq_nat (r := r) (Y := Y) (by omega) hyI
    by_cases hle : Y ≤ r
    · have hg' : (FloatKind.f64.format.order r Y == some .gt || FloatKind.f64.format.order r Y == some .eq) = true := by rw [hg]; simpa using hle
      clear hg
      go_wp2_with fail
      refine (Frexp_any r (by omega) (by omega) _).mono ?_
      rintro e w' ⟨rfr, rexp, rfl, hfr, rfl⟩
      have hYI : Y < INF := by omega
      obtain ⟨k, z, d, hk, hz, hzr, hz0, hvz, hvd⟩ := step_k hy0 (by omega) hle hfr (hFR hYI)
      obtain ⟨M, hM1, hM2, hMe, _, hex⟩ := id hfr
      obtain ⟨M', hM1', hM2', hMe', _, hex'⟩ := id (hFR hYI)
      have hlog1 : (vl r).log2 ≤ 2097 := by
        have h1 : vl r < 2 ^ 2098 := by rw [← vl_INF]; exact vl_mono (by omega)
        have := (Nat.log2_lt (by have := vl_pos (r := r) (by omega); omega)).2 h1
        omega
      have hlog2 : (vl Y).log2 ≤ 2097 := by
        have h1 : vl Y < 2 ^ 2098 := by rw [← vl_INF]; exact vl_mono hYI
        have := (Nat.log2_lt (by have := vl_pos hy0; omega)).2 h1
        omega
      have hb1 : -1073 ≤ rexp ∧ rexp ≤ 1024 := by omega
      have hb2 : -1073 ≤ yexp ∧ yexp ≤ 1024 := by omega
      have hc := lt_nat (r := rfr) (Y := yfr) (by unfold INF; omega) (by unfold INF; omega)
      have hsub : floatBits .sub .f64 r z = some d := sub_exact r z d (by omega) hz hzr hvd
      have hrun := fun w => run_float_arith (P := Try.prog) w .sub 23 .f64 _ _ _ hsub
      have HL := fun w => Ldexp_any Y k z hy0 hYI hz hvz w
      have hvzp : 0 < vl z := vl_pos hz0
      have hvzr : vl z ≤ vl r := vl_le.2 hzr
      have hdr : d < r := vl_lt_iff.1 (by omega)
      have hdm : vl d % vl Y = vl x % vl Y := by
        rw [← hmod, hvd, hvz]
        rw [hvz] at hvzr
        have : vl r = vl r - vl Y * 2 ^ k + vl Y * 2 ^ k := by omega
        conv => rhs; rw [this]
        rw [Nat.add_mul_mod_self_left]
      clear hsub hvd hvz hMe hMe' hfr hex hex' hM1 hM2 hM1' hM2'
      by_cases hlt : rfr < yfr
      · rw [if_pos hlt] at hk
        have hc' : (FloatKind.f64.format.order rfr yfr == some .lt) = true := by rw [hc]; simpa using hlt
        clear hc
        go_wp2_with fail
        refine (HL _).mono ?_
        rintro e w' ⟨rfl, rfl⟩
        go_wp2
        go_roundw
        case rel => exact ⟨d, rfl, by omega, hdm, trivial⟩
        exact hdr
      · rw [if_neg hlt] at hk
        have hc' : (FloatKind.f64.format.order rfr yfr == some .lt) = false := by rw [hc]; simpa using hlt
        clear hc
        go_wp2_with fail
        refine (HL _).mono ?_
        rintro e w' ⟨rfl, rfl⟩
        go_wp2
        go_roundw
        case rel => exact ⟨d, rfl, by omega, hdm, trivial⟩
        exact hdr
    · have hg' : (FloatKind.f64.format.order r Y == some .gt || FloatKind.f64.format.order r Y == some .eq) = false := by rw [hg]; simpa using hle
      clear hg
      go_wp2
      go_ret
      exact ⟨r, rfl, by rw [← hmod, Nat.mod_eq_of_lt (vl_mono (by omega))], hrx, rfl⟩
theorem mod_neg (u x y Y : Nat) (hx64 : u < 2 ^ 64) (hux : sz u = x) (hun : ng u = true) (hu0 : 0 < x) (hy64 : y < 2 ^ 64) (hx : x < INF) (hY : sz y = Y) (hy0 : 0 < Y) (hyI : Y ≤ INF) (w : World) : Calls Try.prog 65 #[.float .f64 u, .float .f64 y] w fun e w' => ∃ ρ, e = .returned (.float .f64 (2 ^ 63 + ρ)) ∧ vl ρ = vl x % vl Y ∧ ρ ≤ x ∧ w' = w := by
  have hI := INF_lt
  have hyn : isN y = false := by unfold isN; rw [hY]; simp; omega
  have hxn : isN u = false := by unfold isN; rw [hux]; simp; omega
  have h1 : (FloatKind.f64.format.order y 0 == some .eq) = false := by
    rw [fo, eqF y 0 hy64 (by decide), hY]
    have a : Y ≠ 0 := by omega
    have b : y ≠ 0 := fun e => by rw [e] at hY; unfold sz at hY; simp at hY; omega
    simp [a, b]
  have h2 : decide (sz u = INF) = false := by rw [hux]; simp; omega
  have h3 : (FloatKind.f64.format.order u 0 == some .lt) = true := by rw [ltz, hun, hxn, hux]; simpa using hu0
  have hfl := flip_neg u hx64 hun
  rw [hux, show (2 ^ 63 : Nat) = 9223372036854775808 from rfl] at hfl
  have hfp : ∀ r, r ≤ x → r ^^^ 9223372036854775808 = 2 ^ 63 + r := fun r hr => flip_pos r (by omega)
  have HF : ∃ yfr yexp, (Y < INF → FR (vl Y) yfr yexp) ∧ ∀ w, Calls Try.prog 68 #[.float .f64 Y] w fun e w' => e = .returned (.tuple #[.float .f64 yfr, .int .i64 yexp]) ∧ w' = w := by
    by_cases h : Y < INF
    · obtain ⟨fr, ex, hf⟩ := fr_ex Y hy0
      refine ⟨fr, ex, fun _ => hf, fun w => (Frexp_any Y hy0 h w).mono ?_⟩
      rintro e w' ⟨fr', ex', rfl, hf', rfl⟩
      obtain ⟨rfl, rfl⟩ := fr_uniq hf hf'
      exact ⟨rfl, rfl⟩
    · exact ⟨Y, 0, fun g => absurd g h, fun w => Frexp_inf Y (by omega) w⟩
  obtain ⟨yfr, yexp, hFR, HF⟩ := HF
  have hvx : vl x < vl INF := vl_mono hx
  go_enter Try.func65, Try.ntmps65
  go_wp2_with fail
  refine (isinf_any u hx64 _).mono ?_
  rintro e w' ⟨rfl, rfl⟩
  rw [h2]
  go_wp2_with fail
  refine (isnan_any u _).mono ?_
  rintro e w' ⟨rfl, rfl⟩
  rw [hxn]
  go_wp2_with fail
  refine (isnan_any y _).mono ?_
  rintro e w' ⟨rfl, rfl⟩
  rw [hyn]
  go_wp2_with fail
  refine (abs_any y hy64 _).mono ?_
  rintro e w' ⟨rfl, rfl⟩
  rw [hY]
  go_wp2_with fail
  refine (HF _).mono ?_
  rintro e w1 ⟨rfl, rfl⟩
  go_wp2
  go_loopw [7] (fun rv wr => ∃ r : Nat, rv = .float .f64 r ∧ r ≤ x ∧ vl r % vl Y = vl x % vl Y ∧ wr = w1) (fun rv _ => fOf rv)
  case atStart => exact ⟨x, rfl, Nat.le_refl _, rfl, rfl⟩
  case round =>
    obtain ⟨r, rfl, hrx, hmod, rfl⟩ := hrel
    have hg := geq_nat (r := r) (Y := Y) (by omega) hyI
    by_cases hle : Y ≤ r
    · have hg' : (FloatKind.f64.format.order r Y == some .gt || FloatKind.f64.format.order r Y == some .eq) = true := by rw [hg]; simpa using hle
      clear hg
      go_wp2_with fail
      refine (Frexp_any r (by omega) (by omega) _).mono ?_
      rintro e w' ⟨rfr, rexp, rfl, hfr, rfl⟩
      have hYI : Y < INF := by omega
      obtain ⟨k, z, d, hk, hz, hzr, hz0, hvz, hvd⟩ := step_k hy0 (by omega) hle hfr (hFR hYI)
      obtain ⟨M, hM1, hM2, hMe, _, hex⟩ := id hfr
      obtain ⟨M', hM1', hM2', hMe', _, hex'⟩ := id (hFR hYI)
      have hlog1 : (vl r).log2 ≤ 2097 := by
        have h1 : vl r < 2 ^ 2098 := by rw [← vl_INF]; exact vl_mono (by omega)
        have := (Nat.log2_lt (by have := vl_pos (r := r) (by omega); omega)).2 h1
        omega
      have hlog2 : (vl Y).log2 ≤ 2097 := by
        have h1 : vl Y < 2 ^ 2098 := by rw [← vl_INF]; exact vl_mono hYI
        have := (Nat.log2_lt (by have := vl_pos hy0; omega)).2 h1
        omega
      have hb1 : -1073 ≤ rexp ∧ rexp ≤ 1024 := by omega
      have hb2 : -1073 ≤ yexp ∧ yexp ≤ 1024 := by omega
      have hc := lt_nat (r := rfr) (Y := yfr) (by unfold INF; omega) (by unfold INF; omega)
      have hsub : floatBits .sub .f64 r z = some d := sub_exact r z d (by omega) hz hzr hvd
      have hrun := fun w => run_float_arith (P := Try.prog) w .sub 23 .f64 _ _ _ hsub
      have HL := fun w => Ldexp_any Y k z hy0 hYI hz hvz w
      have hvzp : 0 < vl z := vl_pos hz0
      have hvzr : vl z ≤ vl r := vl_le.2 hzr
      have hdr : d < r := vl_lt_iff.1 (by omega)
      have hdm : vl d % vl Y = vl x % vl Y := by
        rw [← hmod, hvd, hvz]
        rw [hvz] at hvzr
        have : vl r = vl r - vl Y * 2 ^ k + vl Y * 2 ^ k := by omega
        conv => rhs; rw [this]
        rw [Nat.add_mul_mod_self_left]
      clear hsub hvd hvz hMe hMe' hfr hex hex' hM1 hM2 hM1' hM2'
      by_cases hlt : rfr < yfr
      · rw [if_pos hlt] at hk
        have hc' : (FloatKind.f64.format.order rfr yfr == some .lt) = true := by rw [hc]; simpa using hlt
        clear hc
        go_wp2_with fail
        refine (HL _).mono ?_
        rintro e w' ⟨rfl, rfl⟩
        go_wp2
        go_roundw
        case rel => exact ⟨d, rfl, by omega, hdm, trivial⟩
        exact hdr
      · rw [if_neg hlt] at hk
        have hc' : (FloatKind.f64.format.order rfr yfr == some .lt) = false := by rw [hc]; simpa using hlt
        clear hc
        go_wp2_with fail
        refine (HL _).mono ?_
        rintro e w' ⟨rfl, rfl⟩
        go_wp2
        go_roundw
        case rel => exact ⟨d, rfl, by omega, hdm, trivial⟩
        exact hdr
    · have hg' : (FloatKind.f64.format.order r Y == some .gt || FloatKind.f64.format.order r Y == some .eq) = false := by rw [hg]; simpa using hle
      clear hg
      go_wp2
      go_ret
      exact ⟨r, rf rfl, by rw [← hmod, Nat.mod_eq_of_lt (vl_mono (by omega))], hrx, rfl⟩
/-- Of a nought below nought. -/
theorem mod_nought (u y Y : Nat) (hx64 : u < 2 ^ 64) (hux : sz u = 0) (hy64 : y < 2 ^ 64) (hY : sz y = Y) (hy0 : 0 < Y) (hyI : Y ≤ INF) (w : World) : Calls Try.prog 65 #[.float .f64 u, .float .f64 y] w fun e w' => e = .returned (.float .f64 u) ∧ w' = w := by
  have hI := INF_lt
  have hyn : isN y = false := by unfold isN; rw [hY]; simp; omega
  have hxn : isN u = false := sz0_nan hux
  have h1 : (FloatKind.f64.format.order y 0 == some .eq) = false := by
    rw [fo, eqF y 0 hy64 (by decide), hY]
    have a : Y ≠ 0 := by omega
    have b : y ≠ 0 := fun e => by rw [e] at hY; unfold sz at hY; simp at hY; omega
    simp [a, b]
  have h2 : decide (sz u = INF) = false := by rw [hux]; decide
  have h3 : (FloatKind.f64.format.order u 0 == some .lt) = false := by rw [ltz, hux]; simp
  have h4 : (FloatKind.f64.format.order u Y == some .gt || FloatKind.f64.format.order u Y == some .eq) = false := by
    obtain ⟨s2, _, i2, p2⟩ := nat_facts hyI
    have pu : pl u = 0 := by unfold pl; rw [hux]; simp
    have : ¬ u = Y := fun e => by rw [e] at hux; omega
    have h5 : Y ≠ 0 := by omega
    rw [fo, gtF, eqF u Y hx64 (by omega), s2, i2, p2, pu, hxn]
    simp [this, h5]
  have HF : ∃ yfr yexp, (Y < INF → FR (vl Y) yfr yexp) ∧ ∀ w, Calls Try.prog 68 #[.float .f64 Y] w fun e w' => e = .returned (.tuple #[.float .f64 yfr, .int .i64 yexp]) ∧ w' = w := by
    by_cases h : Y < INF
    · obtain ⟨fr, ex, hf⟩ := fr_ex Y hy0
      refine ⟨fr, ex, fun _ => hf, fun w => (Frexp_any Y hy0 h w).mono ?_⟩
      rintro e w' ⟨fr', ex', rfl, hf', rfl⟩
      obtain ⟨rfl, rfl⟩ := fr_uniq hf hf'
      exact ⟨rfl, rfl⟩
    · exact ⟨Y, 0, fun g => absurd g h, fun w => Frexp_inf Y (by omega) w⟩
  obtain ⟨yfr, yexp, hFR, HF⟩ := HF
  go_enter Try.func65, Try.ntmps65
  go_wp2_with fail
  refine (isinf_any u hx64 _).mono ?_
  rintro e w' ⟨rfl, rfl⟩
  rw [h2]
  go_wp2_with fail
  refine (isnan_any u _).mono ?_
  rintro e w' ⟨rfl, rfl⟩
  rw [hxn]
  go_wp2_with fail
  refine (isnan_any y _).mono ?_
  rintro e w' ⟨rfl, rfl⟩
  rw [hyn]
  go_wp2_with fail
  refine (abs_any y hy64 _).mono ?_
  rintro e w' ⟨rfl, rfl⟩
  rw [hY]
  go_wp2_with fail
  refine (HF _).mono ?_
  rintro e w1 ⟨rfl, rfl⟩
  go_wp2
  go_loopw [7] (fun rv wr => rv = .float .f64 u ∧ wr = w1) (fun _ _ => 0)
  case atStart => exact ⟨rfl, rfl⟩
  case round =>
    obtain ⟨rfl, rfl⟩ := hrel
    go_wp2
    go_ret
    exact ⟨rfl, rfl⟩
end Go.Proofs.Ytclahchmdcgdhaa
