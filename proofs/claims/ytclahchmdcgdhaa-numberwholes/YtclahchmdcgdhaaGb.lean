import Derived.Test.YtclahchmdcgdhaaGa
namespace Go.Proofs.Ytclahchmdcgdhaa
open Go.RowKit FM
attribute [local go_sem] frombits_run bits_run neg_run

theorem wh_INF : vl INF = wh INF * 2 ^ 1074 := by decide +kernel
theorem trunc_all (b : Nat) (h : sz b ≤ INF) (w : World) : Calls Try.prog 46 #[.float .f64 b] w fun e w' => ∃ ρ, e = .returned (.float .f64 (Ieee.double.word (ng b) ρ)) ∧ vl ρ = wh (sz b) * 2 ^ 1074 ∧ ρ ≤ sz b ∧ w' = w := by
  by_cases hI : sz b < INF
  · exact trunc_any b hI w
  · have hi : sz b = INF := by omega
    have hn : isN b = false := by unfold isN; simp; omega
    have hr := fun w => archTrunc_run b hn w
    have e : Ieee.double.write ((Ieee.double.read b).integral .zero) = Ieee.double.word (ng b) INF := by
      rw [read_inf b hi]
      show Ieee.double.word (ng b) Ieee.double.infRung = _
      rw [infD]
    rw [e] at hr
    rw [hi]
    have HW : Hid (vl INF = wh INF * 2 ^ 1074) := ⟨wh_INF⟩
    generalize INF = I at *
    clear e h hI hi hn
    go_enter Try.func46, Try.ntmps46
    go_wp2
    go_ret
    exact ⟨I, rfl, HW.it, Nat.le_refl _, rfl⟩
/-- What Integer answers. -/
def IntP (x z : Nat) : Prop := if isN x = true ∨ wh (sz x) = 0 then z = 0 else ∃ ρ, z = Ieee.double.word (ng x) ρ ∧ vl ρ = wh (sz x) * 2 ^ 1074 ∧ ρ ≤ sz x
theorem intP_uniq {x a b : Nat} (h1 : IntP x a) (h2 : IntP x b) : a = b := by
  unfold IntP at h1 h2
  by_cases h : isN x = true ∨ wh (sz x) = 0
  · rw [if_pos h] at h1 h2; rw [h1, h2]
  · rw [if_neg h] at h1 h2
    obtain ⟨r, rfl, hr, _⟩ := h1
    obtain ⟨q, rfl, hq, _⟩ := h2
    rw [vl_inj.1 (hr.trans hq.symm)]
theorem intP_lt {x a : Nat} (h1 : IntP x a) : a < 2 ^ 64 := by
  unfold IntP at h1
  split at h1
  · omega
  · obtain ⟨r, rfl, _, hr⟩ := h1
    have := sz_lt x
    rw [word_eq]; split <;> omega
theorem wh_lt_gen (v c : Nat) : v < 2 ^ c ↔ v / 2 ^ c = 0 := by
  rw [Nat.div_eq_zero_iff_lt (Nat.two_pow_pos c)]
theorem wh_zero (r : Nat) : r < 4607182418800017408 ↔ wh r = 0 := by
  rw [← vl_lt_iff, vl_one]
  exact wh_lt_gen (vl r) 1074
theorem integer_any (x : Nat) (hx : x < 2 ^ 64) (w : World) : Calls Try.prog 11 #[.float .f64 x] w fun e w' => ∃ z, e = .returned (.float .f64 z) ∧ IntP x z ∧ w' = w := by
  have HN := fun w => isnan_any x w
  have HA := fun w => abs_any x hx w
  cases hn : isN x
  · have hI : sz x ≤ INF := by simpa [isN] using hn
    have hle : sz x ≤ 9218868437227405312 := hI
    have hcmp : (FloatKind.f64.format.order (sz x) 4607182418800017408 == some .lt) = decide (sz x < 4607182418800017408) := lt_nat hI (by decide)
    rw [hn] at HN
    by_cases h1 : sz x < 4607182418800017408
    · have hc : (FloatKind.f64.format.order (sz x) 4607182418800017408 == some .lt) = true := by rw [hcmp]; simpa using h1
      have hP : Hid (IntP x 0) := ⟨by unfold IntP; rw [if_pos (.inr ((wh_zero _).1 h1))]⟩
      clear hcmp h1 hI hle
      go_enter Try.func11, Try.ntmps11
      go_wp2_with fail
      refine (HN _).mono ?_
      rintro e w' ⟨rfl, rfl⟩
      go_wp2_with fail
      refine (HA _).mono ?_
      rintro e w' ⟨rfl, rfl⟩
      go_wp2
      go_ret
      exact ⟨0, rfl, hP.it, rfl⟩
    · have hc : (FloatKind.f64.format.order (sz x) 4607182418800017408 == some .lt) = false := by rw [hcmp]; simpa using h1
      have HT := fun w => trunc_all x hI w
      have hP : Hid (¬ (isN x = true ∨ wh (sz x) = 0)) := ⟨by
        rw [hn]; simp only [Bool.false_eq_true, false_or]
        intro h; exact h1 ((wh_zero _).2 h)⟩
      clear hcmp h1 hI hle
      go_enter Try.func11, Try.ntmps11
      go_wp2_with fail
      refine (HN _).mono ?_
      rintro e w' ⟨rfl, rfl⟩
      go_wp2_with fail
      refine (HA _).mono ?_
      rintro e w' ⟨rfl, rfl⟩
      go_wp2_with fail
      refine (HT _).mono ?_
      rintro e w' ⟨ρ, rfl, hv, hρ, rfl⟩
      have HV : Hid (vl ρ = wh (sz x) * 2 ^ 1074 ∧ ρ ≤ sz x) := ⟨hv, hρ⟩
      clear hv hρ
      go_wp2
      go_ret
      exact ⟨_, rfl, by unfold IntP; rw [if_neg hP.it]; exact ⟨ρ, rfl, HV.it.1, HV.it.2⟩, rfl⟩
  · rw [hn] at HN
    go_enter Try.func11, Try.ntmps11
    go_wp2_with fail
    refine (HN _).mono ?_
    rintro e w' ⟨rfl, rfl⟩
    go_wp2
    go_ret
    exact ⟨0, rfl, by unfold IntP; rw [if_pos (.inl hn)], rfl⟩
end Go.Proofs.Ytclahchmdcgdhaa
