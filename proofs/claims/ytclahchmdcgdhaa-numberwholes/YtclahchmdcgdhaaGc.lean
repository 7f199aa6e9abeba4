import Derived.Test.YtclahchmdcgdhaaGb
namespace Go.Proofs.Ytclahchmdcgdhaa
open Go.RowKit FM
attribute [local go_sem] frombits_run bits_run neg_run

theorem whole_gen (v c : Nat) (h : 2 ^ c ∣ v) : v = v / 2 ^ c * 2 ^ c := (Nat.div_mul_cancel h).symm
theorem high_whole (a : Nat) (h : 1074 ≤ pk a) : vl a = wh a * 2 ^ 1074 :=
  whole_gen (vl a) 1074 (by rw [vl_parts]; exact dvd_high (pm a) (pk a) 1074 h)
theorem high_pos (a : Nat) (h : 1074 ≤ pk a) : wh a ≠ 0 := by
  rw [wh_high a h]
  have hp : 0 < pm a := pm_pos a (by unfold pk at h; split at h <;> omega)
  exact Nat.ne_of_gt (Nat.mul_pos hp (Nat.two_pow_pos _))
theorem refInteger_any (x : Nat) (hx : x < 2 ^ 64) (w : World) : Calls Try.prog 12 #[.float .f64 x] w fun e w' => ∃ z, e = .returned (.float .f64 z) ∧ IntP x z ∧ w' = w := by
  have HN := fun w => nan_any x hx w
  have HS := fun w => size_any x hx w
  have HP := fun w => parts_any (sz x) (sz_lt x) w
  cases hn : isN x
  · rw [hn] at HN
    have hI : sz x ≤ INF := by simpa [isN] using hn
    have hk := pk_le (sz x) hI
    have hm := pm_lt (sz x)
    by_cases hA : 1074 ≤ pk (sz x)
    · have hP : Hid (IntP x x) := ⟨by
        unfold IntP
        rw [if_neg (by rw [hn]; simp only [Bool.false_eq_true, false_or]; exact high_pos _ hA)]
        exact ⟨sz x, (word_sz x hx).symm, high_whole _ hA, Nat.le_refl _⟩⟩
      generalize pm (sz x) = m at *
      generalize pk (sz x) = k at *
      have hA' : (0 : Int) ≤ -1074 + (k : Int) := by omega
      clear hI
      go_enter Try.func12, Try.ntmps12
      go_wp2_with fail
      refine (HN _).mono ?_
      rintro e w' ⟨rfl, rfl⟩
      go_wp2_with fail
      refine (HS _).mono ?_
      rintro e w' ⟨rfl, rfl⟩
      go_wp2_with fail
      refine (HP _).mono ?_
      rintro e w' ⟨rfl, rfl⟩
      go_wp2
      go_ret
      exact ⟨x, rfl, hP.it, rfl⟩
    · have HW := fun w => whole_all x hx hI w
      have hwl := wh_low (sz x) (by omega)
      have hwlt : wh (sz x) < 2 ^ 53 := by rw [hwl]; have := Nat.div_le_self (pm (sz x)) (2 ^ (1074 - pk (sz x))); omega
      have hm0 : pm (sz x) = 0 → wh (sz x) = 0 := fun h => by rw [hwl, h]; simp
      have HNG := fun w => negative_any x hx w
      have hPz : Hid (wh (sz x) = 0 → IntP x 0) := ⟨fun h => by unfold IntP; rw [if_pos (.inr h)]⟩
      have hPn : Hid (∀ ρ, wh (sz x) ≠ 0 → vl ρ = wh (sz x) * 2 ^ 1074 → IntP x (Ieee.double.word (ng x) ρ)) := ⟨fun ρ h hv => by
        unfold IntP
        rw [if_neg (by rw [hn]; simp only [Bool.false_eq_true, false_or]; exact h)]
        refine ⟨ρ, rfl, hv, vl_le.1 ?_⟩
        rw [hv]; exact Nat.div_mul_le_self _ _⟩
      generalize wh (sz x) = V at *
      generalize pm (sz x) = m at *
      generalize pk (sz x) = k at *
      have hA' : ¬ ((0 : Int) ≤ -1074 + (k : Int)) := by omega
      clear hwl hI
      go_enter Try.func12, Try.ntmps12
      go_wp2_with fail
      refine (HN _).mono ?_
      rintro e w' ⟨rfl, rfl⟩
      go_wp2_with fail
      refine (HS _).mono ?_
      rintro e w' ⟨rfl, rfl⟩
      go_wp2_with fail
      refine (HP _).mono ?_
      rintro e w' ⟨rfl, rfl⟩
      go_wp2_with fail
      refine (HW _).mono ?_
      rintro e w' ⟨n, ok, rfl, hk1, hk2, hn64, rfl⟩
      have hok : ok = true := by
        cases ok
        · have := (hk2 rfl).1; omega
        · rfl
      have hnV : n = V := hk1 hok
      subst hok hnV
      clear hk1 hk2
      by_cases h0 : n = 0
      · have hz := hPz.it h0
        have HZ : Hid (IntP x 0) := ⟨hz⟩
        subst h0
        clear hz hPz hPn hm0
        go_wp2
        go_ret
        exact ⟨0, rfl, HZ.it, rfl⟩
      · have h0' : ((n : Int) == 0) = false := by simpa using h0
        have hm1 : ((m : Int) == 0) = false := by
          have : m ≠ 0 := fun e => h0 (hm0 e)
          simpa using this
        have HK := fun w => pack_any n 1074 (ng x) (by omega) (by omega) w
        have H0 : Hid (n ≠ 0) := ⟨h0⟩
        clear hm0 h0
        go_wp2_with fail
        refine (HNG _).mono ?_
        rintro e w' ⟨rfl, rfl⟩
        go_wp2_with fail
        refine (HK _).mono ?_
        rintro e w' ⟨ρ, rfl, hv, hρ, rfl⟩
        have HV : Hid (IntP x (Ieee.double.word (ng x) ρ)) := ⟨hPn.it ρ H0.it hv⟩
        clear hv hρ
        go_wp2
        go_ret
        exact ⟨_, rfl, HV.it, rfl⟩
  · rw [hn] at HN
    go_enter Try.func12, Try.ntmps12
    go_wp2_with fail
    refine (HN _).mono ?_
    rintro e w' ⟨rfl, rfl⟩
    go_wp2
    go_ret
    exact ⟨0, rfl, by unfold IntP; rw [if_pos (.inl hn)], rfl⟩
end Go.Proofs.Ytclahchmdcgdhaa
