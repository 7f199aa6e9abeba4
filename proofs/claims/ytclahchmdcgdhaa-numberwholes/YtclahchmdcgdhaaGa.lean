import Derived.Test.YtclahchmdcgdhaaFi
import Derived.Test.YtclahchmdcgdhaaMathc
namespace Go.Proofs.Ytclahchmdcgdhaa
open Go.RowKit FM
attribute [local go_sem] frombits_run bits_run neg_run

theorem integral_run (b : Nat) (w : World) (name : String) (way : Ieee.Toward) (d : Ieee.Datum) (h : FloatKind.f64.decode b = d) (hn : ∀ s t, d ≠ .nan s t) : (Extern.MathFloor.toIntegral name way #[.float .f64 b]).run Try.prog w = .ok (.float .f64 (FloatKind.f64.encode (d.integral way))) w := by
  unfold FloatKind.decode at h
  delta Extern.MathFloor.toIntegral Extern.MathFloor.toIntegral.match_2 FloatKind.decode
  dsimp only
  rw [dif_pos (show #[Value.float FloatKind.f64 b].size = 1 from rfl)]
  have e : (#[Value.float FloatKind.f64 b].getLit 0 (n := 1) rfl (by decide)) = .float .f64 b := rfl
  rw [e]
  dsimp only [Extern.MathFloor.toIntegral._sparseCasesOn_2, Extern.MathFloor.toIntegral._sparseCasesOn_3]
  rw [h]
  cases d with
  | number s m i => rfl
  | infinity s => rfl
  | nan s t => exact absurd rfl (hn s t)
theorem not_nan_read (b : Nat) (hb : isN b = false) (s : Bool) (t : Nat) : Ieee.double.read b ≠ .nan s t := by
  intro h
  have hs : sz b ≤ INF := by simpa [isN] using hb
  rcases Nat.lt_or_ge (sz b) INF with g | g
  · obtain ⟨m, k, e, _⟩ := read_fin b g
    rw [e] at h; cases h
  · rw [read_inf b (by omega)] at h; cases h
theorem archTrunc_run (b : Nat) (hb : isN b = false) (w : World) : (callFunc 59 #[.float .f64 b]).run Try.prog w = .ok (.value (.float .f64 (Ieee.double.write ((Ieee.double.read b).integral .zero)))) w := by
  rw [run_callFunc_extern Try.func59 (by kernel_rfl) (by kernel_rfl) (by kernel_rfl) (e := Extern.MathFloor.toIntegral "math.archTrunc" .zero) (by kernel_rfl)]
  rw [integral_run b w "math.archTrunc" .zero _ rfl (not_nan_read b hb)]
  rfl
theorem trunc_any (b : Nat) (hb : sz b < INF) (w : World) : Calls Try.prog 46 #[.float .f64 b] w fun e w' => ∃ ρ, e = .returned (.float .f64 (Ieee.double.word (ng b) ρ)) ∧ vl ρ = wh (sz b) * 2 ^ 1074 ∧ ρ ≤ sz b ∧ w' = w := by
  have hn : isN b = false := by unfold isN; simp; omega
  have hr := fun w => archTrunc_run b hn w
  obtain ⟨ρ, h1, h2, h3⟩ := trunc_fin b hb
  rw [h1] at hr
  have H2 : Hid (vl ρ = wh (sz b) * 2 ^ 1074) := ⟨h2⟩
  clear h1 h2
  go_enter Try.func46, Try.ntmps46
  go_wp2
  go_ret
  exact ⟨ρ, rfl, H2.it, h3, rfl⟩
theorem dvd_low (m k c : Nat) (h : k ≤ c) : 2 ^ c ∣ m * 2 ^ k ↔ 2 ^ (c - k) ∣ m := by
  have e : 2 ^ c = 2 ^ (c - k) * 2 ^ k := by rw [← Nat.pow_add, Nat.sub_add_cancel h]
  rw [e]
  exact Nat.mul_dvd_mul_iff_right (Nat.two_pow_pos k)
theorem div_low (m k c : Nat) (h : k ≤ c) : m * 2 ^ k / 2 ^ c = m / 2 ^ (c - k) := by
  have e : 2 ^ c = 2 ^ (c - k) * 2 ^ k := by rw [← Nat.pow_add, Nat.sub_add_cancel h]
  rw [e, Nat.mul_div_mul_right _ _ (Nat.two_pow_pos k)]
theorem dvd_high (m k c : Nat) (h : c ≤ k) : 2 ^ c ∣ m * 2 ^ k := Nat.dvd_trans (Nat.pow_dvd_pow 2 h) (Nat.dvd_mul_left _ _)
theorem div_high (m k c : Nat) (h : c ≤ k) : m * 2 ^ k / 2 ^ c = m * 2 ^ (k - c) := by
  have e : 2 ^ k = 2 ^ (k - c) * 2 ^ c := by rw [← Nat.pow_add, Nat.sub_add_cancel h]
  rw [e, ← Nat.mul_assoc, Nat.mul_div_cancel _ (Nat.two_pow_pos c)]
theorem wh_low (a : Nat) (h : pk a ≤ 1074) : wh a = pm a / 2 ^ (1074 - pk a) := by
  unfold wh; rw [vl_parts]; exact div_low (pm a) (pk a) 1074 h
theorem wh_high (a : Nat) (h : 1074 ≤ pk a) : wh a = pm a * 2 ^ (pk a - 1074) := by
  unfold wh; rw [vl_parts]; exact div_high (pm a) (pk a) 1074 h

/-- The whole part of a size, where it is below 2 to the 64. -/
theorem whole_all (x : Nat) (hx : x < 2 ^ 64) (hI : sz x ≤ INF) (w : World) : Calls Try.prog 43 #[.float .f64 x] w fun e w' => ∃ (n : Nat) (ok : Bool), e = .returned (.tuple #[.int .u64 (n : Int), .bool ok]) ∧ (ok = true → n = wh (sz x)) ∧ (ok = false → 18446744073709551616 ≤ wh (sz x) ∧ n = 0) ∧ n < 2 ^ 64 ∧ w' = w := by
  have HS := fun w => size_any x hx w
  have HP := fun w => parts_any (sz x) (sz_lt x) w
  have hk := pk_le (sz x) hI
  have hm := pm_lt (sz x)
  by_cases hA : 1074 ≤ pk (sz x)
  · have hwh := wh_high _ hA
    have hpm : 2 ^ 52 ≤ pm (sz x) := by
      unfold pk at hA; unfold pm
      split at hA
      · omega
      · rename_i h; rw [if_neg h]; omega
    generalize wh (sz x) = W at *
    generalize pm (sz x) = m at *
    generalize pk (sz x) = k at *
    have hA' : ¬ (-1074 + (k : Int) < 0) := by omega
    have hA2 : ¬ (-1074 + (k : Int) ≤ -64) := by omega
    by_cases hb : 11 < -1074 + (k : Int)
    · have hbig : 18446744073709551616 ≤ W := by
        rw [hwh]
        have h1 : 2 ^ 52 * 2 ^ 12 ≤ m * 2 ^ (k - 1074) := Nat.mul_le_mul hpm (Nat.pow_le_pow_right (by decide) (by omega))
        omega
      go_enter Try.func43, Try.ntmps43
      go_wp2_with fail
      refine (HS _).mono ?_
      rintro e w' ⟨rfl, rfl⟩
      go_wp2_with fail
      refine (HP _).mono ?_
      rintro e w' ⟨rfl, rfl⟩
      go_wp2
      go_ret2
      exact ⟨0, false, rfl, (fun h => by cases h), fun _ => ⟨hbig, rfl⟩, by decide, rfl⟩
    · have hlt : m * 2 ^ (k - 1074) < 2 ^ 64 := by
        have h1 : m * 2 ^ (k - 1074) ≤ m * 2 ^ 11 := Nat.mul_le_mul_left _ (Nat.pow_le_pow_right (by decide) (by omega))
        have h2 : m * 2 ^ 11 < 2 ^ 53 * 2 ^ 11 := Nat.mul_lt_mul_of_pos_right hm (by decide)
        have : (2 : Nat) ^ 53 * 2 ^ 11 = 2 ^ 64 := by decide
        omega
      have hq : IntKind.u64.wrap ((m : Int) * 2 ^ (-1074 + (k : Int)).toNat) = ((m * 2 ^ (k - 1074) : Nat) : Int) := by
        rw [show (-1074 + (k : Int)).toNat = k - 1074 by omega, IntKind.wrap_u64]
        have e2 : ((m * 2 ^ (k - 1074) : Nat) : Int) = (m : Int) * 2 ^ (k - 1074) := by simp
        rw [← e2]; omega
      rw [← hwh] at hq hlt
      clear hwh
      go_enter Try.func43, Try.ntmps43
      go_wp2_with fail
      refine (HS _).mono ?_
      rintro e w' ⟨rfl, rfl⟩
      go_wp2_with fail
      refine (HP _).mono ?_
      rintro e w' ⟨rfl, rfl⟩
      go_wp2
      go_ret2
      exact ⟨W, true, rfl, (fun _ => rfl), (fun h => by cases h), hlt, rfl⟩
  · have hwh := wh_low (sz x) (by omega)
    generalize wh (sz x) = W at *
    generalize pm (sz x) = m at *
    generalize pk (sz x) = k at *
    by_cases hd : 64 ≤ 1074 - k
    · have hW0 : W = 0 := by
        rw [hwh]
        have h2 : 2 ^ 64 ≤ 2 ^ (1074 - k) := Nat.pow_le_pow_right (by decide) hd
        exact Nat.div_eq_of_lt (by omega)
      have hd' : -1074 + (k : Int) ≤ -64 := by omega
      subst hW0
      clear hwh
      go_enter Try.func43, Try.ntmps43
      go_wp2_with fail
      refine (HS _).mono ?_
      rintro e w' ⟨rfl, rfl⟩
      go_wp2_with fail
      refine (HP _).mono ?_
      rintro e w' ⟨rfl, rfl⟩
      go_wp2
      go_ret2
      exact ⟨0, true, rfl, (fun _ => rfl), (fun h => by cases h), by decide, rfl⟩
    · have hd' : ¬ (-1074 + (k : Int) ≤ -64) := by omega
      have hd2 : -1074 + (k : Int) < 0 := by omega
      have hq : (m : Int) / 2 ^ (-(-1074 + (k : Int))).toNat = (W : Int) := by
        rw [show (-(-1074 + (k : Int))).toNat = 1074 - k by omega, hwh]; simp
      have hlt : W < 2 ^ 64 := by rw [hwh]; have := Nat.div_le_self m (2 ^ (1074 - k)); omega
      clear hwh
      go_enter Try.func43, Try.ntmps43
      go_wp2_with fail
      refine (HS _).mono ?_
      rintro e w' ⟨rfl, rfl⟩
      go_wp2_with fail
      refine (HP _).mono ?_
      rintro e w' ⟨rfl, rfl⟩
      go_wp2
      go_ret2
      exact ⟨W, true, rfl, (fun _ => rfl), (fun h => by cases h), hlt, rfl⟩
end Go.Proofs.Ytclahchmdcgdhaa
