import Derived.Test.YtclahchmdcgdhaaDoorRd
namespace Go.Proofs.YtclahchmdcgdhaaDoor
open Go.RowKit FM
attribute [local go_sem] frombits_run bits_run

theorem dvd_low (m k c : Nat) (h : k ≤ c) : 2 ^ c ∣ m * 2 ^ k ↔ 2 ^ (c - k) ∣ m := by
  have e : 2 ^ c = 2 ^ (c - k) * 2 ^ k := by rw [← Nat.pow_add, Nat.sub_add_cancel h]
  rw [e]
  exact Nat.mul_dvd_mul_iff_right (Nat.two_pow_pos k)
theorem div_low (m k c : Nat) (h : k ≤ c) : m * 2 ^ k / 2 ^ c = m / 2 ^ (c - k) := by
  have e : 2 ^ c = 2 ^ (c - k) * 2 ^ k := by rw [← Nat.pow_add, Nat.sub_add_cancel h]
  rw [e, Nat.mul_div_mul_right _ _ (Nat.two_pow_pos k)]
theorem dvd_high (m k c : Nat) (h : c ≤ k) : 2 ^ c ∣ m * 2 ^ k := Nat.dvd_trans (Nat.pow_dvd_pow 2 h) (Nat.dvd_mul_left _ _)
theorem div_high (m k c : Nat) (h : c ≤ k) : m * 2 ^ k / 2 ^ c = m * 2 ^ (k - c) := by
  have e : 2 ^ k = 2 ^ (k - c) * 2 ^ c := by rw [← Nat.pow_add, Nat.sub_add_cancel h]
  rw [e, ← Nat.mul_assoc, Nat.mul_div_cancel _ (Nat.two_pow_pos c)]
theorem wh_low (a : Nat) (h : pk a ≤ 1074) : wh a = pm a / 2 ^ (1074 - pk a) := by
  unfold wh; rw [vl_parts]; exact div_low (pm a) (pk a) 1074 h
theorem wh_high (a : Nat) (h : 1074 ≤ pk a) : wh a = pm a * 2 ^ (pk a - 1074) := by
  unfold wh; rw [vl_parts]; exact div_high (pm a) (pk a) 1074 h
theorem is_low (a : Nat) (h : pk a ≤ 1074) : decide (2 ^ 1074 ∣ vl a) = decide (2 ^ (1074 - pk a) ∣ pm a) := by
  rw [vl_parts, decide_eq_decide]; exact dvd_low (pm a) (pk a) 1074 h
theorem is_high (a : Nat) (h : 1074 ≤ pk a) : decide (2 ^ 1074 ∣ vl a) = true := by
  rw [vl_parts, decide_eq_true_eq]; exact dvd_high (pm a) (pk a) 1074 h
theorem far_dvd (m d : Nat) (hm : m < 2 ^ 53) (h0 : m ≠ 0) (hd : 64 ≤ d) : decide (2 ^ d ∣ m) = false := by
  rw [decide_eq_false_iff_not]
  intro h
  have h1 := Nat.le_of_dvd (by omega) h
  have h2 : 2 ^ 64 ≤ 2 ^ d := Nat.pow_le_pow_right (by decide) hd
  have : (2 : Nat) ^ 53 ≤ 2 ^ 64 := by decide
  omega
theorem near_dvd (m d : Nat) : decide (2 ^ d ∣ m) = decide (m / 2 ^ d * 2 ^ d = m) := by
  rw [decide_eq_decide]
  constructor
  · intro h; exact Nat.div_mul_cancel h
  · intro h; rw [← h]; exact Nat.dvd_mul_left _ _

theorem isWhole_any (x : Nat) (hx : x < 2 ^ 64) (hI : sz x < INF) (w : World) : Calls Tryd.prog 12 #[.float .f64 x] w fun e w' => e = .returned (.bool (decide (2 ^ 1074 ∣ vl (sz x)))) ∧ w' = w := by
  have HS := fun w => size_any x hx w
  have HP := fun w => parts_any (sz x) (sz_lt x) w
  have hk := pk_lt (sz x) hI
  have hm := pm_lt (sz x)
  by_cases hA : 1074 ≤ pk (sz x)
  · rw [is_high _ hA]
    generalize pm (sz x) = m at *
    generalize pk (sz x) = k at *
    have hA' : (0 : Int) ≤ -1074 + (k : Int) := by omega
    go_enter Tryd.func12, Tryd.ntmps12
    go_wp2_with fail
    refine (HS _).mono ?_
    rintro e w' ⟨rfl, rfl⟩
    go_wp2_with fail
    refine (HP _).mono ?_
    rintro e w' ⟨rfl, rfl⟩
    go_wp2
    go_ret
    exact ⟨rfl, rfl⟩
  · rw [is_low _ (by omega)]
    generalize pm (sz x) = m at *
    generalize pk (sz x) = k at *
    have hA' : ¬ ((0 : Int) ≤ -1074 + (k : Int)) := by omega
    by_cases h0 : m = 0
    · subst h0
      have e : decide (2 ^ (1074 - k) ∣ 0) = true := by simp
      rw [e]
      go_enter Tryd.func12, Tryd.ntmps12
      go_wp2_with fail
      refine (HS _).mono ?_
      rintro e w' ⟨rfl, rfl⟩
      go_wp2_with fail
      refine (HP _).mono ?_
      rintro e w' ⟨rfl, rfl⟩
      go_wp2
      go_ret
      exact ⟨rfl, rfl⟩
    · have h0' : ((m : Int) == 0) = false := by simpa using h0
      by_cases hd : 64 ≤ 1074 - k
      · rw [far_dvd m _ hm h0 hd]
        have hd' : ¬ ((-64 : Int) < -1074 + (k : Int)) := by omega
        go_enter Tryd.func12, Tryd.ntmps12
        go_wp2_with fail
        refine (HS _).mono ?_
        rintro e w' ⟨rfl, rfl⟩
        go_wp2_with fail
        refine (HP _).mono ?_
        rintro e w' ⟨rfl, rfl⟩
        go_wp2
        go_ret
        exact ⟨rfl, rfl⟩
      · rw [near_dvd]
        have hd' : (-64 : Int) < -1074 + (k : Int) := by omega
        have hc : (-(-1074 + (k : Int))).toNat = 1074 - k := by omega
        have hq : (m : Int) / 2 ^ (-(-1074 + (k : Int))).toNat = ((m / 2 ^ (1074 - k) : Nat) : Int) := by rw [hc]; simp
        have hle : m / 2 ^ (1074 - k) * 2 ^ (1074 - k) ≤ m := Nat.div_mul_le_self _ _
        have hq2 : IntKind.u64.wrap (((m / 2 ^ (1074 - k) : Nat) : Int) * 2 ^ (-(-1074 + (k : Int))).toNat) = ((m / 2 ^ (1074 - k) * 2 ^ (1074 - k) : Nat) : Int) := by
          rw [hc, IntKind.wrap_u64]
          have e2 : ((m / 2 ^ (1074 - k) * 2 ^ (1074 - k) : Nat) : Int) = ((m / 2 ^ (1074 - k) : Nat) : Int) * 2 ^ (1074 - k) := by simp
          rw [← e2]; omega
        generalize m / 2 ^ (1074 - k) * 2 ^ (1074 - k) = r at *
        generalize m / 2 ^ (1074 - k) = q at *
        clear hc
        go_enter Tryd.func12, Tryd.ntmps12
        go_wp2_with fail
        refine (HS _).mono ?_
        rintro e w' ⟨rfl, rfl⟩
        go_wp2_with fail
        refine (HP _).mono ?_
        rintro e w' ⟨rfl, rfl⟩
        go_wp2
        go_ret
        refine ⟨rb ?_, rfl⟩
        rw [Bool.eq_iff_iff]; simp; omega
theorem whole_any (x : Nat) (hx : x < 2 ^ 64) (hI : sz x < INF) (hW : decide (2 ^ 1074 ∣ vl (sz x)) = true) (w : World) : Calls Tryd.prog 13 #[.float .f64 x] w fun e w' => ∃ (n : Nat) (ok : Bool), e = .returned (.tuple #[.int .u64 (n : Int), .bool ok]) ∧ (ok = true → n = wh (sz x)) ∧ (ok = false → 9007199254740991 < wh (sz x)) ∧ n < 2 ^ 64 ∧ w' = w := by
  have HS := fun w => size_any x hx w
  have HP := fun w => parts_any (sz x) (sz_lt x) w
  have hk := pk_lt (sz x) hI
  have hm := pm_lt (sz x)
  by_cases hA : 1074 ≤ pk (sz x)
  · have hwh := wh_high _ hA
    have hpm : 2 ^ 52 ≤ pm (sz x) := by
      unfold pk at hA; unfold pm
      split at hA
      · omega
      · rename_i h; rw [if_neg h]; omega
    generalize wh (sz x) = W at *
    generalize pm (sz x) = m at *
    generalize pk (sz x) = k at *
    have hA' : ¬ (-1074 + (k : Int) < 0) := by omega
    have hA2 : ¬ (-1074 + (k : Int) ≤ -64) := by omega
    by_cases hb : 11 < -1074 + (k : Int)
    · have hbig : 9007199254740991 < W := by
        rw [hwh]
        have h1 : 2 ^ 52 * 2 ^ 1 ≤ m * 2 ^ (k - 1074) := Nat.mul_le_mul hpm (Nat.pow_le_pow_right (by decide) (by omega))
        omega
      go_enter Tryd.func13, Tryd.ntmps13
      go_wp2_with fail
      refine (HS _).mono ?_
      rintro e w' ⟨rfl, rfl⟩
      go_wp2_with fail
      refine (HP _).mono ?_
      rintro e w' ⟨rfl, rfl⟩
      go_wp2
      go_ret2
      exact ⟨0, false, rfl, (fun h => by cases h), fun _ => hbig, by decide, rfl⟩
    · have hlt : m * 2 ^ (k - 1074) < 2 ^ 64 := by
        have h1 : m * 2 ^ (k - 1074) ≤ m * 2 ^ 11 := Nat.mul_le_mul_left _ (Nat.pow_le_pow_right (by decide) (by omega))
        have h2 : m * 2 ^ 11 < 2 ^ 53 * 2 ^ 11 := Nat.mul_lt_mul_of_pos_right hm (by decide)
        have : (2 : Nat) ^ 53 * 2 ^ 11 = 2 ^ 64 := by decide
        omega
      have hq : IntKind.u64.wrap ((m : Int) * 2 ^ (-1074 + (k : Int)).toNat) = ((m * 2 ^ (k - 1074) : Nat) : Int) := by
        rw [show (-1074 + (k : Int)).toNat = k - 1074 by omega, IntKind.wrap_u64]
        have e2 : ((m * 2 ^ (k - 1074) : Nat) : Int) = (m : Int) * 2 ^ (k - 1074) := by simp
        rw [← e2]; omega
      rw [← hwh] at hq hlt
      clear hwh
      go_enter Tryd.func13, Tryd.ntmps13
      go_wp2_with fail
      refine (HS _).mono ?_
      rintro e w' ⟨rfl, rfl⟩
      go_wp2_with fail
      refine (HP _).mono ?_
      rintro e w' ⟨rfl, rfl⟩
      go_wp2
      go_ret2
      exact ⟨W, true, rfl, (fun _ => rfl), (fun h => by cases h), hlt, rfl⟩
  · rw [is_low _ (by omega)] at hW
    have hwh := wh_low (sz x) (by omega)
    generalize wh (sz x) = W at *
    generalize pm (sz x) = m at *
    generalize pk (sz x) = k at *
    by_cases hd : 64 ≤ 1074 - k
    · have h0 : m = 0 := Decidable.byContradiction fun h => by rw [far_dvd m _ hm h hd] at hW; cases hW
      subst h0
      have hW0 : W = 0 := by rw [hwh]; simp
      have hd' : -1074 + (k : Int) ≤ -64 := by omega
      subst hW0
      clear hwh hW
      go_enter Tryd.func13, Tryd.ntmps13
      go_wp2_with fail
      refine (HS _).mono ?_
      rintro e w' ⟨rfl, rfl⟩
      go_wp2_with fail
      refine (HP _).mono ?_
      rintro e w' ⟨rfl, rfl⟩
      go_wp2
      go_ret2
      exact ⟨0, true, rfl, (fun _ => rfl), (fun h => by cases h), by decide, rfl⟩
    · have hd' : ¬ (-1074 + (k : Int) ≤ -64) := by omega
      have hd2 : -1074 + (k : Int) < 0 := by omega
      have hq : (m : Int) / 2 ^ (-(-1074 + (k : Int))).toNat = (W : Int) := by
        rw [show (-(-1074 + (k : Int))).toNat = 1074 - k by omega, hwh]; simp
      have hlt : W < 2 ^ 64 := by rw [hwh]; have := Nat.div_le_self m (2 ^ (1074 - k)); omega
      clear hwh hW
      go_enter Tryd.func13, Tryd.ntmps13
      go_wp2_with fail
      refine (HS _).mono ?_
      rintro e w' ⟨rfl, rfl⟩
      go_wp2_with fail
      refine (HP _).mono ?_
      rintro e w' ⟨rfl, rfl⟩
      go_wp2
      go_ret2
      exact ⟨W, true, rfl, (fun _ => rfl), (fun h => by cases h), hlt, rfl⟩
end Go.Proofs.YtclahchmdcgdhaaDoor
