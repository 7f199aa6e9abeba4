import Derived.Test.YtclahchmdcgdhaaGm
import Derived.Test.YtclahchmdcgdhaaGh
namespace Go.Proofs.Ytclahchmdcgdhaa
open Go.RowKit FM
theorem evQ_sc (m e k : Nat) : evQ (m * 2 ^ k) (e + k) = m / 2 ^ e + (if sc (2 * m) ((2 * (m / 2 ^ e) + 1) * 2 ^ e) = 1 ∨ (sc (2 * m) ((2 * (m / 2 ^ e) + 1) * 2 ^ e) = 0 ∧ m / 2 ^ e % 2 = 1) then 1 else 0) := by
  unfold evQ
  have hk : 0 < 2 ^ k := Nat.two_pow_pos k
  have e1 : m * 2 ^ k / 2 ^ (e + k) = m / 2 ^ e := by rw [Nat.pow_add, Nat.mul_div_mul_right _ _ hk]
  have e2 : m * 2 ^ k % 2 ^ (e + k) = m % 2 ^ e * 2 ^ k := by rw [Nat.pow_add, Nat.mul_mod_mul_right]
  rw [e1, e2, Nat.pow_add, ← Nat.mul_assoc]
  have h1 : 2 ^ e * 2 ^ k < 2 * (m % 2 ^ e) * 2 ^ k ↔ 2 ^ e < 2 * (m % 2 ^ e) := Nat.mul_lt_mul_right hk
  have h2 : 2 ^ e * 2 ^ k = 2 * (m % 2 ^ e) * 2 ^ k ↔ 2 ^ e = 2 * (m % 2 ^ e) := Nat.mul_right_cancel_iff hk
  simp only [h1, h2]
  have h3 := Nat.div_add_mod m (2 ^ e)
  have h4 : (2 * (m / 2 ^ e) + 1) * 2 ^ e = 2 * (2 ^ e * (m / 2 ^ e)) + 2 ^ e := by
    rw [Nat.add_mul, Nat.one_mul, Nat.mul_assoc, Nat.mul_comm (m / 2 ^ e)]
  rw [h4]
  generalize 2 ^ e * (m / 2 ^ e) = a at *
  generalize m / 2 ^ e = n at *
  generalize m % 2 ^ e = r at *
  generalize 2 ^ e = p at *
  unfold sc
  congr 1
  by_cases c1 : p < 2 * r
  · rw [if_pos (Or.inl c1), if_pos]
    left; rw [if_neg (by omega), if_neg (by omega)]
  · by_cases c2 : p = 2 * r
    · by_cases c3 : n % 2 = 1
      · rw [if_pos (Or.inr ⟨c2, c3⟩), if_pos]
        right; exact ⟨by rw [if_neg (by omega), if_pos (by omega)], c3⟩
      · rw [if_neg (by omega), if_neg]
        rw [if_neg (by omega), if_pos (by omega)]; omega
    · rw [if_neg (by omega), if_neg]
      rw [if_pos (by omega)]; omega
theorem pk_small (s : Nat) (h : wh s < 255) : pk s < 1074 := by
  apply Classical.byContradiction
  intro hk
  have h1 := wh_high s (by omega)
  have h2 : 2 ^ 52 ≤ pm s := by
    unfold pk at hk; unfold pm
    split at hk
    · omega
    · next h0 => rw [if_neg h0]; omega
  have h3 : pm s * 1 ≤ pm s * 2 ^ (pk s - 1074) := Nat.mul_le_mul_left _ (Nat.two_pow_pos _)
  omega
theorem le_div_pow (a b c : Nat) (h : a * 2 ^ c ≤ b) : a ≤ b / 2 ^ c := (Nat.le_div_iff_mul_le (Nat.two_pow_pos c)).2 h
theorem wh255 (s : Nat) (h : C255 < s) : 255 ≤ wh s := by
  unfold wh
  have h1 : vl C255 ≤ vl s := vl_le.2 (by omega)
  rw [c255] at h1
  exact le_div_pow 255 (vl s) 1074 h1
theorem ev255 (s : Nat) (h : s ≤ C255) (h2 : 255 ≤ wh s) : evQ (vl s) 1074 = 255 := by
  have h1 : vl s ≤ 255 * 2 ^ 1074 := by rw [← c255]; exact vl_le.2 h
  have h3 := evQ_le (vl s) 1074 255 h1
  have h4 : vl s / 2 ^ 1074 ≤ evQ (vl s) 1074 := by unfold evQ; exact Nat.le_add_right _ _
  unfold wh at h2
  omega
end Go.Proofs.Ytclahchmdcgdhaa
