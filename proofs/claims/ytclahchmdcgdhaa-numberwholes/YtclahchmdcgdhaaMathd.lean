import Derived.Test.YtclahchmdcgdhaaMathc
namespace Go.Proofs.Ytclahchmdcgdhaa.FM
open Ieee

/-- v over 2 to the c, to the nearest whole number, of two the even one. -/
def evQ (v c : Nat) : Nat := v / 2 ^ c + (if 2 ^ c < 2 * (v % 2 ^ c) ∨ (2 ^ c = 2 * (v % 2 ^ c) ∧ v / 2 ^ c % 2 = 1) then 1 else 0)
theorem cut_even_plain (neg : Bool) (n d : Nat) : Toward.even.cut neg n d = evQ n d := by
  unfold Toward.cut evQ
  simp only [Nat.one_shiftLeft]
  by_cases h : d ≤ n.log2 + 2
  · rw [Nat.min_eq_left h]
    congr 1
    by_cases h1 : 2 ^ d < 2 * (n % 2 ^ d) ∨ (2 ^ d = 2 * (n % 2 ^ d) ∧ n / 2 ^ d % 2 = 1)
    · rw [if_pos h1]
      have : (decide (2 ^ d < 2 * (n % 2 ^ d)) || (2 ^ d == 2 * (n % 2 ^ d) && n / 2 ^ d % 2 == 1)) = true := by
        rcases h1 with q | ⟨q1, q2⟩
        · simp [q]
        · simp [← q1, q2]
      rw [this]; rfl
    · rw [if_neg h1]
      have : (decide (2 ^ d < 2 * (n % 2 ^ d)) || (2 ^ d == 2 * (n % 2 ^ d) && n / 2 ^ d % 2 == 1)) = false := by
        rw [Bool.or_eq_false_iff]
        refine ⟨by simpa using fun q => h1 (.inl q), ?_⟩
        rw [Bool.and_eq_false_iff]
        by_cases q : 2 ^ d = 2 * (n % 2 ^ d)
        · right; simp; have := fun z => h1 (.inr ⟨q, z⟩); omega
        · left; simpa using q
      rw [this]; rfl
  · have h1 : n < 2 ^ (n.log2 + 1) := Nat.lt_log2_self
    have h2 : 2 ^ (n.log2 + 2) = 2 ^ (n.log2 + 1) * 2 := Nat.pow_succ ..
    have h3 : 2 ^ (n.log2 + 2) ≤ 2 ^ d := Nat.pow_le_pow_right (by decide) (by omega)
    have hnd : n < 2 ^ d := by omega
    have hn2 : n < 2 ^ (n.log2 + 2) := by omega
    rw [Nat.min_eq_right (by omega), Nat.div_eq_of_lt hn2, Nat.div_eq_of_lt hnd, Nat.mod_eq_of_lt hn2, Nat.mod_eq_of_lt hnd, if_neg (by omega)]
    have : (decide (2 ^ (n.log2 + 2) < 2 * n) || (2 ^ (n.log2 + 2) == 2 * n && 0 % 2 == 1)) = false := by
      simp; omega
    rw [this]; rfl
theorem evQ_scale (n d k : Nat) : evQ (n * 2 ^ k) (d + k) = evQ n d := by
  have hp : 0 < 2 ^ k := Nat.two_pow_pos k
  unfold evQ
  rw [Nat.pow_add, Nat.mul_div_mul_right _ _ hp, Nat.mul_mod_mul_right]
  have e1 : 2 ^ d * 2 ^ k < 2 * (n % 2 ^ d * 2 ^ k) ↔ 2 ^ d < 2 * (n % 2 ^ d) := by
    rw [← Nat.mul_assoc]; exact Nat.mul_lt_mul_right hp
  have e2 : 2 ^ d * 2 ^ k = 2 * (n % 2 ^ d * 2 ^ k) ↔ 2 ^ d = 2 * (n % 2 ^ d) := by
    rw [← Nat.mul_assoc]; exact ⟨fun h => Nat.eq_of_mul_eq_mul_right hp h, fun h => congrArg (· * 2 ^ k) h⟩
  simp only [e1, e2]
theorem cut_even (neg : Bool) (m k c : Nat) : Toward.even.cut neg (m <<< (-(c : Int) + (k : Int)).toNat) (-(-(c : Int) + (k : Int))).toNat = evQ (m * 2 ^ k) c := by
  rw [cut_even_plain, Nat.shiftLeft_eq]
  rcases Nat.le_total k c with h | h
  · rw [show (-(c : Int) + (k : Int)).toNat = 0 by omega, show (-(-(c : Int) + (k : Int))).toNat = c - k by omega, Nat.pow_zero, Nat.mul_one]
    have := evQ_scale m (c - k) k
    rw [Nat.sub_add_cancel h] at this
    exact this.symm
  · rw [show (-(c : Int) + (k : Int)).toNat = k - c by omega, show (-(-(c : Int) + (k : Int))).toNat = 0 by omega]
    have := evQ_scale (m * 2 ^ (k - c)) 0 c
    rw [Nat.zero_add, Nat.mul_assoc, ← Nat.pow_add, Nat.sub_add_cancel h] at this
    exact this.symm
theorem integral_even (b : Nat) (h : sz b < INF) : (double.read b).integral .even = .number (ng b) (evQ (vl (sz b)) 1074) 0 := by
  obtain ⟨m, k, e, v⟩ := read_fin b h
  rw [e]
  show Datum.number (ng b) (Toward.even.cut (ng b) (m <<< (-1074 + (k : Int)).toNat) (-(-1074 + (k : Int))).toNat) 0 = _
  rw [← v]
  exact congrArg (Datum.number (ng b) · 0) (cut_even (ng b) m k 1074)
end Go.Proofs.Ytclahchmdcgdhaa.FM
