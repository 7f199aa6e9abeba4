import Derived.Test.YtclahchmdcgdhaaMathb
import GoSem.Extern.MathFloor
namespace Go.Proofs.Ytclahchmdcgdhaa.FM
open Ieee

/-- The whole part of a size. -/
def wh (r : Nat) : Nat := vl r / 2 ^ 1074

theorem cut_zero (neg : Bool) (n d : Nat) : Toward.zero.cut neg n d = n / 2 ^ d := by
  unfold Toward.cut
  simp only [Nat.one_shiftLeft, Bool.toNat_false, Nat.add_zero]
  by_cases h : d ≤ n.log2 + 2
  · rw [Nat.min_eq_left h]
  · rw [Nat.min_eq_right (by omega)]
    have h1 : n < 2 ^ (n.log2 + 2) := Nat.lt_of_lt_of_le Nat.lt_log2_self (Nat.pow_le_pow_right (by decide) (by omega))
    have h2 : n < 2 ^ d := Nat.lt_of_lt_of_le h1 (Nat.pow_le_pow_right (by decide) (by omega))
    rw [Nat.div_eq_of_lt h1, Nat.div_eq_of_lt h2]
theorem mag_eq (m k c : Nat) : (m <<< (-(c : Int) + (k : Int)).toNat) / 2 ^ (-(-(c : Int) + (k : Int))).toNat = m * 2 ^ k / 2 ^ c := by
  rw [Nat.shiftLeft_eq]
  rcases Nat.le_total k c with h | h
  · rw [show (-(c : Int) + (k : Int)).toNat = 0 by omega, show (-(-(c : Int) + (k : Int))).toNat = c - k by omega, Nat.pow_zero, Nat.mul_one]
    have e : 2 ^ c = 2 ^ (c - k) * 2 ^ k := by rw [← Nat.pow_add, Nat.sub_add_cancel h]
    rw [e, Nat.mul_div_mul_right _ _ (Nat.two_pow_pos k)]
  · rw [show (-(c : Int) + (k : Int)).toNat = k - c by omega, show (-(-(c : Int) + (k : Int))).toNat = 0 by omega, Nat.pow_zero, Nat.div_one]
    have e : 2 ^ k = 2 ^ (k - c) * 2 ^ c := by rw [← Nat.pow_add, Nat.sub_add_cancel h]
    rw [e, ← Nat.mul_assoc, Nat.mul_div_cancel _ (Nat.two_pow_pos c)]
/-- A finite float made whole, towards nought. -/
theorem integral_zero (b : Nat) (h : sz b < INF) : (double.read b).integral .zero = .number (ng b) (wh (sz b)) 0 := by
  obtain ⟨m, k, e, v⟩ := read_fin b h
  rw [e]
  show Datum.number (ng b) (Toward.zero.cut (ng b) (m <<< (-1074 + (k : Int)).toNat) (-(-1074 + (k : Int))).toNat) 0 = _
  rw [cut_zero]
  unfold wh
  rw [← v]
  exact congrArg (Datum.number (ng b) · 0) (mag_eq m k 1074)
theorem wh_gen (r c : Nat) : ∃ ρ, vl ρ = vl r / 2 ^ c * 2 ^ c ∧ ρ ≤ r := by
  have hle : vl r / 2 ^ c * 2 ^ c ≤ vl r := Nat.div_mul_le_self _ _
  have key : ∃ ρ, vl ρ = vl r / 2 ^ c * 2 ^ c := by
    by_cases h0 : r = 0
    · refine ⟨0, ?_⟩
      have z : vl r = 0 := by rw [h0, vl0]
      rw [vl0, z]; simp
    · have hp := vl_pos (r := r) (by omega)
      have hd := vl_dvd r (by omega)
      by_cases hu : c ≤ (vl r).log2 - 52
      · refine ⟨r, ?_⟩
        have : 2 ^ c ∣ vl r := Nat.dvd_trans (Nat.pow_dvd_pow 2 hu) hd
        exact (Nat.div_mul_cancel this).symm
      · refine rep' _ c (Nat.dvd_mul_left _ _) ?_
        refine Nat.lt_of_le_of_lt hle (Nat.lt_of_lt_of_le Nat.lt_log2_self ?_)
        exact Nat.pow_le_pow_right (by decide) (by omega)
  obtain ⟨ρ, hρ⟩ := key
  exact ⟨ρ, hρ, vl_le.1 (by rw [hρ]; exact hle)⟩
theorem wh_rep (r : Nat) : ∃ ρ, vl ρ = wh r * 2 ^ 1074 ∧ ρ ≤ r := wh_gen r 1074
/-- Trunc of a finite float. -/
theorem trunc_fin (b : Nat) (h : sz b < INF) : ∃ ρ, double.write ((double.read b).integral .zero) = double.word (ng b) ρ ∧ vl ρ = wh (sz b) * 2 ^ 1074 ∧ ρ ≤ sz b := by
  obtain ⟨ρ, h1, h2⟩ := wh_rep (sz b)
  refine ⟨ρ, ?_, h1, h2⟩
  rw [integral_zero b h]
  unfold Format.write
  exact nearest_exact (ng b) ρ (wh (sz b)) 1074 (by omega) h1.symm
theorem dvd_gen (a v c : Nat) (h : a = v / 2 ^ c * 2 ^ c) : a = v ↔ 2 ^ c ∣ v := by
  constructor
  · intro e; rw [← e, h]; exact Nat.dvd_mul_left _ _
  · intro hd; rw [h]; exact Nat.div_mul_cancel hd
theorem trunc_same (b ρ : Nat) (h2 : vl ρ = wh (sz b) * 2 ^ 1074) : ρ = sz b ↔ 2 ^ 1074 ∣ vl (sz b) := by
  rw [← vl_inj]
  exact dvd_gen (vl ρ) (vl (sz b)) 1074 h2
theorem toInt_fin (b : Nat) (h : sz b < INF) : (double.read b).toInt .zero = some (sgn (ng b) (wh (sz b))) := by
  unfold Datum.toInt
  rw [integral_zero b h]
  unfold Ieee.signed sgn
  simp
end Go.Proofs.Ytclahchmdcgdhaa.FM
