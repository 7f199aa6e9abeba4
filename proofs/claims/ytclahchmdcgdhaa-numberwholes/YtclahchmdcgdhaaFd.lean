import Derived.Test.YtclahchmdcgdhaaFc
namespace Go.Proofs.Ytclahchmdcgdhaa
open Go.RowKit FM
attribute [local go_sem] frombits_run bits_run

theorem nat_facts {r : Nat} (h : r ≤ INF) : sz r = r ∧ ng r = false ∧ isN r = false ∧ pl r = (r : Int) := by
  have hI := INF_lt
  have hs : sz r = r := Nat.mod_eq_of_lt (by omega)
  have hn : ng r = false := by unfold ng; simp; omega
  refine ⟨hs, hn, ?_, ?_⟩
  · unfold isN; rw [hs]; simp; omega
  · unfold pl; rw [hn, hs]; rfl
theorem geq_nat {r Y : Nat} (hr : r ≤ INF) (hY : Y ≤ INF) : (FloatKind.f64.format.order r Y == some .gt || FloatKind.f64.format.order r Y == some .eq) = decide (Y ≤ r) := by
  have hI := INF_lt
  obtain ⟨s1, _, i1, p1⟩ := nat_facts hr
  obtain ⟨s2, _, i2, p2⟩ := nat_facts hY
  rw [fo, gtF, eqF r Y (by omega) (by omega), s1, s2, i1, i2, p1, p2, Bool.eq_iff_iff]
  simp
  omega
theorem lt_nat {r Y : Nat} (hr : r ≤ INF) (hY : Y ≤ INF) : (FloatKind.f64.format.order r Y == some .lt) = decide (r < Y) := by
  obtain ⟨_, _, i1, p1⟩ := nat_facts hr
  obtain ⟨_, _, i2, p2⟩ := nat_facts hY
  rw [fo, ltF, i1, i2, p1, p2, Bool.eq_iff_iff]
  simp

/-- One round: how far y goes into r. -/
theorem step_k {r Y fr fy : Nat} {er ey : Int} (hY : 0 < Y) (hr : r < INF) (hle : Y ≤ r) (h1 : FR (vl r) fr er) (h2 : FR (vl Y) fy ey) :
    ∃ k z d : Nat, ((if fr < fy then er - 1 else er) - ey = (k : Int)) ∧ z < INF ∧ z ≤ r ∧ 0 < z ∧ vl z = vl Y * 2 ^ k ∧ vl d = vl r - vl z := by
  obtain ⟨M, hM1, hM2, rfl, hM, rfl⟩ := h1
  obtain ⟨L, hL1, hL2, rfl, hL, rfl⟩ := h2
  have hv : vl Y ≤ vl r := vl_le.2 hle
  have hYp : 0 < vl Y := vl_pos hY
  have hrp : 0 < vl r := by omega
  have lgr := Nat.log2_self_le (n := vl r) (by omega)
  have lgr2 := Nat.lt_log2_self (n := vl r)
  have lgy := Nat.log2_self_le (n := vl Y) (by omega)
  have lgy2 := Nat.lt_log2_self (n := vl Y)
  have hll : (vl Y).log2 ≤ (vl r).log2 := by
    rw [Nat.le_log2 (by omega)]; omega
  -- the shift
  obtain ⟨k, hk, hlow, hup⟩ : ∃ k : Nat, ((if 1021 * 2 ^ 52 + M < 1021 * 2 ^ 52 + L then ((vl r).log2 : Int) - 1073 - 1 else ((vl r).log2 : Int) - 1073) - (((vl Y).log2 : Int) - 1073) = (k : Int)) ∧ vl Y * 2 ^ k ≤ vl r ∧ vl r < vl Y * 2 ^ k * 2 := by
    -- M 2^lr = r 2^52, L 2^ly = y 2^52
    have e1 : vl Y * 2 ^ ((vl r).log2 - (vl Y).log2) * 2 ^ 52 = L * 2 ^ (vl r).log2 := by
      rw [Nat.mul_right_comm, ← hL, Nat.mul_assoc, ← Nat.pow_add, Nat.add_sub_cancel' hll]
    by_cases hlt : M < L
    · have hne : (vl Y).log2 < (vl r).log2 := by
        rcases Nat.lt_or_ge (vl Y).log2 (vl r).log2 with g | g
        · exact g
        · exfalso
          have : (vl Y).log2 = (vl r).log2 := by omega
          rw [this] at hL
          have q : M * 2 ^ (vl r).log2 < L * 2 ^ (vl r).log2 := Nat.mul_lt_mul_of_pos_right hlt (Nat.two_pow_pos _)
          rw [hM, hL] at q
          have := Nat.lt_of_mul_lt_mul_right q
          omega
      refine ⟨(vl r).log2 - (vl Y).log2 - 1, by rw [if_pos (by omega)]; omega, ?_, ?_⟩
      · have e2 : (vl r).log2 - (vl Y).log2 = ((vl r).log2 - (vl Y).log2 - 1) + 1 := by omega
        rw [e2, Nat.pow_succ, ← Nat.mul_assoc] at e1
        generalize vl Y * 2 ^ ((vl r).log2 - (vl Y).log2 - 1) = t at *
        have q : L * 2 ^ (vl r).log2 ≤ (2 * M) * 2 ^ (vl r).log2 := Nat.mul_le_mul_right _ (by omega)
        rw [← e1, Nat.mul_assoc 2, hM, ← Nat.mul_assoc 2] at q
        have := Nat.le_of_mul_le_mul_right q (by decide)
        omega
      · have e2 : (vl r).log2 - (vl Y).log2 = ((vl r).log2 - (vl Y).log2 - 1) + 1 := by omega
        rw [e2, Nat.pow_succ, ← Nat.mul_assoc] at e1
        generalize vl Y * 2 ^ ((vl r).log2 - (vl Y).log2 - 1) = t at *
        have q : M * 2 ^ (vl r).log2 < L * 2 ^ (vl r).log2 := Nat.mul_lt_mul_of_pos_right hlt (Nat.two_pow_pos _)
        rw [← e1, hM] at q
        exact Nat.lt_of_mul_lt_mul_right q
    · refine ⟨(vl r).log2 - (vl Y).log2, by rw [if_neg (by omega)]; omega, ?_, ?_⟩
      · have q : L * 2 ^ (vl r).log2 ≤ M * 2 ^ (vl r).log2 := Nat.mul_le_mul_right _ (by omega)
        rw [← e1, hM] at q
        exact Nat.le_of_mul_le_mul_right q (by decide)
      · have q : M * 2 ^ (vl r).log2 < (2 * L) * 2 ^ (vl r).log2 := Nat.mul_lt_mul_of_pos_right (by omega) (Nat.two_pow_pos _)
        rw [Nat.mul_assoc 2, ← e1, hM, ← Nat.mul_assoc 2] at q
        have := Nat.lt_of_mul_lt_mul_right q
        omega
  -- z
  have hdy := vl_dvd Y hY
  have hdr := vl_dvd r (by omega)
  obtain ⟨z, hz⟩ : ∃ z, vl z = vl Y * 2 ^ k := by
    refine rep' _ ((vl Y).log2 - 52 + k) ?_ ?_
    · rw [Nat.pow_add]; exact Nat.mul_dvd_mul_right hdy _
    · have : vl Y * 2 ^ k < 2 ^ ((vl Y).log2 + 1) * 2 ^ k := Nat.mul_lt_mul_of_pos_right lgy2 (Nat.two_pow_pos _)
      rw [← Nat.pow_add] at this
      exact Nat.lt_of_lt_of_le this (Nat.pow_le_pow_right (by decide) (by omega))
  have hzr : z ≤ r := vl_le.1 (by rw [hz]; exact hlow)
  have hz0 : 0 < z := by
    rcases Nat.eq_zero_or_pos z with g | g
    · rw [g, vl0] at hz
      have := Nat.mul_pos hYp (Nat.two_pow_pos k); omega
    · exact g
  have hdz := vl_dvd z hz0
  have hzp := vl_pos hz0
  have lgz := Nat.lt_log2_self (n := vl z)
  have hlz : (vl z).log2 ≤ (vl r).log2 := by
    rw [Nat.le_log2 (by omega)]
    have := Nat.log2_self_le (n := vl z) (by omega)
    rw [hz] at this ⊢; omega
  obtain ⟨d, hd⟩ : ∃ d, vl d = vl r - vl z := by
    refine rep' _ ((vl z).log2 - 52) ?_ ?_
    · refine Nat.dvd_sub (Nat.dvd_trans (Nat.pow_dvd_pow 2 (by omega)) hdr) hdz
    · have h1 : vl r - vl z < vl z := by rw [hz]; omega
      have h2 : vl z < 2 ^ ((vl z).log2 + 1) := lgz
      have h3 : 2 ^ ((vl z).log2 + 1) ≤ 2 ^ (53 + ((vl z).log2 - 52)) := Nat.pow_le_pow_right (by decide) (by omega)
      omega
  exact ⟨k, z, d, hk, by omega, hzr, hz0, hz, hd⟩
end Go.Proofs.Ytclahchmdcgdhaa
