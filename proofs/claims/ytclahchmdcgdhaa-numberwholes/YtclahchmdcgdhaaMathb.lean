import Derived.Test.YtclahchmdcgdhaaMath
namespace Go.Proofs.Ytclahchmdcgdhaa.FM
open Ieee

theorem vl0 : vl 0 = 0 := by decide
theorem vl_pos {r : Nat} (h : 0 < r) : 0 < vl r := by
  have := vl_mono h; rw [vl0] at this; exact this
theorem vl_zero {r : Nat} : vl r = 0 ↔ r = 0 := by
  rw [← vl0, vl_inj, vl0]
theorem vl_le {r s : Nat} : vl r ≤ vl s ↔ r ≤ s := by
  have := @vl_lt_iff s r; omega

/-- Where the first bit of a size stands. -/
theorem vl_log (r : Nat) (h : 2 ^ 52 ≤ r) : (vl r).log2 = 52 + (r / 2 ^ 52 - 1) := by
  unfold vl
  rw [if_neg (by omega), log2_mul_pow (by omega), log2_eq (k := 52) (by omega) (by omega)]
theorem vl_log_small (r : Nat) (h0 : 0 < r) (h : r < 2 ^ 52) : (vl r).log2 < 52 := by
  unfold vl
  rw [if_pos h]
  exact (Nat.log2_lt (by omega)).2 h

/-- The bits below the last one of a float are nought. -/
theorem vl_dvd (r : Nat) (h0 : 0 < r) : 2 ^ ((vl r).log2 - 52) ∣ vl r := by
  by_cases h : r < 2 ^ 52
  · have := vl_log_small r h0 h
    rw [show (vl r).log2 - 52 = 0 by omega]; simp
  · rw [vl_log r (by omega), show 52 + (r / 2 ^ 52 - 1) - 52 = r / 2 ^ 52 - 1 by omega]
    unfold vl
    rw [if_neg h]
    exact Nat.dvd_mul_left _ _

/-- What a number of so few bits is, is a float. -/
theorem rep (q k : Nat) (hq : q < 2 ^ 53) : ∃ r, vl r = q * 2 ^ k := by
  by_cases h0 : q = 0
  · exact ⟨0, by rw [h0, vl0]; simp⟩
  by_cases h1 : q * 2 ^ k < 2 ^ 52
  · exact ⟨q * 2 ^ k, by unfold vl; rw [if_pos h1]⟩
  · have hL : q.log2 ≤ 52 := by have := (Nat.log2_lt h0).2 hq; omega
    have hk : 52 ≤ q.log2 + k := by
      have := (Nat.le_log2 (n := q * 2 ^ k) (k := 52) (by have := Nat.two_pow_pos 52; omega)).2 (by omega)
      rw [log2_mul_pow h0] at this; exact this
    -- t = log2 q + k - 52
    have ht : q.log2 + k - 52 ≤ k := by omega
    generalize hte : q.log2 + k - 52 = t at *
    have hM1 : 2 ^ 52 ≤ q * 2 ^ (k - t) := by
      have := Nat.mul_le_mul_right (2 ^ (k - t)) (Nat.log2_self_le h0)
      rw [← Nat.pow_add, show q.log2 + (k - t) = 52 by omega] at this
      exact this
    have hM2 : q * 2 ^ (k - t) < 2 ^ 53 := by
      have := Nat.mul_lt_mul_of_pos_right (Nat.lt_log2_self (n := q)) (Nat.two_pow_pos (k - t))
      rw [← Nat.pow_add, show q.log2 + 1 + (k - t) = 53 by omega] at this
      exact this
    refine ⟨(t + 1) * 2 ^ 52 + (q * 2 ^ (k - t) - 2 ^ 52), ?_⟩
    generalize hMe : q * 2 ^ (k - t) = M at *
    have e1 : ((t + 1) * 2 ^ 52 + (M - 2 ^ 52)) / 2 ^ 52 = t + 1 := by
      rw [Nat.add_comm, Nat.add_mul_div_right _ _ (by decide), Nat.div_eq_of_lt (by omega)]; omega
    have e2 : ((t + 1) * 2 ^ 52 + (M - 2 ^ 52)) % 2 ^ 52 = M - 2 ^ 52 := by
      rw [Nat.add_comm, Nat.add_mul_mod_self_right, Nat.mod_eq_of_lt (by omega)]
    unfold vl
    have : 2 ^ 52 ≤ (t + 1) * 2 ^ 52 := Nat.le_mul_of_pos_left _ (by omega)
    rw [if_neg (by omega), e1, e2, Nat.add_sub_cancel' hM1, ← hMe, Nat.add_sub_cancel, Nat.mul_assoc, ← Nat.pow_add, Nat.sub_add_cancel ht]

/-- The same, of any number whose bits lie close enough. -/
theorem rep' (v u : Nat) (hd : 2 ^ u ∣ v) (hv : v < 2 ^ (53 + u)) : ∃ r, vl r = v := by
  obtain ⟨q, rfl⟩ := hd
  rw [Nat.pow_add, Nat.mul_comm (2 ^ 53)] at hv
  have hq : q < 2 ^ 53 := Nat.lt_of_mul_lt_mul_left hv
  obtain ⟨r, hr⟩ := rep q u hq
  exact ⟨r, by rw [hr, Nat.mul_comm]⟩

theorem nearest_exact2 (s : Bool) (r m a b : Nat) (p : Int) (hr : r < INF) (h : m * 2 ^ a = vl r * 2 ^ b) (hp : p = -1074 + (a : Int) - b) : double.nearest s m p = double.word s r := by
  by_cases hab : b ≤ a
  · have e : m * 2 ^ (a - b) = vl r := by
      have : m * 2 ^ (a - b) * 2 ^ b = vl r * 2 ^ b := by rw [Nat.mul_assoc, ← Nat.pow_add, Nat.sub_add_cancel hab, h]
      exact Nat.eq_of_mul_eq_mul_right (Nat.two_pow_pos b) this
    rw [hp, show (-1074 + (a : Int) - b) = -1074 + ((a - b : Nat) : Int) by omega]
    exact nearest_exact s r m (a - b) hr e
  · have hba : a ≤ b := by omega
    have e : m = vl r * 2 ^ (b - a) := by
      have : m * 2 ^ a = vl r * 2 ^ (b - a) * 2 ^ a := by rw [Nat.mul_assoc, ← Nat.pow_add, Nat.sub_add_cancel hba, h]
      exact Nat.eq_of_mul_eq_mul_right (Nat.two_pow_pos a) this
    generalize hde : b - a = d at *
    have hp' : p = -1074 - (d : Int) := by omega
    clear hp h hab hba hde
    subst e hp'
    -- below the least place
    unfold Format.nearest
    by_cases hm : vl r * 2 ^ d = 0
    · rw [if_pos hm]
      have : r = 0 := by
        rcases Nat.mul_eq_zero.1 hm with a | a
        · exact vl_zero.1 a
        · have := Nat.two_pow_pos d; omega
      rw [this]
    · have hr0 : vl r ≠ 0 := fun e => hm (by rw [e]; simp)
      rw [if_neg hm, leastD, infD, binD]
      have hf : double.fractionBits = 52 := rfl
      rw [hf, log2_mul_pow hr0]
      by_cases h1 : r < 2 ^ 52
      · have hrp : 0 < r := Nat.pos_of_ne_zero fun e => hr0 (by rw [e, vl0])
        have hl := vl_log_small r hrp h1
        have hv : vl r = r := by unfold vl; rw [if_pos h1]
        have e : max (-1074 - (d : Int) + (((vl r).log2 + d : Nat) : Int) - 52) (-1074) = -1074 := by omega
        simp only []
        rw [show ((52 : Nat) : Int) = 52 from rfl, e, show ((-1074 : Int) - (d : Int) - (-1074)).toNat = 0 by omega, show ((-1074 : Int) - (-1074 - (d : Int))).toNat = d by omega, Nat.shiftLeft_zero, cut_exact .even s (vl r) d (by omega), hv]
        congr 1
        unfold INF at hr ⊢
        simp; omega
      · have hl := vl_log r (by omega)
        have hvq : vl r = (2 ^ 52 + r % 2 ^ 52) * 2 ^ (r / 2 ^ 52 - 1) := by unfold vl; rw [if_neg h1]
        have hq : r / 2 ^ 52 - 1 + 1 = r / 2 ^ 52 := by omega
        have hrr : (r / 2 ^ 52) * 2 ^ 52 + r % 2 ^ 52 = r := by omega
        generalize hqd : r / 2 ^ 52 - 1 = q at *
        have e : max (-1074 - (d : Int) + (((vl r).log2 + d : Nat) : Int) - 52) (-1074) = -1074 + q := by omega
        simp only []
        rw [show ((52 : Nat) : Int) = 52 from rfl, e, show ((-1074 : Int) - (d : Int) - (-1074 + q)).toNat = 0 by omega, show ((-1074 : Int) + q - (-1074 - (d : Int))).toNat = q + d by omega, Nat.shiftLeft_zero, hvq, Nat.mul_assoc, ← Nat.pow_add, cut_exact .even s _ (q + d) (by omega)]
        congr 1
        rw [show (-1074 + (q : Int) - (-1074)).toNat = q by omega, ← Nat.add_assoc, ← Nat.succ_mul, Nat.succ_eq_add_one, hq, hrr]
        exact Nat.min_eq_left (Nat.le_of_lt hr)

theorem word_eq (s : Bool) (r : Nat) : double.word s r = (if s then 2 ^ 63 else 0) + r := by
  unfold Format.word
  rw [signW]
  cases s <;> simp
theorem sz_word (s : Bool) (r : Nat) (h : r < 2 ^ 63) : sz (double.word s r) = r := by
  rw [word_eq]; unfold sz; cases s <;> simp <;> omega
theorem ng_word (s : Bool) (r : Nat) (h : r < 2 ^ 63) : ng (double.word s r) = s := by
  rw [word_eq]; unfold ng; cases s <;> simp <;> omega
theorem word_sz (b : Nat) (h : b < 2 ^ 64) : double.word (ng b) (sz b) = b := by
  rw [word_eq]
  unfold ng sz
  by_cases h1 : b / 2 ^ 63 % 2 = 1
  · simp [h1]; omega
  · simp [h1]; omega
theorem INF_lt : INF < 2 ^ 63 := by decide

theorem mul_exact (x y r : Nat) (hx : sz x < INF) (hy : sz y < INF) (hr : r < INF) (h : vl (sz x) * vl (sz y) = vl r * 2 ^ 1074) : double.mul x y = some (double.word (ng x ^^ ng y) r) := by
  obtain ⟨m, k, e1, v1⟩ := read_fin x hx
  obtain ⟨n, l, e2, v2⟩ := read_fin y hy
  unfold Format.mul
  rw [e1, e2]
  simp only [Datum.product, Option.map_some, Format.write]
  congr 1
  refine nearest_exact2 _ r (m * n) (k + l) 1074 _ hr ?_ (by omega)
  rw [← h, ← v1, ← v2, Nat.pow_add]
  simp only [Nat.mul_assoc, Nat.mul_left_comm]

theorem sub_exact (x y r : Nat) (hx : x < INF) (hy : y < INF) (hle : y ≤ x) (h : vl r = vl x - vl y) : double.sub x y = some r := by
  have hI := INF_lt
  have sx : sz x = x := Nat.mod_eq_of_lt (by omega)
  have sy : sz y = y := Nat.mod_eq_of_lt (by omega)
  have nx : ng x = false := by unfold ng; simp; omega
  have ny : ng y = false := by unfold ng; simp; omega
  obtain ⟨m, k, e1, v1⟩ := read_fin x (by rw [sx]; exact hx)
  obtain ⟨n, l, e2, v2⟩ := read_fin y (by rw [sy]; exact hy)
  have hv : vl y ≤ vl x := vl_le.2 hle
  have hr : r < INF := by
    have : vl r ≤ vl x := by omega
    have := vl_le.1 this; omega
  unfold Format.sub
  rw [e1, e2, nx, ny]
  rw [sx] at v1; rw [sy] at v2
  simp only [Datum.sum, Datum.opposite, Option.map_some, Format.write, Bool.not_false, Bool.and_true]
  congr 1
  have key : ∀ (B a b : Nat), (min (-1074 + (k : Int)) (-1074 + (l : Int))) = -1074 + (B : Int) → a = k - B → b = l - B → B ≤ k → B ≤ l →
      (m * 2 ^ a : Nat) - (n * 2 ^ b : Nat) = (m * 2 ^ a - n * 2 ^ b : Nat) ∧ n * 2 ^ b ≤ m * 2 ^ a ∧ (m * 2 ^ a - n * 2 ^ b) * 2 ^ B = vl r := by
    intro B a b _ ha hb h1 h2
    have q1 : m * 2 ^ a * 2 ^ B = vl x := by rw [Nat.mul_assoc, ← Nat.pow_add, ha, Nat.sub_add_cancel h1, v1]
    have q2 : n * 2 ^ b * 2 ^ B = vl y := by rw [Nat.mul_assoc, ← Nat.pow_add, hb, Nat.sub_add_cancel h2, v2]
    refine ⟨rfl, ?_, by rw [Nat.sub_mul, q1, q2, h]⟩
    rw [← q1, ← q2] at hv
    exact Nat.le_of_mul_le_mul_right hv (Nat.two_pow_pos B)
  generalize hB : min k l = B at *
  have hm : min (-1074 + (k : Int)) (-1074 + (l : Int)) = -1074 + (B : Int) := by omega
  obtain ⟨_, kle, ke⟩ := key B (k - B) (l - B) hm rfl rfl (by omega) (by omega)
  rw [hm, show (-1074 + (k : Int) - (-1074 + B)).toNat = k - B by omega, show (-1074 + (l : Int) - (-1074 + B)).toNat = l - B by omega]
  have sg1 : signed false m (k - B) = ((m * 2 ^ (k - B) : Nat) : Int) := by unfold signed; rw [Nat.shiftLeft_eq]; simp
  have sg2 : signed true n (l - B) = -((n * 2 ^ (l - B) : Nat) : Int) := by unfold signed; rw [Nat.shiftLeft_eq]; simp
  rw [sg1, sg2]
  have tot : ((m * 2 ^ (k - B) : Nat) : Int) + -((n * 2 ^ (l - B) : Nat) : Int) = ((m * 2 ^ (k - B) - n * 2 ^ (l - B) : Nat) : Int) := by omega
  rw [tot]
  have sgn0 : (if ((m * 2 ^ (k - B) - n * 2 ^ (l - B) : Nat) : Int) = 0 then false else decide (((m * 2 ^ (k - B) - n * 2 ^ (l - B) : Nat) : Int) < 0)) = false := by
    split
    · rfl
    · simp only [decide_eq_false_iff_not]; omega
  rw [sgn0, Int.natAbs_natCast]
  rw [nearest_exact false r _ B hr ke, word_eq]
  simp
end Go.Proofs.Ytclahchmdcgdhaa.FM
