import Derived.Test.YtclahchmdcgdhaaGg
import Derived.Test.YtclahchmdcgdhaaMathd
namespace Go.Proofs.Ytclahchmdcgdhaa
open Go.RowKit FM
attribute [local go_sem] frombits_run bits_run neg_run

theorem round_run (b : Nat) (hb : isN b = false) (w : World) : (callFunc 51 #[.float .f64 b]).run Try.prog w = .ok (.value (.float .f64 (Ieee.double.write ((Ieee.double.read b).integral .even)))) w := by
  rw [run_callFunc_extern Try.func51 (by kernel_rfl) (by kernel_rfl) (by kernel_rfl) (e := Extern.MathFloor.toIntegral "math.RoundToEven" .even) (by kernel_rfl)]
  rw [integral_run b w "math.RoundToEven" .even _ rfl (not_nan_read b hb)]
  rfl
/-- 255, as a float. -/
def C255 : Nat := 4643176031446892544
/-- What Clamp8 answers. -/
def clV (x : Nat) : Nat := if isN x = true ∨ (ng x = true ∧ 0 < sz x) then 0 else if C255 < sz x then 255 else evQ (vl (sz x)) 1074
theorem evQ_le (v c n : Nat) (h : v ≤ n * 2 ^ c) : evQ v c ≤ n := by
  unfold evQ
  have hp : 0 < 2 ^ c := Nat.two_pow_pos c
  have h1 : v / 2 ^ c ≤ n := by
    have := Nat.div_le_div_right (c := 2 ^ c) h
    rwa [Nat.mul_div_cancel _ hp] at this
  by_cases e : v / 2 ^ c = n
  · have h2 : v = n * 2 ^ c + v % 2 ^ c := by
      have := Nat.div_add_mod v (2 ^ c)
      rw [e, Nat.mul_comm] at this
      exact this.symm
    have h3 : v % 2 ^ c = 0 := by omega
    rw [h3, if_neg (by omega)]
    omega
  · split <;> omega
theorem mulr (a b c : Nat) (h : a ≤ b) : a * 2 ^ c ≤ b * 2 ^ c := Nat.mul_le_mul_right _ h
theorem c255 : vl C255 = 255 * 2 ^ 1074 := by decide +kernel
theorem round_fin (b : Nat) (h : sz b ≤ C255) : ∃ ρ, Ieee.double.write ((Ieee.double.read b).integral .even) = Ieee.double.word (ng b) ρ ∧ vl ρ = evQ (vl (sz b)) 1074 * 2 ^ 1074 ∧ ρ ≤ C255 := by
  have hCI : C255 < INF := by decide
  have hv : vl (sz b) ≤ 255 * 2 ^ 1074 := by rw [← c255]; exact vl_le.2 h
  have hq := evQ_le (vl (sz b)) 1074 255 hv
  obtain ⟨ρ, hρ⟩ := rep (evQ (vl (sz b)) 1074) 1074 (by omega)
  have hle : ρ ≤ C255 := vl_le.1 (by rw [hρ, c255]; exact mulr _ 255 1074 hq)
  refine ⟨ρ, ?_, hρ, hle⟩
  rw [integral_even b (by omega)]
  unfold Ieee.Format.write
  exact nearest_exact (ng b) ρ _ 1074 (by omega) hρ.symm
theorem toU8 (s : Bool) (ρ n : Nat) (hρ : ρ ≤ C255) (h : vl ρ = n * 2 ^ 1074) (hn : n ≤ 255) (hs : s = true → n = 0) : floatToIntVal .f64 (Ieee.double.word s ρ) .u8 = some (n : Int) := by
  have hCI : C255 < INF := by decide
  have hIL := INF_lt
  have s1 := sz_word s ρ (by omega)
  have n1 := ng_word s ρ (by omega)
  unfold floatToIntVal
  have e : (FloatKind.f64.decode (Ieee.double.word s ρ)).toInt .zero = some (sgn (ng (Ieee.double.word s ρ)) (wh (sz (Ieee.double.word s ρ)))) := toInt_fin _ (by rw [s1]; omega)
  rw [e, s1, n1, wh_of h]
  have hmin : IntKind.u8.min = 0 := by decide
  have hmax : IntKind.u8.max = 255 := by decide
  have e2 : sgn s n = (n : Int) := by
    cases s
    · rfl
    · rw [hs rfl]; rfl
  simp only [e2]
  rw [if_pos (by rw [hmin, hmax]; omega)]
theorem clamp8_any (x : Nat) (w : World) : Calls Try.prog 19 #[.float .f64 x] w fun e w' => e = .returned (.int .u8 (clV x : Int)) ∧ w' = w := by
  have HN := fun w => isnan_any x w
  have hCI : C255 < INF := by decide
  cases hn : isN x
  · rw [hn] at HN
    have hI : sz x ≤ INF := by simpa [isN] using hn
    have hlt : (FloatKind.f64.format.order x 0 == some .lt) = (ng x && decide (0 < sz x)) := by rw [ltz, hn]; simp
    by_cases hneg : ng x = true ∧ 0 < sz x
    · have hV : clV x = 0 := by unfold clV; rw [if_pos (.inr hneg)]
      rw [hV]
      have c1 : (FloatKind.f64.format.order x 0 == some .lt) = true := by rw [hlt]; simpa using hneg
      clear hV hlt hneg hI
      go_enter Try.func19, Try.ntmps19
      go_wp2_with fail
      refine (HN _).mono ?_
      rintro e w' ⟨rfl, rfl⟩
      go_wp2
      go_ret
      exact ⟨rfl, rfl⟩
    · have c1 : (FloatKind.f64.format.order x 0 == some .lt) = false := by
        rw [hlt, Bool.and_eq_false_iff]
        cases hg : ng x
        · exact .inl rfl
        · right; rw [hg] at hneg; simp at hneg; simp [hneg]
      have hpl : pl x = (sz x : Int) := by
        unfold pl
        cases hg : ng x
        · rfl
        · rw [hg] at hneg; simp at hneg; rw [hneg]; rfl
      have hgt : (FloatKind.f64.format.order x 4643176031446892544 == some .gt) = decide (C255 < sz x) := by
        rw [fo, gtF, hn, hpl, show isN 4643176031446892544 = false by decide, show pl 4643176031446892544 = 4643176031446892544 by decide, Bool.eq_iff_iff]
        unfold C255
        simp
        omega
      by_cases hb : C255 < sz x
      · have hV : clV x = 255 := by unfold clV; rw [if_neg (by rw [hn]; simpa using hneg), if_pos hb]
        rw [hV]
        have c2 : (FloatKind.f64.format.order x 4643176031446892544 == some .gt) = true := by rw [hgt]; simpa using hb
        clear hV hlt hneg hI hpl hgt hb
        go_enter Try.func19, Try.ntmps19
        go_wp2_with fail
        refine (HN _).mono ?_
        rintro e w' ⟨rfl, rfl⟩
        go_wp2
        go_ret
        exact ⟨rfl, rfl⟩
      · have hV : clV x = evQ (vl (sz x)) 1074 := by unfold clV; rw [if_neg (by rw [hn]; simpa using hneg), if_neg hb]
        rw [hV]
        have c2 : (FloatKind.f64.format.order x 4643176031446892544 == some .gt) = false := by rw [hgt]; simpa using hb
        obtain ⟨ρ, e, hv, hρ⟩ := round_fin x (by omega)
        have hr := fun w => round_run x hn w
        rw [e] at hr
        have hq : evQ (vl (sz x)) 1074 ≤ 255 := evQ_le _ _ _ (by rw [← c255]; exact vl_le.2 (by omega))
        have hs0 : ng x = true → evQ (vl (sz x)) 1074 = 0 := fun hg => by
          have : sz x = 0 := by
            rcases Nat.eq_zero_or_pos (sz x) with q | q
            · exact q
            · exact absurd ⟨hg, q⟩ hneg
          rw [this, vl0]; decide +kernel
        have hti := toU8 (ng x) ρ _ hρ hv hq hs0
        have hcv := fun W => run_convert_float_int (P := Try.prog) W 23 5 .f64 .u8 _ _ (by rw [Try.underlying23]; rfl) Try.underlying5 hti
        generalize evQ (vl (sz x)) 1074 = Q at *
        clear hV hlt hneg hI hpl hgt hb e hv hρ hs0 hti hq
        go_enter Try.func19, Try.ntmps19
        go_wp2_with fail
        refine (HN _).mono ?_
        rintro e w' ⟨rfl, rfl⟩
        go_wp2
        go_ret
        exact ⟨rfl, rfl⟩
  · rw [hn] at HN
    have hV : clV x = 0 := by unfold clV; rw [if_pos (.inl hn)]
    rw [hV]
    clear hV
    go_enter Try.func19, Try.ntmps19
    go_wp2_with fail
    refine (HN _).mono ?_
    rintro e w' ⟨rfl, rfl⟩
    go_wp2
    go_ret
    exact ⟨rfl, rfl⟩
end Go.Proofs.Ytclahchmdcgdhaa
