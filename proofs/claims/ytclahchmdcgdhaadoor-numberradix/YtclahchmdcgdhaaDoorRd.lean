import Derived.Test.YtclahchmdcgdhaaDoorRc
import Derived.Test.YtclahchmdcgdhaaDoorMathc
namespace Go.Proofs.YtclahchmdcgdhaaDoor
open Go.RowKit FM
attribute [local go_sem] frombits_run bits_run

theorem integral_run (b : Nat) (w : World) (name : String) (way : Ieee.Toward) (d : Ieee.Datum) (h : FloatKind.f64.decode b = d) (hn : ∀ s t, d ≠ .nan s t) : (Extern.MathFloor.toIntegral name way #[.float .f64 b]).run Tryd.prog w = .ok (.float .f64 (FloatKind.f64.encode (d.integral way))) w := by
  unfold FloatKind.decode at h
  delta Extern.MathFloor.toIntegral Extern.MathFloor.toIntegral.match_2 FloatKind.decode
  dsimp only
  rw [dif_pos (show #[Value.float FloatKind.f64 b].size = 1 from rfl)]
  have e : (#[Value.float FloatKind.f64 b].getLit 0 (n := 1) rfl (by decide)) = .float .f64 b := rfl
  rw [e]
  dsimp only [Extern.MathFloor.toIntegral._sparseCasesOn_2, Extern.MathFloor.toIntegral._sparseCasesOn_3]
  rw [h]
  cases d with
  | number s m i => rfl
  | infinity s => rfl
  | nan s t => exact absurd rfl (hn s t)
theorem not_nan_read (b : Nat) (hb : isN b = false) (s : Bool) (t : Nat) : Ieee.double.read b ≠ .nan s t := by
  intro h
  have hs : sz b ≤ INF := by simpa [isN] using hb
  rcases Nat.lt_or_ge (sz b) INF with g | g
  · obtain ⟨m, k, e, _⟩ := read_fin b g
    rw [e] at h; cases h
  · rw [read_inf b (by omega)] at h; cases h
theorem archTrunc_run (b : Nat) (hb : isN b = false) (w : World) : (callFunc 22 #[.float .f64 b]).run Tryd.prog w = .ok (.value (.float .f64 (Ieee.double.write ((Ieee.double.read b).integral .zero)))) w := by
  rw [run_callFunc_extern Tryd.func22 (by kernel_rfl) (by kernel_rfl) (by kernel_rfl) (e := Extern.MathFloor.toIntegral "math.archTrunc" .zero) (by kernel_rfl)]
  rw [integral_run b w "math.archTrunc" .zero _ rfl (not_nan_read b hb)]
  rfl
theorem trunc_any (b : Nat) (hb : sz b < INF) (w : World) : Calls Tryd.prog 16 #[.float .f64 b] w fun e w' => ∃ ρ, e = .returned (.float .f64 (Ieee.double.word (ng b) ρ)) ∧ vl ρ = wh (sz b) * 2 ^ 1074 ∧ ρ ≤ sz b ∧ w' = w := by
  have hn : isN b = false := by unfold isN; simp; omega
  have hr := fun w => archTrunc_run b hn w
  obtain ⟨ρ, h1, h2, h3⟩ := trunc_fin b hb
  rw [h1] at hr
  have H2 : Hid (vl ρ = wh (sz b) * 2 ^ 1074) := ⟨h2⟩
  clear h1 h2
  go_enter Tryd.func16, Tryd.ntmps16
  go_wp2
  go_ret
  exact ⟨ρ, rfl, H2.it, h3, rfl⟩

/-- The greatest safe whole number, as a float. -/
def CS : Nat := 4845873199050653695
/-- A safe whole number. -/
def okS (x : Nat) : Bool := decide (sz x ≤ CS) && decide (2 ^ 1074 ∣ vl (sz x))
theorem CS_lt : CS < INF := by decide
theorem safe_any (x : Nat) (hx : x < 2 ^ 64) (w : World) : Calls Tryd.prog 9 #[.float .f64 x] w fun e w' => e = .returned (.bool (okS x)) ∧ w' = w := by
  have hCI := CS_lt
  have hI := INF_lt
  have HA := fun w => abs_any x hx w
  have hle : (FloatKind.f64.format.order (sz x) 4845873199050653695 == some .lt || FloatKind.f64.format.order (sz x) 4845873199050653695 == some .eq) = decide (sz x ≤ CS) := by
    have hs := sz_lt x
    rw [fo, ltF, eqF (sz x) 4845873199050653695 (by omega) (by decide), isN_sz, pl_sz, sz_sz, show isN 4845873199050653695 = false by decide, show pl 4845873199050653695 = 4845873199050653695 by decide, show sz 4845873199050653695 = 4845873199050653695 by decide]
    have h4 : isN x = decide (INF < sz x) := rfl
    rw [h4, Bool.eq_iff_iff]
    unfold CS at *
    simp
    omega
  by_cases h : sz x ≤ CS
  · have hle' : (FloatKind.f64.format.order (sz x) 4845873199050653695 == some .lt || FloatKind.f64.format.order (sz x) 4845873199050653695 == some .eq) = true := by rw [hle]; simpa using h
    have HT := fun w => trunc_any x (by omega) w
    have hok : okS x = decide (2 ^ 1074 ∣ vl (sz x)) := by unfold okS; rw [decide_eq_true h, Bool.true_and]
    have hn : isN x = false := by unfold isN; simp; omega
    rw [hok]
    generalize hD : decide (2 ^ 1074 ∣ vl (sz x)) = D at *
    have HD : Hid (decide (2 ^ 1074 ∣ vl (sz x)) = D) := ⟨hD⟩
    clear hle hok hD
    go_enter Tryd.func9, Tryd.ntmps9
    go_wp2_with fail
    refine (HA _).mono ?_
    rintro e w' ⟨rfl, rfl⟩
    go_wp2_with fail
    refine (HT _).mono ?_
    rintro e w' ⟨ρ, rfl, hv, hρ, rfl⟩
    have hρI : ρ < 2 ^ 63 := by omega
    have hq : (FloatKind.f64.format.order (Ieee.double.word (ng x) ρ) x == some .eq) = D := by
      have hwl : Ieee.double.word (ng x) ρ < 2 ^ 64 := by rw [word_eq]; split <;> omega
      have hnw : isN (Ieee.double.word (ng x) ρ) = false := by unfold isN; rw [sz_word _ _ hρI]; simp; omega
      rw [fo, eqF _ _ hwl hx, hnw, hn, sz_word _ _ hρI, ← HD.it]
      have hts := trunc_same x ρ hv
      rw [Bool.eq_iff_iff]
      simp only [Bool.not_false, Bool.true_and, Bool.or_eq_true, decide_eq_true_eq, Bool.and_eq_true]
      rw [← hts]
      constructor
      · rintro (g | ⟨g1, g2⟩)
        · have := congrArg sz g
          rwa [sz_word _ _ hρI] at this
        · omega
      · intro g
        exact .inl (by rw [g]; exact word_sz x hx)
    clear hv
    go_wp2
    go_ret
    exact ⟨rfl, rfl⟩
  · have hle' : (FloatKind.f64.format.order (sz x) 4845873199050653695 == some .lt || FloatKind.f64.format.order (sz x) 4845873199050653695 == some .eq) = false := by rw [hle]; simpa using h
    have hok : okS x = false := by unfold okS; rw [decide_eq_false h, Bool.false_and]
    rw [hok]
    clear hle hok
    go_enter Tryd.func9, Tryd.ntmps9
    go_wp2_with fail
    refine (HA _).mono ?_
    rintro e w' ⟨rfl, rfl⟩
    go_wp2
    go_ret
    exact ⟨rfl, rfl⟩
end Go.Proofs.YtclahchmdcgdhaaDoor
