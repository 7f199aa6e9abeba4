import Derived.Test.YtclahchmdcgdhaaGc
namespace Go.Proofs.Ytclahchmdcgdhaa
open Go.RowKit FM
attribute [local go_sem] frombits_run bits_run neg_run

/-- The greatest safe whole number, as a float. -/
def CS : Nat := 4845873199050653695
theorem wh_gen2 (v c n : Nat) (h : v = n * 2 ^ c) : v / 2 ^ c = n := by rw [h, Nat.mul_div_cancel _ (Nat.two_pow_pos c)]
theorem wh_of {ρ n : Nat} (h : vl ρ = n * 2 ^ 1074) : wh ρ = n := wh_gen2 (vl ρ) 1074 n h
theorem CS_wh {ρ n : Nat} (h : vl ρ = n * 2 ^ 1074) : CS < ρ ↔ 9007199254740991 < n := by
  have hw := wh_of h
  have e1 : wh CS = 9007199254740991 := by decide +kernel
  have e2 : wh (CS + 1) = 9007199254740992 := by decide +kernel
  constructor
  · intro g
    have h1 : wh (CS + 1) ≤ wh ρ := Nat.div_le_div_right (vl_le.2 (by omega))
    omega
  · intro g
    rcases Nat.lt_or_ge CS ρ with q | q
    · exact q
    · have h1 : wh ρ ≤ wh CS := Nat.div_le_div_right (vl_le.2 q)
      omega
theorem gt_nat {r Y : Nat} (hr : r ≤ INF) (hY : Y ≤ INF) : (FloatKind.f64.format.order r Y == some .gt) = decide (Y < r) := by
  obtain ⟨_, _, i1, p1⟩ := nat_facts hr
  obtain ⟨_, _, i2, p2⟩ := nat_facts hY
  rw [fo, gtF, i1, i2, p1, p2, Bool.eq_iff_iff]
  simp
/-- What Index answers. -/
def ixV (x : Nat) : Int := if isN x = false ∧ wh (sz x) ≤ 9007199254740991 ∧ (ng x = true → wh (sz x) = 0) then (wh (sz x) : Int) else 0
def ixE (x : Nat) : Int := if isN x = true ∨ (wh (sz x) ≤ 9007199254740991 ∧ (ng x = true → wh (sz x) = 0)) then 0 else 7
theorem toI (ρ n : Nat) (hρ : ρ < INF) (h : vl ρ = n * 2 ^ 1074) (hn : n ≤ 9007199254740991) : floatToIntVal .f64 ρ .i64 = some (n : Int) := by
  obtain ⟨s1, n1, _, _⟩ := nat_facts (Nat.le_of_lt hρ)
  unfold floatToIntVal
  have e : (FloatKind.f64.decode ρ).toInt .zero = some (sgn (ng ρ) (wh (sz ρ))) := toInt_fin ρ (by rw [s1]; exact hρ)
  rw [e, s1, n1, wh_of h]
  have hmin : IntKind.i64.min = -9223372036854775808 := by decide
  have hmax : IntKind.i64.max = 9223372036854775807 := by decide
  have e2 : sgn false n = (n : Int) := rfl
  simp only [e2]
  rw [if_pos (by rw [hmin, hmax]; omega)]
theorem index_any (x : Nat) (hx : x < 2 ^ 64) (w : World) : Calls Try.prog 8 #[.float .f64 x] w fun e w' => e = .returned (.tuple #[.int .i64 (ixV x), .int .i64 (ixE x)]) ∧ w' = w := by
  have HI := fun w => integer_any x hx w
  have h0 : floatToIntVal .f64 0 .i64 = some 0 := by decide +kernel
  have hcv0 := fun W => run_convert_float_int (P := Try.prog) W 23 2 .f64 .i64 0 0 (by rw [Try.underlying23]; rfl) Try.underlying2 h0
  have g0 : (FloatKind.f64.format.order 0 0 == some .lt) = false := by decide
  have g1 : (FloatKind.f64.format.order 0 4845873199050653695 == some .gt) = false := by decide
  by_cases hz : isN x = true ∨ wh (sz x) = 0
  · have hV : ixV x = 0 := by
      unfold ixV
      split
      · rename_i h
        rcases hz with q | q
        · rw [q] at h; simp at h
        · rw [q]; rfl
      · rfl
    have hE : ixE x = 0 := by
      unfold ixE
      rw [if_pos]
      rcases hz with q | q
      · exact .inl q
      · exact .inr ⟨by omega, fun _ => q⟩
    rw [hV, hE]
    have HZ : Hid (isN x = true ∨ wh (sz x) = 0) := ⟨hz⟩
    clear hV hE hz
    go_enter Try.func8, Try.ntmps8
    go_wp2_with fail
    refine (HI _).mono ?_
    rintro e w' ⟨z, rfl, hz, rfl⟩
    have hz0 : z = 0 := by unfold IntP at hz; rw [if_pos HZ.it] at hz; exact hz
    subst hz0
    clear hz
    go_wp2
    go_ret2
    exact ⟨rfl, rfl⟩
  · have hnn : isN x = false := by cases h : isN x; rfl; exact absurd (.inl h) hz
    have hw0 : wh (sz x) ≠ 0 := fun h => hz (.inr h)
    have hI : sz x ≤ INF := by simpa [isN] using hnn
    have hIL := INF_lt
    cases hg : ng x
    · by_cases hb : 9007199254740991 < wh (sz x)
      · have hV : ixV x = 0 := by unfold ixV; rw [if_neg (by omega)]
        have hE : ixE x = 7 := by unfold ixE; rw [if_neg (by rw [hnn]; simp; omega)]
        rw [hV, hE]
        have HX : Hid (∀ z, IntP x z → ∃ ρ, z = ρ ∧ ρ ≤ INF ∧ CS < ρ) := ⟨fun z h => by
          unfold IntP at h; rw [if_neg hz, hg] at h
          obtain ⟨ρ, e, hv, hl⟩ := h
          exact ⟨ρ, by rw [e, word_eq]; simp, by omega, (CS_wh hv).2 hb⟩⟩
        clear hV hE hz hnn hw0 hI hb
        go_enter Try.func8, Try.ntmps8
        go_wp2_with fail
        refine (HI _).mono ?_
        rintro e w' ⟨z, rfl, hz, rfl⟩
        obtain ⟨ρ, rfl, hρ, hc⟩ := HX.it z hz
        have c1 : (FloatKind.f64.format.order z 0 == some .lt) = false := by rw [lt_nat hρ (by decide)]; simp
        have c2 : (FloatKind.f64.format.order z 4845873199050653695 == some .gt) = true := by rw [gt_nat hρ (by decide)]; unfold CS at hc; simpa using hc
        clear hz hρ hc
        go_wp2
        go_ret2
        exact ⟨rfl, rfl⟩
      · have hV : ixV x = (wh (sz x) : Int) := by unfold ixV; rw [if_pos ⟨hnn, by omega, fun h => by rw [hg] at h; cases h⟩]
        have hE : ixE x = 0 := by unfold ixE; rw [if_pos (.inr ⟨by omega, fun h => by rw [hg] at h; cases h⟩)]
        rw [hV, hE]
        have HX : Hid (∀ z, IntP x z → z ≤ INF ∧ ¬ CS < z ∧ floatToIntVal .f64 z .i64 = some (wh (sz x) : Int)) := ⟨fun z h => by
          unfold IntP at h; rw [if_neg hz, hg] at h
          obtain ⟨ρ, e, hv, hl⟩ := h
          have e' : z = ρ := by rw [e, word_eq]; simp
          subst e'
          have hnc : ¬ CS < z := fun q => hb ((CS_wh hv).1 q)
          have hCI : CS < INF := by decide
          exact ⟨by omega, hnc, toI z _ (by omega) hv (by omega)⟩⟩
        generalize wh (sz x) = V at *
        clear hV hE hz hnn hw0 hI hb
        go_enter Try.func8, Try.ntmps8
        go_wp2_with fail
        refine (HI _).mono ?_
        rintro e w' ⟨z, rfl, hz, rfl⟩
        obtain ⟨hρ, hc, hti⟩ := HX.it z hz
        have c1 : (FloatKind.f64.format.order z 0 == some .lt) = false := by rw [lt_nat hρ (by decide)]; simp
        have c2 : (FloatKind.f64.format.order z 4845873199050653695 == some .gt) = false := by rw [gt_nat hρ (by decide)]; unfold CS at hc; simpa using hc
        have hcv := fun W => run_convert_float_int (P := Try.prog) W 23 2 .f64 .i64 z (V : Int) (by rw [Try.underlying23]; rfl) Try.underlying2 hti
        clear hz hρ hc hti
        go_wp2
        go_ret2
        exact ⟨rfl, rfl⟩
    · have hV : ixV x = 0 := by unfold ixV; rw [if_neg (fun h => hw0 (h.2.2 hg))]
      have hE : ixE x = 7 := by unfold ixE; rw [if_neg (by rw [hnn]; simp; intro _; exact ⟨hg, hw0⟩)]
      rw [hV, hE]
      have HX : Hid (∀ z, IntP x z → (FloatKind.f64.format.order z 0 == some .lt) = true) := ⟨fun z h => by
        unfold IntP at h; rw [if_neg hz, hg] at h
        obtain ⟨ρ, e, hv, hl⟩ := h
        have hρ0 : 0 < ρ := by
          rcases Nat.eq_zero_or_pos ρ with q | q
          · have hw := wh_of hv
            rw [q] at hw
            have : wh 0 = 0 := by decide +kernel
            omega
          · exact q
        rw [ltz, e, ng_word _ _ (by omega), sz_word _ _ (by omega)]
        have : isN (Ieee.double.word true ρ) = false := by unfold isN; rw [sz_word _ _ (by omega)]; simp; omega
        rw [this]; simp [hρ0]⟩
      clear hV hE hz hnn hw0 hI
      go_enter Try.func8, Try.ntmps8
      go_wp2_with fail
      refine (HI _).mono ?_
      rintro e w' ⟨z, rfl, hz, rfl⟩
      have c1 := HX.it z hz
      clear hz
      go_wp2
      go_ret2
      exact ⟨rfl, rfl⟩
end Go.Proofs.Ytclahchmdcgdhaa
